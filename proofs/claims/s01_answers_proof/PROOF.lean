import PyProof.Rows.All
import Wide.All
import OpenK.AllK
import Wide.FinOn
import PySem.SetTable
import PySem.SetOps
import PyProof.SetScanFacts
import PyProof.SetKind
import PyProof.DictKinds
import PyProof.SetRoads
import PyProof.Rules
import PyProof.DictUpdate
import PyProof.EqAt
import PyProof.EqKinds
import PyProof.TupleCall
import KE.BitLaws
import Open.SpecLaws
import KE.OsHead
import KE.OsGo
import PyProof.ExcInit
import PyProof.InstStoreFacts
import PyProof.ExcBaseAll.Exception
import PyProof.ExcAttrAll.Exception
import PyProof.ExcArgsOwn
import PyProof.RulesAs
import KE.IntTextLaws
import KE.IntBitsLaws
import KE.KDictSum
import KE.KRevIter
import PyProof.Rows.SortShellAny
import PyProof.Rows.SetFrom
import PyProof.FactsAll.set_2
import PySem.Challenge.RW_lotsandchoices_s01_answers
set_option linter.all false
set_option maxRecDepth 100000
set_option maxHeartbeats 4000000
set_option Elab.async false
section
local macro_rules|`(tactic|o_law)=>`(tactic|skip)
local macro_rules|`(tactic|k_head)=>`(tactic|k_headS)
local macro_rules|`(tactic|w_witness2)=>`(tactic|exact ⟨[.list [.int 1]], by decide +kernel, by decide +kernel⟩)
set_option maxHeartbeats 0
open_top hdTop for PySem.Challenge.rw_lotsandchoices_s01_answers
end
section
open And renaming intro->cN
open Array renaming length_toList->a0,getElem?_eq_getElem->fo,getElem?_toList->fO,getElem?_eq_some_iff->jP,toList_filterMap->kU,getElem?_setIfInBounds_self_of_lt->lM,getElem?_eq_none->oQ,size_map->oR,getD->pR,size_empty->vf,getElem_toList->zc,mem_toList_iff->zd,replicate->Gj,find?_toList->WK,toList_push->YQ,toList->aky
open Bool renaming false_ne_true->a7,false_eq_true->bV,and_eq_true->dQ,noConfusion->dR,eq_iff_iff->fG,not_eq_true'->lN,false_and->mq,not_true->nt,or_eq_true->rn,not_eq_true->vU,and_eq_true_iff->zu,and_false->zw,and_self->OI,and_true->OJ,or_true->RU,or_eq_false_iff->UO,not_false->aj8,false_or->al0,true_and->al1,true_or->ap9
open Char renaming toNat->Kw
open Classical renaming em->JK
open Decidable renaming not_not->RV
open Except renaming bind->l8,ok->uZ,map->apa
open Except.ok renaming inj->oX
open False renaming elim->gD
open ForInStep renaming yield->u0
open Iff renaming rfl->E9
open Int renaming natCast_mul->dJ,natAbs_natCast->gK,toNat_natCast->l_,mul_pos->qN,max_eq_right->wC,max_eq_left->yu,natCast_pos->yw,toNat_of_nonneg->AZ,zero_add->E_,le_refl->Ju,mul_ediv_cancel_left->OY,natAbs_add_le->ae5
open List renaming length_map->aa,length_append->ag,mem_cons_of_mem->ak,mem_cons_self->au,length_cons->aw,getElem?_eq_some_iff->ay,mem_singleton->aA,mem_of_getElem?->aE,map_append->aG,mem_cons->aJ,map_cons->aO,map_map->aQ,getElem?_map->aS,getElem?_eq_getElem->aV,mem_append->aW,mem_map->aX,take_add_one->a8,length_take->be,take_length->bf,size_toArray->bo,mem_append_right->bC,range->bD,append_nil->bM,mem_append_left->bR,map_congr_left->bY,length_nil->cg,length_reverse->cj,length_singleton->cF,nodup_cons->cI,flatMap_append->cJ,flatMap_cons->cK,sum_cons->cS,reverse_cons->c_,takeWhile_cons->dg,getElem?_cons_zero->dE,getElem?_cons_succ->d8,length_drop->d_,nil_append->ee,append_assoc->eC,zipWith->eD,getElem?_eq_none->eO,map_nil->eX,replicate->eY,getElem?_of_mem->fu,drop_eq_getElem_cons->fz,mem_range->fH,cons_append->fM,mem_reverse->fN,getElem?_append_right->fY,pairwise_cons->fZ,length_range->gj,find?_cons->gC,lookup_cons->gM,mem_of_mem_take->gN,nodup_append->g9,foldl_cons->ie,getElem?_zip_eq_some->iy,all_eq_true->iO,map_reverse->iP,set_cons_succ->iQ,set_cons_zero->iR,nodup_nil->iZ,reverse_reverse->i4,length_eq_zero_iff->jg,all_cons->jE,length->jF,getElem?_drop->jQ,pairwise_iff_getElem->j4,lookup->j7,drop_zero->ku,filter_cons->kx,flatMap_map->kC,take_zero->kD,drop_eq_nil_of_le->kZ,take_of_length_le->k_,getElem?_reverse->lJ,take_append_drop->lK,not_mem_nil->mG,filterMap_cons->m5,length_zip->nH,mem_filter->nI,pairwise_singleton->nX,getElem?_set_self->oY,range_succ_eq_map->oZ,mem_flatMap->qm,any_cons->qr,dropWhile_cons->rH,mem_map_of_mem->rJ,reverse_append->rK,drop_drop->sM,foldlM_append->sO,getElem?_append_left->tY,reverse_perm->t6,getElem?_take_of_lt->u5,flatMap_nil->vW,flatMap->wY,sublist_cons_self->wZ,head?_cons->xc,sum_append->xf,dropLast_concat->zy,getElem?_set_ne->zA,mem_iff_getElem->zB,drop_succ_cons->AR,getElem?_range->AS,filter_append->Cw,mem_filterMap->Cy,filter_congr->Ed,pairwise_map->Ee,take_sublist->Ef,getElem_mem->FJ,map_flatMap->FK,of_mem_zip->Jv,range_succ->Jw,getD_eq_getElem?_getD->Kz,perm_ext_iff_of_nodup->KA,findIdx?_eq_none_iff->Ml,map_take->OM,getElem?_replicate->OZ,all_map->RW,filter_eq_nil_iff->RX,flatMap_singleton->RY,singleton_sublist->RZ,getElem?_zipWith->Ss,mem_iff_getElem?->Su,drop_eq_nil_iff->UP,findIdx?_append->UQ,map->UR,map_id->US,mem_of_mem_drop->UT,take_succ_cons->WL,toList_toArray->WM,find?_eq_none->YU,findIdx?_cons->YV,getElem_range->YW,find?_append->Zd,foldl_append->Ze,getElem_take->Zf,getElem_inj->ae6,nodup_range->ae7,perm_middle->ae8,range'_succ->ae9,filter_map->af0,find?_some->af1,forIn_nil->ajd,range_add->aje,map_drop->al5,all_nil->apd,any_map->ape,range'->aqq,foldl->aw9
open List.Nodup renaming length_le_of_subset->AQ
open List.Pairwise renaming map->w_,nil->xa
open List.Perm renaming refl->jw,append_left->oJ
open List.Sublist renaming refl->yx
open List.cons renaming inj->du,injEq->iX
open Nat renaming le_refl->aF,le_trans->br,zero_le->bw,ne_of_lt->bS,lt_of_lt_of_le->bW,mul_pos->dq,lt_irrefl->g_,lt_or_ge->hZ,mul_comm->h_,ne_of_gt->ia,le_add_right->iT,pow_succ->iY,gcd->kE,mul_add->lg,le_of_eq->lj,min_eq_left->lE,not_lt_zero->lF,lt_succ_of_lt->ma,add_zero->mI,le_of_lt->mJ,lt_succ_self->mK,eq_zero_or_pos->nY,lt_of_le_of_lt->nZ,mod_lt->n9,le_of_lt_succ->ph,succ_le_succ->qt,pow_le_pow_right->qO,two_pow_pos->rL,gcd_comm->sG,sub_self->sI,add_sub_cancel->tI,add_mul->u6,le_of_succ_le->u7,one_mul->u9,le_of_dvd->vh,lt_trans->xh,succ_pos->xi,le_succ->z6,mul_le_mul_right->z7,lcm->AU,dvd_trans->Cz,mul_assoc->CA,dvd_lcm_right->Fb,le_succ_of_le->Fc,min_self->Fd,mul_left_comm->Fe,dvd_lcm_left->Gx,min_eq_right->Gy,mod_eq_of_lt->Gz,mul_one->Jy,pow_add->Jz,div_le_self->JM,zero_lt_one->JN,add_sub_cancel_left->R_,div_div_eq_div_mul->Sw,succ_mul->Sx,gcd_rec->WO,lcm_pos->WQ,div_dvd_of_dvd->Zh,div_eq_of_lt->af4,gcd_dvd_left->af5,le_max_left->ajf,toList_repr->ajg,toDigits->aqt,zero_add->aqu,Coprime->awc,add_mod->awd,log2_lt->awe,mul_mod->awf,one_pos->awg,two_mul->awh
open Nat.Coprime renaming pow_left->vg,mul_right->Jx,coprime_dvd_left->aza,coprime_dvd_right->azb,dvd_of_dvd_mul_right->azc,mul_left->azd,pow_right->aze
open Nat.succ renaming inj->KC
open Ne renaming symm->cW
open NeutralIO renaming bytes->UW
open Option renaming isSome_iff_exists->iS,map_some->je,bind_eq_some_iff->nJ,map_eq_some_iff->oK,isSome_map->tK,bind_some->u_,map_map->yy,isSome_some->UX,map->UY,getD_none->YX,none->al7
open Option.some renaming inj->aB,injEq->dj
open Or renaming inl->aZ,inr->JA
open Prod renaming ext->sQ
open Prod.mk renaming inj->hG
open PyFlat renaming told->cY,rows->md,row->AV,calls->CB,played->KD,call->Sd
open PyProof.Rows renaming callWith_type1->fD,callWith_builtin1->awm,iadd_int->awo,in_str->awp,join_list->awq,join_tuple->awr,sortedHeap_at->aws,sortedHeap_old->awt
open PySem renaming mem_of_lookup->cP,Spec->gh,evalArgs_none->ro,Addr->A3,Within->O2,SetTable->af7,getD_mem->af8,Builtin->aji,call->ar8
open PySem.Challenge renaming rw_lotsandchoices_s01_answers->qK,pw_lotsandchoices_s01_answers->al9
open PySem.EqMixed renaming eq_bool_str->aqw,eq_int_str->aqx,eq_str_bool->aqy,eq_str_int->aqz,ne_bool_str->ar0,ne_int_str->ar1,ne_str_bool->ar2,ne_str_int->ar3
open PySem.EqNone renaming eq_bool_none->awu,eq_int_none->awv,eq_none_bool->aww,eq_none_int->awx,eq_none_none->awy,eq_none_str->awz,eq_str_none->ax0,ne_bool_none->ax1,ne_int_none->ax2,ne_none_bool->ax3,ne_none_int->ax5,ne_none_none->ax7,ne_none_str->ax8,ne_str_none->ax9
open PySem.F renaming plainAttrs_list->bj,slot_list_append->b6,type_list_append->b7,slot_list_extend->mL,type_list_extend->mM,slot_dict_get->wD,slot_list_pop->wF,type_list_pop->wG,slot_str_startswith->FN,type_str_startswith->FO,slot_dict_getitem->JB,args_tuple_add_2->JO,slot_str_isdigit->JP,type_str_isdigit->JQ,args_dict_get_3->KE,entry_tuple_add->KG,slot_list_count->KH,slot_list_index->KI,entry_dict_get->Mn,slot_tuple_add->Mo,slot_set_iter->ON
open PySem.StrLaws renaming sliceText->iG,found_one->ar4,sliceText_nat->ar5,strSliceIndices_plain->ar6
open PySem.W renaming Frag->ae,findIn->aR,keepIn->gk,emptyDict->gR,fnOf->gS,instObj->jU,codeIn->kg,callWith_K->nc,hasDictIn->n_,nsIn->qP,plainGet->t8,isFn->vi,lookIn->xj,plainGet_of->zf,clsIn->zC,methodObj->A5,handedIn->CQ,length_le_weightAllW->Ff,makesIn->Fg,takerIn->Fh,cellsFrom_some->Mp,methodCall_KW->OO,callWith_K0->Se,findObj_own->Sf,kdu_collect->Sg,check_slot->SD,codeRec_of->SE,plainOver->UZ,set_plain->U0,WRecords->WT,WalkOS->Zi,mg_of->aea,mroIn->aeb
open PySem.W.KIN renaming call_text->azg
open PySem.W.Looks renaming here->ar7
open PySem.Within renaming cons->axa
open PyVaprbo renaming shape->eM,whole->fB,answers->CD,answers_asked->KJ
open Rat renaming div_def->cR,mkRat_self->dY,intCast_mul->gE,natCast_mul->jn,mul_nonneg->jT,mkRat_mul_mkRat->kH,mul_lt_mul_of_pos_right->me,add_zero->mO,mul_comm->pj,intCast_zero->qu,mul_le_mul_of_nonneg_right->qw,div_mul_cancel->tM,inv_pos->vb,num_mkRat->vj,mkRat_eq_div->wH,intCast_add->yz,le_refl->z8,num_nonneg->z9,mkRat_add_mkRat->A7,den_mkRat->CG,mul_div_cancel->CS,le_of_lt->Fi,mul_le_mul_of_nonneg_left->JC,mul_one->JD,num_eq_zero->JR,add_assoc->O3,mul_pos->WU,mul_assoc->apg,zero_add->ara,zero_mul->arb,den_pos->axb,lt_iff->azi
open Std.Legacy.Range renaming forIn_eq_forIn_range'->ajk,size->ajl
open String renaming splitOnAux->CH,splitOn->JE
open Sum renaming inl->dH,inr->lq
open Sum.inl renaming inj->sR
open Sum.inr renaming inj->ajm
open True renaming intro->jR
open UInt8 renaming toNat_inj->nz,ofNat->zi,toNat_ofNat'->A9
open VaprbBase renaming word->aH,Bytes->aK,Toks->bE,takeSign->bL,next->b_,textRow->cB,showFrac->cO,take->fA,showInt->fJ,showNat->fK,takeName->fQ,Fault->gq,takeWord->gv,tokens->ij,Frac->jx,TEXT->jy,takeFrac->jz,nameNext->mP,PTok->nM,here->nN,takeNum->nP,lex->o7,RESERVED->qR,takeWeight->wI,Tok->GC,fracRow->Sh
open VaprbBase.Frac renaming sum->j8,zero->vd,one->vX
open VaprbBase.Tok renaming name->JS
open Vaprbo renaming Station->aM,countOf->bb,showTree->bg,choiceOf->bG,policyOf->bI,takeTree->b5,Call->cG,worthOf->cV,withPolicy->dB,standsAt->dF,step->dZ,Tree->eg,stationsOf->eh,outcomes->fE,negated->fV,Policy->fX,index->gZ,Game->iW,bestAnswer->i_,policies->jf,takeBranches->jm,POLICIES->jW,free->kL,seen->kM,start->kT,takeWays->lh,tableOf->mf,DEPTH->oM,atLeast->oN,refused->oO,looked->pT,read->qo,stationAnswer->qp,tableRow->qL,above->rq,ROWS->tN,State->vY,addWorth->wJ,maxTable->wL,greater->yA,Reader->z_,meanOf->Aa,labelsRight->AW,fracAnswer->CI,varianceOf->CJ,WAYS->Fj,treeNext->FP,nodesOf->JF,best->alc
open Vaprbo.Call renaming above->azk,load->azl
open Vaprbo.Game renaming shown->gc
open Vaprbo.Table renaming times->hU
open Vaprbo.Tree renaming branch->Ms,way->Si,plus->azm
open VaprboNeutral renaming encode->a_,callOf->ik,step->jh,bytesOf->FQ,natural->FR,asked1->GF,asked->ard,start->arf
set_option hygiene false
local macro_rules|`(.$x:ident)=>match toString x.getId with
|"C"=>`(.o)
|"I"=>`(by first|exact hr|exact .d1|exact hr.aI .C)
|"J"=>`(List Int)
|"U"=>`(Txt K mg ad)
|"o"=>`(by omega)
|"A0"=>`(∀(H':Hp)(a:Addr),.aq->lQ ad H' a ⟨k,t,p⟩->.jv)
|"A1"=>`(Dn P w K mg base .bj "tokens_of" 4 ["text"] (IW K ad))
|"A2"=>`(Dm P w K mg base .bj ad.bK "take_name" 4 .b3 (AK ad))
|"A3"=>`(xM _ (show("take_if":Str)≠"tokens"by decide) .aD)
|"A4"=>`(Dm P w K mg base .bj ad.bK "take_number" 4 .b3 (BY ad))
|"A5"=>`(by rw[decide_eq_true_eq,kw,Gm.Ly rl];exact hh)
|"A6"=>`(Dn P w K mg base .bj "read_share" 35 .lq (E4 ad))
|"A7"=>`(some (.cH ad.cn dx (eP kind wl ad.iE sl "" 0 ll pl 0 0 0 0)))
|"A8"=>`(Dn P w K mg base .bj "read_worth" 35 .lq (E5 K ad))
|"A9"=>`(fun a dx nx nd ne=>Gh nx nd ne fun H1 wl sl ll pl s1 n1 n2 n3 n4 nn ha h1 h2 h3 h4=>? _)
|"AA"=>`(⟨.int ys.length,H,.bz,⟨s.toks+1,by rw[bo,hlen]⟩,q⟩)
|"AB"=>`(.FG/\Q .jD (aN H l (.bJ (xs++zs))))
|"AD"=>`(fun h' tk m t' hk h1 h2=>⟨.int _,H,I.ji hk,.aU,q m h1 h2⟩)
|"AE"=>`(.gN=.hD/\(cenv.kindOf y=.e1\/cenv.kindOf y=.hD))
|"AF"=>`(iu .kg fun xv s1 hx=>iu hx fun itv s2 h2=>? _)
|"AG"=>`(compPost .av X.A X.xe use Qf .dW s3.heap.objs.size)
|"AH"=>`(hRR D s3.heap.objs.size s6 m H5 I7 qq hn (I3.P6 .aS nC))
|"AI"=>`(codeAny_compStart_list loop (T.self X.A 0 _ _ _ st4 loop))
|"AJ"=>`(fun b hb=>⟨(hf b hb).2.2.2.1,(hf b hb).2.1,(hf b hb).2.2.2.2.1,(hf b hb).2.2.2.2.2⟩)
|"AK"=>`(.lu {cls:=.type "list",data:=.seq vs.toArray} (.bJ .og))
|"AL"=>`(.lu {cls:=.type "tuple",data:=.seq vs.toArray} (.fL .og))
|"AM"=>`(∃cd,zC K C=some cd/\cd.hasDict=true/\cd.mro=.ref C::yJ)
|"AN"=>`(some {cls:=.ref C,dict:=some s.heap.objs.size,data:=.fields vs})
|"AO"=>`(wpAny .aQ A (raiseStmt bA (some xs) none) Q E s)
|"AP"=>`([.ExceptHandler (some .iP) (some n) (b0::Jc) Hv])
|"AQ"=>`((∀b o,b≠T1->h2.get? b=.ah->h3.get? b=.ah)->Inv X pins σ' H' {s' with heap:=h3})
|"AR"=>`(x.2=.local->Env.kindOf {cenv with scope:=relabel scope bA} x.1=.dS)
|"AS"=>`(ud .av X.A X.xe use Qf .dW s3.heap.objs.size X.bA.frame)
|"AU"=>`(Inv {X.vo s3 H3 scope ce fp with xe:=xb} [] (fU σ .eU) H' s')
|"AV"=>`(kJ k (A.deeper (envOfC qual (aL st) s.heap.objs.size f eQ)))
|"AW"=>`(by obtain⟨t,h⟩:=h;exact NG hg h .gb hd)
|"AX"=>`(.Call (.Subscript .iP i Od) .eA [] pos)
|"AY"=>`(bT iH rfl T.gU fg .cb)
|"AZ"=>`(cb wj .ay .AY .aB)
|"Aa"=>`(mkRat ((i.D.map .eP).sum) (u*i.c))
|_=>throw .unsupportedSyntax
local macro_rules|`(.$x:ident)=>match toString x.getId with
|"Ab"=>`([V.int (dF s.name d.g.er:Nat),V.int (s.labels.length:Nat)])
|"Ac"=>`([V.int ((.vd:Nat):Int)])
|"Ad"=>`(((.wF).count (lX d j):Int)::[(wK d j).num,((wK d j).den:Int)]++.vf)
|"Ae"=>`(bP (i:=1) sc.nd rfl .ai (bx lS .I bQ .cb))
|"Af"=>`(eG .au T.jo jH .I bQ)
|"Ag"=>`(bP (i:=1) sc.nd rfl .ai .Af)
|"Ah"=>`(∃x,cs[i]?=.bu/\∀(H':Hp)(r:Addr),.lk->H' lp=some .dP->H' r=some (.bJ [.int x])->.ba)
|"Ai"=>`(∃m1 m2:Nat,cs[i]?=some (m1:Int)/\i+1+m1<=cs.length/\cs[i+1+m1]?=some (m2:Int)/\i+1+m1+1+m2<=cs.length/\∀(H':Hp)(r a b:Addr),.lk->H' lp=some (.cH ad.cX dx (sP ca (i+1+m1+1+m2:Nat) g))->H' r=some (.bJ .hn)->H' a=some (o6 ((.i2).take m1))->H' b=some (o6 ((cs.drop (i+1+m1+1)).take m2))->.ba)
|"Aj"=>`(∃m:Nat,.rf/\.rg/\∀(H':Hp)(r a:Addr),.lk->.DZ->H' r=some (.bJ .fi)->H' a=some (o6 (.qp))->.ba)
|"Ak"=>`(∀(H':Hp)(r:Addr),KpN lp H H'->LSt K ad H' lp dx ca j cs .ov (N+1)->H' r=some (o6 (.i3))->.ba)
|"Al"=>`(if c=35 then 1+lH true l else if c=10 then 1+.i4 else if c≠32/\r=false then 0 else 1+lH r l)
|"Am"=>`(⟨lo,rfl,.o,h3,fun i hi1 hi2=>h4 i .C hi2⟩)
|"An"=>`(by rw[kU];exact(pm.filterMap _).trans (by rw[filterMap_getElem?_range]))
|"Ao"=>`(p.1=q.1/\H q.2.1=some (.fL (p.1.map kV))/\e_ p.2 q.2.2)
|"Ap"=>`(Inv X pins σ H' {s with heap:=h',gens:=g',drawn:=d',toks:=t'})
|"Aq"=>`(⟨.kQ,.kQ,I.base.free,fun b o e hx=>? _,I.base.Cr,I.base.zm,I.base.Cq⟩)
|"Ar"=>`(bS (bW .hV I.ok.above))
|"As"=>`(iu (hc pins s σ H _ I h) fun d s1⟨H1,I1,q1⟩=>? _)
|"Au"=>`(o.data=.seq d7 n/\d7.size<=sizeLine/\dP xs d7.toList)
|"Av"=>`((∀x c,.mq->c≠b)/\∀p∈.dy,p.1≠b)
|"Aw"=>`(alk ha hb I h fun v u s2 x y H2 I2 rx ry q=>ho pins s2 σ H2 x y v u Q I2 rx ry q)
|"Ax"=>`(I1.laid (t':=s1.toks) (fun b u e=>.es) .aS ? _)
|"Ay"=>`(gS name qual params body scope dV kV doc pm an eQ ct)
|"Az"=>`(typeLookup (.type T) "__getitem__"=pure (some .iK))
|"B0"=>`(∀l t l',R l=.gn->.BZ)
|"B1"=>`(∀a p nm bs,t=.eN->∃s,Rx.find? .ih=some s/\s.labels=bs.labels)
|"B2"=>`(Dn P w K mg base dD "shown" 2 .b5 (DR K ad .shown))
|"B3"=>`(Dn P w K mg base dD "sizes" 2 .b5 (DR K ad .sizes))
|"B4"=>`(Dn P w K mg base dD "station" 2 .m6 (Ru K ad .station))
|"B5"=>`(Dn P w K mg base dD "spread" 35 .g8 (IT K ad .spread))
|"B6"=>`(Dn P w K mg base dD "outcomes" 36 .g8 (IT K ad .outcomes))
|"B7"=>`(Dn P w K mg base dD "above" 5 .wC (adi K ad .above))
|"B8"=>`(Dn P w K mg base dD "best" 36 .b5 (DR K ad .best))
|"B9"=>`(Dn P w K mg base dD "worst" 36 .b5 (DR K ad .worst))
|"BA"=>`(if 512<(.mW).length then none else some (.mW))
|"BB"=>`(oP.Pairwise (·<=·)->.bM->Q .b6 (aN H p (.bJ (oP.map V.int))))
|"BC"=>`(I1.laid (t':=tk) (fun b o e=>kp b o e) .aS ⟨aam,out,c,vR h1,Ls⟩)
|"BD"=>`(wpAny .aQ A (Builtin.List.listLengthHint .e4) Q E s)
|"BE"=>`(wpAny_bind (wpAny_setField_rec hit .aC fun h1 Sj Y9=>? _))
|"BF"=>`(Dc P w K mg base dD ad.iw "Arrival" 35 .uW (DN K ad))
|_=>throw .unsupportedSyntax
local macro_rules|`(.$x:ident)=>match toString x.getId with
|"BG"=>`(Dc P w K mg base dD ad.cA "Courses" 38 ["self","tree"] (DP K ad))
|"BH"=>`(aN H1 p (.cH ad.cA dx [("tree",.dB),("unit",.int 1),("parts",.int 1)]))
|"BI"=>`(⟨it fun t ht=>h t (bR _ ht),ir fun t ht=>h t (bC _ ht)⟩)
|"BJ"=>`(Dn P w K mg base dD "ways_taken" 1 .mZ (Uv K ad))
|"BK"=>`((t.fe.flatMap GT.bN).length+(pend.flatMap GT.bN).length)
|"BL"=>`(Dn P w K mg base dD "chance_of" 34 .xw (Rt K ad))
|"BM"=>`(Dn P w K mg base dD "is_above" 4 ["courses","policy","other"] (Wo K ad))
|"BN"=>`(Dn P w K mg base dD "greatest_total" (h+1) .bT (Gf K ad h))
|"BO"=>`(Dn P w K mg base dD "worth_knowing_places" 35 .ou (Ws K ad))
|"BP"=>`(if 512<x.t.length*y.t.length then none else iI (y.best x) xs)
|"BQ"=>`(if 512<x.t.length*z.t.length then none else some (z.best x))
|"BR"=>`(Dn P w K mg base .hz "better_of" 3 .cU (Rr ad))
|"BS"=>`(.ra++(j.D.take m').map .u2)
|"BU"=>`(by have:=Cp (l:=ts.map .k3) (i:=i) (b:=x.B+300) (by rw[aS,Lu];rfl);omega)
|"BV"=>`(Dn P w K mg base .hz "list_knowing_lots" (h+41) .bT (IL K ad h))
|"BW"=>`(.bJ (ZJ.map V.ref).reverse)
|"BX"=>`(Dn P w K mg base .hz "worths_knowing_lots" 67 .ou (Wr K ad))
|"BY"=>`(aN (aN H7 tp (.fL [V.ref wa,V.ref fr])) FD (.bJ (.cE++[V.ref tp])))
|"BZ"=>`(JJ t<n/\4*JI t+l'.length<=l.length+3)
|"Ba"=>`(.cH ad.cn dx (eP "worth" wl p sl "" 0 ll pl 0 0 0 0))
|"Bb"=>`(NB ad r H' a dx kind wl am sl name place ll pl ws ss ls ps)
|"Bc"=>`(cb gH .qa (dI T.EG) .aB)
|"Bd"=>`(⟨fun _ _=>trivial,fun a ha=>by simp[GT.bN]at ha,by simp[GT.bN],trivial,rfl⟩)
|"Be"=>`(dO (mW bj b6 b7 iB .eW (af (aP .d7 rfl) ao)))
|"Bf"=>`(Dn P w K mg base .bj "read_title_and_tree" 89 ["tokens"] (L_ K ad))
|"Bg"=>`(⟨xs,ys,xs[i],ys[i]' .C,q1,q2,aV jc,aV .C⟩)
|"Bh"=>`(Dc P w K mg base dD ad.gi "Station" 1 .v3 (DX ad))
|"Bi"=>`(Dn P w K mg base .bj "refuse_label_twice" 2 .bT (Wv K ad))
|"Bj"=>`(fun b o e=>by rw[ai (aq (s2 _ _ e) nT)];exact s2 _ _ e)
|"Bk"=>`(Dn P w K mg base .bj "number_of" 2 ["tree","stations"] (IQ K ad))
|"Bl"=>`((eh ss t.er>>=fun us=>eh us r.er)=(t.iD++r.iD).foldlM my ss)
|"Bm"=>`(Dn P w K mg base .bj "number_stations" 3 ["whole"] (IP K ad))
|"Bn"=>`(.cH ad.gi d1 (SG (tx (cd s0'.name)) l1 ((times s0'.name .si:Nat)+1)))
|"Bo"=>`(by cases t with|station a p nm bs=>exact absurd ⟨a,p,nm,bs,rfl⟩ h1|_=>rfl)
|"Bp"=>`(Dn P w K mg base dD "is_policy" 1 ["choices","stations"] (IK K ad))
|"Bq"=>`(fun b o e=>by rw[ai (aq (g2 _ _ e) nT)];exact g2 _ _ e)
|"Br"=>`(Dn P w K mg base dD "ways_form" 1 ["lefts","rights"] (IY K))
|"Bs"=>`(some (.bJ (((.ja).take i).map .yy)))
|"Bt"=>`(Dn P w K mg base dD "tree_form" (h+2) .bT (vM K ad h))
|"Bu"=>`(Dn P w K mg base dD "one_form" 28 ["title","tree"] (DV K ad))
|_=>throw .unsupportedSyntax
local macro_rules|`(.$x:ident)=>match toString x.getId with
|"Bv"=>`(by induction l with|nil=>rfl|cons y l ih=>show _+_=_+_;rw[ih])
|"Bw"=>`(⟨nX ..,fun y hy=>by rw[aA.mp hy];show .bH<1;decide⟩)
|"Bx"=>`(fun _ z=>by have:=h.2.2.1;rw[z]at this;exact absurd this .aD)
|"By"=>`(if 512<.yD then none else some (BF x y))
|"Bz"=>`((lD t).bind fun x=>(lD r).bind fun y=>.By)
|"C0"=>`(∀t,T=some t->X.wx.heap.get? t=none/\H t=none)
|"C1"=>`(fun p0 hp=>⟨fun z=>? _,.qT⟩)
|"C2"=>`([.ExceptHandler (some .iP) none (b0::Jc) Hv])
|"C3"=>`(Inv {X.vo s3 H3 scope ce fp with xe:=xb} xZ σ' H' s')
|"C4"=>`(Dm X.prog X.w X.K X.mg X.base CX C m k ps sp)
|"C5"=>`(K.lookup a=some {cls:=.type "dict",data:=.dict es ep})
|"C6"=>`(fun _ _ _ _ _ _ us hl=>match us,hl with|[_,_,_,_],_=>rfl)
|"C7"=>`(Dn P w K mg base dD "sign_of" 1 ["byte"] IV)
|"C8"=>`(Dn P w K mg base dD "behind_blanks" 1 .gS Rq)
|"C9"=>`(aD (ba (uI N4 .au (pQ .ak) (pQ .ay))))
|"CA"=>`(I.nq (fun b o hb e=>kk b o (.eb) e) f0 f1 f3 f4 f5)
|"CB"=>`(ho pins s2 σ H2 x y v u _ I2 r1 r2 q2)
|"CC"=>`(t9.Gd (v:=v) (o:=mA f) (by rw[<-l];exact r f))
|"CD"=>`(wpAny_Call_Name_kw (xI I hg hm hv ? _ hn Hs))
|"CE"=>`(HT.qG xs.length xs.length hi-.wZ)
|"CF"=>`(iu .lH fun v s1⟨x,H1,I1,r1,ty,q1⟩=>? _)
|"CG"=>`(y.2=.free->∃c,bA.cells.lookup y.1=.br)
|"CH"=>`(Heap.size_push h {cls:=.type "cell",data:=.cell none})
|"CI"=>`(X.bA.cells.lookup y=.br)
|"CJ"=>`(.CI/\c<s.heap.objs.size)
|"CK"=>`(absurd (show p∈([]:.aA)++[]from hp) .aC)
|"CL"=>`(.ListComp elt [⟨target,iter,ifs,0⟩] scope pos)
|"CM"=>`(pg _ s7 _ H7 x u _ I7' r7 (step x H7 y7))
|"CN"=>`(fun z s10⟨yv,Ec,I10,r10,acc,amf,an2,nx⟩=>? _)
|"CO"=>`(bootBuiltins "reversed"=some (.type "reversed"))
|"CP"=>`(fun b o _ _ hc e _=>⟨o.slots,k b o hc e⟩)
|"CQ"=>`(⟨o,e,fun v z=>by rw[d]at z;cases z⟩)
|"CR"=>`(fun t' k=>⟨.str _,H,I.tok k,⟨t',rfl⟩,h⟩)
|"CS"=>`(⟨d7.toList,o,n,hv,KX _ _ e,hc,by simp[hd]⟩)
|"CT"=>`(∀(w:World)(h:Heap),YP w h->(.et).In h)
|"CU"=>`(Zi q loose XP YP r d [] (fun f vs=>ar8 f vs))
|"CV"=>`(CU h' C x dx (some T') (rawInt L)->.fH)
|"CW"=>`(∀b,.e0=none->.gq=none)
|"CX"=>`(Obj.mapFields (·.setIfInBounds 3 Value.none))
|"CY"=>`((Heap.get?_update_other _ _ (cW z)).symm.trans n)
|_=>throw .unsupportedSyntax
local macro_rules|`(.$x:ident)=>match toString x.getId with
|"CZ"=>`(Obj.mapFields (·.setIfInBounds 3 (rawInt f)))
|"Ca"=>`(Dn P w K mg base dD "policy" 34 .m6 (Ru K ad .policy))
|"Cb"=>`(Dn P w K mg base dD "free" 36 .b5 (DR K ad .free))
|"Cc"=>`(Dn P w K mg base dD "seen" 68 .b5 (DR K ad .seen))
|"Cd"=>`(.cH ad.cX dx (sP ca 0 .jD))
|"Ce"=>`(Dc P w K mg base dD ad.cX "Line" 1 ["self","calls"] (adg ad))
|"Cf"=>`(Dm P w K mg base dD ad.cX "ended" 1 .b3 (Wp K ad))
|"Cg"=>`(Dm P w K mg base dD ad.cX "take_row" 2 .b3 (BX K ad))
|"Ci"=>`(Dc P w K mg base .bj ad.dh "Game" 90 .nC (adb K ad))
|"Cj"=>`(Dn P w K mg base dD "load" 92 ["line","text"] (adh K ad))
|"Ck"=>`(Dn P w K mg base dD "given" 3 ["line","call"] (Wq K ad))
|"Cm"=>`(fun x H1=>0+1<=sizeLine/\∀p,H1 p=none->Q (V.ref p) (aN H1 p (.bJ [x])))
|"Cn"=>`(Dn P w K mg base dD "of_game" 69 ["game","call"] (Rv K ad))
|"Co"=>`(Dn P w K mg base dD "of_policies" 37 ["game","call","policies"] (Wt K ad))
|"Cp"=>`((lex n (p+k) ((x::r).drop k)).map fun l=>⟨p,t⟩::l)
|"Cq"=>`(a.num*b.den+b.num*a.den)
|"Cr"=>`(mkRat .Cq (a.den*b.den))
|"Cs"=>`(wpAny_bind (wpAny_setState_of ho rfl hf ? _))
|"Ct"=>`(∀b xs,H b=.qC->H' b=.qC)
|"Cu"=>`(fun b ps q=>⟨#[],by rw[ai (aq q hn),q];simp⟩)
|"Cv"=>`(by rw[ai (hm b _ q fun z=>z)];exact q)
|"Cw"=>`(fun b ps e=>⟨#[],by rw[e];simp⟩)
|"Cx"=>`(Inv X pins σ .dv {s with heap:=h',toks:=t'})
|"Cy"=>`(by rw[I.ok.C7];exact I.ET.C7.keeps I.bk)
|"Cz"=>`(iu (ha pins s σ H Q I h) fun c s1 e=>? _)
|"D0"=>`(⟨bF.vn h hp hu t.1,bF.vn h hp hu t.2⟩)
|"D1"=>`(aN (aN H xd .ft) x .wH)
|"D2"=>`(∀(H':Hp)(r:Addr),.aq->H' r=.en->.ba)
|"D3"=>`((.gx).lookup ("take_row":Str)=none)
|"D4"=>`(Dn P w K mg base dD "answer" 93 ["line"] (Ro K ad))
|"D5"=>`(wB P w K mg base dD 94 f fd ["calls"] (yU K))
|"D6"=>`(fun b o hb e=>by rw[ai hb];exact o5 _ _ hb e)
|"D7"=>`((Looks.ld (part:=some headPart) hx).andThen .now)
|"D8"=>`(owner.setIfInBounds j (some pos.length))
|"D9"=>`(insertAt t.place (below t.place r) r)
|"DA"=>`(Heap.IsRevIter.typeIs (s:={s with heap:=h2}) agd)
|"DB"=>`(wpAny_bind (m:=Builtin.Frozenset.addrOf .cR) .cC)
|"DC"=>`(by first|exact .inl .bk|exact .inr .bk)
|"DD"=>`(['r','o','t','a','r','e','t','i','_','t','e','s'])
|"DE"=>`(if_neg (by show¬.oi="worth";decide))
|_=>throw .unsupportedSyntax
local macro_rules|`(.$x:ident)=>match toString x.getId with
|"DF"=>`(if_neg (by show¬.nX="worth";decide))
|"DG"=>`(if_neg (by show¬.hr="worth";decide))
|"DH"=>`(Dn P w K mg base dD "ends_of" 37 .bT (ada K ad))
|"DI"=>`(fun b o e=>by rw[.kV];exact sm _ _ e)
|"DJ"=>`(if t.kind="worth"then[.q0]else[])
|"DK"=>`(k _ _ z (fun _ _ _ e=>by cases e) .dn .dn)
|"DL"=>`(fun z hz=>by rw[kD]at hz;cases hz)
|"DM"=>`(∀C dx fs,o=.cH C dx fs->fs.length≠12)
|"DN"=>`(H p=some (.cH ad.cA dx (Gp t u pp wd cd)))
|"DO"=>`(Dn P w K mg base dD "spread_of" 34 .g5 (Rw K ad))
|"DP"=>`(∀x∈yO g,(j6 wk (.m2)).isSome=true)
|"DQ"=>`(Dn P w K mg base dD "outcomes_of" 35 .g5 (IS K ad))
|"DR"=>`(by rw[<-hwv];exact pf.k (k:=.m2) w3)
|"DS"=>`(by rw[<-hyd];exact pf.k (k:=.m2) d3)
|"DT"=>`(by rw[OM];exact Cp (by rw[aS,Lu];rfl))
|"DU"=>`(rG z/\Lk u a ((pn:Rat)/S) D z/\D.length<=512)
|"DV"=>`((x.D.take m').map fun y=>(y.1,q.num*(m:Int)*y.2))
|"DW"=>`(fun(t:GT)(i:It)=>i.B+300<=600*t.bN.length)
|"DX"=>`([y.1.num,(y.1.den:Int),y.2.num,(y.2.den:Int)])
|"DY"=>`(Dn P w K mg base dD "worth" 35 .g8 (IT K ad .worth))
|"DZ"=>`(H' lp=some (.cH ad.cX dx (sP ca (i+1+m:Nat) g)))
|"Dc"=>`(σ=[some (.str (tx l)),.r9,some (.int j)])
|"Dd"=>`(Dn P w K mg base dD "number_at" 1 .gS AI)
|"De"=>`(Dn P w K mg base dD "is_number" 1 ["text"] AH)
|"Df"=>`(if_neg (by rintro(h|h);exact h1 h;omega))
|"Dg"=>`(Dn P w K mg base .bj "token_at" 3 .gS (Mb ad))
|"Dh"=>`(if_neg (by rintro(h|h);exact h3 h;exact h4 h))
|"Di"=>`(Dn P w K mg base dD "divided" 35 .cU (DQ K))
|"Dj"=>`(Dn P w K mg base dD "written" 1 ["fraction"] (Mc K))
|"Dk"=>`(Dn P w K mg base dD "begins_tree" 1 ["token"] (Rp ad))
|"Dm"=>`(⟨r,l,t,tl,rfl,hR,fun a2 Y7⟨d2,e2⟩Y8=>? _⟩)
|"Dn"=>`(bs.Ok 2/\2<=bs.cU.length/\bs.cU.length<=8)
|"Dp"=>`(bP (i:=3) sc.nd rfl .ai (Ud bj wF wG TH .ay))
|"Dq"=>`(m9 K ad H n a kind ways nQ bq nm pl labels LC)
|"Dr"=>`((.fz).cps.all (fun c=>decide (c<0x110000)))
|"Ds"=>`(ss.map fun s=>(s,times s.name .si))
|"Dt"=>`(by rw[aa,aa,gj,sizeLine_eq];omega)
|"Du"=>`(.n1++nm++[10]++aH "tell "++bg g.er++[10])
|"Dv"=>`(fun z hz e2=>h.1 (aX.mpr ⟨z,hz,e2.trans e.symm⟩))
|"Dw"=>`(fun p=>(.wh).map fun c=>p++[c])
|_=>throw .unsupportedSyntax
local macro_rules|`(.$x:ident)=>match toString x.getId with
|"Dx"=>`(fun(a:jx)x=>if a.lt x.1=true then x.1 else a)
|"Dy"=>`(((.ts).head?.map fun x=>x.1).getD vd)
|"Dz"=>`(s.heap.push {cls:=.type "list",data:=.seq #[]})
|"E0"=>`(aey K ad H p dx g.bB u pp wd cd wk ck)
|"E1"=>`(by rw[aa,al,sizeLine_eq];omega)
|"E2"=>`(aD (LV T.XC0 bU rfl hr rfl T.An))
|"E3"=>`(⟨k,bC _ hk,by rw[ek,ez]⟩)
|"E4"=>`(JJ t<n/\4*JI t+l'.length<=l.length)
|"E5"=>`(fun k=>(bI ss l).map fun p=>k::p)
|"E6"=>`(aD (ba (eU (af (dI T.uh) ao))))
|"E7"=>`(∀i,i<j->∀z,ns[i]?=.cy->z≠m)
|"E8"=>`(by rw[ai (cv h hp .j0)];exact h)
|"E9"=>`(cM K H ta (bs.map fun b:Nat=>V.int b))
|"EA"=>`(de gI .jN (eZ gr .bq bH .a5))
|"EB"=>`([V.str "add",V.str "pick",V.str "if"])
|"EC"=>`(absurd ⟨hN,by show 8<=_;omega⟩ hm)
|"ED"=>`(b_ (.sign 44) OB=true\/x.cU.length=0)
|"EE"=>`(.fL [V.str .ht,V.int (lp:Int)])
|"EF"=>`(aN H' TT (.fL [V.int (i:Nat),V.ref sa]))
|"EG"=>`(⟨_,.inl (cM.of (s2 _ _ hS)),? _⟩)
|"EH"=>`(by rw[ai (cv e ha .aw)];exact e)
|"EI"=>`(l.foldl (fun a s=>a*s.labels.length) k)
|"EJ"=>`(.eO+di d x+if k=x then v-(.jZ)else 0)
|"EK"=>`(if k=0 then wR _ 0 t else wR _ (k-1) r)
|"EL"=>`(J7.2 j v (by rw[<-fO];exact hv))
|"EM"=>`(aN H h'.objs.size (.bJ (oP.map V.int)))
|"EN"=>`(⟨kvs.length-.aH,.o,rfl,jc,p'⟩)
|"EO"=>`(Builtin.Frozenset.isAnySet (.cP))
|"EP"=>`(wpAny_newObj_type ? _ (by size_fits))
|"ER"=>`((Zs.order X.w a es ep).toList.map Zs.OU)
|"ES"=>`(some (.cH ad.iw dx (WJ g.bB am c)))
|"ET"=>`(by rw[ag,cF,tI,fY .aS,sI];rfl)
|"EU"=>`(some (.bJ (K6.map fun d=>V.ref d.1)))
|"EV"=>`(((t6 _).flatMap_right _).append_right _)
|"EW"=>`(σ=[some .b6,.iU,some (.ref ep),y])
|"EX"=>`(bT cC rfl T.gU fg (af .cm ao))
|"EY"=>`(by rw[aa];show _<=2048;omega)
|"EZ"=>`(aD (ba (yR .b4 .aG .ak .a5)))
|"Ea"=>`(pickOrder (w.params.setOrder a ep) es)
|"Eb"=>`(Heap.lt_size (show .bw=some _ from x))
|_=>throw .unsupportedSyntax
local macro_rules|`(.$x:ident)=>match toString x.getId with
|"Ec"=>`(by subst z;rw[r]at mu;exact mu)
|"Ed"=>`(wpAny M A (storeName X.bA x u) Q E s)
|"Ee"=>`(wpAny .av X.A (eval .hh X.bA) Q E s)
|"Ef"=>`(iu .hW fun c s1⟨H1,I1,q1⟩=>? _)
|"Eg"=>`(fun _ s'=>∃σ' H',.hg/\Q σ' H')
|"Eh"=>`(b∈X.ex\/X.wx.heap.objs.size<=b)
|"Ei"=>`(W.item i s _ _ hg st fun v h' tk hv Y_ kk=>? _)
|"Ej"=>`(.inl ⟨⟨xs,q,aF _⟩,hd σ H p⟩)
|"Ek"=>`(absurd (show b∈([]:.ao)from z) .aC)
|"El"=>`(fun h' c' kp e=>fin d7 r' hz h' c' kp e)
|"Em"=>`(Q (.int M t') {s with heap:=h',toks:=tk})
|"En"=>`(fun y hy e=>by rw[ok.Kt y hy,e])
|"Eo"=>`(fun _ s' hq=>wpAny_pure (wpAny_pure hq))
|"Ep"=>`(Builtin.Str.strSliceIndices a b 1 n)
|"Er"=>`(some {cls:=.ref C,data:=.fields vs})
|"Es"=>`(wpAny M A (noteFrame .aR bA) Q E s)
|"Et"=>`(wpAny_bind (wpAny_field Lr F3 h3 ? _))
|"Eu"=>`(⟨fun b o e hb hbx hbT=>? _,fun b o e hb=>? _⟩)
|"Ew"=>`(wpAny_bind (wpAny_field he rfl h1 ? _))
|"Ex"=>`(.FormattedValue e (-1) none pos)
|"Ey"=>`(Dn P w K mg base dD "word_at" 1 .gS IZ)
|"Ez"=>`(Wm.toks (bs.length+1) 0 (bs.map Wm.sg))
|"F0"=>`(s'.heap.FunFrames X.base (.p0))
|"F1"=>`(Za P w K mg base qual st N k sp)
|"F2"=>`(by rw[hk];exact xS P w p.1 t)
|"F3"=>`(d.dict (P:=X.prog) (w:=X.w) I1.C9)
|"F4"=>`(bP (i:=2) sc.nd rfl .ai .ak)
|"F5"=>`(⟨_,rfl,by cases e;exact h1⟩)
|"F6"=>`(zN pt.kind="number"↔pt.kind=.Dl)
|"F7"=>`(bP (i:=4) sc.nd rfl .ai wo)
|"F8"=>`(by rw[Nc,sizeLine_eq];omega)
|"F9"=>`(fun b e=>L.dom b (D11 b (Mi.2 b e)))
|"FA"=>`(fun v hv=>(cI.mp nd).1 (Jv hv).1)
|"FC"=>`(by rw[hj];simpa using ew)
|"FD"=>`(fun r s'=>r=w/\EP X pins σ Q r s')
|"FE"=>`(cM X.K H p ys\/ig X.K H p ys)
|"FF"=>`(by rw[QB hsz,zw];exact a7)
|"FG"=>`(xs.length+zs.length<=sizeLine)
|"FH"=>`(.compLoop .jJ 0 .i5 .dW ce)
|"FI"=>`(fun _ s8⟨σ8,H8,I8,hw8,q8⟩=>? _)
|_=>throw .unsupportedSyntax
local macro_rules|`(.$x:ident)=>match toString x.getId with
|"FJ"=>`(by rw[l];exact zV.val k)
|"FK"=>`(fun b o hc e=>⟨o,k b o hc e⟩)
|"FL"=>`(∀o' u',X.H_0 d≠some (.lu o' u'))
|"FN"=>`(h pins s σ _ _ I1 (hw od))
|"FO"=>`(fun i h=>h.IsStrIter it ty x t i)
|"FP"=>`(aN H s.heap.objs.size .mB)
|"FQ"=>`(aN H s.heap.objs.size .pS)
|"FR"=>`(c=z\/c=TI\/c=TO\/c=i1\/c=i2)
|"FT"=>`(aN H s.heap.objs.size .ny)
|"FU"=>`(Codec.app r.args r.asked a=true)
|"FV"=>`((Value.ref C::yJ).contains T=true)
|"FW"=>`(Looks M h0 (isSubtype .be T) true)
|"FX"=>`(CU h' C x dx .jt (rawInt L))
|"FY"=>`(∀p∈.dy,p.1≠x/\T≠some p.1)
|"FZ"=>`(s'.heap.Ns s3.heap.objs.size m)
|"Fb"=>`(H2 lp=some (.cH ad.cX dx (sP ca j g)))
|"Fc"=>`(mkRat (a.num*b.num) (a.den*b.den))
|"Fd"=>`(by cases h;exact⟨.aC,rfl⟩)
|"Fe"=>`(if_neg (by rw[h1];decide))
|"Ff"=>`(order.toList.Perm (bD hashes.size))
|"Fg"=>`(r<=t.mask/\r∉t.place.toList)
|"Fh"=>`(by simp[intKind,Value.isInt])
|"Fi"=>`(∀k,k∈oP↔k∈ka\/k∈kb)
|"Fj"=>`(decide_eq_false (fun q=>nomatch q))
|"Fk"=>`(fun b u q _ _ _=>⟨u.slots,k b u q⟩)
|"Fl"=>`(s.heap.IsCell c v->h'.IsCell c v)
|"Fm"=>`(fun z=>(VA c z).2.2.1 x c e rfl)
|"Fn"=>`(Inv X pins (σ.set i (.a4)) H s')
|"Fo"=>`((x==("__classdict__":Str))=false)
|"Fp"=>`(.BoolOp .And (b::rest) pos)
|"Fq"=>`(.BoolOp .And (a::b::rest) pos)
|"Fs"=>`(.BoolOp .Or (a::b::rest) pos)
|"Ft"=>`(⟨.int .gH,H,.bz,.aU,q⟩)
|"Fu"=>`(lastMarks [op,op'] [b,c]=false)
|"Fv"=>`(.Compare a [op,op'] [b,c] pos)
|"Fw"=>`(∀name,xj name od=some (mA name))
|"Fx"=>`(fun y=>if y=name then .a4 else mA y)
|"Fy"=>`(attributeBase e f X.bA (.dU)=.dU)
|"Fz"=>`(Un (Ak aY) [] H H' s.heap s'.heap)
|"G0"=>`(by by_cases hb:b=wl;rw[61])
|_=>throw .unsupportedSyntax
local macro_rules|`(.$x:ident)=>match toString x.getId with
|"GA"=>`(⟨bF.qH ha h.1,bF.qH ha h.2⟩)
|"GB"=>`(tq .b4 .aG .ma .cm rfl)
|"GC"=>`(by rw[z];exact s1.free TN)
|"GD"=>`(by rw[z];exact s1.free TK)
|"GF"=>`(by unfold dk;rw[aQ,aQ];rfl)
|"GG"=>`(bP (i:=2) sc.nd rfl .ai sv)
|"GH"=>`(bP (i:=3) sc.nd rfl .ai bH)
|"GI"=>`(bT (ZT rfl) rfl T.ZF SO .a9)
|"GJ"=>`((if _ then none else lU _ xs).bind _)
|"GK"=>`(dq ok.fix.nR.up ok.fix.nR.pq)
|"GL"=>`(a_ (i_ d.ss (fV d.g.er) false)=_)
|"GN"=>`(fun k hk=>hle _ (aE (Gi hk)))
|"GO"=>`(.inl (by show 5≠3;decide))
|"GP"=>`(∀{b kvs},H b=.ei->H' b=.ei)
|"GQ"=>`(cb gH .ak (dI T.aa6) .aB)
|"GR"=>`(⟨.bg,fun r nr=>pq hq .u0 ah⟩)
|"GS"=>`(⟨g,⟨o3 _ _ Xu l2,? _⟩,? _⟩)
|"GU"=>`([(3:Int),12].contains call=true)
|"GV"=>`(YS K "answers" "answers" yK f fd)
|"GW"=>`(∃c r,b=c::r/\isLetter c=true)
|"GX"=>`(if_neg (by rw[h2];decide))
|"GY"=>`(((y.num.natAbs:Nat):Int)=y.num)
|"GZ"=>`(fun H' _ _ x hR' Tp _ _=>q H' x hR' Tp)
|"Ga"=>`(∀{g:GT},.bo->bF K ad H' n g)
|"Gb"=>`(⟨bF.same s h.1,bF.same s h.2⟩)
|"Gc"=>`(dO (mW bj b6 b7 iB .ak .fV))
|"Gd"=>`(q _ OQ (s3.trans (aT.aN nx2)) ah)
|"Ge"=>`(⟨bF.lB ha h.1,bF.lB ha h.2⟩)
|"Gf"=>`(by rw[ai (aq g1 nT)];exact g1)
|"Gg"=>`(fun b o e=>by rw[35];exact g3 _ _ e)
|"Gh"=>`(fun b o e=>by rw[35];exact g2 _ _ e)
|"Gi"=>`(aH "if "++n++[40]++bg bs.er++[41])
|"Gj"=>`(fun y hy=>by have:=hp y hy;grind)
|"Gk"=>`(t.filter fun y=>decide (f<=y.1))
|"Gl"=>`(by rw[l1];exact(ay.mp hx).1)
|"Gm"=>`((oP.map V.int).length<=sizeLine)
|"Gn"=>`(.type "list_reverseiterator")
|"Gp"=>`(Obj.mapSeq (fun _=>(#[]:.er)))
|"Gq"=>`(SetTable.fresh 0 0 (! BT w))
|"Gr"=>`(s.heap.DictOf (L2.fk P w) d kvs)
|_=>throw .unsupportedSyntax
local macro_rules|`(.$x:ident)=>match toString x.getId with
|"Gs"=>`(wpAny_bind (wpAny_typeOf hT ? _))
|"Gu"=>`(Builtin.Frozenset.isAnySet .bY)
|"Gv"=>`(wpAny .aQ A (pyNext .i5) Q E s)
|"Gw"=>`(by have:=b1.1;have:=b2.2;omega)
|"Gx"=>`(by have:=b1.2;have:=b2.1;omega)
|"Gy"=>`(by rw[ai (cW OS)];exact Qc)
|"Gz"=>`(by rw[en.length_eq];omega)
|"a0"=>`(List Str)
|"a3"=>`(Hp->Prop)
|"a4"=>`(some v)
|"a5"=>`(fun _ _=>rfl)
|"a6"=>`(by grind)
|"a7"=>`(List (Str×V))
|"a8"=>`(bU.passes rfl)
|"a9"=>`(af .ak ao)
|"aA"=>`(List (Addr×Obj))
|"aB"=>`(cw _)
|"aC"=>`(.aN)
|"aD"=>`(.aW)
|"aE"=>`(if_neg .aD)
|"aF"=>`(by rw[17])
|"aG"=>`(aP .au rfl)
|"aH"=>`(i+1)
|"aI"=>`(h.2.1)
|"aJ"=>`(if_pos rfl)
|"aK"=>`(au ..)
|"aL"=>`(List aM)
|"aM"=>`(fun _ _ _ _ _ _ us hl=>match us,hl with|[_,_],_=>rfl)
|"aN"=>`(by simp)
|"aO"=>`(fun _ _ _ _ _ _ us hl=>match us,hl with|[_],_=>rfl)
|"aP"=>`(some u)
|"aQ"=>`(model P w)
|"aR"=>`(.dE)
|"aS"=>`(aF _)
|"aT"=>`(List α)
|"aU"=>`(⟨_,rfl⟩)
|"aV"=>`(Str->.dR)
|"aW"=>`(by decide)
|"aX"=>`((·.1))
|"aY"=>`(g.Ok 0)
|_=>throw .unsupportedSyntax
local macro_rules|`(.$x:ident)=>match toString x.getId with
|"aZ"=>`(h.2.2.2)
|"aa"=>`(Inv X pins σ H s)
|"ab"=>`(List Nat)
|"ae"=>`(fun vs H Q E h=>? _)
|"af"=>`(⟨rfl,rfl,rfl,.aF,rfl,.aF,.aF⟩)
|"ag"=>`(fun f eQ A aY s H vs Q E hr h=>? _)
|"ah"=>`(some o)
|"ai"=>`(aZ rfl)
|"aj"=>`(List V)
|"ak"=>`(pv 1)
|"ao"=>`(List Addr)
|"aq"=>`(aT H H')
|"ar"=>`(List Value)
|"au"=>`(pv 0)
|"av"=>`(model X.prog X.w)
|"aw"=>`(by rw[11])
|"ax"=>`(Value->.bK)
|"ay"=>`(pv 2)
|"az"=>`(List (gx×V))
|"b0"=>`(I.ok.hd hc)
|"b1"=>`(eP kind wl am sl name place ll pl st sp wt tt)
|"b2"=>`(.ref a)
|"b3"=>`(["self"])
|"b4"=>`(mw hr)
|"b5"=>`(["game"])
|"b6"=>`(.bO)
|"b7"=>`(Rat×Rat)
|"b8"=>`(f_ .C)
|"b9"=>`(Option Int)
|"bA"=>`((·.2))
|"bB"=>`(.fu)
|"bC"=>`(fun x=>? _)
|"bD"=>`(List (Str×Addr))
|"bE"=>`(Option Addr)
|"bF"=>`(List Expr)
|"bG"=>`(List Rat)
|"bH"=>`((0:Rat))
|"bI"=>`(gA I q .aC)
|"bK"=>`(Shared->Prop)
|"bL"=>`(Option V)
|_=>throw .unsupportedSyntax
local macro_rules|`(.$x:ident)=>match toString x.getId with
|"bM"=>`(H p=none)
|"bN"=>`(.bJ [])
|"bO"=>`(.ref p)
|"bP"=>`(if_pos hk)
|"bQ"=>`(fun _=>rfl)
|"bR"=>`(cT c 0 g)
|"bS"=>`(List aK)
|"bT"=>`(["tree"])
|"bU"=>`(dM t x)
|"bV"=>`(if_neg hk)
|"bW"=>`(Unit->.bK)
|"bX"=>`((x==("__debug__":Str))=false)
|"bY"=>`(.b2)
|"bZ"=>`(cM K H a xs)
|"ba"=>`(Q .e4 H')
|"bb"=>`(k+1)
|"bc"=>`(Fm.of f)
|"be"=>`(.ref C)
|"bf"=>`(Array (Int×Value))
|"bg"=>`(by rw[53];decide)
|"bh"=>`(model prog w)
|"bj"=>`(j3 P w ad.bO)
|"bk"=>`(.aF)
|"bo"=>`(bF K ad H n g)
|"bp"=>`(.int i)
|"bq"=>`(pv 3)
|"br"=>`(some c)
|"bt"=>`(.qT)
|"bu"=>`(some x)
|"bw"=>`(h.get? a)
|"bx"=>`(H b=none)
|"bz"=>`(I.tok _)
|"c0"=>`(Fm.of w)
|"cA"=>`(.ref l)
|"cB"=>`(n.wt x)
|"cC"=>`(.gJ)
|"cD"=>`(he pins s σ H _ I h)
|"cE"=>`(as.map V.ref)
|"cF"=>`(jG ad H r l tl)
|"cG"=>`(fun b hb=>? _)
|_=>throw .unsupportedSyntax
local macro_rules|`(.$x:ident)=>match toString x.getId with
|"cI"=>`(PE X e te)
|"cJ"=>`(X.tQ=true)
|"cK"=>`(Heap.get?_push_size _ rfl)
|"cL"=>`(if_neg e)
|"cM"=>`(fun b o e=>? _)
|"cN"=>`((n:Int))
|"cO"=>`(X.mg x)
|"cP"=>`(.ref b)
|"cQ"=>`(by rw[53];omega)
|"cR"=>`(.eL)
|"cS"=>`(some (.cH C dx fs))
|"cT"=>`(.dK kvs)
|"cU"=>`(["first","second"])
|"cV"=>`(gz K ad H gp d ck kk)
|"cW"=>`(.ref f)
|"cX"=>`(.dK [])
|"cY"=>`(mH [r] H H')
|"cZ"=>`(t::tl)
|"cb"=>`(af .au ao)
|"cc"=>`(bb d.ss)
|"cf"=>`(if_neg .C)
|"cg"=>`(fun y hy=>? _)
|"cj"=>`(tG P w H h)
|"ck"=>`(lr (by rfl))
|"cm"=>`(aP .bq rfl)
|"cn"=>`(if_pos h)
|"cp"=>`(if_neg h)
|"cq"=>`(Gl X x)
|"ct"=>`(List (κ×V))
|"cu"=>`(fun _ _ _ _ _=>jM)
|"cv"=>`(fun σ H' h=>? _)
|"cw"=>`(af .aG ao)
|"cx"=>`(e_ y u)
|"cy"=>`(some z)
|"cz"=>`(.inl k)
|"d0"=>`(V.ref t.bB)
|"d1"=>`(hr.aI .aD)
|"d2"=>`(dP xs us)
|"d3"=>`(some dx)
|"d4"=>`(fU σ vs)
|_=>throw .unsupportedSyntax
local macro_rules|`(.$x:ident)=>match toString x.getId with
|"d5"=>`(H r=none)
|"d6"=>`(List It)
|"d7"=>`(pv 5)
|"d8"=>`(mh t)
|"d9"=>`(pv 4)
|"dA"=>`(x=.b2)
|"dB"=>`(.ref g.bB)
|"dC"=>`(if_neg a7)
|"dD"=>`(List β)
|"dE"=>`(.ref x)
|"dF"=>`(some j)
|"dG"=>`(some k)
|"dH"=>`(sg x.toNat)
|"dI"=>`(by cases h)
|"dJ"=>`(SI w es t ks)
|"dM"=>`(St->.a3)
|"dN"=>`(I.fb.fresh .aS)
|"dO"=>`(fun b o hb e=>? _)
|"dP"=>`(.cH ad.cX dx (sP ca (i+1:Nat) g))
|"dQ"=>`(if_pos hc)
|"dR"=>`(Option Value)
|"dS"=>`(some .local)
|"dU"=>`(eval e X.bA)
|"dV"=>`(K.In s.heap)
|"dW"=>`(.ref D)
|"dX"=>`(fun H' h=>? _)
|"dY"=>`(tx (cd nm))
|"dZ"=>`(.ref d)
|"da"=>`(List GT)
|"dc"=>`([44,32])
|"dd"=>`(x.cU.map V.ref++[.eX])
|"de"=>`(g.Ok j)
|"df"=>`(n.tt x)
|"dg"=>`(.hY)
|"dh"=>`(V->.ee)
|"di"=>`(some (.bJ (.cE)))
|"dj"=>`(["reader","outside"])
|"dk"=>`(af .ay ao)
|"dm"=>`(.a6)
|"dn"=>`(fun ys e=>by cases e)
|_=>throw .unsupportedSyntax
local macro_rules|`(.$x:ident)=>match toString x.getId with
|"dp"=>`(fun b o hb e=>.qt)
|"dq"=>`(.bJ (.n6))
|"dr"=>`(.cH ad.dh dx [.sC,.xM,("form",V.ref FL)])
|"dt"=>`(if_neg h2)
|"du"=>`(if_pos e)
|"dv"=>`(aN H a o)
|"dw"=>`(List Env)
|"dx"=>`(.gq=.ah)
|"dy"=>`(X.pn++pins)
|"dz"=>`(EP X pins σ Q)
|"e0"=>`(h'.get? b)
|"e1"=>`(some .cell)
|"e2"=>`(Pv .aH)
|"e3"=>`(l.drop p)
|"e4"=>`(.ref r)
|"e5"=>`(.bJ .ie)
|"e6"=>`(by simpa using h)
|"e7"=>`(Heap.SameBut a s.heap h')
|"e8"=>`(xs[i]?=.bu)
|"e9"=>`(by rw[aa,sizeLine_eq];omega)
|"eA"=>`(e::es)
|"eB"=>`((j:Int))
|"eC"=>`(Wm.eI t)
|"eD"=>`(tl≠[])
|"eE"=>`((i:Rat))
|"eF"=>`(.ref gp)
|"eG"=>`(rC bs)
|"eH"=>`(.hc=some (jk es ep t))
|"eI"=>`(α->β->Prop)
|"eJ"=>`(k _ _ .bB e)
|"eK"=>`(by rw[ai (aq q hn)];exact q)
|"eL"=>`(.ref s.heap.objs.size)
|"eM"=>`(PA X .eA t)
|"eN"=>`(.station a p nm bs)
|"eO"=>`(if y.1=x then y.2 else 0)
|"eP"=>`(fun y=>y.1*y.2)
|"eQ"=>`(Addr×.b7)
|"eR"=>`(.dK (dk i.D))
|"eS"=>`(fun p hp=>? _)
|"eT"=>`(PE X a ta)
|_=>throw .unsupportedSyntax
local macro_rules|`(.$x:ident)=>match toString x.getId with
|"eU"=>`(own.map .bA)
|"eV"=>`(fun _ _ h'=>h')
|"eW"=>`(aP .ay rfl)
|"eX"=>`(V.ref g.bB)
|"eY"=>`(vy u a c d)
|"eZ"=>`(YR n u pp g)
|"ea"=>`(⟨rfl,rfl⟩)
|"eb"=>`(by simpa using hb)
|"ec"=>`(Inv X pins σ H' s')
|"ed"=>`(some .bY)
|"ee"=>`(.aj->.rp)
|"ef"=>`(absurd (show false=true from hs) a7)
|"eg"=>`(starEach .eA X.bA=(false,.dU)::starEach es X.bA)
|"eh"=>`(some .be)
|"ei"=>`(some .cT)
|"ej"=>`(Q .b6 H')
|"ek"=>`(Dm P w K mg base dD ad.bK "ahead" 1 .b3 (jN ad))
|"el"=>`(dO .zV)
|"en"=>`(some .bN)
|"eo"=>`(by cases z)
|"ep"=>`(if_neg h1)
|"er"=>`(Array Value)
|"es"=>`(Heap.get?_push_of_some _ e)
|"et"=>`(K w.params)
|"eu"=>`(s1.trans s2)
|"ew"=>`(.ref y)
|"ey"=>`(fun h1=>? _)
|"ez"=>`(Mt n c g)
|"f3"=>`(intKind P w)
|"f5"=>`(Value.ref a)
|"f6"=>`(A.handled=none)
|"f7"=>`(fun z=>? _)
|"f9"=>`(⟨#[c]⟩)
|"fA"=>`(aH " : ")
|"fB"=>`(ak _ hz)
|"fC"=>`(Fm.of y.1)
|"fD"=>`(Int×Int)
|"fE"=>`(kG p H H')
|"fF"=>`((i:Int))
|"fG"=>`(if_pos (by rfl))
|_=>throw .unsupportedSyntax
local macro_rules|`(.$x:ident)=>match toString x.getId with
|"fH"=>`(Q () {s with heap:=h'})
|"fI"=>`(⟨_,.cK,rfl,rfl⟩)
|"fJ"=>`(∀b∈fp,.jk)
|"fK"=>`(Heap.get?_push_of_some _ q)
|"fM"=>`((.t2).any .aX=false)
|"fN"=>`(∀vs H Q E,sp vs H Q E->vs.length=ps.length)
|"fO"=>`(∀b o,.gL)
|"fP"=>`(s1.heap.objs.size+1)
|"fQ"=>`(HT.qG z.length 0 lo)
|"fR"=>`(.hS->.gj)
|"fS"=>`(Ab K C N fI na nb)
|"fT"=>`(aD (ba .ak))
|"fU"=>`(af .au .a9)
|"fV"=>`(af .bq ao)
|"fW"=>`(⟨ah,.gF⟩)
|"fX"=>`(d.map .aX)
|"fY"=>`(by kernel_rfl)
|"fZ"=>`(cM K H pa (l.map V.int))
|"fa"=>`(List (Str×NameKind))
|"fb"=>`(aD (ba .ay))
|"fc"=>`(dW .au bH rfl)
|"fe"=>`(.lu od .eR)
|"ff"=>`(some (.bJ xs))
|"fg"=>`(ig K H a xs)
|"fh"=>`(s.heap.get? x)
|"fi"=>`([.b2])
|"fj"=>`(fun x H' y=>? _)
|"fk"=>`(fun x hx=>? _)
|"fl"=>`(lO ad r E H f)
|"fm"=>`(sas.map V.ref)
|"fo"=>`(.kC/u)
|"fp"=>`((n.sp x:Rat))
|"fq"=>`(if_neg hc)
|"fs"=>`(H a=none)
|"ft"=>`(.own x)
|"fu"=>`(.inl rfl)
|"fv"=>`(Pv i σ H)
|"fw"=>`(kJ k X.A)
|"fx"=>`(m_ CX X E)
|"fy"=>`(KV kvs vs)
|_=>throw .unsupportedSyntax
local macro_rules|`(.$x:ident)=>match toString x.getId with
|"fz"=>`(tx (cd b))
|"g0"=>`(by rw[aa];omega)
|"g4"=>`(∀ys,o≠.bJ ys)
|"g5"=>`(["courses","policy"])
|"g6"=>`(aN H' TT (.fL [kV (.inl y.1),V.int y.2]))
|"g7"=>`(fun t(i:It)=>lD t=some i.t)
|"g8"=>`(["game","choices"])
|"g9"=>`(by cases hc<;>decide)
|"gA"=>`(H T=none)
|"gB"=>`(x=.str a)
|"gC"=>`(.int x)
|"gD"=>`(ih h.2.2)
|"gE"=>`(h y .aK)
|"gF"=>`(aT.aN nD)
|"gG"=>`(sE u a i)
|"gH"=>`(g i j)
|"gI"=>`(iN 75)
|"gJ"=>`(wpAny_pure ? _)
|"gK"=>`(xs.length<=sizeLine)
|"gL"=>`(.dx->.e0=.ah)
|"gM"=>`(bS .hV)
|"gN"=>`(scope.names.lookup y)
|"gO"=>`(cenv.cells.lookup y=.br)
|"gP"=>`(X.vo s3 H3 scope ce fp)
|"gQ"=>`(show 1<1000 by decide)
|"gR"=>`(show 2<1000 by decide)
|"gS"=>`(["signs","place"])
|"gT"=>`(Dn P w K mg base dD "lowest" 33 ["over","under"] mZ)
|"gU"=>`(aP .oT rfl)
|"gV"=>`(show 3<1000 by decide)
|"gW"=>`(show 12<1000 by decide)
|"gX"=>`(cD (i:=3) sc.nd rfl .ai)
|"gY"=>`(by rw[aa,be,sizeLine_eq];omega)
|"gZ"=>`(.branch p l t r)
|"gb"=>`(⟨t,rfl⟩)
|"gc"=>`(fk X.prog X.w)
|"gd"=>`(vs=.fi)
|"gf"=>`(List (Int×Str))
|"gg"=>`(⟨_,fun _ _ h=>h,? _⟩)
|"gh"=>`(af bH ao)
|_=>throw .unsupportedSyntax
local macro_rules|`(.$x:ident)=>match toString x.getId with
|"gi"=>`(jG ad H' r l lI)
|"gj"=>`(H' b=.ah)
|"gk"=>`(.bJ [V.int 1])
|"gm"=>`(mkRat n d)
|"gn"=>`(.ok (t,l'))
|"gp"=>`(below xs j)
|"gq"=>`(s.heap.get? b)
|"gr"=>`(Ak X.stack)
|"gs"=>`(D.nx σ H)
|"gu"=>`(fun _=>none)
|"gv"=>`((k:Rat)/u)
|"gw"=>`(R' n l c g)
|"gx"=>`(sP ca i g)
|"gy"=>`((du e).1)
|"gz"=>`(j6 kvs k)
|"h1"=>`(h'.get? s.heap.objs.size)
|"h2"=>`(s.heap.push {cls:=.type "dict",data:=.dict #[]})
|"h3"=>`(Nat->.a3)
|"h4"=>`(Nat->.h3)
|"h5"=>`(∃m,W 0 m (aN H1 D .bN))
|"h6"=>`(∀H',Nx H'->∃m',m'<m/\W .aH m' H')
|"h7"=>`(.Tuple elts kk AN)
|"h8"=>`(dW .au .ak rfl)
|"h9"=>`(fj .kS fun h2=>? _)
|"hA"=>`(gT (j:=0) rfl)
|"hB"=>`(cY (FC kT ks))
|"hC"=>`(if_neg h3)
|"hD"=>`(some .free)
|"hE"=>`(Iti d o kvs)
|"hF"=>`(nex b o e)
|"hG"=>`(Addr->Prop)
|"hH"=>`(.dH::S r)
|"hI"=>`(fun _ _ q=>q)
|"hJ"=>`(Sem Value)
|"hK"=>`(List Stmt)
|"hL"=>`(PE X b tb)
|"hM"=>`(Itz K a b)
|"hN"=>`(H4 b=.ah)
|"hO"=>`(fun y _=>? _)
|"hP"=>`((y.2:Rat))
|_=>throw .unsupportedSyntax
local macro_rules|`(.$x:ident)=>match toString x.getId with
|"hQ"=>`(vs++J0)
|"hR"=>`(H x=none)
|"hS"=>`(H b=.ah)
|"hT"=>`(.ji=some (jk jL vw t'))
|"hU"=>`(List (List gx×Addr×Value))
|"hV"=>`(Heap.lt_size e)
|"hW"=>`(ha pins s σ H _ I h)
|"hX"=>`(Nat->.dM)
|"hY"=>`(s.heap.objs.size+1)
|"hZ"=>`(envOfC qual scope s.heap.objs.size f cd)
|"ha"=>`(if_neg .aC)
|"hb"=>`(wpAny_pure h)
|"hc"=>`(s.heap.get? a)
|"hg"=>`(Inv X pins σ' H' s')
|"hh"=>`(.Name x pos)
|"hi"=>`(H l=.ff)
|"hj"=>`(List (Str×Nat))
|"hk"=>`(fun _ _=>False)
|"hl"=>`(List (List gx×V))
|"hn"=>`([.b2,.cP])
|"ho"=>`(l.map .aX)
|"hp"=>`(a9 N ps (aL st))
|"hq"=>`(P.given.tree=none)
|"hr"=>`(("station":Str))
|"hs"=>`(bF K ad H n t)
|"ht"=>`(tx (cd lb))
|"hu"=>`(labels.zip LC)
|"hv"=>`(vP h.1.mY)
|"hx"=>`(Lk u 0 c d t)
|"hy"=>`(if_pos .aD)
|"hz"=>`(j3 P w ad.dU)
|"i0"=>`(Gp t u p wd cd)
|"i1"=>`(ck.length+1100)
|"i2"=>`(cs.drop .aH)
|"i3"=>`(a_ (dZ st k).2)
|"i4"=>`(lH false l)
|"i5"=>`(.ref it)
|"i6"=>`(List WData)
|"i7"=>`(fun p np=>? _)
|"i8"=>`(gO K H a f)
|_=>throw .unsupportedSyntax
local macro_rules|`(.$x:ident)=>match toString x.getId with
|"i9"=>`(vs=[.ref r])
|"iA"=>`(Value.int k tk)
|"iB"=>`(SI w jL t' oP)
|"iC"=>`(decide_eq_false h)
|"iD"=>`(List (κ×Value))
|"iE"=>`((a==sysModules)=false)
|"iF"=>`(X.N[i]?=.bu)
|"iG"=>`(by simp;omega)
|"iH"=>`(I1.fb.fresh .aS)
|"iI"=>`(i<=xs.length)
|"iJ"=>`(List (Str×Value))
|"iK"=>`(.builtin id)
|"iL"=>`(some .cX)
|"iM"=>`(((i+1:Nat):Int))
|"iN"=>`(Itv K a xs.length)
|"iO"=>`(fun _ _ _=>False)
|"iP"=>`(.Name x p)
|"iQ"=>`(Paired F l l')
|"iR"=>`(.name (aH "add"))
|"iS"=>`(vs=[.dB])
|"iT"=>`(g.bN.length<=8192)
|"iU"=>`(some (.dB))
|"iV"=>`(labels.take i)
|"iW"=>`(⟨nm,g.er⟩)
|"iX"=>`(q/ws.bq.sum)
|"iY"=>`(tF n u p g a q)
|"iZ"=>`(fun i v σ H' hv h=>? _)
|"ia"=>`(eZ gr .au bH .a5)
|"ib"=>`(eZ gr .ak bH .a5)
|"ic"=>`(xM _ .aD .aD)
|"ie"=>`((pend.map fun t=>.d0).reverse)
|"ig"=>`(cD (i:=2) sc.nd rfl .ai)
|"ih"=>`(fun s=>s.name==nm)
|"ij"=>`(.bJ (.cE++[V.ref x]))
|"ik"=>`(by cases r<;>first|exact .kW|rfl)
|"il"=>`(af .aG .a9)
|"ip"=>`(fun z hz=>h z .fB)
|"iq"=>`(eV (.eP) t)
|"ir"=>`(fun _ z=>.eo)
|"iu"=>`(.bJ .j1)
|_=>throw .unsupportedSyntax
local macro_rules|`(.$x:ident)=>match toString x.getId with
|"iv"=>`(h1.aI (by rw[e];omega))
|"iw"=>`((ts.map .k3).sum)
|"ix"=>`(by simp at h)
|"iy"=>`(hd mask i p m)
|"iz"=>`(fun _ h=>nomatch h)
|"j0"=>`(fun z=>.eo)
|"j1"=>`((rest.map .nK).reverse)
|"j2"=>`(some (.cH ad.cA dx (Gp g.bB u pp wd cd)))
|"j3"=>`(show .y4 from aP .au rfl)
|"j4"=>`((ts.zip ws).map .q9)
|"j5"=>`(tH K ad H lp dx ca i cs g)
|"j6"=>`(b.map (·.toNat))
|"j7"=>`(by simpa using h1)
|"j8"=>`(some (jk eb epb tb))
|"j9"=>`(ka.length+kb.length)
|"jA"=>`(∀σ' H',N σ' H'->∃m',m'<m/\W .aH m' σ' H')
|"jB"=>`(g x σ H' fun σ2 H2=>tb {D with nx:=N,ct:=N,bk:=D.nx} σ2 H2)
|"jC"=>`(∀x,foldedSetIterable iter X.bA x=pure x)
|"jE"=>`(wB X.prog X.w X.K X.mg X.base CX k f fd ps sp)
|"jF"=>`(.Call .iP .eA [] pos)
|"jG"=>`(Gn X.N X.bA.scope scope own)
|"jH"=>`(notedBy .bh A bA fun e s'=>R (.error e) s')
|"jI"=>`(g x (.d4) H' .zt)
|"jJ"=>`(.ListComp elt [⟨tg,iter,ifs,0⟩] scope pos)
|"jK"=>`(Pv 0 (aN H1 D .bN))
|"jL"=>`(if_neg (.e6))
|"jM"=>`(su ht rfl rfl rfl .I)
|"jN"=>`(eZ gr .ay bH .a5)
|"jO"=>`(Dm P w K mg base .bj ad.bK "take" 4 .nC (yk ad))
|"jP"=>`(NB ad r H a dx kind wl am sl name place ll pl ws ss ls ps)
|"jQ"=>`(cD (i:=4) sc.nd rfl .ai)
|"jR"=>`(.bJ (done.map V.ref++[.d0]))
|"jS"=>`((t.fe.map GT.bB).map V.ref)
|"jT"=>`(bT cC rfl T.gU fg .a9)
|"jU"=>`(H a=some (.cH ad.cn dx fs))
|"jV"=>`(wQ .dc (.ja))
|"jW"=>`(fun⟨_,_,z⟩=>.eo)
|"jX"=>`(l.foldl (fun t x=>oS x.1 x.2 t) t)
|"jY"=>`(t.map .l4)
|"jZ"=>`((if y.1=k then y.2 else 0)+di d k)
|_=>throw .unsupportedSyntax
local macro_rules|`(.$x:ident)=>match toString x.getId with
|"ja"=>`(eD oW ls rs)
|"jb"=>`(fun a q x=>? _)
|"jc"=>`(aT.aN nT)
|"jd"=>`(aT.aN nr)
|"je"=>`(List (.J))
|"jf"=>`(cs.drop i)
|"jg"=>`(if_pos h2)
|"jh"=>`(L.map .aX)
|"ji"=>`(h'.get? a)
|"jj"=>`(.bw=.ah)
|"jk"=>`(H' b=none)
|"jl"=>`(.dT kvs)
|"jm"=>`(Wm.WV pt t)
|"jn"=>`(aq e nx)
|"jo"=>`(Fm.of y.2)
|"jq"=>`(xs++ys)
|"jr"=>`(if_pos h1)
|"js"=>`(fk P w)
|"jt"=>`(some T)
|"ju"=>`(.str kind)
|"jv"=>`(Q .bY H')
|"jw"=>`(mask+1)
|"jx"=>`(∀b u,.ly)
|"jy"=>`(fun v s1⟨x,H1,I1,r1,q1⟩=>? _)
|"jz"=>`(Nat->.hX)
|"k0"=>`(.type "set")
|"k1"=>`(some (.dK w9))
|"k2"=>`(some (.ref L))
|"k3"=>`(fun i=>i.B+300)
|"k4"=>`(I.mT x c e)
|"k5"=>`(Heap->Prop)
|"k6"=>`(W i m σ H)
|"k7"=>`(⟨us,[]⟩)
|"k8"=>`(.inr rfl)
|"k9"=>`(List (.ab))
|"kA"=>`(fun t ht=>h t (ak _ ht))
|"kB"=>`(yX rfl rfl rfl rfl)
|"kC"=>`((y.1:Rat))
|"kD"=>`(by exact_mod_cast h)
|"kE"=>`((t.bN++r.bN).length)
|_=>throw .unsupportedSyntax
local macro_rules|`(.$x:ident)=>match toString x.getId with
|"kF"=>`((n.sp y:Rat)/u)
|"kG"=>`(kvs.map .aX)
|"kH"=>`(aN H D .cX)
|"kI"=>`(.bJ (.n7))
|"kJ"=>`(fun x:Nat=>(x:Int))
|"kK"=>`(bI d.ss l=some p)
|"kL"=>`(.cc<=2048)
|"kM"=>`(.cH ad.dh dx (YT g.bB SL FL cp kp))
|"kN"=>`(xs.getD i j)
|"kO"=>`(BT w=false)
|"kP"=>`(I.cell x c e)
|"kQ"=>`(fun b o e n hb hx=>? _)
|"kR"=>`(neL b o e)
|"kS"=>`(fun h2=>? _)
|"kT"=>`(af .d9 ao)
|"kU"=>`(aH "pick")
|"kV"=>`(ai (aq e Y6))
|"kW"=>`(absurd rfl h)
|"kX"=>`(aT.refl H)
|"kY"=>`(cM.of N.ways)
|"kZ"=>`(1/ws.bq.sum)
|"ka"=>`(h.get? b=.ah)
|"kb"=>`(sc.names.lookup x)
|"kc"=>`(b≠X.bA.locals)
|"kd"=>`(V->V->.rp)
|"ke"=>`(o.data=.fields vs)
|"kf"=>`(PI X tg iter wi)
|"kg"=>`(hi pins s σ H _ I h)
|"kh"=>`(Inv X pins σ H s')
|"ki"=>`(vT X.K fd ps ds)
|"kj"=>`(aN H dx .ft)
|"kk"=>`(.str .f9)
|"kl"=>`(.builtin "len")
|"km"=>`(by rw[bo];omega)
|"kn"=>`(ns.map V.int)
|"ko"=>`(A.units+1<cLine)
|"kp"=>`(Value.type "tuple")
|"kq"=>`(bA.frame=some L)
|"kr"=>`(l.length<=8192)
|"ks"=>`(.name .kU)
|_=>throw .unsupportedSyntax
local macro_rules|`(.$x:ident)=>match toString x.getId with
|"ku"=>`(af .eW ao)
|"kv"=>`(fun i y H' hy h=>? _)
|"kx"=>`(fun i x σ H' hx h=>? _)
|"ky"=>`(kK K ad Hd H n g)
|"kz"=>`(⟨nm,bs.labels⟩)
|"l0"=>`(Dn P w K mg base dD "policy_count" 1 ["stations"] (BV ad))
|"l1"=>`(decide (0<=n)&&decide (n<.xi))
|"l2"=>`(((bD i).map (J9 ss l)).map V.bl)
|"l3"=>`(fun _ _ _ _ _=>.ig)
|"l4"=>`(fun y=>(f+y.1,y.2))
|"l5"=>`(d.map (fun y=>if y.1=k then(y.1,v)else y))
|"l6"=>`(if k=0 then cT c 0 t else cT c (k-1) r)
|"l7"=>`(fun k:Int=>(.gv,(di d k:Rat)/c))
|"l8"=>`(by rw[isSubtype_type];kernel_rfl)
|"l9"=>`(jk #[] 0 .Gq)
|"lA"=>`(X.fn x=true\/X.bA.scope.names.lookup x=.dS)
|"lB"=>`(fun h' eb=>⟨rfl,I.nq (t':=s.toks) (fun b o hb e=>eb b o hb e) f0 f1 f3 f4 f5⟩)
|"lC"=>`(fun σ2 H2=>tb {D with nx:=Pv (i+1),ct:=Pv (i+1),bk:=D.nx} σ2 H2)
|"lD"=>`(aR K .be name=some none)
|"lE"=>`(Value.ref .dg)
|"lF"=>`(V->.b9->.b9->.rp)
|"lG"=>`(decide_eq_false .C)
|"lH"=>`(ho pins s σ H _ I h)
|"lI"=>`(fun σ2 H2=>fU σ2 vs=.d4/\tt σ2 H2 fun b H3=>if b=true then te σ2 H3 fun y H4=>∃acc,H4 D=some (.bJ acc)/\acc.length<sizeLine/\Pv .aH (aN H4 D (.bJ (acc++[y])))else Pv .aH H3)
|"lJ"=>`(starEach [e] X.bA=[(false,.dU)])
|"lK"=>`(fun z=>hb (by simp[z]))
|"lL"=>`(fun q'=>hb (by simp[q']))
|"lM"=>`(max (.fQ) (.pT))
|"lN"=>`(.zN::aY)
|"lO"=>`(p+Wm.lH false (.e3))
|"lP"=>`(fj (.ey) .ey)
|"lQ"=>`(H r=some (.cH ad.bK dx (f7 l i)))
|"lR"=>`(Dm P w K mg base .bj ad.bK "refuse" 2 ["self","code"] (uM ad))
|"lS"=>`(Dm P w K mg base .bj ad.bK "take_if" 3 .yo (oz ad))
|"lT"=>`(⟨.aF,_,_,by rfl,.aW⟩)
|"lU"=>`(Dc P w K mg base dD ad.cn "Tree" 1 ["self","kind"] (DY ad))
|"lV"=>`((x.labels.map .mO)++[V.str .ht])
|"lW"=>`(fun _ _ _ _ _ _ us hl=>match us,hl with|[_,_,_],_=>rfl)
|"lX"=>`(l.map fun b=>PyData.str (.fz))
|"lY"=>`(.cH ad.cn dx (eP "station" wl am sl .dY p ll pl j (n'.sp a) (n'.wt a) (n'.tt a)))
|_=>throw .unsupportedSyntax
local macro_rules|`(.$x:ident)=>match toString x.getId with
|"lZ"=>`(.cH ad.gi d5 (SG .dY ll 0))
|"la"=>`(aD (ba wo))
|"lb"=>`(some (sJ f))
|"lg"=>`(ss.map .aX)
|"lh"=>`(qe n (.bR))
|"lj"=>`(fun r nr=>? _)
|"lk"=>`(kG lp H H')
|"ll"=>`(K.lookup f)
|"lp"=>`(nW kvs k v)
|"lq"=>`(["reader"])
|"lr"=>`(iL .aG)
|"ls"=>`(nodesOf t+l'.length<=l.length)
|"lx"=>`((.sH).size)
|"ly"=>`(h.get? b=.aP->.e0=.aP)
|"lz"=>`(I.base.keep b o e n hb hx)
|"m1"=>`(⟨rfl,rfl,rfl,rfl⟩)
|"m2"=>`(.inl (n.sp x))
|"m3"=>`(0<s.labels.length)
|"m4"=>`(.lu oe (.dK (dk j.D)))
|"m5"=>`(.lu od (.dK (dk x.D)))
|"m6"=>`(["game","number"])
|"m7"=>`(.cH ad.cX dx [])
|"m8"=>`((gc .iW).length)
|"m9"=>`(.cH ad.cA cx [])
|"mA"=>`(H d=some (.lu o .cT))
|"mB"=>`(.fL [kV k,v])
|"mC"=>`(∀u∈vs,WS A u)
|"mD"=>`(Value.type "list")
|"mE"=>`(∀a∈A,vS h A a)
|"mF"=>`(h.Ns mainGlobals mg)
|"mG"=>`(gk K .cW=true)
|"mH"=>`(Heap.get?_update_other _ _ (cW hb))
|"mI"=>`(X.stack=.p0)
|"mJ"=>`((.ho).Nodup)
|"mK"=>`(fj (fun h5=>? _) fun h5=>? _)
|"mL"=>`(aA.mpr rfl)
|"mM"=>`(⟨.aW,rfl⟩)
|"mN"=>`(.name (aH "if"))
|"mO"=>`(fun b=>V.str (.fz))
|"mP"=>`(Dj (fP e1 hr3))
|_=>throw .unsupportedSyntax
local macro_rules|`(.$x:ident)=>match toString x.getId with
|"mQ"=>`(Dj (fP e1 hr5))
|"mR"=>`(.branch lp lb g .nil)
|"mS"=>`(s.labels.length<=8)
|"mT"=>`((g.fe.map GT.bB).map V.ref)
|"mU"=>`((.fC,.jo))
|"mV"=>`(cT c 0 r++cT c 0 t)
|"mW"=>`(iF (dC x w++y))
|"mX"=>`(e.map fun y=>(y.1,k*y.2))
|"mY"=>`(k/s.labels.length)
|"mZ"=>`(["tree","policy"])
|"ma"=>`(aP .cm rfl)
|"mb"=>`(.cH ad.cA dx (Gp g.bB 1 1 wd cd))
|"mc"=>`(∀H',.aq->E (.ref ad.dU) none H')
|"md"=>`(Dn P w K mg base dD "counted" 1 ["row"] uL)
|"me"=>`(by show 1<=100;decide)
|"mf"=>`(∀(H':Hp)(d:GD)(ck:.az),.fE->m8 d->d.game=gm->d.ss=ss->gz K ad H' p d ck []->ck.length<=4097->Q .jD H')
|"mg"=>`(∀(H':Hp)(dx:Addr),.fE->.th)
|"mh"=>`(.cH ad.dh dx [.sC])
|"mi"=>`(.cH ad.dh dx [.sC,.xM])
|"mj"=>`(aN (aN Ec p (.cH ad.dh dx [.sC,.xM,("form",V.ref FL),("courses",V.ref cp)])) kp .cX)
|"ml"=>`(if_pos .C)
|"mm"=>`(fun x hx=>h x (ak _ hx))
|"mn"=>`(Bool->.bK)
|"mo"=>`(o.data=.dict es ep)
|"mq"=>`(X.bA.cells.lookup x=.br)
|"mr"=>`(I.base.free b o e n hx)
|"mu"=>`(behindInMarks op b=false)
|"mv"=>`(∃m,W 0 m σ H)
|"mw"=>`(Value->Value->.hJ)
|"mx"=>`(some (some .cW))
|"my"=>`(X.A.units+1<cLine)
|"mz"=>`(H' d=some (.lu od u))
|"n0"=>`(ws.bq.take i)
|"n1"=>`(aH "chance ")
|"n2"=>`((.fX).Nodup)
|"n3"=>`(jJ c 0 g 0 1)
|"n4"=>`(gy 2 _ _ _ _)
|"n5"=>`(fun b o _ e=>e)
|"n6"=>`(ks.map V.int)
|"n7"=>`(ds.map V.ref)
|_=>throw .unsupportedSyntax
local macro_rules|`(.$x:ident)=>match toString x.getId with
|"n8"=>`(fun _ q=>q)
|"n9"=>`(Bool->.a3)
|"nA"=>`(decide_eq_true h)
|"nB"=>`(∀b∈bs,b<256)
|"nC"=>`(["self","text"])
|"nD"=>`(some (.ref fp))
|"nE"=>`(some (.ref wp))
|"nF"=>`(some (.ref SL))
|"nG"=>`(g.iD.take .aH)
|"nH"=>`(⟨_,rfl,? _⟩)
|"nI"=>`(g.kind="lots")
|"nJ"=>`(Addr×GT×.b7)
|"nK"=>`(fun z=>V.ref z.1)
|"nL"=>`(t.fe.zip (SR t))
|"nM"=>`(YT t SL FL cp kp)
|"nN"=>`((rC bs).length)
|"nO"=>`(b.length<=16)
|"nP"=>`(t'.led=t.led)
|"nQ"=>`(.type "list")
|"nR"=>`(tn i s'.heap)
|"nS"=>`(vs=[V.ref a])
|"nT"=>`(Wm.AX c=true)
|"nU"=>`(ai (aq e nd))
|"nV"=>`(.way g f .nil)
|"nW"=>`(("worth":Str))
|"nX"=>`(("lots":Str))
|"nY"=>`(h.2.2.2.elim)
|"nZ"=>`(max t.ht r.ht)
|"nc"=>`(Option (iW×.aL))
|"nd"=>`(ph (n9 _ (xi _)))
|"nf"=>`(t'.plain=t.plain)
|"ng"=>`(sizeAbove wanted)
|"nh"=>`(Value.int j tk)
|"ni"=>`(some (.own a))
|"nj"=>`(Loc X.bA.scope x)
|"nk"=>`(((0:Nat):Int))
|"nq"=>`(s.heap.push gR)
|"nr"=>`(vT K fd ps [])
|"nt"=>`(⟨_,ho,rfl⟩)
|"nu"=>`(List (gx×Value))
|_=>throw .unsupportedSyntax
local macro_rules|`(.$x:ident)=>match toString x.getId with
|"nv"=>`(List (TE×TE))
|"nx"=>`(Paired.length kv)
|"ny"=>`(.fL [x,y])
|"nz"=>`(Ht s₁.heap H)
|"o1"=>`(pH rfl (ff .ig (ff .gX mm)))
|"o2"=>`((.iV).map fun b=>((lq (.fz):gx),V.bl true))
|"o3"=>`(aN H a (.cH ad.cn dx (kY "station" (.int k) fs)))
|"o4"=>`(fun _ _ _ _ _=>.gX)
|"o5"=>`(fun x=>(lD r).bind fun y=>.BA)
|"o6"=>`(fun k=>(Fm.of (f k),iq ss k))
|"o7"=>`(by rw[typeLookup_type,builtinLookup_eq_fast];kernel_rfl)
|"o8"=>`(((.rJ)[i]?).map .bA=.a4)
|"o9"=>`(Dn P w K mg base dD "chances_of_ways" 36 .bT (yV K ad))
|"oA"=>`(iu .hW .jy)
|"oB"=>`(Inv X pins σ H {s with heap:=h',toks:=tk})
|"oC"=>`(∀σ H,Pv xs.length σ H->.gs)
|"oD"=>`(fun σ' H' p'=>.zg)
|"oE"=>`(A.under (.builtin "type.__call__" ⟨.ref C::us,kw⟩))
|"oF"=>`(wpAny_Call_Name_kw (qW I hg hm ? _ Hs))
|"oG"=>`(fun b ob q=>.fK)
|"oH"=>`(fun w hw=>rZ rx fx r fs w .vB)
|"oI"=>`(typeOf .iK=pure (.type "method_descriptor"))
|"oJ"=>`(attributeBase o name X.bA (eval o X.bA)=eval o X.bA)
|"oK"=>`(compEnvC scope .qu s3.heap.objs.size X.bA)
|"oL"=>`(fun kv=>decide (kv.1=k))
|"oM"=>`(by rw[ai (neH c _ q .yc)];exact q)
|"oN"=>`(some {cls:=.type "list",data:=.seq vs.toArray})
|"oO"=>`(some {cls:=.type "tuple",data:=.seq vs.toArray})
|"oP"=>`(envOfC qual scope s.heap.objs.size fI eQ)
|"oQ"=>`(s.heap.update T .CX)
|"oR"=>`(bP (i:=2) sc.nd rfl .ai (eU ao))
|"oS"=>`(.cH ad.bK dx (f7 l 0))
|"oT"=>`(eG .au T.cu cE .I bQ)
|"oU"=>`(Dn P w K mg base .bj "read_fraction" 34 .lq (oy ad))
|"oV"=>`(Dn P w K mg base .bj "read_tree" (2*n+40) .dj (sC K ad n))
|"oW"=>`(.cH ad.cn dx (eP "add" wl p sl "" 0 ll pl 0 0 0 0))
|"oX"=>`(L2.aN Ec sl (.bJ (.fm++[V.ref p])))
|"oY"=>`((x.lplaces.map fun p:Nat=>V.int p)++[V.int (lp:Int)])
|"oZ"=>`(bP (i:=1) sc.nd rfl .ai (eU ao))
|"oa"=>`(ps.zip us)
|_=>throw .unsupportedSyntax
local macro_rules|`(.$x:ident)=>match toString x.getId with
|"ob"=>`(⟨h1,h2⟩)
|"oc"=>`(KT H kvs xs)
|"od"=>`(aN H' d u)
|"oe"=>`(cM K H b ys)
|"og"=>`(vs.map RH)
|"oh"=>`(j3 P w Ce)
|"oi"=>`(("add":Str))
|"oj"=>`(if_neg .dm)
|"om"=>`(oS f w t)
|"oo"=>`(fun y=>y.1=k)
|"oq"=>`(kX c 0 g)
|"ot"=>`(Value.ref b)
|"ou"=>`(["courses"])
|"ov"=>`((dZ st k).1)
|"ow"=>`(by unfold sg;rw[195])
|"ox"=>`((leap t.mask p.i p.perturb).1)
|"oy"=>`(Inv X pins σ H {s with heap:=h',toks:=t'})
|"oz"=>`(∀b u,.gq=.aP->.e0=.aP)
|"p0"=>`(X.bA::X.aY)
|"p1"=>`(X.bA.frame=some X.bA.locals)
|"p2"=>`(cb gH .au bH .aB)
|"p3"=>`(vs=[.str (tx l),.int p])
|"p4"=>`(by rw[d_];omega)
|"p5"=>`(cb gH .ay dN .aB)
|"p6"=>`(by simpa using hh)
|"p7"=>`(by cases pt.kind<;>decide)
|"p8"=>`(dW .au (eU ao) rfl)
|"p9"=>`(by rw[ai ne];exact h.obj)
|"pA"=>`(jL.toList.Perm es.toList)
|"pB"=>`(order.filterMap (eb[·]?))
|"pC"=>`(kvs.length<=sizeLine)
|"pD"=>`(Inv X pins σ H {s with heap:=h'})
|"pE"=>`(by simpa using hu)
|"pF"=>`(fun b o e=>.es)
|"pG"=>`(A2 X (compareOp op) r)
|"pH"=>`(beq_eq_false_iff_ne.mpr h)
|"pI"=>`(by rw[e];exact jR)
|"pJ"=>`(Str->Option NameKind)
|"pK"=>`(⟨.bl _,H,I,rfl,? _⟩)
|"pL"=>`(by simp only[bo]<;>omega)
|_=>throw .unsupportedSyntax
local macro_rules|`(.$x:ident)=>match toString x.getId with
|"pM"=>`((apos.endLine==mQ.line)=true)
|"pN"=>`(.Attribute o name apos)
|"pO"=>`(cM K H a .kn)
|"pP"=>`(fun y hy=>h y (ak _ hy))
|"pQ"=>`(Option (Value->Sem Unit))
|"pR"=>`(by show 2<=sizeLine;decide)
|"pS"=>`(.fL [.int (i:Nat),x])
|"pT"=>`(HT.qG z.length z.length hi)
|"pU"=>`(vs.toArray.toList.map RH)
|"pV"=>`(base.Ns mainGlobals mg)
|"pW"=>`(s₁.heap.get? b=.ah)
|"pX"=>`(some ⟨.ref C,dx,.fields vs,sl⟩)
|"pY"=>`(A.frames=some (bA::aY))
|"pZ"=>`(s.heap.FunFrames base (bA::aY))
|"pa"=>`(aN H a (.cH ad.cn dx (NK i j k fs)))
|"pb"=>`(aN (aN (aN .BH wd .cX) p (.cH ad.cA dx [("tree",.dB),("unit",.int 1),("parts",.int 1),("worths",.ref wd)])) cd .cX)
|"pd"=>`(.cH ad.cn dt (NK S W (S*W) (eP kd wl ama sl nm pl ll lp (m.st z.1) (m.sp z.1) (m.wt z.1) (m.tt z.1))))
|"pe"=>`(Dn P w K mg base dD "weights_by_steps" 3 .g5 (Ww K ad))
|"pf"=>`(Dn P w K mg base dD "worth_of_total" 34 .xv (BZ ad))
|"pg"=>`(Dn P w K mg base dD "policy_at" 33 ["stations","number"] (Gg ad))
|"ph"=>`(lU [] (.j4))
|"pj"=>`(bT cC rfl T.gU fg .cw)
|"pk"=>`(bx jI .I bQ .cw)
|"pl"=>`(.bJ .Ab)
|"pn"=>`(.bJ .Ac)
|"pq"=>`(Dn P w K mg base dD "has_too_many_policies" 2 .b5 (N7 K ad))
|"ps"=>`(Dm P w K mg base dD ad.cX "take_number" 1 .b3 (BW K ad))
|"pv"=>`(aN H2 p .mh)
|"pw"=>`(af (eZ j' .ay bH .a5) ao)
|"px"=>`(∃j k,CM cs i j k/\t=cs.drop j/\ik (fB c)=.dG)
|"pz"=>`(xs.toList.Pairwise (·<·))
|"q0"=>`((t.bB,a+t.nQ,qz))
|"q1"=>`(new.reverse++rest)
|"q2"=>`((yO t++yO r).length)
|"q3"=>`((.bR).map V.ref)
|"q4"=>`(vs=[.bO,.ref pa])
|"q5"=>`(Bn c (g:=g) (k:=0))
|"q6"=>`(sJ (mkRat i pp))
|"q7"=>`(ks.reverse.take i)
|"q8"=>`(iF (dC x.1 x.2++z))
|_=>throw .unsupportedSyntax
local macro_rules|`(.$x:ident)=>match toString x.getId with
|"q9"=>`(fun k=>(k.1.t,k.2))
|"qA"=>`(∃t,u=Value.int i t)
|"qB"=>`(tupleKind .js)
|"qC"=>`(some (.fL xs))
|"qD"=>`(wpAny_truthy_bool ? _)
|"qE"=>`(fun b hb=>(hf b hb).1)
|"qF"=>`(fs.lookup f=.a4)
|"qG"=>`((p,w)::P.zip vs)
|"qH"=>`(kg K eQ qual=true)
|"qI"=>`(.builtin "sum")
|"qJ"=>`(.builtin "max")
|"qK"=>`(f9 X.bA.cells scope.names [])
|"qL"=>`(fun z=>e (h1.trans z))
|"qM"=>`(kvs.length=vs.length)
|"qN"=>`(vs.length<=sizeLine)
|"qO"=>`(aN H d (.lu od u))
|"qP"=>`(kvs[i]?=some (k,v))
|"qQ"=>`(h _ s.toks rfl)
|"qR"=>`(WellAll P h vs ds)
|"qS"=>`(some (aj3 C dx t))
|"qT"=>`(fun z=>nomatch z)
|"qU"=>`(by rw[aQ];rfl)
|"qV"=>`(A8 kind text place)
|"qW"=>`(of_decide_eq_true e)
|"qX"=>`(j8 ws.er.weights)
|"qY"=>`(mx (fR t) (fR r))
|"qZ"=>`(decide_eq_true rfl)
|"qa"=>`(bT cC rfl T.gU fg .ku)
|"qb"=>`(qj x.er (.way t7 (.bc) .nil))
|"qc"=>`(qj x.er (.branch lp lb t10 .nil))
|"qd"=>`(Gs ad E H f.code f.place)
|"qe"=>`(⟨.o,.o⟩)
|"qf"=>`(jJ c 0 r a q++jJ c 0 t a (q*w))
|"qg"=>`((bD N).filter fun k=>decide (f k=M))
|"qh"=>`(.fg->ig K H' a xs)
|"qi"=>`(.lu od .uZ)
|"qj"=>`(j.t.length*i.t.length)
|"qk"=>`(sJ (.vc))
|"ql"=>`(by have:jW=2048:=rfl;omega)
|"qm"=>`(.bJ [V.int (ns.count m:Nat)])
|_=>throw .unsupportedSyntax
local macro_rules|`(.$x:ident)=>match toString x.getId with
|"qn"=>`(sJ (.ve))
|"qo"=>`(.bJ [V.int (t.length:Nat)])
|"qp"=>`((.i2).take m)
|"qq"=>`(by have:jy=4096:=rfl;omega)
|"qr"=>`(by rw[2];exact p1n hb.1)
|"qs"=>`(.cH ad.cX dx (sP ca i .aR))
|"qt"=>`(by rw[ai hb];exact e)
|"qu"=>`(cellsFrom (s3.heap.objs.size+1) scope.names (.qK))
|"qv"=>`(fun c hc=>iM _ c hc)
|"qw"=>`(Array (Option Nat))
|"qx"=>`(bits h %(t.mask+1))
|"qy"=>`(List (Int×Value))
|"qz"=>`(Obj.putSet MO t1)
|"r1"=>`(Y' r ta tb)
|"r2"=>`(wpAny_bind ? _)
|"r3"=>`(start N vs)
|"r4"=>`(⟨_,e,rfl⟩)
|"r5"=>`(s'.heap.Ns C m)
|"r6"=>`(C_ I.fb eb)
|"r7"=>`(ys[i]?=some y)
|"r8"=>`(.str name t)
|"r9"=>`(some (.int p))
|"rA"=>`(fun v q=>nomatch q)
|"rB"=>`(K.lookup b=none)
|"rD"=>`(by rw[z])
|"rE"=>`(af .d7 ao)
|"rF"=>`(jG ad H r l .cZ)
|"rG"=>`(["self","many"])
|"rH"=>`(S.fresh _ tS)
|"rI"=>`(i<=kvs.length)
|"rJ"=>`(order w a es ep)
|"rK"=>`(fun _ _ z=>.eo)
|"rL"=>`(af .ak .dk)
|"rM"=>`(fun z=>z.2.1)
|"rN"=>`(some (.ref pa))
|"rO"=>`(List (Tb×Rat))
|"rP"=>`(bI ss l=some p)
|"rQ"=>`(cs.map V.int)
|"rR"=>`(XO ad.bO y OQ)
|"rS"=>`(kI K ad H g x N)
|_=>throw .unsupportedSyntax
local macro_rules|`(.$x:ident)=>match toString x.getId with
|"rT"=>`(l.takeWhile p)
|"rU"=>`(SH t' jL.size)
|"rV"=>`(fun k=>.aN)
|"rW"=>`(I.ok.bs b o e)
|"rX"=>`(SP X pins D)
|"rY"=>`((hi-lo).toNat)
|"rZ"=>`(ze X pins H b)
|"ra"=>`(ou (i.D.take m) j.D)
|"rb"=>`(some (.dK (dk D)))
|"rd"=>`(Eg d (.above l m))
|"rf"=>`(cs[i]?=some (m:Int))
|"rg"=>`(i+1+m<=cs.length)
|"rh"=>`(ha pos pins s σ H _ I h)
|"ri"=>`(wpAny_bind .cC)
|"rj"=>`(scanBound=4096)
|"rk"=>`(s'.heap.get? b)
|"rl"=>`(i5 P w H h a o)
|"rm"=>`(some (.lu o u))
|"rn"=>`(neC b o e hx)
|"ro"=>`(AllBare s'.gens)
|"rp"=>`(Hp->VK->Prop)
|"rq"=>`(bootBuiltins x)
|"rr"=>`(x≠"__name__")
|"rt"=>`(binaryOp .Add)
|"ru"=>`(fun _ e=>nomatch e)
|"rv"=>`(bs.getD i false)
|"rx"=>`(kvs.any .oL)
|"ry"=>`(h1.symm.trans e)
|"rz"=>`(Array DictEntry)
|"s6"=>`(∀b o,b≠T->.gL)
|"s7"=>`(scope.names.filter fun x=>(x.2==.local||x.2==.cell)&&x.1 !=(".0":Str))
|"s8"=>`(F.ok sc j9 fun eQ A aY s H vs Q E hr h=>hb f eQ A aY s H vs Q E hr h)
|"s9"=>`(Dc P w K mg base dD ad.j_ "Token" 1 .uz (Wu ad))
|"sA"=>`(fun _ z=>(.eo))
|"sC"=>`(("tree",.eX))
|"sD"=>`(aD (ba dN))
|"sE"=>`(by obtain⟨_,h⟩:=h;cases ht:t.tok<;>rw[ht]at h<;>simp only[]at h<;>rw[h.1]<;>simp)
|"sF"=>`(runEnd t.mask .ox-.ox)
|"sG"=>`(runEnd t.mask (.qx)-.qx)
|"sH"=>`(order.filterMap (es[·]?))
|_=>throw .unsupportedSyntax
local macro_rules|`(.$x:ident)=>match toString x.getId with
|"sI"=>`(by rw[<-a0,kU,(pm.filterMap _).length_eq,filterMap_getElem?_range,a0])
|"sJ"=>`(.pC/\.iE/\∃vs,.fy/\h.DictOf .js a vs)
|"sL"=>`(∀b∈ch,.Eh/\.kc/\.Av)
|"sM"=>`(hs.2 b (bS (bW .hV (I.ok.cab x c hfn hc))))
|"sN"=>`((s.heap.push {cls:=.type "range",data:=.fields #[.int lo t,.int hi u,.int 1 v]}).objs.size)
|"sO"=>`(fD .zf hs rfl)
|"sP"=>`(JV CX P w K mg base N qual scope f eQ A aY s H E)
|"sQ"=>`((k₀==NameKind.free&&sc.kind==.function&&sc.names.lookup n==.e1)=true)
|"sR"=>`(X.vo s H scope (compEnvC scope cl C X.bA) fp)
|"sS"=>`(∀(s:Shared)(H:Hp)(C:Addr)(cl:.bD)(fp:.ao),PG .sR tg g)
|"sT"=>`(∀(s:Shared)(H:Hp)(C:Addr)(cl:.bD)(fp:.ao),PTs .sR ifs tt)
|"sU"=>`(∀(s:Shared)(H:Hp)(C:Addr)(cl:.bD)(fp:.ao),PE .sR elt te)
|"sV"=>`(fun H' p'=>.zg)
|"sW"=>`(∀(s:Shared)(us:.ar),.x3->BindsTo s fd .k7 .oa)
|"sX"=>`(wpAny .aQ A (setAttr .aR name v) Q E s)
|"sY"=>`((.h2).update x fun o=>{o with dict:=some s.heap.objs.size})
|"sZ"=>`(Obj.isFreed_of_fields (Obj.data_mapFields F3 _))
|"sa"=>`(l'[i]?=some b)
|"sb"=>`(lQ ad H' a pt)
|"sd"=>`(x.cU.length<8)
|"se"=>`(x.cU.length+1)
|"sf"=>`(ai (aq e nf0))
|"sg"=>`(Sk u (ak _ hu))
|"sh"=>`(ss.length<=12)
|"si"=>`(g.iD.take i)
|"sj"=>`((fm g).length)
|"sk"=>`(((0:Int):Rat))
|"sl"=>`((lD ws).map _)
|"sm"=>`(z.2.1.den_pos)
|"so"=>`(z.2.2.den_pos)
|"sp"=>`(some (.dK ck))
|"sq"=>`((.bR).take i)
|"sr"=>`(rN w sa ka)
|"su"=>`(rN w sb kb)
|"sv"=>`(rN w so ko)
|"sx"=>`(gT (j:=1) rfl)
|"sy"=>`(.error ⟨10,0⟩)
|"sz"=>`(fun _ _ _ z=>.eo)
|"t2"=>`(backTo pos (starEach es X.bA))
|"t4"=>`(⟨.int _,H,.bz,.aU,q⟩)
|_=>throw .unsupportedSyntax
local macro_rules|`(.$x:ident)=>match toString x.getId with
|"t5"=>`(fun ys hy=>by rw[I.xK hy hq];exact hx)
|"t6"=>`(∀i σ H,.iI->.fv->.bZ)
|"t7"=>`(fun us s1⟨vs,H1,I1,r,q⟩=>⟨I1.C9,? _⟩)
|"t8"=>`(.Call (.Attribute o m apos) .eA [] pos)
|"t9"=>`(.Call (.Attribute o m apos) [] [] pos)
|"tA"=>`(pH rfl (ff .tb (ff .wy mm)))
|"tB"=>`(⟨.bg,fun tp ntp=>? _⟩)
|"tC"=>`(aN (aN H4 tp (.fL [V.ref wa,V.ref a4])) D (.bJ (.cE++[V.ref tp])))
|"tD"=>`(Dn P w K mg base .hz "chosen_from" 4 ["lists"] (II ad))
|"tE"=>`(Dn P w K mg base .hz "drawn_from" 34 ["lists","chances"] (Ge K ad))
|"tF"=>`(aN H' fr (sJ (.Aa)))
|"tG"=>`(cB s.name++[(dF s.name d.g.er:Int),.xi])
|"tH"=>`(.bJ ((1::cB s.name).map V.int++.Ab))
|"tI"=>`(Dn P w K mg base dD "totals_of_policies" 34 .b5 (IX K ad))
|"tJ"=>`(Dn P w K mg base dD "those_of_total" 35 ["game","totals","total"] (Oa K ad))
|"tK"=>`(dG (km (bx gF .I bQ .cb)) (aD (ba (eU (af (dI T.mE) ao)))) bZ)
|"tL"=>`(⟨.sA,.sA,fun _ _ z=>(.eo),.sz⟩)
|"tM"=>`(eG .au T.jo qx .I bQ)
|"tN"=>`((r.takeWhile (·!=10)).length)
|"tO"=>`((.xQ).num*(.xR).num)
|"tP"=>`((.xQ).den*(.xR).den)
|"tQ"=>`(by unfold runEnd;rw[32])
|"tR"=>`(insertAt es (below t.place r) (h,x))
|"tS"=>`(fits_of_scanBound .C)
|"tT"=>`(by have:.rj:=rfl;omega)
|"tU"=>`(fun z=>absurd (hb.symm.trans z) .aD)
|"tV"=>`(some {cls:=.type "list",data:=.seq d7.toArray n})
|"tW"=>`(some {cls:=.none,data:=.fields ps})
|"tX"=>`(∃sl,.e0=some {o with slots:=sl})
|"tY"=>`(k b o (fun z=>hc (by simp[z])) e)
|"tZ"=>`(hs.2 b (.Ar))
|"ta"=>`(fun b o e=>by rw[ai .jn,.nU];exact e)
|"tb"=>`(cD (i:=5) sc.nd rfl .ai)
|"tc"=>`(Dn P w K mg base dD "greatest_divisor" 1 .cU ade)
|"td"=>`(Dn P w K mg base dD "common_multiple" 33 .cU adf)
|"te"=>`(Dn P w K mg base dD "plus" 34 .cU (N_ K))
|"tf"=>`(Dn P w K mg base dD "times" 34 .cU (Ob K))
|"tg"=>`(aN .uF v (sJ (.yY)))
|"th"=>`(H' dx=some (.xd (UI "code" "place" (.int f.code) (.int f.place)))->E (.ref ad.bO) (.d3) H')
|"ti"=>`(Dm P w K mg base .bj ad.bK "goes_on" 5 .rG (IJ ad))
|_=>throw .unsupportedSyntax
local macro_rules|`(.$x:ident)=>match toString x.getId with
|"tj"=>`(bx kW .I .a8 .cb)
|"tk"=>`(aD (dO (fC .au T.cu jb .I .a8 (af (dI T.Am) ao))))
|"tl"=>`(dO (mW bj b6 b7 iB .eW (af (bx lR .I .a8 (af .au (af (de sj .ak bH) ao))) ao)))
|"tm"=>`(.cH ad.cn dx (eP "station" wl ad.iE sl .dY pn ll pl 0 0 0 0))
|"tn"=>`(L2.aN H6 ll (.bJ (.lV)))
|"tp"=>`(L2.aN H7 pl (.bJ (.oY)))
|"tq"=>`(Dn P w K mg base dD "in_text_order" 1 .bT (DS K ad))
|"tr"=>`(m9 K ad H n b kind ways nQ bq name place labels lplaces)
|"ts"=>`((bD N).map .o6)
|"tu"=>`(Q .cR {s with heap:=h',toks:=tk})
|"tv"=>`(by first|rfl|rw[17]|(unfold JE;simp+decide [CH]))
|"tw"=>`(Dn P w K mg base dD "ends_under" 2 .mZ (N6 K ad))
|"tx"=>`(Dn P w K mg base dD "total_of" 3 .g5 (Oc K ad))
|"tz"=>`(bx iA .I bQ .fU)
|"u0"=>`(s1.trans .jd)
|"u1"=>`(aT.aN (o:=.fL [kV (.inl y.1),V.int y.2]) nT)
|"u2"=>`(fun z=>(max y.1 z.1,y.2*z.2))
|"u3"=>`(.fL [kV (.inl z.1),V.int z.2])
|"u4"=>`(iF (dC x.t wq++z))
|"u5"=>`(512<(.u4).length)
|"u6"=>`(aN H2 rp .BW)
|"u7"=>`(aN H' fr (sJ (mkRat (di i.D (n.sp x)) i.c)))
|"u9"=>`(Dn P w K mg base dD "listed" 1 ["worths"] (IM K))
|"uA"=>`(Dn P w K mg base dD "is_name" 1 ["token"] (yj ad))
|"uB"=>`(bP (i:=2) sc.nd rfl .ai wo)
|"uC"=>`(aD (ya (i:=2) sc.nd rfl .ai bH Ap))
|"uD"=>`(.str (Fk (tx l) (some (p:Int)) (some .eB)))
|"uE"=>`(dO (mW bj b6 b7 iB .ay .kT))
|"uF"=>`(aN H u (sJ (.yX)))
|"uG"=>`(xM _ (show("ahead":Str)≠"tokens"by decide) .aD)
|"uH"=>`(⟨l,t,tl,hR,fun a pt⟨d,e⟩rl=>? _⟩)
|"uI"=>`(NB.of fr Qm ha h1 h2 h3 h4 nn)
|"uJ"=>`(cM.of (by rw[aQ];exact g1))
|"uK"=>`([.str .dY,.dB])
|"uL"=>`(⟨CO.node s h.1,bF.same s h.2⟩)
|"uM"=>`(s.labels.map .mO)
|"uN"=>`(⟨m9.lB ha h.1,bF.lB ha h.2⟩)
|"uO"=>`(Dn P w K mg base dD "bytes_of" 1 ["signs"] DO)
|"uP"=>`(.fL [V.str (tx lt),V.str (tx rt)])
|"uQ"=>`(aH "add("++cO (.bc)++aH ", "++bg t.er++[41])
|_=>throw .unsupportedSyntax
local macro_rules|`(.$x:ident)=>match toString x.getId with
|"uR"=>`(fun i H' _ h=>h.2.seq (.kY))
|"uS"=>`(fun y=>(.kF,(n.wt y:Rat)/p))
|"uT"=>`(.Call (.Name "reversed" p2) [e] [] p3)
|"uU"=>`(! t.plain&&decide (es.size>1))
|"uV"=>`(ih nd.2 (fun y hy hn=>z y (ak _ hy) hn) h)
|"uW"=>`(["self","tree","added","chance"])
|"uX"=>`(.fL [V.ref kd.bB,V.ref ca])
|"uY"=>`(⟨m9.qH ha h.1,bF.qH ha h.2⟩)
|"uZ"=>`(.dK (dk (.ez)))
|"ua"=>`(JV CX P w K mg base N qual scope f cd A aY s H E)
|"ub"=>`(t {nx:=fun _ H'=>Q .jD H',rt:=Q} .r3 H)
|"uc"=>`(if v<0 then(v+.cN).toNat else min v.toNat n)
|"ud"=>`((backTo mQ (starEach es X.bA)).any .aX)
|"ue"=>`(d7.toArray.size+Aq.toArray.size)
|"uf"=>`(cellsFrom h.objs.size names acc)
|"ug"=>`(X.bA.scope.names.lookup y=.dS)
|"uh"=>`(by show 0<=sizeLine;decide)
|"ui"=>`(fun b o hb e=>(sb.2 b hb).trans e)
|"uj"=>`(kvs.map fun kv=>if kv.1=k then(kv.1,y)else kv)
|"uk"=>`((apos.endLine==pos.line)=true)
|"um"=>`(r.ret.enc (Codec.app r.args r.f a))
|"uo"=>`(gS x qual (pN st) (lA st) (aL st) .none kV doc pm an eQ ct)
|"uq"=>`(GG (Ak (bA::aY)) x T s.heap h')
|"ur"=>`(⟨.ref C,.d3,.fields vs,sl⟩)
|"uu"=>`(Inv X pins σ' H' {s' with heap:=h2})
|"uv"=>`(fun t z=>by cases z;exact⟨n1',f1⟩)
|"uw"=>`(.builtin "BaseException.__getattribute__")
|"ux"=>`(wB P w K mg base CX k f fd ps sp)
|"uy"=>`(UN Ce P w K mg base qual st N k sp)
|"uz"=>`(["self","kind","text","place"])
|"v3"=>`(["self","name","labels"])
|"v5"=>`(fun⟨_,_,_,_,z⟩=>.eo)
|"v7"=>`(xC (fun s:aM=>s.name==nm) ss)
|"v8"=>`(by rw[aa,aa];omega)
|"v9"=>`(fun i x y H' TT hx hy h nT=>? _)
|"vA"=>`(scope.names.lookup y.1)
|"vB"=>`(by simpa using hw)
|"vC"=>`(sliceBounds lo hi none n)
|"vD"=>`(s.heap.IsList l d7.toArray)
|"vE"=>`((cells.lookup n).getD 0)
|_=>throw .unsupportedSyntax
local macro_rules|`(.$x:ident)=>match toString x.getId with
|"vF"=>`(.inl ⟨aF _,hd H p⟩)
|"vG"=>`(∀H,Pv xs.length H->Qd H)
|"vH"=>`(H b=some (.fL (k.map kV)))
|"vI"=>`(YY.get? s.heap.objs.size)
|"vJ"=>`([(ps,.dE),(pa,c),(pb,p)])
|"vK"=>`(CU s.heap C x dx .jt fl)
|"vL"=>`(X.A.frames=some (.p0))
|"vM"=>`(eZ C8 .au .ak .a5)
|"vN"=>`(bT iH rfl T.gU fg .a9)
|"vO"=>`(j0+Wm.lH false (S.drop j0))
|"vP"=>`(show("/":Str)=tx [47]from rfl)
|"vQ"=>`(by rw[aA];exact d1)
|"vR"=>`(show 4<1000 by decide)
|"vS"=>`(show 5<1000 by decide)
|"vT"=>`(by rw[yQ];decide)
|"vU"=>`(by unfold fA;rw[.bP])
|"vV"=>`(aN (aN H dx (.own r)) r .oS)
|"vW"=>`(bT cC rfl T.gU fg .dk)
|"vX"=>`(some (.bJ (done.map V.ref)))
|"vY"=>`(.inl ⟨rfl,_,cM.of F6⟩)
|"vZ"=>`(.inl ⟨rfl,_,cM.of hf1⟩)
|"va"=>`(fun r nr=>q _ r .u0 ? _)
|"vb"=>`(.bJ ([V.int 1]++(cB s.name).map V.int))
|"vc"=>`(wR (bG d.ss p) 0 d.g)
|"vd"=>`((kX (bG d.ss p) 0 d.g).length)
|"ve"=>`(mkRat m (d.u*d.pp))
|"vf"=>`((iq d.ss j).map .kJ)
|"vg"=>`(⟨m9.vn h hp hu t.1,bF.vn h hp hu t.2⟩)
|"vh"=>`(fun b=>by cases hc<;>(rw[11]))
|"vi"=>`(by cases hc<;>constructor)
|"vj"=>`(aN H1 lp .Cd)
|"vk"=>`(.lu od (o6 (cY done)))
|"vl"=>`(aN Hc TL .vk)
|"vm"=>`(by unfold NAME at hw;omega)
|"vn"=>`((x::r).takeWhile isDigit)
|"vo"=>`(⟨rfl,rfl,rfl,_,rfl⟩)
|"vp"=>`(by rw[ag,cF];omega)
|"vq"=>`(i<xs.size->j<=.kN)
|"vr"=>`(by simpa using hi)
|"vs"=>`(∀f,t9 (fs.lookup f) (mA f))
|_=>throw .unsupportedSyntax
local macro_rules|`(.$x:ident)=>match toString x.getId with
|"vt"=>`(e=x\/H e=some .ft)
|"vu"=>`(.Compare a [op] [b] pos)
|"vv"=>`(h pins s σ H _ I hw)
|"vw"=>`(hb pins s1 σ H1 Q I1 q1)
|"vx"=>`(bC _ (bC _ (vA hb e)))
|"vy"=>`(hb pins s1 σ H1 _ I1 q1)
|"vz"=>`(.ref s1.heap.objs.size)
|"w0"=>`(ys.length<=sizeLine)
|"w1"=>`(by rw[<-Qa];rfl)
|"w2"=>`(Calls.spliced_nil ? _)
|"w3"=>`((d==sysModules)=false)
|"w4"=>`(⟨_,hT2,rfl,_,rfl⟩)
|"w5"=>`(.type "BaseException")
|"w6"=>`(CU s.heap C x dx T fl)
|"w7"=>`(X.wx.heap.get? x=none)
|"w8"=>`(X.wx.heap.get? a=none)
|"w9"=>`(.builtin "sorted")
|"wA"=>`(.fL [V.ref d,V.ref cc])
|"wB"=>`(fun s hs=>(MY s hs).2.1)
|"wC"=>`(["game","choices","others"])
|"wD"=>`(bG d.ss (iq d.ss k))
|"wF"=>`((bD (.cc)).map (lX d))
|"wG"=>`(H1 b=none/\H2 b≠none)
|"wH"=>`(.cH ad.dh xd [])
|"wI"=>`(⟨σ1,H1,J.mV I.ok,q⟩)
|"wJ"=>`(l.length=l'.length+1)
|"wK"=>`(⟨p,.name b⟩::l)
|"wL"=>`(by rw[aw];omega)
|"wM"=>`(by rw[hs];exact o)
|"wN"=>`(∃u,h'.get? e=.aP)
|"wO"=>`(tG X.prog X.w H' h')
|"wQ"=>`(X.wx.heap.get? b=.ah)
|"wR"=>`(o.cls=.type "tuple")
|"wU"=>`(by simpa using hs)
|"wV"=>`(by rw[fG];simp)
|"wW"=>`(Sy s.heap x dx C mA)
|"wX"=>`(jU C s.heap.objs.size)
|"wY"=>`(.Attribute e f pos)
|"wZ"=>`(HT.qG xs.length 0 lo)
|"wa"=>`(.fL [V.int nv,V.ref sa])
|_=>throw .unsupportedSyntax
local macro_rules|`(.$x:ident)=>match toString x.getId with
|"wb"=>`(aH "pick("++bg ws.er++[41])
|"wc"=>`(fun f eQ A aY s H vs Q E hr Ft=>? _)
|"wd"=>`(if z.1=x then z.2 else 0)
|"we"=>`(if j=1 then g.bq.sum else 1)
|"wg"=>`(qU n t::r.df.map (qU n))
|"wh"=>`(bD s.labels.length)
|"wi"=>`(.kO->At t i slot)
|"wj"=>`(by rw[g1,aQ];rfl)
|"wk"=>`(done.map fun d=>V.ref d.1)
|"wm"=>`((u:Int)/(z.2.1.den:Int))
|"wo"=>`((pp:Int)/(z.2.2.den:Int))
|"wq"=>`(hz5 y (hL.mem_iff.mpr hy))
|"wt"=>`(cb gH .aG (fF T.ui) .aB)
|"wu"=>`((z3 c t).reverse++pend)
|"wx"=>`(by rw[ah,aG];rfl)
|"wy"=>`(cD (i:=6) sc.nd rfl .ai)
|"wz"=>`(fun k=>V.int (WE k.2 k.1:Nat))
|"x1"=>`(assignEach es X.bA)
|"x2"=>`(∀xs,.bZ->.e8)
|"x3"=>`(us.length=ps.length)
|"x4"=>`(z.length<=sizeLine)
|"x5"=>`(.builtin "min")
|"x6"=>`(by simpa using hk)
|"x7"=>`(f9 cells names acc)
|"x8"=>`(⟨xs,xs[i],q,by simp[jc]⟩)
|"x9"=>`(kvs.length<sizeLine)
|"xA"=>`(⟨_,_,_,_,_,rfl⟩)
|"xB"=>`(.fL [V.int i,V.ref d])
|"xC"=>`((.j4).take .aH)
|"xD"=>`(g.fe.reverse.take i)
|"xE"=>`(⟨[],(bM _).symm⟩)
|"xF"=>`(ND d.ss p 0 ok.fix.ok)
|"xG"=>`(cM.Eb L.obj L.calls)
|"xH"=>`(aN H8 cx (.own cp))
|"xI"=>`([(1:Int),2,7,8,9,10].contains call=true)
|"xJ"=>`(aN H dx (.own lp))
|"xK"=>`(eZ gr .cm bH .a5)
|"xM"=>`(("stations",V.ref SL))
|"xN"=>`(48<=c/\c<=57)
|"xO"=>`(⟨rfl,rfl,rfl⟩)
|_=>throw .unsupportedSyntax
local macro_rules|`(.$x:ident)=>match toString x.getId with
|"xP"=>`(fun y:UInt8=>y !=10)
|"xQ"=>`(mkRat f.num g.den)
|"xR"=>`(mkRat g.num f.den)
|"xS"=>`(Own mask owner pos)
|"xT"=>`(by simpa using hl)
|"xU"=>`(decide_eq_true hk)
|"xV"=>`(decide_eq_false hk)
|"xW"=>`(decide_eq_false e)
|"xX"=>`(Paired G l₁ l₂)
|"xY"=>`(X.base.get? b=.ah)
|"xZ"=>`(TP X pins σ Q)
|"xa"=>`(by rw[bX];omega)
|"xb"=>`(((a/kE a b:Nat):Int))
|"xc"=>`(x1.trans (x2.trans x3))
|"xe"=>`(by rw[ai (ne h.ways)];exact h.ways)
|"xf"=>`(fun u hu=>h u (ak _ hu))
|"xg"=>`(before.contains l=true)
|"xh"=>`(GT.station a p nm bs)
|"xi"=>`((s.labels.length:Int))
|"xj"=>`(GT.branch p2 l2 t2 r2)
|"xk"=>`(of_decide_eq_false e)
|"xl"=>`(OW c 0 ws/ws.bq.sum)
|"xm"=>`(w*OW c 0 t+OW c 0 r)
|"xn"=>`(fun y=>(y.1*u,y.2*p))
|"xo"=>`(max (qU n t) (qU n r))
|"xp"=>`(cV ss p 0 (fV t.er))
|"xq"=>`(s.TypeIs .bY "set")
|"xr"=>`(rest.map .rM)
|"xt"=>`(k5 _ _ ho (s4 _ _ e))
|"xu"=>`((bs.df[c n]?).toList)
|"xv"=>`(["courses","total"])
|"xw"=>`(["courses","weight"])
|"xx"=>`(ks.reverse.take .aH)
|"xy"=>`((xs.map (·.B)).sum)
|"y0"=>`(mH.aN (.inl .mL))
|"y1"=>`(Dj (fP np0 Qm))
|"y2"=>`(Dj (fP e1 hrc))
|"y3"=>`(fun i σ H' _ h=>? _)
|"y4"=>`(PE _ _ (yl K _ _))
|"y5"=>`(fun c:Nat=>V.int c)
|_=>throw .unsupportedSyntax
local macro_rules|`(.$x:ident)=>match toString x.getId with
|"y6"=>`(match l.drop (.i4)with|[]=>.ok [⟨.stop,[],p+.i4⟩]|c::r=>match wz (c::r)with|none=>.error (p+.i4)|some (k,t)=>(toks n (p+.i4+t.length) ((c::r).drop t.length)).map fun ts=>⟨k,t,p+.i4⟩::ts)
|"y7"=>`(wpAny_bind (wpAny_holding (Zn (s:={s with heap:=h'}) Xr S' .C fun h2 Z7 ep2 t2 sb2 Y1 S2=>? _)))
|"y8"=>`(fun m' hm=>by obtain⟨o',jL,vw,Qj,r'⟩:=hm;rw[ho]at Qj;cases Qj;exact⟨_,jL,vw,hL,r'⟩)
|"y9"=>`(by obtain⟨h1,e1⟩:=ay.mp a;obtain⟨h2,e2⟩:=ay.mp b;exact(ae6 hN).mp (e1.trans e2.symm))
|"yA"=>`(.inr ⟨y,h,rfl⟩)
|"yB"=>`(fun y=>(y.1,y.2*w))
|"yC"=>`(jJ c 0 ws a (.iX))
|"yD"=>`(x.length*y.length)
|"yE"=>`(k %s.labels.length)
|"yF"=>`(aN H1 v (VwO v d))
|"yG"=>`(below t.place slot)
|"yH"=>`(vk t a q++vk r a q)
|"yI"=>`(fun w=>w/ws.bq.sum)
|"yJ"=>`((HO.cH.inj z).2.2)
|"yK"=>`(g.bN.length<=4097)
|"yL"=>`(dW .au sv rfl)
|"yM"=>`(G0 c (g:=g) (k:=0))
|"yN"=>`((d.ss.length:Int))
|"yO"=>`(s3 _ _ (s2 _ _ e1))
|"yP"=>`(fun H3 r3 s3 n3 e3=>? _)
|"yQ"=>`((bD N).map (lX d))
|"yR"=>`(⟨kn,ps,dn,rm⟩)
|"yS"=>`(cM.of (s1 _ _ tZ))
|"yT"=>`((if _ then _ else _)=_)
|"yU"=>`(hd mask i p (m+1))
|"yV"=>`(∀c∈l,c<128)
|"yW"=>`(fun _ _ _ _ _=>.tb)
|"yX"=>`(mkRat x.num y.den)
|"yY"=>`(mkRat y.num x.den)
|"yZ"=>`(["self","tokens"])
|"ya"=>`(List (Option Expr))
|"yb"=>`(nW kvs p.1 p.2)
|"yc"=>`(fun _ _ z=>nomatch z)
|"yd"=>`(I1.fb.fresh hle)
|"ye"=>`(s1.heap.objs.size+4)
|"yf"=>`(tP K s₁.heap A b)
|"yg"=>`(.Pass ⟨0,0,0,0⟩)
|"yh"=>`(YS K x qual st f fd)
|"yi"=>`(s.heap.get? T'=none)
|"yj"=>`(fun h1 T1 k1 n1 a1=>? _)
|_=>throw .unsupportedSyntax
local macro_rules|`(.$x:ident)=>match toString x.getId with
|"yk"=>`(Ab X.K C N fI na nb)
|"yl"=>`(CT K mg C x qual st)
|"ym"=>`(by unfold tx;simp)
|"yn"=>`(dW .au .bq rfl)
|"yo"=>`(["self","allowed"])
|"yp"=>`(⟨l,t,tl,hR,? _⟩)
|"yq"=>`(.cH ad.cn dx [])
|"yr"=>`([wl,sl,ll,pl].Nodup)
|"ys"=>`(by rw[ai (ne h.AG)];exact h.AG)
|"yt"=>`(by rw[ai (ne h.nV)];exact h.nV)
|"yu"=>`(by rw[ai (ne h.tT)];exact h.tT)
|"yv"=>`(g.fe.flatMap GT.bN)
|"yw"=>`(l.length=l'.length)
|"yx"=>`(Ig rfl T.Pe .fU)
|"yy"=>`(fun t=>V.str (tx t))
|"yz"=>`(⟨z,ak _ hz,e⟩)
|"z0"=>`(fun z=>h8 (by have:=L.j9;have:=z.2;rw[show Fj=8 from rfl]at this;rw[decide_eq_true_eq,Nc];omega))
|"z1"=>`(eG .au T.cu kN .I .a8)
|"z2"=>`(dO (fC .ak T.cu cQ .I .a8 (af dN ao)))
|"z3"=>`(Bz [] (bs.labels.zip bs.lplaces)>>=fun _=>HS ss nm bs.labels p>>=fun i=>.ok (if i=ss.length then ss++[.kz]else ss))
|"z4"=>`((.Dz).update s.heap.objs.size .Gp)
|"z5"=>`(⟨_,g1,.gY,? _,.Gh⟩)
|"z6"=>`(dW .au (bx lx .I bQ (af .aG (af .xK ao))) rfl)
|"z7"=>`(dW .cm (de gI .xK (de .jM .aG .xK)) rfl)
|"z8"=>`(iL (bx vt .I bQ .il))
|"z9"=>`(by rcases t with(t|⟨ob,t⟩)|t;{exact .inl (.inl (h _ _ (cv t ha .aw) t))};{exact .inl (.inr ⟨ob,h _ _ (cv t ha .aw) t⟩)};{exact .inr t})
|"zA"=>`(PS X (.Assign [.Name y py] .jJ Od) (Jd (tLc wi g tt te .eU) (gy i)))
|"zB"=>`(Pv i H->g x (.d4) H .lI)
|"zC"=>`(.pC/\.iE/\∃xs,.oc/\h.DictOfH (.qB) a xs)
|"zD"=>`(hk c o .lL .lL .lL .lL q)
|"zE"=>`(fun x xs H Q=>∃a p,∃ys:.a0,.gB/\xs=[.bO]/\(cM X.K H p (ys.map V.str)\/ig X.K H p (ys.map V.str))/\(ys.map (·.length)).sum+ys.length*a.length<=16777216/\Q (.str (Txt.join a ys)) H)
|"zF"=>`(((z.cps.toList.drop (.fQ)).take (.pT-.fQ)).toArray)
|"zG"=>`(Builtin.Str.strSliceIndices (.ho) (u.map .aX) 1 z.length)
|"zH"=>`(((1:Int)==1&&(.zG).length==z.length)=true)
|"zI"=>`(.AV->sp vs H Q E->∃t,Mm (JV dD P w K mg base N qual (aL st) f eQ A aY s H E).nox (lA st) t/\.ub)
|"zJ"=>`(∀(kV doc pm:Value)(an:.bE)(eQ ct:Value)(us:.ar),.x3->bindArgs .uo .k7=pure .oa)
|"zK"=>`(by rcases h with(h|⟨o,h⟩)|h;{exact .inl (.inl (e _ _ h))};{exact .inl (.inr ⟨o,e _ _ h⟩)};rw[29])
|"zL"=>`(by rw[112];unfold zC;rw[lC];exact⟨_,rfl,rfl,rfl⟩)
|"zM"=>`(by rw[76];refine looks_mroIn KX ? _;unfold aeb;rw[e1,u_,e3,h];rfl)
|"zN"=>`(envOfC qual scope s0.heap.objs.size f cd)
|_=>throw .unsupportedSyntax
local macro_rules|`(.$x:ident)=>match toString x.getId with
|"zO"=>`(∀(xe:.ax)(pn:.aA)(E:XK),Gv (X.under xe pn) C E->Mm (X.under xe pn) body (tb E))
|"zP"=>`(fun{h2 h3 fl}J a k=>J.Mj (x:=y) (T:=some T1) ⟨fun b o e _ _ hb=>k b o (fun z=>hb .rD) e,fun b o e hb=>⟨o.slots,k b o (fun z=>by obtain⟨_,o2,e2,d2⟩:=J.stack.mem hb;obtain⟨o3,vs3,e3,d3⟩:=a.data.2 T1 rfl;rw[z]at e2;have e3':h2.get? T1=some o3:=e3;have e2':h2.get? T1=some o2:=e2;rw[e3']at e2';cases e2';exact d2 vs3 d3) e⟩⟩ n0 fx .uv p1 a.data.1 a.data.2)
|"zQ"=>`(∀(s:Shared)(H:Hp)(C:Addr)(cl:.bD)(fp:.ao)(xe:.ax),PG {X.vo s H scope (compEnvC scope cl C X.bA) fp with xe:=xe} tg g)
|"zR"=>`(∀(s:Shared)(H:Hp)(C:Addr)(cl:.bD)(fp:.ao)(xe:.ax),PTs {X.vo s H scope (compEnvC scope cl C X.bA) fp with xe:=xe} ifs tt)
|"zS"=>`(∀(s:Shared)(H:Hp)(C:Addr)(cl:.bD)(fp:.ao)(xe:.ax),m_ (j3 X.prog X.w CC) {X.vo s H scope (compEnvC scope cl C X.bA) fp with xe:=xe} E->PE {X.vo s H scope (compEnvC scope cl C X.bA) fp with xe:=xe} elt te)
|"zT"=>`(aj (yT .au bH M_) (aD (ba (eZ j' .aG (de Dv .aG bH) .a5))))
|"zU"=>`(match fA k tl with|.ok lI=>∀(H':Hp)(a:Addr)(pt:Wm.PT),.cY->.gi->lI≠[]->.sb->pt.place=nN tl->.jv|.error f=>.fl)
|"zV"=>`(fC .au T.cu cQ .I .a8 (af dN ao))
|"zW"=>`(eG .au T.cu pU .I .a8)
|"zX"=>`(by induction x with|way t w r _ ih=>show Si _ _ _=_;rw[ih];rfl|branch p l t r _ ih=>show Ms _ _ _ _=_;rw[ih];rfl|_=>rfl)
|"zY"=>`(by induction x with|branch p l t r _ ih=>show _::_=_;rw[.gD];rfl|nil=>rfl|_=>rw[0])
|"zZ"=>`(aD (bP (i:=4) sc.nd rfl .ai (fC .au T.cu pA .I .a8 (af .qa ao))))
|"za"=>`(by(have e1:(op==CmpOp.In)=false:=by cases op<;>first|rfl|exact .kW);(have e2:(op==CmpOp.NotIn)=false:=by cases op<;>first|rfl|exact absurd rfl h2);cases b<;>simp[behindInMarks,e1,e2])
|"zb"=>`(by cases x with|jD=>cases r;rfl|bl _=>cases r;rfl|int _=>rw[23];rfl|str _=>rw[23];rfl|rC _=>rw[23];rfl|flt _=>rw[23];rfl|ref _=>cases r;rfl|ty _=>cases r;rfl)
|"zc"=>`(⟨ok.ET,ok.kind,ok.C7,ok.blt,ok.above,ok.inj,ok.has,ok.cab,ok.hd,ok.frames,ok.stk,ok.exf,ok.bs,ok.W7,ok.sh,ok.MP,ok.Al,ok.frf⟩)
|"zd"=>`(["enumerate","zip","dict_itemiterator","dict_reverseitemiterator","odict_iterator","itertools.zip_longest","itertools.pairwise"].contains n)
|"ze"=>`(fun i h st b hb=>by rw[73];obtain⟨o,e,c,d⟩:=st;exact .CQ)
|"zf"=>`(iu .rh fun us s1⟨vs,H1,I1,r1,q1⟩=>? _)
|"zg"=>`(⟨xs.length-.aH,.o,rfl,jc,p'⟩)
|"zh"=>`(wpAny .av X.A (f (.int i t) (.int j u)) Q E s)
|"zi"=>`(Q (.int .gH s.toks) {s with toks:=s.toks+1}->.zh)
|"zj"=>`(iu .vy fun u s2⟨y,H2,I2,r2,q2⟩=>iu .CB fun d s3⟨z,H3,I3,r3,k,e,q3⟩=>? _)
|"zk"=>`(iu (h pos pins s σ H _ I hq) fun us s1⟨xs,H1,I1,r,z,q⟩=>⟨by rw[<-r.length];exact z,? _⟩)
|"zl"=>`(eval .t8 X.bA=(do let ov<-eval o X.bA;standAt apos.atName;let(f,first)<-holding [ov] (getMethod ov m pl);callWith pos f first (backTo pos (starEach (e::es) X.bA)) (backToKw pos (keywordEach [] X.bA))))
|"zm"=>`(eval .t9 X.bA=(do let ov<-eval o X.bA;standAt apos.atName;let(f,first)<-holding [ov] (getMethod ov m pl);callWith pos f first (backTo pos (starEach [] X.bA)) (backToKw pos (keywordEach [] X.bA))))
|"zo"=>`(iu .rh fun us s1⟨vs,H1,I1,r1,q1⟩=>hc pins s1 σ H1 vs us Q I1 r1 q1)
|"zp"=>`(∀(pins:.aA)(s:Shared)(σ:St)(H:Hp)(x:V)(xs:.aj)(v:Value)(us:.ar)(Q:VK),.aa->e_ x v->.d2->r x xs H Q->wpAny .av X.A (call .iK (v::us)) .dz X.xe s)
|"zq"=>`(cellsFrom .dg scope.names (.qK))
|"zr"=>`(compEnvC scope (.zq) s.heap.objs.size X.bA)
|"zt"=>`(fun σ2 H2=>fU σ2 vs=.d4/\tt σ2 H2 fun b H3=>if b=true then te σ2 H3 fun y H4=>∃acc,H4 D=some (.bJ acc)/\acc.length<sizeLine/\Nx (aN H4 D (.bJ (acc++[y])))else Nx H3)
|"zu"=>`(wpAny .av X.A (comprehension .jJ scope X.bA pos' (newList []) false (eval iter X.bA) use) Qf X.xe s)
|"zv"=>`(.compStart .jJ 0 .i5 .dW (.oK))
|"zw"=>`(fun{σ' H' s'}I' hn b hb=>⟨hn b hb,(I'.ok.exf b hb).1,I'.ok.MP b hb,.inl hb,fun x c e=>(I'.ok.exf b hb).2 x c e,fun p hp=>.CK⟩)
|"zx"=>`(I3.U' (ch:=fp) I6.os I6.base I6.fb I6.lG fun b hb=>⟨(f3 b hb).1.2.2.2.1,(f3 b hb).1.2.1,(f3 b hb).1.2.2.2.2.1,(f3 b hb).1.2.2.2.2.2⟩)
|"zy"=>`(fun{s' H'}I' nx=>by obtain⟨m',hm,w'⟩:=hNx H' nx;have acd:∀b∈fp,∀o,s7.heap.get? b=.ah->.rk=.ah/\.jk:=fun b hb o e=>let z:=I'.AY (b,o) .vx;⟨z.1,z.2.1⟩;(have hl:(fU σ .eU).length=σ8.length:=by rw[<-hw8,tE]);refine⟨m',hm,i+1,H',(I'.yn (pins:=[])).aw4 hl (fun j v e=>? _),T.keep _ _ _ st7 fun b hb o e=>(acd b hb o e).1,.cG,w'⟩;{rw[<-hw8]at e;exact(za e).1};{obtain⟨o,e,_⟩:=T.obj _ _ st7 b hb;exact(acd b hb o e).2})
|"zz"=>`(swapsWith .jJ (some (.Name y py)) Od.line X.bA=pure true)
|_=>throw .unsupportedSyntax
local macro_rules|`(tactic|rw[$n:num])=>match n.getNat with
|0=>`(tactic|exact h.elim)
|1=>`(tactic|ktd_call vc [])
|2=>`(tactic|rintro rfl)
|3=>`(tactic|intro pins s σ H Q I h)
|4=>`(tactic|split at h)
|5=>`(tactic|exact this)
|6=>`(tactic|rw[decide_eq_true_eq]at h1)
|7=>`(tactic|obtain⟨t,rfl⟩:=rx)
|8=>`(tactic|obtain⟨t',rfl⟩:=ry)
|9=>`(tactic|dsimp only)
|10=>`(tactic|(rw[4];{cases h}))
|11=>`(tactic|(intro z;cases z))
|12=>`(tactic|constructor)
|13=>`(tactic|exact aF _)
|14=>`(tactic|intro pins s σ H D I h)
|15=>`(tactic|obtain⟨g1,g2⟩:=h)
|16=>`(tactic|refine .r2)
|17=>`(tactic|decide+kernel)
|18=>`(tactic|(intro X hP hw hK hc i pins s σ H E I hf st hg;subst hP hw hK))
|19=>`(tactic|rcases aJ.mp hu with rfl|hu)
|20=>`(tactic|simp only[]at q)
|21=>`(tactic|simp only[]at h)
|22=>`(tactic|exact Heap.lt_size e)
|23=>`(tactic|obtain⟨t,rfl⟩:=r)
|24=>`(tactic|rw[decide_eq_true_eq]at h2)
|25=>`(tactic|refine⟨TT,_,rfl,ig.of ah,rfl,? _⟩)
|26=>`(tactic|exact⟨_,e⟩)
|27=>`(tactic|intro pins s σ H x y v u Q I rx ry h)
|28=>`(tactic|refine .lP)
|29=>`(tactic|·exact .inr h)
|30=>`(tactic|(rw[e]at h;cases h))
|31=>`(tactic|intro pins s σ H vs us Q I r h)
|32=>`(tactic|split<;>omega)
|33=>`(tactic|exact hk.elim)
|34=>`(tactic|obtain⟨f0,f1,f2,f3,f4,f5⟩:=hf it .aC)
|35=>`(tactic|rw[ai (aq e nD)])
|36=>`(tactic|simp only[]at eq)
|37=>`(tactic|exact absurd rfl hn)
|38=>`(tactic|rcases aJ.mp hy with rfl|hy)
|39=>`(tactic|(subst ex;obtain rfl:u=.f5:=rx))
|_=>throw .unsupportedSyntax
local macro_rules|`(tactic|rw[$n:num])=>match n.getNat with
|40=>`(tactic|·obtain⟨gp,d,ck,kk,rfl,_⟩:=h;rfl)
|41=>`(tactic|(intro u hu;cases hu))
|42=>`(tactic|split<;>grind)
|43=>`(tactic|by_cases hr:r=.nil)
|44=>`(tactic|obtain rfl:=aB h)
|45=>`(tactic|obtain⟨p,k⟩:=t)
|46=>`(tactic|obtain⟨dx,as,ts,i,h1,h2,h3,h4,h5⟩:=h)
|47=>`(tactic|rcases aW.mp hu with hu|hu)
|48=>`(tactic|rcases aW.mp hy with hy|hy)
|49=>`(tactic|(rw[aQ,aQ];refine bY .hO))
|50=>`(tactic|obtain⟨gp,d,ck,kk,rfl,ok,G,q⟩:=h)
|51=>`(tactic|refine⟨.bg,fun p np=>q _ p (aT.aN np) ? _⟩)
|52=>`(tactic|obtain⟨rfl,rfl⟩:=hG (aB h))
|53=>`(tactic|rw[sizeLine_eq])
|54=>`(tactic|(rw[ah]at e;cases e))
|55=>`(tactic|(have eq:W=.error f:=eq;rw[eq]at q))
|56=>`(tactic|(show _::_=_::_;rw[ih]))
|57=>`(tactic|intro j m k a q h ha hq y hy)
|58=>`(tactic|intro pins s σ H R I h)
|59=>`(tactic|obtain⟨_,_,_,_,o,_,_,e,_⟩:=x)
|60=>`(tactic|have sh:∀b:Addr,b∉X.ex:=fun b z=>by rw[hex]at z;cases z)
|61=>`(tactic|((·subst hb;rw[54]);{rw[ai hb]at e;exact e}))
|62=>`(tactic|·obtain⟨r,l,tl,rfl,_⟩:=h;rfl)
|63=>`(tactic|obtain⟨r,l,tl,rfl,hR,hn,q⟩:=h)
|64=>`(tactic|·obtain⟨r,l,tl,o,rfl,_,⟨z,_⟩,_⟩:=h;exact absurd z .aD)
|65=>`(tactic|(rw[.aE,.aE,.aE,.aE];exact jD q))
|66=>`(tactic|intro j a q t' h an e y hy)
|67=>`(tactic|have G1:=G.same s1)
|68=>`(tactic|simpa using this)
|69=>`(tactic|(cases h;simp only[JJ,JI];omega))
|70=>`(tactic|(cases h;simp only[nodesOf];omega))
|71=>`(tactic|obtain⟨sl,e1⟩:=I.base.slot b o e n hb hx)
|72=>`(tactic|obtain⟨o',e1⟩:=I.base.there b o e hx)
|73=>`(tactic|(have e:b=it:=.eb;subst e))
|74=>`(tactic|first|exact .fu|exact .inr rfl|assumption)
|75=>`(tactic|obtain⟨z,hd,vs,zV,dd⟩:=Er I.fb e)
|76=>`(tactic|obtain⟨cd,e1,e2,e3⟩:=XC.cls)
|77=>`(tactic|·obtain⟨l,p,rfl,_⟩:=h;rfl)
|78=>`(tactic|obtain⟨rx,ri,Qm⟩:=hR.rd)
|79=>`(tactic|obtain rfl:i=xs.length:=.o)
|_=>throw .unsupportedSyntax
local macro_rules|`(tactic|rw[$n:num])=>match n.getNat with
|80=>`(tactic|·obtain⟨n,g,rfl,_⟩:=h;rfl)
|81=>`(tactic|obtain⟨z,hz,rfl⟩:=aX.mp hy)
|82=>`(tactic|by_cases jc:i<xs.length)
|83=>`(tactic|·rw[z];exact iT _ _)
|84=>`(tactic|rw[Bk,xk,oH]at h2)
|85=>`(tactic|obtain⟨dx,i,h1⟩:=hR.rd)
|86=>`(tactic|simp only[bind,l8]at q)
|87=>`(tactic|(rw[Fu]at hx;cases hx))
|88=>`(tactic|(rw[Sl]at hy;cases hy))
|89=>`(tactic|rcases aJ.mp hv with rfl|hv)
|90=>`(tactic|rcases aW.mp hx with hx|hx)
|91=>`(tactic|intro pins s σ H xs us Q I r h)
|92=>`(tactic|rcases h with h|h)
|93=>`(tactic|(obtain⟨l4,h4,h⟩:=cy h;obtain⟨⟨r,l5⟩,h5,h⟩:=cy h;have e4:=eJ h4))
|94=>`(tactic|rw[show d7.toArray.any (OR x)=d7.any (OR x)by simp,Ba r fs])
|95=>`(tactic|rcases g with⟨kvs,k,e,ey,l⟩|⟨kvs,k,b,e,ey,eb,l⟩)
|96=>`(tactic|(subst ey;cases(show u=Value.ref b from ry);obtain⟨z,hd,xs,zV,dd⟩:=GX I.fb e))
|97=>`(tactic|obtain⟨oc,od,kV,doc,pm,an,eQ,ct,LN,rfl,lk,Vy⟩:=F.ex)
|98=>`(tactic|·obtain⟨r,l,tl,o,rfl,_⟩:=h;rfl)
|99=>`(tactic|(have n:=h.nd;simp only[cI,aJ,mG,or_false,not_or,not_false_eq_true,iZ,and_true]at n))
|100=>`(tactic|·obtain⟨n,g,rfl,_,_,z,_⟩:=h;omega)
|101=>`(tactic|obtain⟨h1,⟨sl,h2,h3⟩,h4⟩:=x)
|102=>`(tactic|obtain⟨gp,d,ck,kk,h1,h2,h3,h4,h5,h6,h7,h8⟩:=h)
|103=>`(tactic|(rw[hg]at fh hs;have hs:dZ st _=(st,pT y.1 y.2 _):=hs;obtain⟨gp,d,ck,kk,g1,g2,g3,g4,g5,g6,g7,g8⟩:=fh;rw[if_neg (by rw[g1];exact fun z=>absurd (of_decide_eq_true z) .aw)]))
|104=>`(tactic|(obtain⟨l4,h4,h⟩:=cy h;have e4:=eJ h4;cases h))
|105=>`(tactic|rcases aJ.mp hb with rfl|hb)
|106=>`(tactic|(rw[127];rw[9];refine wpAny_bind (rB ? _)))
|107=>`(tactic|obtain⟨m,hn,hl⟩:=I.CL)
|108=>`(tactic|(obtain⟨e,y⟩:=y;subst e))
|109=>`(tactic|obtain⟨t,rfl⟩:=r1)
|110=>`(tactic|obtain⟨z,d7,n,r,hl,e⟩:=I.Tw hH)
|111=>`(tactic|rintro i m H⟨rfl,hi,p⟩)
|112=>`(tactic|obtain⟨nm,q,bs,sn,sub,ab,col,dd,k0,k1,k2,k3,k5,lC⟩:=XC.obj)
|113=>`(tactic|obtain⟨f,fd,F,hm⟩:=S)
|114=>`(tactic|rw[decide_eq_true_eq,bX]at h1)
|115=>`(tactic|have zj:as.length=ss.length:=hP.length)
|116=>`(tactic|((·exact h);{exact ih h.2 u hu}))
|117=>`(tactic|obtain⟨u,hu,rfl⟩:=aX.mp ht)
|118=>`(tactic|rcases h with(h|⟨ob,h⟩)|h)
|119=>`(tactic|obtain⟨x,hx,rfl⟩:=gB hv)
|_=>throw .unsupportedSyntax
local macro_rules|`(tactic|rw[$n:num])=>match n.getNat with
|120=>`(tactic|rcases aJ.mp h with rfl|h)
|121=>`(tactic|rcases aJ.mp h with e|h)
|122=>`(tactic|obtain⟨h1,h2⟩:=h)
|123=>`(tactic|rcases aW.mp hz with hz|hz)
|124=>`(tactic|(rw[hg]at fh hs;have fh:g=.jD:=fh;rw[if_pos (by rw[fh];rfl)];refine⟨.bg,fun r nr=>Rz Y3 q o2 l2 .jd ? _⟩;rw[ah,hs];rfl))
|125=>`(tactic|simp only[gM,hx]at h')
|126=>`(tactic|(simp only[aw,cg];omega))
|127=>`(tactic|refine wpAny_bind (wpAny_setState_of ho rfl S.tok.fits ? _))
|128=>`(tactic|have neL:∀b o,.wQ->.kc:=fun b o e=>.Ar)
|129=>`(tactic|(obtain⟨σ',H',I,q⟩:=h;exact⟨σ',H',I.yo,q⟩))
|130=>`(tactic|(subst e1;subst e2;rw[109];obtain⟨t',rfl⟩:=r2))
|131=>`(tactic|(obtain⟨d7,rv,p,hz⟩:=I.list hq;obtain⟨u,hu,ru⟩:=rv.get hx))
|132=>`(tactic|(rw[show kY f v ((k,x)::r)=(if k=f then(k,v)::r else(k,x)::kY f v r)from rfl];by_cases hk:k=f))
|133=>`(tactic|(obtain⟨d7,rv,hl,_⟩:=I.list hs;rw[dP.QZ r]))
|134=>`(tactic|have EH:∀y∈scope.names,y.2=.free->∃c,X.bA.cells.lookup y.1=.br:=fun y hy e=>by rcases ok.free y hy e with k|k;{exact I.ok.has _ (.cz)};{exact I.ok.has _ (.inr k)})
|135=>`(tactic|(refine⟨fun i m H=>m=xs.length-i/\.iI/\Pv i H,⟨xs.length,.aN,bw _,h0⟩,? _⟩;rw[111]))
|136=>`(tactic|(obtain⟨σ',H',I2,e,q⟩:=q;exact⟨σ',_,I2.Jm e (I.QA hd mu),q⟩))
|137=>`(tactic|(refine .Ew;rw[if_pos (show(Value.ref T !=Value.none)=true by simp)]))
|138=>`(tactic|obtain⟨vs,sl,he,hsz,h1,Vw,oT,ts,Lr,F3,h3⟩:=hx)
|139=>`(tactic|(rw[85];ktd_call vc [h1,jN,oz,.A3,.uG];refine .uH))
|140=>`(tactic|obtain⟨r,l,tl,o,rfl,ho,⟨-,hk⟩,hR,hn,q⟩:=h)
|141=>`(tactic|(refine .A9;have fr:Fr H a wl sl ll pl:=⟨nx,n1,n2,n3,n4⟩))
|142=>`(tactic|(have X1:mH [r] H H1:=aT.ext s1;have R1:=hR.same s1;obtain⟨rx1,ri1,hr1⟩:=R1.rd;ktd_call vc [hr1,kO]))
|143=>`(tactic|(have X2:=X1.trans x2;have B2:=B1.ext x2;obtain⟨rx2,ri2,hr2⟩:=R2.rd))
|144=>`(tactic|((have:pend=[]:=by cases pend with|nil=>rfl|cons t pend=>simp at h1);subst this))
|145=>`(tactic|(rw[Fu]at hx;rw[Sl]at hy;obtain rfl:=aB hx;obtain rfl:=aB hy))
|146=>`(tactic|obtain⟨⟨dx,wl,am,sl,ll,pl,sas,N⟩,tw⟩:=Ok.iN hk hT)
|147=>`(tactic|(obtain⟨p,hp,hv⟩:=qm.mp hv;obtain⟨q,hq,rfl⟩:=aX.mp hv))
|148=>`(tactic|obtain⟨⟨dn,wl,am,sl,ll,pl,sas,N⟩,-⟩:=Ok.iN hk hT)
|149=>`(tactic|obtain⟨new,z4,z5,rfl,s5,k5,f5,w5,c5,p5,e5⟩:=h)
|150=>`(tactic|·obtain⟨p,dx,n,g,u,pp,wd,cd,pa,l,c,rfl,_⟩:=h;rfl)
|151=>`(tactic|((have hg:.iT:=by have:=hF.nds;omega);have hlen:=Cu hF c;have Xu:=Jr hF c))
|152=>`(tactic|(obtain⟨y,hy,ey⟩:=gB hk;obtain⟨rfl,rfl⟩:=hG ey))
|153=>`(tactic|(obtain⟨wq,hwi,eq⟩:=hqs i q hqi;obtain⟨w0,rbw⟩:=hws wq (aE hwi);have Sn:=fb x (aE Lu)))
|154=>`(tactic|·obtain⟨gp,pa,d,ck,kk,l,p,rfl,_⟩:=h;rfl)
|155=>`(tactic|obtain⟨gp,pa,d,ck,kk,l,p,rfl,ok,G,hl,hp,hck,q⟩:=h)
|156=>`(tactic|(rw[1];refine⟨.bg,fun r1 n1=>? _⟩;have s1:aT H (aN H r1 .gk):=aT.aN n1;have e1:aN H r1 .gk r1=some .gk:=ah;generalize aN H r1 .gk=H1 at*))
|157=>`(tactic|(refine⟨gp,d,ck,kk,rfl,ok,G,? _⟩;refine⟨_,rfl,.lP⟩))
|158=>`(tactic|(rw[.aE,.aE,.aE,.hy];exact one q))
|159=>`(tactic|(refine⟨rfl,lp,dx,ca,i,cs,g,call,rfl,L,h0,? _⟩;rw[<-hH1]))
|_=>throw .unsupportedSyntax
local macro_rules|`(tactic|rw[$n:num])=>match n.getNat with
|160=>`(tactic|(rw[180];rw[if_neg (by rw[decide_eq_true_eq];intro z;exact hc0 (V.int.inj z))];rw[351]))
|161=>`(tactic|have e:s={s with heap:=s.heap}:=by cases s;rfl)
|162=>`(tactic|obtain⟨e,n,ne,nf,d⟩:=I.AY p hp)
|163=>`(tactic|obtain⟨u,rfl,t,rfl⟩:=Mf r)
|164=>`(tactic|obtain⟨d7,r,pl,hz⟩:=I.list hq)
|165=>`(tactic|obtain⟨d7,r,pl,hz⟩:=I.tuple hq)
|166=>`(tactic|(obtain⟨σ7,H7,J,q⟩:=q7;exact fin J fun s8 I8=>⟨_,H7,I8,q⟩))
|167=>`(tactic|obtain⟨l,p,rfl,hp,hl,hc,q⟩:=h)
|168=>`(tactic|·obtain⟨a,b,rfl,_⟩:=h;rfl)
|169=>`(tactic|·obtain⟨a,b,_,_,rfl,_⟩:=h;rfl)
|170=>`(tactic|(obtain⟨rx8,ri8,hr8⟩:=R8.rd;ktd_call vc [hr8,kO]))
|171=>`(tactic|obtain⟨y,ss,as,n',rfl,S⟩:=h)
|172=>`(tactic|(rw[hi]at hN;simp only[]at hN;split at hN))
|173=>`(tactic|(show gy 2 (.d0) _ _ _;ktd_call vc [fU,vQ]))
|174=>`(tactic|((·rw[it 0 .aI]);{rw[ir _ h.2.2]}))
|175=>`(tactic|(unfold vy;rw[jC,<-pK];refine iV .hO))
|176=>`(tactic|repeat(any_goals(first|assumption|wp_step)))
|177=>`(tactic|obtain⟨y,hy,rfl⟩:=aX.mp hx)
|178=>`(tactic|(obtain rfl:=aB e;obtain⟨z,hz,ez⟩:=By hy))
|179=>`(tactic|(have F:=ok.fix;have Ye:=Dz F.ok ok.D0 ok.num hp))
|180=>`(tactic|(obtain⟨f1,fh,f3⟩:=fin o2 l2;refine⟨rfl,? _⟩))
|181=>`(tactic|simp only[nt,mq,bV,↓reduceIte])
|182=>`(tactic|(rw[205];have q:=hl i σ H hi p;rw[82]))
|183=>`(tactic|(obtain⟨σ7,H7,J,q⟩:=q7;exact⟨_,H7,J.H_ I.ok,q⟩))
|184=>`(tactic|(rw[20];intro H3 _ _ x3 R3 hn3 _ _;have X3:=X2.trans x3))
|185=>`(tactic|(rw[CK]at eq;rw[55];exact q.aI X11))
|186=>`(tactic|(show 1+_=(a::t.bN).length;rw[ih,aw];omega))
|187=>`(tactic|simp only[lF,if_false,ku,kD]at h)
|188=>`(tactic|(refine⟨_,sq,? _⟩;have:=q H' g2))
|189=>`(tactic|(show a_ (dB d.ss l _)=_;rw[this];rfl))
|190=>`(tactic|rcases aJ.mp hx with rfl|hx)
|191=>`(tactic|(intro u hu;rw[19];{exact h.1}))
|192=>`(tactic|rcases aJ.mp hw with rfl|hw)
|193=>`(tactic|(intro k x hx;exact ak _ (ih x hx)))
|194=>`(tactic|ktd_call vc [G.obj,jX,T.gL,T.fW])
|195=>`(tactic|(split;{omega};{split;{omega};{split;{omega};{rw[32]}}}))
|196=>`(tactic|((·rw[h1,hn];rfl);{intro c hc;rw[h3]at hc;unfold S at hc;obtain⟨y,hy,rfl⟩:=aX.mp hc;rw[qg];exact iM _ y hy}))
|197=>`(tactic|(obtain⟨⟨a,l1⟩,h1,h⟩:=cy h;obtain⟨l2,h2,h⟩:=cy h;obtain⟨⟨w,l3⟩,h3,h⟩:=cy h))
|198=>`(tactic|(have e0:=uB hx;obtain⟨l1,h1,h⟩:=cy h;obtain⟨⟨f,l2⟩,h2,h⟩:=cy h;obtain⟨l3,h3,h⟩:=cy h;obtain⟨⟨t1,l4⟩,h4,h⟩:=cy h;obtain⟨l5,h5,h⟩:=cy h;have e1:=eJ h1;have e2:=oB h2;have e3:=eJ h3;have e4:=ih _ _ _ h4))
|199=>`(tactic|(rw[jQ]at hi;obtain⟨jc,e⟩:=ay.mp hi;(have aan:.gp+i<xs.size:=by simpa using jc);have:=h3 _ (iT _ i) aan;rw[at_ _ aan,e]at this))
|_=>throw .unsupportedSyntax
local macro_rules|`(tactic|rw[$n:num])=>match n.getNat with
|200=>`(tactic|((have hl:t.led=true:=by rw[S.led,hb];rfl);show wpAny _ _ (if .uU=true then _ else _) _ _ _;rw[S.pl];rw[181];rw[16]))
|201=>`(tactic|((·subst hb;rw[54];exact new);{rw[ai hb]at e;exact(x b u e).B0 (fun c v _ q=>k c v q) (fun c q=>.eK) fun c xs q=>.eK}))
|202=>`(tactic|·refine(I.fb b u e).B0 (fun c v hc q=>k c v ? _ q) .n8 .hI;rw[322])
|203=>`(tactic|(obtain⟨σ3,H3,I3,n3⟩:=q3;obtain⟨m',hm,w3⟩:=hN σ3 H3 n3;exact⟨m',hm,σ3,H3,I3,w3⟩))
|204=>`(tactic|(have I1:.pD:=I.nq (t':=s.toks) .ui f0 f1 f3 f4 f5;obtain⟨o,e,c,d⟩:=id Y_))
|205=>`(tactic|(refine⟨fun i m σ H=>m=xs.length-i/\.iI/\.fv,⟨xs.length,.aN,bw _,h0⟩,? _⟩;rintro i m σ H⟨rfl,hi,p⟩))
|206=>`(tactic|(obtain⟨j,h1,h2,h3,h4,h5⟩:=Mx he;obtain⟨w,ew,rw'⟩:=r.get h2;have hl:=r.length;have hn:=HD;have fin:EP X pins σ Q w s:=⟨z,H,I,rw',q⟩))
|207=>`(tactic|(simp only[sliceBounds,HT.qG,YX,show(1:Int)>0 by decide,if_true];by_cases h:i<0;{simp only[h,if_true]<;>omega};{simp only[h,if_false]<;>omega}))
|208=>`(tactic|(intro pins s σ H x vs v us Q I rx rv h;obtain⟨l,b,xs,zs,rfl,rfl,hH,hB,hz,q⟩:=h;cases rx;obtain⟨u,rfl,ru⟩:=rv.one;cases ru;rw[110]))
|209=>`(tactic|(obtain⟨xs,e⟩:=hi.allInts.items;(have hn:numsOf (intItems xs).toList=ns:=by rw[<-e];exact hi.numsOf);rw[nums_intItems]at hn))
|210=>`(tactic|(refine h h' tk _ t hk ? _ fun a ha=>? _;{rw[numAt_eq];exact af8 (by rw[aa,a0];omega)};{obtain⟨j,hj,rfl⟩:=mem_getD ha;rw[aa,a0]at hj;rw[<-numAt_eq];exact h2 j .C}))
|211=>`(tactic|(obtain⟨d7,rv,⟨⟨cls,dd,data,sl⟩,n,ho,hc,MX,hd⟩,hlen⟩:=I.list hs;simp only at hc hd;subst hc hd))
|212=>`(tactic|(generalize hD:s2.heap.objs.size=D;have hDn:H2 D=none:=I2.fb.fresh (lj hD);obtain⟨W,⟨m0,w0⟩,turn⟩:=q D hDn))
|213=>`(tactic|(generalize hs3:({s2 with heap:=s2.heap.push {cls:=.type "list",data:=.seq ([]:List Value).toArray}}:Shared)=s3;(have I3:Inv X pins σ (aN H2 D .bN) s3:=by rw[<-hs3];refine I2.laid (t':=s2.toks) (.pF) (lj hD) ⟨bw _,[],0,.nil,? _⟩;rw[<-hD];exact .cK);(have h3:s3.heap=s2.heap.push {cls:=.type "list",data:=.seq ([]:List Value).toArray}:=by rw[<-hs3]);(have sz:∀b∈fp,b<s2.heap.objs.size:=fun b hb=>by obtain⟨o,e,_⟩:=T.obj _ _ st2 b hb;rw[22]);(have f3:∀b∈fp,ze X pins (aN H2 D .bN) b/\b<s3.heap.objs.size:=fun b hb=>by have jc:=sz b hb;refine⟨⟨? _,(f2 b hb).2⟩,by rw[h3,Heap.size_push];exact ma jc⟩;rw[ai (by rw[<-hD];exact bS jc)];exact(f2 b hb).1);(have st3:tn 0 s3.heap:=T.keep _ _ _ st2 fun b _ o e=>by rw[h3];exact .es);have I4:=Ej I3 ok hN f3;have pg:=hg s3 (aN H2 D .bN) s3.heap.objs.size .qu fp;have pt:=ht s3 (aN H2 D .bN) s3.heap.objs.size .qu fp;have pe:=he s3 (aN H2 D .bN) s3.heap.objs.size .qu fp))
|214=>`(tactic|((have cL:ce.locals=s3.heap.objs.size:=by subst hce;rfl);generalize hH3:aN H2 D .bN=H3 at I3 I4 pg pt pe w0 nfp f3;generalize hs4:({s3 with heap:=pushCells (s3.heap.push {cls:=.type "dict",data:=.dict #[]}) scope.names}:Shared)=s4 at I4|-;have st4:tn 0 s4.heap:=T.keep _ _ _ st3 fun b _ o e=>by rw[<-hs4];exact pushCells_keeps _ _ _ _ (.es)))
|215=>`(tactic|(rintro n s5⟨i,H5,I5,YA,n5,w5⟩;rcases turn i n H5 w5 with⟨stop,qq⟩|⟨go,Nx,hNx,step⟩))
|216=>`(tactic|(refine OA ti fun r s6⟨u,hr,h6⟩=>? _;subst hr;refine OA h6 fun _ s7⟨x,H7,I7,r7,y7,st7,n7⟩=>? _;have I7':=I7.Ue (Ja I7 n7) (T.obj _ _ st7)))
|217=>`(tactic|(rw[14];rw[exec_Assign_Name_used _ _ _ _ hsw];refine wpAny_bind (wpAny_standAt (.r2));show wpAny _ X.A (do let _<-comprehension (.ListComp elt [⟨tg,iter,ifs,0⟩] scope pos) scope X.bA (firstIterPos [⟨tg,iter,ifs,0⟩] pos) (newList []) false (eval iter X.bA) (some (assign (.Name y py) X.bA))) _ _ s;have h:tLc wi g tt te .eU σ H (fun x H1=>gy i x σ H1 D.nx):=h))
|218=>`(tactic|(show wpAny _ _ (assign (.Name y py) X.bA (.ref L)) _ _ _;refine wpAny_assign_Name (DZ (v:=V.ref L) I' hN hy (.inl hyl) rfl (fun s2 I2⟨a,sb,ha⟩=>? _) (.inr hyl));obtain⟨f0,f1,f2,f3,f4,f5⟩:=f;(have haC:C≠a:=by rcases ha with z|z;{rw[z];exact f1};{exact fun e=>f4 y a z e.symm});refine⟨m,hn.sameBut sb haC,fun h3 sb3=>? _⟩;exact⟨_,H',I2.nq (t':=s2.toks) (fun b o hb e=>(sb3.2 b hb).trans e) f0 f1 f3 f4 f5,q⟩))
|219=>`(tactic|(refine⟨dd.typeIs,fun b q=>? _,hd⟩;cases q;obtain⟨ob,_,_,h1,h2,_⟩:=dd;exact⟨ob,h1,h2.2.1⟩))
|220=>`(tactic|(obtain⟨hs,hgd,hx,jL,vw,vs,VB,hsz,kv,hm⟩:=I.amb hd;obtain⟨rfl,rfl⟩:=Vg hod VB))
|221=>`(tactic|(rw[112];have hC:=KX _ _ lC;obtain⟨hh1,g,d,tk,os⟩:=s1;have T:Looks .aQ hh1 (typeOf .aR) .be:=.D7;have TC:Looks .aQ hh1 (typeOf .be) (.type "type"):=(Looks.ld (part:=some headPart) hC).andThen .now;have S:Looks .aQ hh1 (isSubtype .be (.w5)) true:=XC.sub .aC KX;(have Ty:Looks .aQ hh1 (isType .aR) false:=by exact .D7);unfold excFromValue isExcClass isInstance raisedInstance;(repeat lk);refine wpAny_handled ? _))
|222=>`(tactic|(have I1:.hg:=I'.mV I.ok;(have aai:.vL:=by rw[<-wU];exact I1.ok.frames);(have aaj:.F0:=by rw[<-wU];exact I1.stack);(have hF:∀b∈Ak (.p0),.jk:=by rw[<-wU];exact I1.yW);have OT:∀q∈.dy,q.1≠y/\T≠some q.1:=fun q hq=>hp q (bR _ hq);refine UJ aai aaj hfr hx ho .yj;have I2:Inv X pins σ' H' {s' with heap:=h1}:=I1.Mj (by rw[wU];exact k1) n0 fx hT OT hx.data.1 hx.data.2;have n1':X.wx.heap.get? T1=none:=n1.elim (fun z=>I1.si z (sh T1)) fun z=>(hT T1 z.1).1;have f1:H' T1=none:=n1.elim (fun z=>I1.fb.free z) fun z=>(hT T1 z.1).2;have p1:∀q∈.dy,q.1≠y/\some T1≠some q.1:=fun q hq=>⟨(OT q hq).1,fun z=>by rcases n1 with n1|n1;{have e0:=(I1.AY q hq).1;rw[<-aB z,n1]at e0;cases e0};{exact(OT q hq).2 (n1.1.trans z)}⟩))
|223=>`(tactic|(refine Cv (s:={s' with heap:=h1}) a1 fun h2 k2 _ a2=>? _;have I3:.uu:=turn I2 a1 k2;obtain⟨nm,q,bs,sn,sub,ab,col,dd,k0,k1',k2',k3,k5,lC⟩:=XC.obj;have hC3:=I3.C9 _ _ lC;obtain⟨vs2,sl2,he2,-⟩:=id a2;obtain⟨hh,gg,dr,tk,os⟩:=s';refine wpAny_handleBy_cons (codeAny_handlers_test (qW (X:=X.uq .ew) (I3.uq _) hg hm (wpAny_excMatches_sub_self hC3 he2 rfl .aC ? _) Hs)) .aw))
|224=>`(tactic|(refine wpAny_mono (hb E' (.dy) _ lets [] s σ H D (I.under E') h) (fun f s1 q=>? _) fun e s1 z=>? _;{cases f with|next=>obtain⟨σ1,H1,J,q⟩:=q;exact wpAny_execs_nil .wI|brk=>obtain⟨σ1,H1,J,q⟩:=q;exact .wI|cont=>obtain⟨σ1,H1,J,q⟩:=q;exact .wI|ret v=>obtain⟨v1,σ1,H1,J,r,q⟩:=q;exact⟨v1,σ1,H1,J.mV I.ok,r,q⟩};{exact z}))
|225=>`(tactic|(refine⟨jO hl,fj (.ey) fun h1=>⟨jO hl,fin (.inl (by rw[114];omega))⟩⟩;rw[114];have Tn:j<l.length:=.o;refine⟨jO hl,l[j],RO (aV Tn),.aU,? _⟩))
|226=>`(tactic|(refine fj (fun h2=>.gg) fun h2=>⟨jO hl,fin (.inr ⟨_,aV Tn,by simpa using h2⟩)⟩;refine⟨l.length-(j+1),.o,j+1,rfl,rfl,rfl,.o,.o,fun i hi=>? _⟩))
|227=>`(tactic|(refine⟨hp,hl,hc,EW l p hl,xV l p,fj (fun h6=>? _) fun h6=>? _⟩;{rw[if_pos h6]at q;exact mk _ _ q};{rw[if_neg h6]at q;exact flt q}))
|228=>`(tactic|(refine ke (tt:=[44]) rfl vJ hR hn ? _;show match bL 44 .cZ with|.ok lI=>_|.error f=>_;cases hh:bL 44 (t::tl)with|ok lI=>rw[hh]at q;exact .GZ|error f=>rw[hh]at q;exact q))
|229=>`(tactic|(have sc:a9 ["reader","outside","more"] .dj (aL Aj):=.af;refine T.Iv.JG .aM sc .ae .ag))
|230=>`(tactic|(have sc:a9 ["reader","outside","lots","place","going_on","share"] .dj (aL xA):=.af;refine T.EZ.JG .aM sc .ae .ag))
|231=>`(tactic|(have eq:=L.eq;rw[.aJ]at eq;obtain⟨rfl,F,hF,eq⟩:=eq;obtain⟨F,rfl⟩:∃F',F=F'+1:=⟨F-1,.o⟩;obtain⟨rxc,ric,hrc⟩:=L.rd.rd))
|232=>`(tactic|obtain⟨t,lI,rfl⟩:∃t lI,tlc=t::lI:=by cases tlc with|nil=>exact absurd rfl L.ne|cons t lI=>exact⟨t,lI,rfl⟩)
|233=>`(tactic|(obtain⟨aDx,aDs,amw⟩:=R11.rd;ktd_call vc [amw,HE,B11.obj,kQ,T.cZ,T.dX];refine⟨_,.inl (cM.of B11.ways),r,l,OB,x.cU.length,by rw[ag,Nc];rfl,R11,amo,? _⟩))
|234=>`(tactic|·rw[.fq]at eq|-;cases CK:bL 41 OB with|error f=>rw[185]|ok oG=>rw[CK]at eq;rw[36];intro JL Mi Zj Hu;refine⟨0,.o,false,rfl,fin false oG JL _ Mi Zj Hu ? _⟩;rw[.dC];refine⟨rfl,? _,eq⟩;rcases nY x.cU.length with z|z;{exact absurd (.inr z) hc};{exact z})
|235=>`(tactic|(have sc:a9 ["reader","outside","station","name","going_on","label"] .dj (aL rR):=.af;refine T.ye.JG .aM sc .ae .ag))
|236=>`(tactic|(refine⟨bw _,fun fp nf=>⟨.bg,fun wp nw=>? _⟩⟩;have nf0:H fp=none:=nf;(have OS:wp≠fp:=by rw[2];rw[ah]at nw;cases nw);have Y6:H wp=none:=by rw[ai OS]at nw;exact nw))
|237=>`(tactic|(obtain⟨⟨dx,wl,am,sl,ll,pl,sas,N⟩,tw⟩:=Ok.iN tok tat;have hl1:=mj (l:=t::pend) fun u hu=>(Sk u hu).1))
|238=>`(tactic|((have hn:dy (t::pend)=t.bB::dy (t.fe++pend):=by unfold dy;rw[cK,Ok.bN tok,cJ];rfl);(have aaq:((t::pend).map fun t=>.d0).reverse=.ie++[.d0]:=by rw[aO,c_]);rw[aaq]at F6;ktd_call vc [F6];have Qi:(.ie++[.d0])[(.ie++[.d0]).length-1]?=some (.d0):=.ET;rw[zy];have hf1:aN Hc wp .e5 fp=.vX:=.Gy))
|239=>`(tactic|(rintro b kind ways nQ bq name place labels lplaces⟨GY,wl,am,sl,ll,pl,sas,h⟩;have ne:∀{c xs},H c=.ff->c≠a:=fun{c xs}e=>cv e ha .aw))
|_=>throw .unsupportedSyntax
local macro_rules|`(tactic|rw[$n:num])=>match n.getNat with
|240=>`(tactic|(have e1:=s a _ hd ah;have t:=h (aN u4 a (.cH ad.cn dx fs)) fun b o d e=>by by_cases hb:b=a;{subst hb;rw[ah,<-ha,e]};{rw[ai hb];exact s b o d (.qt)}))
|241=>`(tactic|have sc:a9 ["tree","inner","way","share"] .bT (aL xB):=.af)
|242=>`(tactic|(refine⟨_,s3 _ _ g1,.gY,? _,fun b o e=>by rw[35];exact s3 _ _ (g2 _ _ e)⟩;rw[ah,a8,ht,aG]))
|243=>`(tactic|(refine Calls.call_function_entry kind_sorted plain_sorted entry_sorted (args_sorted1 _) ? _;unfold Builtin.«sorted»;refine wpAny_bind (m:=checkCount "sorted" 1 1 _) .cC))
|244=>`(tactic|have hS:(s.heap.push .l9).get? s.heap.objs.size=some .l9:=.cK)
|245=>`(tactic|(have hT:s.TypeIs .i5 "set_iterator":=⟨_,hit,rfl⟩;unfold pyNext;refine wpAny_bind (wpAny_attempt (wpAny_callSpecial?_slot (name:=Str.ofString "__next__") hT mn (wpAny_call_entry mn hT zG ? _ (Bd _))));unfold Builtin.«set_iterator.__next__»;refine wpAny_bind (wpAny_of_eq (a:=(Value.ref it,[])) rfl ? _);rw[9];refine wpAny_bind (wpAny_fieldsOf hit rfl ? _);show wpAny _ _ (setEntries a>>=_) _ _ _;refine wpAny_bind (wpAny_setEntries_of ho rfl S.tok.fits ? _);rw[.ha]))
|246=>`(tactic|(have h4:=mB a.den b.den;rw[dJ]at h;obtain⟨a1,a2⟩:=ha;obtain⟨b1,b2⟩:=hb;exact .qe))
|247=>`(tactic|(intro a q nd z h;have nd:(t.bN++r.bN).Nodup:=nd;rw[g9]at nd;obtain⟨n1,n2,n3⟩:=nd;refine⟨it n1 (fun y hy hn=>z y (bR _ hy) fun m=>? _) fun y hy=>h y (bR _ hy),ir n2 (fun y hy hn=>z y (bC _ hy) fun m=>? _) fun y hy=>h y (bC _ hy)⟩;{rcases aW.mp m with m|m;{exact hn m};{exact n3 y hy y ((om r).subset m) rfl}};{rcases aW.mp m with m|m;{exact n3 y ((om t).subset m) y hy rfl};{exact hn m}}))
|248=>`(tactic|(obtain⟨sa,Y4,rfl⟩:=gB hv;obtain⟨wq,hw,fw⟩:=Paired.uj N.Rj Y4;have hi:i<ws.bq.length:=(ay.mp hw).1))
|249=>`(tactic|obtain⟨y,m,wk,ck,rfl,k5,hT5,YA,w5,c5,wf5,cf5,wl5,cl5,hz5,ht5⟩:=h)
|250=>`(tactic|obtain⟨p,dx,n,g,u,pp,wd,cd,pa,l,c,rfl,hp,hk,hg,hT,hl,M1,q⟩:=h)
|251=>`(tactic|(rw[177];obtain⟨-,b1,-,b2⟩:=OH hF (c:=c) (y:=y) (by rw[hW];exact hy)))
|252=>`(tactic|have sc:a9 ["tree","totals","way"] .bT (aL pE):=.af)
|253=>`(tactic|have sc:a9 ["tree","lists","way"] .bT (aL mD):=.af)
|254=>`(tactic|(have hN:.kL:=.o;refine⟨gp,d,ck,kk,rfl,ok,G,hN,fun H1 r1 s1 e1=>? _⟩;refine⟨r1,.wF,rfl,cM.of e1,by rw[aa,gj];exact C0 (yN ok) awg,fun m hm hle=>? _⟩;refine⟨gp,r1,d,ck,kk,_,m,rfl,ok,G.same s1,cM.of e1,hm,by rw[aa,gj];exact hN,fun H2 r2 j s2 hj hf e2=>q H2 r2 (.eu) ? _⟩;obtain⟨hjN,rfl⟩:=adt hj;rw[e2,LI .GK (OD ok j)]))
|255=>`(tactic|(rw[hs]at q;have Xu:lp≠d.cd:=cv l2 g5.co.cd .aw;have G3:gz K ad H3 gp d w9 kk:=g5.vn o3 g5.co.cd yD (o3 _ _ g2.wc g5.co.wd) e3 f4 (o3 _ _ g2.kc g5.ji);refine q H3 r3 (f3.trans (Ts o3 g5.co.cd)) .GS (by rw[e5,<-g3,<-g4]);{rcases f1.calls with(h|⟨ob,h⟩)|h;{exact .inl (.inl (o3 _ _ (cv h g5.co.cd .aw) h))};{exact .inl (.inr ⟨ob,o3 _ _ (cv h g5.co.cd .aw) h⟩)};rw[29]};{show kI K ad H3 g st.game (N+1);rw[hg];refine⟨gp,d,w9,kk,g1,g2,g3,g4,G3,fun k v e=>? _,.o,.o⟩;obtain⟨i,a,c,f1,f2,f3,f4⟩:=g6 k v e;exact⟨i,a,c,f1,f2,f3,o3 _ _ (cv f4 g5.co.cd .aw) f4⟩}))
|256=>`(tactic|(generalize b.toNat=n at h;by_cases h1:n=32\/n=9;{rw[.jr];rcases h1 with rfl|rfl<;>decide}))
|257=>`(tactic|(have hc:=hd c .aK;have h1:=qg c;rw[hc]at h1;unfold AX at h1;simp only[decide_eq_true_eq]at h1))
|258=>`(tactic|(rw[ht]at h;obtain⟨_,h1,h2,_⟩:=h;obtain⟨c',r',e,hh⟩:=QC h1 h2))
|259=>`(tactic|(obtain⟨l1,h1,h⟩:=cy h;obtain⟨⟨ws,l2⟩,h2,h⟩:=cy h;have e1:=eJ h1))
|260=>`(tactic|(rename_i hx;have e0:=uB hx;obtain⟨⟨x,l1⟩,h1,h⟩:=cy h;obtain⟨l2,h2,h⟩:=cy h;obtain⟨⟨bs,l3⟩,h3,h⟩:=cy h;have e1:=mo h1;have e2:=eJ h2))
|261=>`(tactic|rcases jr hb with⟨j,u,rfl,e⟩|⟨y,u,rfl,e⟩)
|262=>`(tactic|rcases jr hv with⟨j,u,rfl,rfl⟩|⟨y,u,rfl,rfl⟩)
|263=>`(tactic|(rw[zA (cW hj)]at e2;obtain⟨u',r',q⟩:=hl j y v' e1 e2 e3;refine⟨u',r',? _⟩))
|264=>`(tactic|(obtain⟨d,rfl,q⟩:=q1;cases r1;exact wpAny_truthy_bool ⟨H1,I1,q⟩))
|265=>`(tactic|·have:X.bA.scope.names.lookup x=.hD:=hk;rw[k]at this;cases this)
|266=>`(tactic|(obtain⟨xs,hq,hx⟩:=hg;obtain⟨d7,rv,p,hz⟩:=I.list hq;rw[34];have hl:=rv.length))
|267=>`(tactic|(rw[3];refine OO (pl:=pl) (iu .cD fun u s1⟨x,H1,I1,rx,a,dx,fs,ex,ea,l,q⟩=>? _) ht;rw[39];refine Hq I1 ea c hm l ? _))
|268=>`(tactic|(intro value slice pins s σ H x y v u Q I rx ry h hs;obtain⟨p,xs,i,z,rfl,rfl,hq,he,q⟩:=h;cases rx;obtain⟨t,rfl⟩:=ry))
|269=>`(tactic|(rw[27];obtain⟨p,xs,rfl,hq,fx,fs,q⟩:=h;cases ry;rcases hq with hq|hq))
|270=>`(tactic|(rw[91];obtain⟨p,ys,rfl,hq,q⟩:=h;obtain⟨u,rfl,rx⟩:=Mf r))
|271=>`(tactic|·obtain⟨_,_,_,_,o,_,_,e,ex,_⟩:=I.fb p _ hk;exact⟨o,e,ex⟩)
|272=>`(tactic|have nit:∀b u,H b=.aP->b∉ch:=fun b u e z=>by have q:=(hf b z).1;rw[q]at e;cases e)
|273=>`(tactic|·obtain⟨o,es,ep,ho,r⟩:=hm;exact⟨o,es,ep,k _ o (fun z=>(hf _ z).2.1 rfl) ho,r⟩)
|274=>`(tactic|(obtain⟨d,u,hd,mu,hw⟩:=hw;obtain⟨od,I1⟩:=I.ani hd mu))
|275=>`(tactic|(have hl:.qM:=.nx;obtain⟨ok,ov,he⟩:=st;rw[hl]at he))
|276=>`(tactic|(rw[18];obtain⟨hz,hTI,⟨x0,y0,hTO⟩,h1,h2⟩:=st))
|277=>`(tactic|(obtain⟨d7,rv,p,_⟩:=I.list hqx;obtain⟨Aq,rv2,p2,_⟩:=I.list hqy))
|278=>`(tactic|(obtain⟨⟨a,rfl⟩,q1⟩:=q1;obtain⟨t,rfl⟩:=_root_.id r1))
|279=>`(tactic|obtain⟨_,vs,_,_,⟨e2,_⟩|⟨e2,_⟩⟩:=Bc ar q)
|_=>throw .unsupportedSyntax
local macro_rules|`(tactic|rw[$n:num])=>match n.getNat with
|280=>`(tactic|·rw[e2]at e;cases e;have d':Data.seq vs.toArray _=Data.dict es ep:=d;cases d')
|281=>`(tactic|(obtain⟨mN,hN,hmN⟩:=V3 KX XC.ns;obtain⟨hh,g,d,tk,os⟩:=s))
|282=>`(tactic|(refine Cv (s:=⟨h2,gg,dr,tk,os⟩) a2 fun h4 k4 _ a4=>? _;have I4:Inv X pins σ' H' ⟨h4,gg,dr,tk,os⟩:=turn I3 a2 k4))
|283=>`(tactic|have ev:qD mg (p::l)=(dH p.1,e.val)::qD mg l:=by unfold qD;rw[m5,hv];rfl)
|284=>`(tactic|(refine ke (tt:=[40]) .bk DJ R2 MZ ? _;show match bL 40 (tl.drop 1)with|.ok lI=>_|.error f=>_))
|285=>`(tactic|(simp only[bind,l8]at eq;have Nc:(x.cU.map V.ref).length=x.cU.length:=aa ..))
|286=>`(tactic|·rw[rl,er'];cases b with|true=>exact heq|false=>exact⟨heq.1,by have:=heq.2.1;omega,heq.2.2⟩)
|287=>`(tactic|(refine⟨oG.length,.o,true,rfl,fin true oG JL _ Mi Zj Hu ? _⟩;rw[.aJ];refine⟨rfl,F,.o,? _⟩;rw[eq]))
|288=>`(tactic|((obtain rfl:b=false:=by cases b<;>simp_all);have eq:=L.eq;rw[.dC]at eq;obtain⟨-,hk2,rfl⟩:=eq;rw[20]))
|289=>`(tactic|have hg:xs[xs.length-1-i]?=some (xs[xs.length-1-i]' .C):=aV .C)
|290=>`(tactic|((·exact fun b o e=>by rw[.kV,.sf];exact e);{rw[ai (cW OS),ah];rfl}))
|291=>`(tactic|(subst hb;have e:=h.obj;rw[ha]at e;obtain⟨-,rfl,rfl⟩:=HO.cH.inj (aB e)))
|292=>`(tactic|(unfold fm at*;rw[ib,ib];rw[19];{exact g.1};{have:=ih u hu;rw[ib,ib]at this;exact br this g.2}))
|293=>`(tactic|(rw[<-aa (f:=GT.bB)];show(t.df.map GT.bB).length<=8;rw[<-hX];exact hk.2.2.2))
|294=>`(tactic|(obtain⟨x,hx,e⟩:=nJ.mp e;obtain⟨y,hy,e⟩:=nJ.mp e;split at e;{cases e}))
|295=>`(tactic|(rw[.aE];rw[200];show wpAny _ _ (if(! t.led&&! es.isEmpty)=true then _ else _) _ _ _;rw[hl];rw[181];refine wpAny_pure .cC))
|296=>`(tactic|obtain⟨y,u,pp,rfl,k4,p4,w4,c4,up,pq,dv,bu,bp⟩:=h)
|297=>`(tactic|((have h3:2^(B+k+1)=2*(2^k*2^B):=by rw[iY,Jz,h_ (2^B),h_ 2]);have h4:0<2^k*2^B:=dq (rL k) (rL B)))
|298=>`(tactic|(by_cases h:y.1=k;{simp[h]};{have:¬(dH y.1:gx)=dH k:=fun z=>h (sR z);simp[h,this]}))
|299=>`(tactic|(obtain⟨k,hk,rfl⟩:=gB hv;obtain⟨y,hy,rfl⟩:=aX.mp (hks.mem_iff.mp (aE hk))))
|300=>`(tactic|(obtain⟨wv,hwv⟩:=iS.mp (hkn x hx);obtain⟨j,wa,ej,rfl,fa⟩:=C.wf _ _ hwv;cases ej))
|301=>`(tactic|obtain⟨⟨y6,y7,y8,y10,y11,rfl⟩,o2,z,D,F2,hz,cz,lk,d5⟩:=h)
|302=>`(tactic|·obtain⟨n,g,u,p,a,q,rfl,_,_,z,_⟩:=h;omega)
|303=>`(tactic|obtain⟨ds,ts,s1,D1,I1,nd1,fr1,sn1,B1,ok1⟩:=h)
|304=>`(tactic|(have MY:=pJ ok.fix.ok ok.D0;obtain⟨as,S1,S2⟩:=G.D0;have al:as.length=d.ss.length:=S2.length))
|305=>`(tactic|(obtain⟨k1,k2,k3,k4⟩:=Hz (r:=r) G sA;refine q H4 r ck k1 k2 k3 k4 ? _))
|306=>`(tactic|(rw[194];refine⟨d.SL,d.ss,rfl,G.Ux,ok.j9,.wB,? _⟩))
|307=>`(tactic|(obtain⟨xs,t'⟩:=y;rw[e2]at h;obtain⟨m,g1,g2,rfl,rfl⟩:=acs e2;rw[52]))
|308=>`(tactic|(rw[e]at h;rw[44];have:cs.length<=i:=UP.mp e;obtain rfl:i=cs.length:=.o;exact⟨[],.nil,rfl,.bQ⟩))
|309=>`(tactic|(rw[.ep];by_cases h2:n=10;{rw[.jg];subst h2;decide}))
|310=>`(tactic|(rw[.dt];by_cases h3:n=35;{rw[if_pos h3];subst h3;decide}))
|311=>`(tactic|(rw[.hC];by_cases h4:38<=n/\n<127;{rw[if_pos h4]}))
|312=>`(tactic|(rw[ht]at h;rw[h.2];exact⟨fun x=>(by cases x),fun x=>by cases x⟩))
|313=>`(tactic|(rw[197];have e1:=hR _ _ _ h1;have e2:=eJ h2;have e3:=sD h3;rw[21];rw[4]))
|314=>`(tactic|(rw[27];obtain⟨i,j,rfl,rfl,q⟩:=h;rw[7];rw[8]))
|315=>`(tactic|(obtain⟨d7,r',pl,hz⟩:=I.tuple hq;have hlen:=r'.length))
|316=>`(tactic|(refine⟨⟨o,e,ex.1⟩,fun a e2=>? _⟩;cases e2;exact⟨o,e,ex.2.1⟩))
|317=>`(tactic|(rw[209];subst hn;rw[e]at hl;have hsz:0<xs.size:=by simpa using mi))
|318=>`(tactic|(rw[31];obtain⟨a,ns,rfl,hs,mi,q⟩:=h;rw[133]))
|319=>`(tactic|(have e:.gO:=e;rcases mem e with⟨h1,_⟩|⟨h1,_⟩))
|_=>throw .unsupportedSyntax
local macro_rules|`(tactic|rw[$n:num])=>match n.getNat with
|320=>`(tactic|(have q:=(zV.val k).ur;rw[tK]at q;rw[<-q,<-l];exact h _ (.bz)))
|321=>`(tactic|have hl:(.lp).length<=sizeLine:=by have:=xJ kvs k v;omega)
|322=>`(tactic|(rcases hc with z|z;{rw[z];exact nit b u e};{exact nit c _ z}))
|323=>`(tactic|(cases rr;cases r;obtain⟨d7,rv,p',hz⟩:=I1.list hq))
|324=>`(tactic|have I2:Inv X pins σ H1 {s1 with heap:=h'}:=I1.ji (t':=s1.toks) hk)
|325=>`(tactic|·rw[e2]at e;cases e;exact absurd (Value.type.inj d) .aD)
|326=>`(tactic|obtain⟨sl2,e2⟩:=any b _ e1 (.hF).1 (.hF).2)
|327=>`(tactic|·obtain⟨a,dx,kind,text,place,rfl,_⟩:=h;rfl)
|328=>`(tactic|((have e2:.eB=((.lO:Nat):Int):=by rw[<-inv];rfl);rw[e2];exact q))
|329=>`(tactic|((·rw[ai (aq e npH)];exact s3 _ _ (sm _ _ e));{rw[ah,aG];rfl}))
|330=>`(tactic|(rw[decide_eq_true_eq,Nc]at h8;rw[if_pos ⟨ht,by show 8<=_;omega⟩]at eq;have eq:W=.error ⟨4,t.place⟩:=eq;rw[eq]at q;exact⟨r,l,t,lI,4,rfl,L.rd,q.aI L.ext⟩))
|331=>`(tactic|((·rw[.cn,kx,if_pos (.e6)];rfl);{rw[.cp,kx,.jL];rfl}))
|332=>`(tactic|(intro u hu;show _<=.nZ;rw[19];{omega};{have:=ih u hu;omega}))
|333=>`(tactic|((·rw[if_pos hh,if_pos hh];rfl);{rw[if_neg hh,if_neg hh];rfl}))
|334=>`(tactic|(obtain⟨t,ht,ey⟩:=gB hy;have ey:y=.d0:=ey;subst ey))
|335=>`(tactic|obtain⟨j,rfl⟩:∃j:Nat,k=.eB:=⟨k.toNat,.o⟩)
|336=>`(tactic|(rw[197];have e1:=mo h1;have e2:=eJ h2;have e3:=hR _ _ _ h3;rw[21];rw[4]))
|337=>`(tactic|(rw[mi];simp only[bV,↓reduceIte];refine .gJ;rw[9]))
|338=>`(tactic|(subst hj;rw[hi]at e1;cases e1;rw[oY hiσ]at e2;cases e2))
|339=>`(tactic|(obtain⟨σ7,H7,I7,n7⟩:=q7;exact again I7 n7))
|340=>`(tactic|(obtain⟨d7,r',pl,hz⟩:=I.list hq;have hlen:=r'.length))
|341=>`(tactic|·rw[e]at q;exact absurd (Value.type.inj (Gb q).1) .aD)
|342=>`(tactic|(intro H9 _ _ x9 R9 hn9 _ _;have X9:=X8.trans x9;have B9:=B8.ext x9))
|343=>`(tactic|have D9:∀b,H9 b=none->Hc b=none:=fun b e=>D8 b (x9.2 b e))
|344=>`(tactic|(refine cI.mpr ⟨fun hb=>? _,G.nd⟩;have:=(L.zq.fresh a hb).1))
|345=>`(tactic|(intro h u hu;rw[47];{exact M4 h.1 u hu};{exact M5 h.2 u hu}))
|346=>`(tactic|(have whole:g.iD.foldlM my []=.error f:=whole;rw[whole]at q))
|347=>`(tactic|(have h3:=h y.1;rw[h2]at h3;have h4:dM [] y.1=0:=rfl;grind))
|348=>`(tactic|(have e:ed.size-i=(ed.size-.aH)+1:=.o;rw[e,ae9]at hr))
|349=>`(tactic|(rw[.aJ,.ha];refine wpAny_bind (OF ho S fun jL pm _ h2=>.gJ)))
|350=>`(tactic|(intro u hu s hs;rw[19];{exact bR _ hs};{exact bC _ (ih u hu s hs)}))
|351=>`(tactic|(refine⟨_,_,_,l2,T.jo,T.jt,_,sX,? _⟩;have hs:=uN (st:=st) Y3))
|352=>`(tactic|obtain⟨n,rfl⟩:∃n',n=n'+1:=⟨n-1,.o⟩)
|353=>`(tactic|·(have:x≠n:=by rw[2];exact h v au);simp[this])
|354=>`(tactic|have nfp:∀b∈fp,(aN H2 D .bN) b=none:=fun b hb=>(f3 b hb).1.1)
|355=>`(tactic|(rw[138];unfold setFlight;rw[137];have h3':=(jP.mp h3).1))
|356=>`(tactic|(rw[CK]at eq;rw[36];have l12:=Gm.eJ CK;intro JL Mi Zj Hu))
|357=>`(tactic|(have hla:l1≠a:=cv f2 N.obj .aw;have e2:=keep _ _ hla f2))
|358=>`(tactic|induction g with|way t w r _ ih=>rw[56]|_=>rfl)
|_=>throw .unsupportedSyntax
local macro_rules|`(tactic|ktd_call vc [$ts,*])=>`(tactic|simp only[Ox,Oy,Jd,gy,Cd,Oq,Ol,ipI,Cb,Ow,tIf,Y',yl,NS,rf,NM,Kq,tC,zZ,tB,Oj,tOr,Ov,tW,Ot,Cc,Jg,tCB,tBM,Om,tM0,tM1,zX,wy,zY,Ou,Oz,tSl,Cj,rh,Ci,Cg,Cf,tJn,tJc,tJ,rI,Ul,rEq,rNe,Kh,Fz,NN,rIn,NQ,NP,qZ,q_,NO,Ko,mR,L2.start,aO,eX,aw,cg,eY,fM,ee,bM,dE,d8,iR,iQ,dj,exists_eq_left',exists_eq_left,exists_eq,exists_const,iX,V.ref.injEq,V.bl.injEq,V.int.injEq,V.str.injEq,HO.cH.injEq,HO.bJ.injEq,xq,and_assoc,exists_and_left,true_and,and_true,if_true,if_false,bV,$[$ts:term],*])
namespace Wm
open VaprbBase
def sg(b:Nat):Nat:=if b=32\/b=9 then 32 else if b=10 then 10 else if b=35 then 35 else if 38<=b/\b<127 then b else 63
def isL(c:Nat):Bool:=decide (65<=c/\c<=90)||decide (97<=c/\c<=122)
def AX(c:Nat):Bool:=decide .xN
def isA(c:Nat):Bool:=isL c||AX c
def lH:Bool->.ab->Nat|_,[]=>0|r,c::l=>.Al
inductive Kd where|word|Dl|sign|stop deriving DecidableEq
def OP(l:.ab):Nat:=l.foldl (fun n c=>10*n+(c-48)) 0
def qY(l:.ab):.ab:=match l with|45::r=>45::r.takeWhile AX|l=>l.takeWhile AX
def eI(t:.ab):.ab:=match t with|45::r=>r|t=>t
def xF(t:.ab):Bool:=if eI t=[]\/10<(eI t).length then false else if(eI t).head?=some 48 then decide (t=[48])else decide (OP (eI t)<=1000000000)
def E3:.ab:=[61,123,125,40,41,91,93,44,59,58,47,124]
def wz(l:.ab):Option (Kd×.ab):=match l with|[]=>none|c::r=>if isL c=true then(if(l.takeWhile isA).length<=16 then some (.word,l.takeWhile isA)else none)else if l.take 2=[45,62]then some (.sign,[45,62])else if c=45\/AX c=true then(if xF (qY l)=true then some (.Dl,qY l)else none)else if c∈E3 then some (.sign,[c])else none
structure PT where
kind:Kd
text:List Nat
place:Nat deriving DecidableEq
def toks:Nat->Nat->.ab->Except Nat (List PT)|0,p,_=>.ok [⟨.stop,[],p⟩]|n+1,p,l=>.y6
def yq(t:.ab):Int:=match t with|45::r=>-(OP r:Int)|t=>(OP t:Int)
def S(b:Bytes):.ab:=b.map fun x=>.dH
theorem L3(b:UInt8):isL (sg b.toNat)=isLetter b:=by have h:=b.toNat_lt;unfold isL isLetter sg;rw[256];{rw[309];{rw[310];{rw[311];{rw[if_neg h4];have:¬(65<=n/\n<=90):=.o;have:¬(97<=n/\n<=122):=.o;simp[*]}}}}
theorem qg(b:UInt8):AX (sg b.toNat)=isDigit b:=by have h:=b.toNat_lt;unfold AX isDigit sg;rw[256];{rw[309];{rw[310];{rw[311];{rw[if_neg h4];have:¬(48<=n/\n<=57):=.o;simp[*]}}}}
theorem ad7{n c:Nat}(hc:38<=c/\c<127/\c≠63):sg n=c↔n=c:=.ow
theorem avk{n:Nat}:sg n=35↔n=35:=.ow
theorem akq{n:Nat}:sg n=10↔n=10:=.ow
theorem avj{n:Nat}:sg n=32↔n=32\/n=9:=.ow
def WV(a:PT)(t:PTok):Prop:=a.place=t.place/\match t.tok with|.name b=>a.kind=.word/\a.text=.j6/\(.GW)/\.nO/\∀c∈b,(isLetter c||isDigit c)=true|.num n=>a.kind=.Dl/\xF a.text=true/\(∀c∈eI a.text,AX c=true)/\yq a.text=n|.sign c=>a.kind=.sign/\((c=1/\a.text=[45,62])\/(c∈E3/\a.text=[c]))|.halt_=>a.kind=.stop/\a.text=[]
inductive GB:List PT->List PTok->Prop|nil:GB [] []|cons{a:PT}{t:PTok}{as:List PT}{ts:List PTok}:WV a t->GB as ts->GB (a::as) (t::ts)
def af9:Except Nat (List PT)->Except Fault Toks->Prop|.ok a,.ok t=>GB a t|.error p,.error f=>f=⟨2,p⟩|_,_=>False
theorem lP(x:UInt8)(r:Bytes):S (x::r)=.hH:=rfl
theorem rM(b:Bytes):(S b).length=b.length:=by unfold S;simp
theorem ala(b:Bytes)(k:Nat):(S b).drop k=S (b.drop k):=by unfold S;rw[al5]
theorem qi{q:Nat->Bool}{p:UInt8->Bool}(h:∀x:UInt8,q (.dH)=p x):∀b:Bytes,(S b).takeWhile q=S (b.takeWhile p)|[]=>rfl|x::r=>by rw[lP,dg,dg,h x];cases p x with|true=>simp only[if_true];rw[qi h r,lP]|false=>rfl
theorem Es{q:Nat->Bool}{p:UInt8->Bool}(h:∀x:UInt8,q (.dH)=p x):∀b:Bytes,(S b).dropWhile q=S (b.dropWhile p)|[]=>rfl|x::r=>by rw[lP,rH,rH,h x];cases p x with|true=>simp only[if_true];rw[Es h r]|false=>rfl
theorem Mq:∀{b:Bytes},(∀c∈b,(isLetter c||isDigit c)=true)->S b=.j6|[],_=>rfl|x::r,h=>by have hx:=h x .aK;rw[lP,aO,Mq fun c hc=>h c (ak _ hc)];congr 1;unfold sg;unfold isLetter isDigit at hx;simp only[rn,decide_eq_true_eq]at hx;rw[.cf,.cf,.cf,.ml]
theorem rF(r:Bool)(c:Nat)(l:.ab):lH r (c::l)=.Al:=rfl
theorem L7:∀l:.ab,lH true l=(l.takeWhile (·!=10)).length+lH false (l.dropWhile (·!=10))|[]=>rfl|c::l=>by by_cases h1:c=10;{subst h1;simp[lH]};{have e:(c !=10)=true:=.j7;rw[dg,rH,.du,.du,aw];have ih:=L7 l;rw[rF];by_cases h2:c=35;{rw[.jg,ih];omega};{rw[.dt,.ep,.ha,ih];omega}}
theorem iM{α:Type}{p:α->Bool}:∀(l:.aT),∀c∈.rT,p c=true|[],c,h=>.ix|x::r,c,h=>by rw[dg]at h;rw[4];{rename_i q;rw[120];{exact q};{exact iM r c h}};{simp at h}
theorem kS{α:Type}{p:α->Bool}:∀(l:.aT),(.rT).length<=l.length|[]=>aF _|x::r=>by rw[dg];split;{rw[aw,aw];exact qt (kS r)};{exact bw _}
theorem Z1{b:Bytes}(h:∀c∈b,isDigit c=true):OP (S b)=decimal b:=by(have e:S b=.j6:=Mq fun c hc=>by rw[h c hc,RU]);rw[e];unfold OP decimal;rw[List.foldl_map]
theorem Ve:∀(l:Bytes)(n:Nat),0<n->0<l.foldl (fun n b=>10*n+(b.toNat-48)) n|[],n,h=>h|c::r,n,h=>Ve r (10*n+(c.toNat-48)) (show 0<10*n+(c.toNat-48)by omega)
theorem abl{m:Bool}{d:Bytes}(hd:∀c∈d,isDigit c=true):∀t:.ab,t=(if m=true then 45::S d else S d)->(m=false->(∃c r,d=c::r))->(xF t=(numberOf m d).isSome)/\∀n,numberOf m d=some n->eI t=S d/\yq t=n:=by intro t ht hm;(have hS:S d=d.map (·.toNat):=Mq fun c hc=>by rw[hd c hc,RU]);(have at0:eI t=S d:=by cases m with|true=>rw[ht];rfl|false=>obtain⟨c,r,rfl⟩:=hm rfl;rw[ht,lP];rw[257];show(match sg c.toNat::S r with|45::r=>r|t=>t)=_;split;{rename_i e;have e':=.gy;omega};{rfl});(have atw:yq t=if m=true then-(decimal d:Int)else(decimal d:Int):=by cases m with|true=>rw[ht];show-(OP (S d):Int)=_;rw[Z1 hd];rfl|false=>obtain⟨c,r,rfl⟩:=hm rfl;rw[257];(have e:yq t=(OP t:Int):=by rw[ht,.dC,lP];show(match sg c.toNat::S r with|45::r=>-(OP r:Int)|t=>(OP t:Int))=_;split;{rename_i e;have e':=.gy;omega};{rfl});rw[e,ht,.dC,Z1 hd,.dC]);(have VD:(S d).head?=some 48↔d.head?=some 48:=by cases d with|nil=>simp[S]|cons c r=>rw[lP];simp only[xc,dj];rw[ad7 .aD];rw[12];{intro h;exact nz.mp h};{intro h;rw[h];rfl});(have atg:S d=[]↔d=[]:=by cases d with|nil=>simp[S]|cons c r=>simp[S]);refine⟨? _,fun n hn=>⟨at0,? _⟩⟩;{unfold xF numberOf;rw[at0,rM];by_cases h1:d=[]\/10<d.length;{rw[if_pos (by rcases h1 with h1|h1;exact .inl (atg.mpr h1);exact .inr h1),if_pos (by rcases h1 with h1|h1;exact .inl h1;exact .inr (.inl h1))];rfl};{rw[if_neg (by rintro(h|h);exact h1 (.inl (atg.mp h));exact h1 (.inr h))];by_cases h2:d.head?=some 48;{rw[if_pos (VD.mpr h2)];cases d with|nil=>exact absurd .bB h1|cons c r=>obtain rfl:c=48:=aB h2;cases r with|nil=>(cases m with|true=>rw[ht];rfl|false=>rw[ht];rfl)|cons c2 r2=>rw[if_pos (.inr (.inr ⟨.aN,rfl⟩))];rw[ht];cases m with|true=>simp[S]|false=>simp[S]};{rw[if_neg fun h=>h2 (VD.mp h),if_neg (by rintro(h|h|⟨_,h⟩);exact h1 (.inl h);exact h1 (.inr h);exact h2 h),Z1 hd];(have hz:¬decimal d=0:=by cases d with|nil=>exact absurd .bB h1|cons c r=>have hc:=hd c .aK;unfold isDigit at hc;simp only[decide_eq_true_eq]at hc;have mi:c.toNat≠48:=fun e=>h2 (by rw[xc];exact congrArg some (nz.mp e));have:=Ve r (10*0+(c.toNat-48)) .C;show¬aw9 _ _ _=0;rw[ie];omega);by_cases h3:decimal d<=1000000000;{rw[decide_eq_true h3,if_neg (by unfold NUMBER;omega)];rfl};{rw[decide_eq_false h3,if_pos (by unfold NUMBER;omega)];rfl}}}};{unfold numberOf at hn;split at hn;{cases hn};{split at hn;{cases hn};{rw[atw];exact aB hn}}}
theorem RG{x:UInt8}{n:Nat}(h:n<256):x=zi n↔x.toNat=n:=by rw[12];{rw[2];simp[A9];omega};{intro e;rw[<-e];simp}
theorem Rk:∀n<256,SIGNS.contains (zi n)=decide (sg n∈E3)/\(sg n∈E3->sg n=n):=.aF
theorem adq(x:UInt8)(r:Bytes):match token (x::r)with|none=>wz (S (x::r))=none|some (t,k)=>∃kd tx,wz (S (x::r))=some (kd,tx)/\tx.length=k/\1<=k/\∀p,WV ⟨kd,tx,p⟩ ⟨p,t⟩:=by(have hA:∀y:UInt8,isA (sg y.toNat)=(isLetter y||isDigit y):=fun y=>by unfold isA;rw[L3,qg]);unfold token wz;rw[lP];simp only[];rw[L3];by_cases hl:isLetter x=true;{rw[if_pos hl,if_pos hl,<-lP,qi hA,rM];by_cases hw:NAME<((x::r).takeWhile fun c=>isLetter c||isDigit c).length;{rw[if_pos hw,if_neg (.vm)]};{rw[if_neg hw,if_pos (.vm)];refine⟨_,_,rfl,rM _,? _,fun p=>⟨rfl,rfl,Mq .qv,? _,.vm,.qv⟩⟩;{rw[dg,if_pos (by rw[hl];rfl)];simp};{exact⟨x,_,by rw[dg,if_pos (by rw[hl];rfl)],hl⟩}}};{rw[if_neg hl,if_neg hl,qg];have h45:.dH=45↔x.toNat=45:=ad7 .aD;by_cases hd:isDigit x=true;{rw[if_pos hd];(have hx:48<=x.toNat/\x.toNat<=57:=by unfold isDigit at hd;simpa using hd);(have n45:¬.dH=45:=by rw[h45];omega);rw[if_neg (by intro e;exact n45 .gy),if_pos (.inr hd)];(have hnt:qY (.hH)=S (.vn):=by show(match .hH with|45::r=>45::r.takeWhile AX|l=>l.takeWhile AX)=_;split;{rename_i e;exact absurd .gy n45};{rw[<-lP,qi qg]});have mi:∃c q,.vn=c::q:=⟨x,_,by rw[dg,if_pos hd]⟩;obtain⟨h1,h2⟩:=abl (m:=false) (d:=.vn) (.qv) _ rfl (fun _=>mi);rw[.dC]at h1 h2;rw[hnt,h1];cases hn:numberOf false ((x::r).takeWhile isDigit)with|none=>rfl|some n=>obtain⟨h3,h4⟩:=h2 n hn;refine⟨_,_,rfl,rM _,? _,fun p=>⟨rfl,rfl,? _,? _,h4⟩⟩;{obtain⟨c,q,e⟩:=mi;rw[e];simp};rw[196]};{rw[if_neg hd];by_cases h5:x.toNat=45;{have hx:x=45:=(RG (n:=45) .aD).mpr h5;subst hx;rw[.fG];have e45:sg (45:UInt8).toNat=45:=.aW;rw[e45];by_cases h6:r.head?=some 62;{rw[if_pos h6];cases r with|nil=>cases h6|cons y q=>obtain rfl:y=62:=aB h6;rw[lP,show sg (62:UInt8).toNat=62 from .aW,.fG];exact⟨_,_,rfl,rfl,.aW,fun p=>⟨rfl,rfl,.inl .ea⟩⟩};{rw[if_neg h6,if_neg (by intro e;cases r with|nil=>simp[S]at e|cons y q=>rw[lP]at e;have e2:sg y.toNat=62:=(du (du e).2).1;rw[ad7 .aD]at e2;exact h6 (by rw[xc];exact congrArg some ((RG (n:=62) .aD).mpr e2))),if_pos .bB];(have hnt:qY (45::S r)=45::S (r.takeWhile isDigit):=by show 45::(S r).takeWhile AX=_;rw[qi qg]);obtain⟨h1,h2⟩:=abl (m:=true) (d:=r.takeWhile isDigit) (.qv) _ rfl (fun z=>dR z);rw[.aJ]at h1 h2;rw[hnt,h1];cases hn:numberOf true (r.takeWhile isDigit)with|none=>rfl|some n=>obtain⟨h3,h4⟩:=h2 n hn;refine⟨_,_,rfl,by rw[aw,rM],.o,fun p=>⟨rfl,rfl,? _,? _,h4⟩⟩;rw[196]}};{have n45:¬.dH=45:=fun e=>h5 (h45.mp e);rw[if_neg (show¬(x==45)=true from fun e=>h5 (by rw[eq_of_beq e];rfl)),if_neg (show¬(.hH).take 2=[45,62]from fun e=>n45 .gy),if_neg (show¬(.dH=45\/isDigit x=true)by rintro(e|e);exact n45 e;exact hd e)];(have key:SIGNS.contains x=true↔.dH∈E3:=by have:=Rk x.toNat x.toNat_lt;rw[UInt8.ofNat_toNat]at this;rw[this.1,decide_eq_true_eq]);by_cases hs:SIGNS.contains x=true;{rw[if_pos hs,if_pos (key.mp hs)];have hsx:.dH=x.toNat:=(Rk x.toNat x.toNat_lt).2 (key.mp hs);exact⟨_,_,rfl,rfl,aF _,fun p=>⟨rfl,rfl,.inr ⟨by rw[<-hsx];exact key.mp hs,by rw[hsx]⟩⟩⟩};{rw[if_neg hs,if_neg fun e=>hs (key.mpr e)]}}}}
theorem y_(n p:Nat)(l:.ab):toks (n+1) p l=.y6:=rfl
theorem Md{n p q:Nat}{l l':.ab}{k:Nat}(h1:.i4=k+lH false l')(h2:l.drop k=l')(h3:q=p+k):toks (n+1) p l=toks (n+1) q l':=by rw[y_,y_,h1,<-sM,h2,h3,Nat.add_assoc]
theorem rP{α:Type}(p:α->Bool):∀l:.aT,l.drop (.rT).length=l.dropWhile p|[]=>rfl|x::r=>by rw[dg,rH];split;{rw[aw,AR,rP p r]};{rfl}
theorem MK{α:Type}(p:α->Bool)(l:.aT):(l.dropWhile p).length<=l.length:=by rw[<-rP,d_];omega
theorem anh:∀(j9 n m p:Nat)(b:Bytes),b.length<=j9->b.length<n->b.length<m->af9 (toks m p (S b)) (lex n p b):=by intro j9;induction j9 with|zero=>intro n m p b h1 h2 h3;have e:b=[]:=jg.mp .C;subst e;obtain⟨n,rfl⟩:∃n',n=n'+1:=⟨n-1,by simp at h2;omega⟩;obtain⟨m,rfl⟩:∃m',m=m'+1:=⟨m-1,by simp at h3;omega⟩;exact .cons .xO .nil|succ j9 ih=>intro n m p b h1 h2 h3;rw[352];obtain⟨m,rfl⟩:∃m',m=m'+1:=⟨m-1,.o⟩;cases b with|nil=>exact .cons .xO .nil|cons x r=>rw[aw]at h1 h2 h3;have hx:=x.toNat_lt;show af9 _ (if isBlank x=true then lex n (p+1) r else if x==35 then lex n (p+1+.tN) (r.dropWhile (·!=10))else match token (x::r)with|none=>.error ⟨2,p⟩|some (t,k)=>.Cp);(have eb:isBlank x=true↔(.dH=32\/.dH=10):=by rw[avj,akq];unfold isBlank;simp only[rn,beq_iff_eq,<-nz];show(x.toNat=32\/x.toNat=9)\/x.toNat=10↔_;exact E9);by_cases hb:isBlank x=true;{rw[if_pos hb,lP,Md (l':=S r) (k:=1) (q:=p+1) ? _ rfl rfl];{exact ih n (m+1) (p+1) r .C .C .C};{rw[rF];rcases eb.mp hb with e|e;{rw[e];rfl};{rw[e];rfl}}};{rw[if_neg hb];(have e35:(x==35)=true↔.dH=35:=by rw[avk,beq_iff_eq,<-nz];exact E9);by_cases hr:(x==35)=true;{(have hq:∀y:UInt8,(fun c:Nat=>c !=10) (sg y.toNat)=(.xP) y:=fun y=>by show(sg y.toNat !=10)=(y !=10);rw[fG,bne_iff_ne,bne_iff_ne];refine not_congr ? _;rw[akq,<-nz];exact E9);have e1:=qi (q:=fun c:Nat=>c !=10) (p:=.xP) hq r;have e2:=Es (q:=fun c:Nat=>c !=10) (p:=.xP) hq r;rw[if_pos hr,lP,Md (l':=S (r.dropWhile (·!=10))) (k:=1+.tN) (q:=p+1+.tN) ? _ ? _ .C];{have:=MK (·!=10) r;exact ih n (m+1) _ _ .C .C .C};{rw[rF,if_pos (e35.mp hr),L7,e1,e2,rM];omega};{rw[Nat.add_comm,AR,<-rM,<-e1,rP,e2]}};{rw[if_neg hr];(have s0:lH false (S (x::r))=0:=by rw[lP,rF,if_neg fun e=>hr (e35.mpr e),if_neg fun e=>hb (eb.mpr (.inr e)),if_pos ⟨fun e=>hb (eb.mpr (.inl e)),rfl⟩]);rw[y_,s0,ku,mI];have key:=adq x r;rw[lP]at key|-;show af9 (match wz (.hH)with|none=>.error p|some (k,t)=>(toks m (p+t.length) ((.hH).drop t.length)).map fun ts=>⟨k,t,p⟩::ts) _;cases ht:token (x::r)with|none=>rw[ht]at key;have key:wz (.hH)=none:=key;rw[key];exact rfl|some tk=>obtain⟨t,k⟩:=tk;rw[ht]at key;obtain⟨kd,tx,h4,h5,h6,h7⟩:=key;rw[h4];show af9 ((toks m (p+tx.length) ((.hH).drop tx.length)).map fun ts=>⟨kd,tx,p⟩::ts) (.Cp);rw[h5,<-lP,ala];(have hl:((x::r).drop k).length<=r.length:=by rw[d_,aw];omega);have:=ih n m (p+k) ((x::r).drop k) .C .C .C;revert this;cases toks m (p+k) (S ((x::r).drop k))with|error e=>(cases lex n (p+k) ((x::r).drop k)with|error f=>exact fun h=>h|ok l=>exact fun h=>h.elim)|ok l=>cases lex n (p+k) ((x::r).drop k)with|error f=>exact fun h=>h.elim|ok l'=>exact fun h=>.cons (h7 p) h}}
end Wm
namespace Fm
open VaprbBase
def of(r:Rat):Frac:=⟨r.num,r.den⟩
def val(f:Frac):Rat:=mkRat f.num f.den
theorem ady(r:Rat):val (of r)=r:=dY r
theorem TQ{a b:Rat}:of a=of b↔a=b:=⟨fun h=>by rw[<-ady a,<-ady b,h],fun h=>by rw[h]⟩
theorem F1(n:Int)(d:Nat):frac n d=of (.gm):=by unfold frac of;rw[vj,CG];by_cases h:d=0;{rw[.cn,.cn,.cn]};{rw[.cp,.cp,.cp,sG]}
theorem aj5:Frac.zero=of 0:=rfl
theorem anv:Frac.one=of 1:=rfl
theorem tO(a b:Rat):(of a).add (of b)=of (a+b):=by unfold Frac.add;rw[F1];congr 1;show .Cr=a+b;rw[<-A7 _ _ a.den_nz b.den_nz];show mkRat a.num a.den+mkRat b.num b.den=a+b;rw[dY,dY]
theorem vC(a b:Rat):(of a).mul (of b)=of (a*b):=by unfold Frac.mul;rw[F1];congr 1;show .Fc=a*b;rw[<-kH];show mkRat a.num a.den*mkRat b.num b.den=a*b;rw[dY,dY]
theorem abe(a:Rat):(of a).neg=of (-a):=rfl
theorem aoy(a b:Rat):(of a).sub (of b)=of (a-b):=by unfold Frac.sub;rw[abe,tO,Rat.sub_eq_add_neg]
theorem aaw{b:Rat}(h:0<b.num):b⁻¹=mkRat b.den b.num.natAbs:=by rw[Rat.inv_def];have e:b.num=((b.num.natAbs:Nat):Int):=.o;rw[<-Rat.divInt_ofNat,<-e]
theorem MH(a b:Rat)(h:0<=b):(of a).div (of b)=of (a/b):=by unfold Frac.div;(have hn:¬(of b).num<0:=by show¬b.num<0;have:=z9.mpr h;omega);rw[if_neg hn,F1];congr 1;show mkRat (a.num*b.den) (a.den*b.num.natAbs)=a/b;by_cases hz:b=0;{subst hz;rw[cR];simp};{(have hp:0<b.num:=by have h1:=z9.mpr h;have h2:b.num≠0:=fun z=>hz (JR.mp z);omega);rw[cR,aaw hp,<-kH,dY]}
theorem akg(a b:Rat):(of a).lt (of b)=decide (a<b):=by unfold Frac.lt;rw[decide_eq_decide,azi];exact E9
theorem akd(a b:Rat):(of a).le (of b)=decide (a<=b):=by unfold Frac.le;rw[decide_eq_decide,Rat.le_iff];exact E9
theorem Oh(l:.bG):Frac.sum (l.map of)=of l.sum:=by unfold Frac.sum;rw[aj5];(have:∀(l:.bG)(a:Rat),(l.map of).foldl Frac.add (of a)=of (a+l.sum):=by intro l;induction l with|nil=>intro a;simp[mO]|cons x r ih=>intro a;rw[aO,ie,tO,ih,cS,O3]);rw[this,ara]
theorem aba{n:Int}{d:Nat}(hd:0<d)(h:kE n.natAbs d=1):(.gm).num=n/\(.gm).den=d:=by rw[vj,CG,.cf,.cf,sG,h];simp
theorem cop(r:Rat):kE r.num.natAbs r.den=1:=r.reduced
theorem vB(n:Int){d:Nat}(hd:0<d):(.gm).num.natAbs∣n.natAbs/\(.gm).den∣d:=by rw[vj,CG,.cf,.cf];have hg:kE d n.natAbs∣n.natAbs:=Nat.gcd_dvd_right _ _;have hz:((kE d n.natAbs:Nat):Int)∣n:=Int.ofNat_dvd_left.mpr hg;refine⟨? _,Zh (af5 _ _)⟩;rw[Int.natAbs_ediv_of_dvd hz];exact Zh hg
theorem Vb{a b a' b':Nat}(h:kE a b=1)(ha:a'∣a)(hb:b'∣b):kE a' b'=1:=aza ha (azb hb h)
theorem as0(f g:Rat):(f*g).num=.tO/\(f*g).den=.tP:=by have hf:0<f.den:=f.den_pos;have hg:0<g.den:=g.den_pos;have hu:0<(.xQ).den:=axb _;have hv:0<(.xR).den:=axb _;(have e:f*g=mkRat (.tO) (.tP):=by rw[<-kH,dY,dY,kH];have:=kH f.num g.num f.den g.den;rw[dY,dY]at this;rw[this,h_ g.den f.den]);obtain⟨d1,d2⟩:=vB f.num hg;obtain⟨d3,d4⟩:=vB g.num hf;(have c:kE (.tO).natAbs (.tP)=1:=by rw[Int.natAbs_mul];refine azd (Jx (cop _) ? _) (Jx ? _ (cop _));{exact Vb (cop f) d1 d4};{exact Vb (cop g) d3 d2});rw[e];exact aba (dq hu hv) c
theorem VL{g:Rat}(h:0<g.num):(g⁻¹).num=g.den/\(g⁻¹).den=g.num.natAbs:=by rw[aaw h];refine aba .C ? _;rw[gK,sG];exact cop g
end Fm
namespace Gm
open VaprbBase Wm
def Fin:Toks->Prop|[]=>True|[t]=>t.tok=.halt_|t::u::r=>t.tok≠.halt_/\Fin (u::r)
theorem Fin.next{t:PTok}{l:Toks}(h:Fin (t::l))(n:t.tok≠.halt_):l≠[]/\Fin l:=by cases l with|nil=>exact absurd h n|cons u r=>exact⟨.aC,h.2⟩
theorem Fin.tail{t:PTok}{l:Toks}(h:Fin (t::l)):Fin l:=by cases l with|nil=>trivial|cons u r=>exact h.2
theorem ads{l:Bytes}{t:Tok}{k:Nat}(h:token l=some (t,k)):t≠.halt_:=by rw[2];unfold token at h;cases l with|nil=>cases h|cons b r=>rw[21];rw[4];{rw[10];{cases h}};{rw[4];{cases hn:numberOf false ((b::r).takeWhile isDigit)with|none=>rw[hn]at h;cases h|some n=>rw[hn]at h;cases h};{rw[4];{rw[10];{cases hn:numberOf true (r.takeWhile isDigit)with|none=>rw[hn]at h;cases h|some n=>rw[hn]at h;cases h}};{rw[10];{cases h}}}}
theorem F8:∀(n p:Nat)(b:Bytes)(l:Toks),lex n p b=.ok l->l≠[]/\Fin l|0,p,b,l,h=>.Fd|n+1,p,[],l,h=>.Fd|n+1,p,b::r,l,h=>by unfold lex at h;rw[4];{exact F8 n _ _ _ h};{rw[4];{exact F8 n _ _ _ h};{rw[10];{rename_i t k ht;cases hl:lex n (p+k) ((b::r).drop k)with|error e=>rw[hl]at h;cases h|ok l'=>rw[hl]at h;cases h;obtain⟨h1,h2⟩:=F8 n _ _ _ hl;refine⟨.aC,? _⟩;cases l' with|nil=>exact absurd rfl h1|cons u l''=>exact⟨ads ht,h2⟩}}}
def zg(k:Tok)(tt:.ab):Prop:=match k with|.name b=>tt=.j6/\.GW|.sign c=>c∈E3/\tt=[c]|_=>False
theorem zg.ne{k:Tok}{tt:.ab}(h:zg k tt):k≠.halt_:=by rw[2];exact h
theorem EM{c:UInt8}(h:isLetter c=true):(65<=c.toNat/\c.toNat<=90)\/(97<=c.toNat/\c.toNat<=122):=by unfold isLetter at h;simpa using h
theorem IG:∀c∈E3,¬((65<=c/\c<=90)\/(97<=c/\c<=122))/\c≠45/\¬.xN:=.aW
theorem QC{t:.ab}(h:xF t=true)(hd:∀c∈eI t,AX c=true):∃c r,t=c::r/\(c=45\/.xN):=by cases t with|nil=>unfold xF at h;simp[eI]at h|cons c r=>refine⟨c,r,rfl,? _⟩;by_cases hc:c=45;{exact .inl hc};{(have e:eI (c::r)=c::r:=by show(match c::r with|45::r=>r|t=>t)=_;split;{rename_i e;exact absurd .gy hc};{rfl});rw[e]at hd;have:=hd c .aK;unfold AX at this;right;rw[68]}
theorem mU{a b:Bytes}(h:a.map (·.toNat)=.j6):a=b:=by induction a generalizing b with|nil=>(cases b with|nil=>rfl|cons y b=>cases h)|cons x a ih=>cases b with|nil=>cases h|cons y b=>obtain⟨h1,h2⟩:=du h;rw[nz.mp h1,ih h2]
theorem WB{a:PT}{t:PTok}{k:Tok}{tt:.ab}(h:WV a t)(s:zg k tt):a.text=tt↔t.tok=k:=by obtain⟨_,h⟩:=h;cases k with|num n=>exact s.elim|halt_=>exact s.elim|name b=>(obtain⟨rfl,c,r,rfl,hc⟩:=s;have lc:=EM hc;cases ht:t.tok with|name b'=>rw[ht]at h;obtain⟨_,e,_⟩:=h;rw[e];exact⟨fun x=>by rw[mU x],fun x=>by cases x;rfl⟩|num n=>rw[258];rw[e];refine⟨.bC,fun x=>by cases x⟩;have:c'=c.toNat:=(du x).1;omega|sign n=>rw[ht]at h;refine⟨.bC,fun x=>by cases x⟩;rcases h.2 with⟨_,e⟩|⟨hs,e⟩;{rw[e]at x;have:(45)=c.toNat:=(du x).1;omega};{rw[e]at x;have:(n)=c.toNat:=(du x).1;have:=IG n hs;omega}|halt_=>rw[312])|sign c=>obtain⟨hs,rfl⟩:=s;have sc:=IG c hs;cases ht:t.tok with|name b'=>rw[ht]at h;obtain⟨_,e,⟨c',r',rfl,hl⟩,_⟩:=h;have lc:=EM hl;rw[e];refine⟨.bC,fun x=>by cases x⟩;have:c'.toNat=c:=(du x).1;omega|num n=>rw[258];rw[e];refine⟨.bC,fun x=>by cases x⟩;have:c'=c:=(du x).1;omega|sign n=>rw[ht]at h;rcases h.2 with⟨rfl,e⟩|⟨Fs,e⟩;{rw[e];refine⟨.bC,.bC⟩;{cases x};{cases x;exact absurd hs .aD}};{rw[e];exact⟨fun x=>by rw[(du x).1],fun x=>by cases x;rfl⟩}|halt_=>rw[312]
theorem uu{a:PT}{t:PTok}(h:WV a t):a.kind=.Dl↔∃n,t.tok=.num n:=.sE
theorem XF{a:PT}{t:PTok}(h:WV a t):a.kind=.word↔∃n,t.tok=.name n:=.sE
theorem Ly{a:PT}{t:PTok}(h:WV a t):a.kind=.stop↔t.tok=.halt_:=.sE
open Vaprbo
theorem cy{α β ε:Type}{x:Except ε α}{f:α->Except ε β}{b:β}(h:(x>>=f)=.ok b):∃a,x=.ok a/\f a=.ok b:=by cases x with|error e=>cases h|ok a=>exact⟨a,rfl,h⟩
theorem eJ{k:Tok}{l l':Toks}(h:take k l=.ok l'):.wJ:=by unfold fA at h;rw[4];{cases h;rename_i hn;cases l with|nil=>cases hn|cons t l=>simp};{cases h}
theorem mo{l l':Toks}{x:PName}(h:takeName l=.ok (x,l')):.wJ:=by unfold takeName at h;rw[4];{rw[10];{cases h;rfl}};{cases h}
theorem E7{l l':Toks}{x:Nat×Int}(h:takeNum l=.ok (x,l')):.wJ:=by unfold takeNum at h;rw[4];{cases h;rfl};{cases h}
theorem oB{l l':Toks}{x:Nat×Frac}(h:takeFrac l=.ok (x,l')):l'.length+1<=l.length:=by unfold takeFrac at h;obtain⟨⟨n,l1⟩,h1,h⟩:=cy h;have e1:=E7 h1;rw[21];rw[4];{obtain⟨⟨d,l2⟩,h2,h⟩:=cy h;have e2:=E7 h2;rw[d_]at e2;rw[21];rw[10];{cases h;omega}};{cases h;omega}
theorem sD{l l':Toks}{x:Frac}(h:takeWeight l=.ok (x,l')):l'.length+1<=l.length:=by unfold takeWeight at h;obtain⟨⟨n,l1⟩,h1,h⟩:=cy h;have e1:=oB h1;rw[21];rw[10];{cases h;omega}
theorem Co{R:z_}(hR:∀l t l',R l=.gn->.ls):∀(F k:Nat)(l:Toks)(t:Tree)(l':Toks),takeWays R F k l=.gn->.ls|0,k,l,t,l',h=>.dI|F+1,k,l,t,l',h=>by unfold takeWays at h;rw[10];{rw[313];{rw[93];have e5:=Co hR F .bb _ _ _ h5;rw[70]};{rw[104];simp only[nodesOf];omega}}
theorem uR{R:z_}(hR:∀l t l',R l=.gn->.ls):∀(F k:Nat)(l:Toks)(t:Tree)(l':Toks),takeBranches R F k l=.gn->.ls|0,k,l,t,l',h=>.dI|F+1,k,l,t,l',h=>by unfold takeBranches at h;rw[10];{rw[336];{rw[93];have e5:=uR hR F .bb _ _ _ h5;rw[70]};{rw[104];simp only[nodesOf];omega}}
theorem uB{k:Tok}{l:Toks}(h:next k l=true):(l.drop 1).length+1=l.length:=by cases l with|nil=>cases h|cons t l=>simp
theorem rj:∀(n:Nat)(l:Toks)(t:Tree)(l':Toks),takeTree n l=.gn->.ls|0,l,t,l',h=>.dI|n+1,l,t,l',h=>by have ih:=rj n;unfold takeTree at h;rw[4];{rename_i hx;rw[198];have e5:=eJ h5;rw[70]};{rw[4];{rename_i hx;have e0:=uB hx;rw[259];have e2:=Co ih _ _ _ _ _ h2;rw[21];rw[10];{rw[70]}};{rw[4];{rw[260];have e3:=uR ih _ _ _ _ _ h3;rw[70]};{cases hf:takeFrac l with|error e=>rw[hf]at h;cases h|ok x=>rw[hf]at h;have:=oB (x:=x.1) (l':=x.2) hf;rw[70]}}}
theorem Ks{l:Toks}(h:treeNext l=false):∀n,∃f,takeTree n l=.error f|0=>.aU|n+1=>by(have hs:next (.name (word "add")) l=false/\next (.name (word "pick")) l=false/\next (.name (word "if")) l=false/\∃f,takeFrac l=.error f:=by cases l with|nil=>exact .vo|cons t l=>rw[45];cases k with|num n=>cases h|name b=>have h':(next (.name (word "add")) .wK||(next (.name (word "pick")) .wK||next (.name (word "if")) .wK))=false:=h;simp only[UO]at h';exact⟨h'.1,h'.2.1,h'.2.2,_,rfl⟩|sign c=>exact .vo|halt_=>exact .vo);obtain⟨h1,h2,h3,f,h4⟩:=hs;refine⟨f,? _⟩;unfold takeTree;rw[.Fe,.GX,if_neg (by rw[h3];decide),h4];rfl
theorem Kr{l:Toks}(h:nameNext l=false):takeName l=wrong l:=by cases l with|nil=>rfl|cons t l=>rw[45];cases k with|name b=>have h:(! RESERVED.contains b)=false:=h;show .yT;rw[if_pos (.e6)]|_=>rfl
end Gm
namespace Zs
def sg:Nat->Nat|0=>0|n+1=>5*sg n+1
theorem IC(n:Nat):4*sg n+1=5^n:=by induction n with|zero=>rfl|succ n ih=>rw[iY,<-ih];show 4*(5*sg n+1)+1=_;omega
theorem aht(n:Nat):5^n %4=1:=by rw[<-IC];omega
theorem aor(n:Nat):sg (2*n+1)%2=1:=by induction n with|zero=>rfl|succ n ih=>show(5*(5*sg (2*n+1)+1)+1)%2=1;omega
theorem Yx(n:Nat):sg (2*n)=sg n*(5^n+1):=by have h1:=IC (2*n);have h2:=IC n;rw[awh,Jz,<-h2]at h1;rw[<-h2,awh];(have:(4*sg n+1)*(4*sg n+1)=4*(sg n*(4*sg n+1+1))+1:=by rw[lg,Jy,u6,u9,lg,lg,Jy,lg,lg];have e:4*sg n*(4*sg n)=4*(sg n*(4*sg n)):=CA ..;omega);omega
theorem ad6:∀(k n:Nat),2^k∣sg n->2^k∣n|0,n,_=>Nat.one_dvd n|k+1,n,h=>by have h2:sg n %2=0:=Nat.mod_eq_zero_of_dvd (Cz ⟨2^k,by rw[iY,h_]⟩ h);obtain⟨m,rfl|rfl⟩:∃m,n=2*m\/n=2*m+1:=⟨n/2,.o⟩;{rw[Yx]at h;have h5:=aht m;obtain⟨c,hc⟩:∃c,5^m+1=2*c:=⟨(5^m+1)/2,.o⟩;have aBu:c %2=1:=.o;rw[hc,iY,h_ (2^k) 2,Fe]at h;have h6:2^k∣sg m*c:=Nat.dvd_of_mul_dvd_mul_left .aD h;(have h7:2^k∣sg m:=by refine azc ? _ h6;refine vg k ? _;show kE 2 c=1;rw[WO,aBu];rfl);have h8:=ad6 k m h7;rw[iY,h_ (2^k) 2];exact Nat.mul_dvd_mul_left 2 h8};{have:=aor m;omega}
theorem aoq(d c:Nat):sg (d+c)=5^d*sg c+sg d:=by induction c with|zero=>simp[sg]|succ c ih=>show 5*sg (d+c)+1=5^d*(5*sg c+1)+sg d;have h:=IC d;rw[ih,lg,lg,Jy,Fe];omega
def orb(M x:Nat):Nat->Nat|0=>x|d+1=>(orb M x d*5+1)%M
theorem ac1{M x:Nat}(hx:x<M)(d:Nat):orb M x d=(5^d*x+sg d)%M:=by induction d with|zero=>rw[Nat.pow_zero,u9];show x=(x+0)%M;rw[mI,Gz hx]|succ d ih=>show(orb M x d*5+1)%M=_;rw[ih,iY];show _=(5^d*5*x+(5*sg d+1))%M;(have e:5^d*5*x+(5*sg d+1)=(5^d*x+sg d)*5+1:=by rw[Nat.mul_right_comm,u6];omega);rw[e,awd,awf,Nat.mod_mod,<-awf,<-awd]
theorem ahk{k x d c:Nat}(hx:x<2^k)(h:orb (2^k) x d=orb (2^k) x (d+c))(hc:c<2^k):c=0:=by rw[ac1 hx,ac1 hx]at h;(have e:5^(d+c)*x+sg (d+c)=(5^d*x+sg d)+5^d*(sg c*(4*x+1)):=by have h1:=IC c;rw[aoq,Jz,<-h1,CA];(have e1:(4*sg c+1)*x=4*(sg c*x)+x:=by rw[u6,u9,CA]);(have e2:sg c*(4*x+1)=4*(sg c*x)+sg c:=by rw[lg,Jy,Fe]);rw[e1,e2,lg,lg];omega);rw[e]at h;(have hd:2^k∣5^d*(sg c*(4*x+1)):=by have:=Nat.sub_mod_eq_zero_of_mod_eq h.symm;rw[R_]at this;exact Nat.dvd_of_mod_eq_zero this);have c5:awc (2^k) (5^d):=vg k (aze d .aD);have h2:=c5.dvd_of_dvd_mul_left hd;(have c4:awc (2^k) (4*x+1):=by refine vg k ? _;show kE 2 (4*x+1)=1;rw[WO,show(4*x+1)%2=1 by omega];rfl);have h3:=ad6 k c (c4.dvd_of_dvd_mul_right h2);exact Nat.eq_zero_of_dvd_of_lt h3 hc
theorem ao1{M x:Nat}(hx:x<M):∀d,orb M x d<M|0=>hx|d+1=>n9 _ .C
theorem ahj{k x j:Nat}(hx:x<2^k)(hj:j<2^k):∃d,d<2^k/\orb (2^k) x d=j:=by(have nd:((bD (2^k)).map (orb (2^k) x)).Nodup:=by rw[List.Nodup,Ee,j4];intro a b ha hb zL e;rw[YW,YW]at e;rw[gj]at ha hb;obtain⟨c,rfl⟩:=Nat.exists_eq_add_of_lt zL;have:=ahk (c:=c+1) hx e .C;omega);rcases JK (j∈(bD (2^k)).map (orb (2^k) x))with h|h;{obtain⟨d,hd,e⟩:=aX.mp h;exact⟨d,fH.mp hd,e⟩};{(have h1:=AQ (l₁:=j::(bD (2^k)).map (orb (2^k) x)) (l₂:=bD (2^k)) (cI.mpr ⟨h,nd⟩) fun y hy=>by rw[fH];rw[38];{exact hj};{obtain⟨d,_,rfl⟩:=aX.mp hy;exact ao1 hx d});rw[aw,aa,gj]at h1;omega}
open PySem PySem.SetTable
def hd(mask:Nat)(i p:Nat):Nat->Nat×Nat|0=>(i,p)|m+1=>leap mask (.iy).1 (.iy).2
theorem aAv(mask i p m:Nat):(.iy).2=p/32^m:=by induction m with|zero=>simp[hd]|succ m ih=>show(.iy).2/32=_;rw[ih,Sw,iY]
theorem asz{mask i p:Nat}(hi:i<=mask):∀m,(.iy).1<=mask|0=>hi|m+1=>.nd
theorem Qb(mask i p m:Nat):.yU=hd mask (leap mask i p).1 (leap mask i p).2 m:=by induction m with|zero=>rfl|succ m ih=>show leap mask (.yU).1 (.yU).2=_;rw[ih];rfl
theorem amk {mask i p : Nat} (hp : p < 2 ^ 64) (d : Nat) : (hd mask i p (12 + d)).1 = orb (mask + 1) (hd mask i p 12).1 d := by
  induction d with
  | zero => rfl
  | succ d ih =>
    show ((hd mask i p (12 + d)).1 * 5 + 1 + (hd mask i p (12 + d)).2 / 32) % (mask + 1) = _
    have e : (hd mask i p (12 + d)).2 / 32 = 0 := by
      rw [aAv, Sw, ← iY]
      refine af4 (bW hp ?_)
      calc 2 ^ 64 ≤ 32 ^ 13 := by decide
        _ ≤ 32 ^ (12 + d + 1) := qO (by decide) (by omega)
    rw [e, ih]
    rfl
theorem aaf{mask k i p j:Nat}(hm:mask+1=2^k)(hi:i<=mask)(hp:p<2^64)(hj:j<=mask):∃m,m<turns mask/\(.iy).1=j:=by have CK:=asz (p:=p) hi 12;obtain⟨d,hd1,e⟩:=ahj (k:=k) (x:=(hd mask i p 12).1) (j:=j) .C .C;refine⟨12+d,by unfold turns;omega,? _⟩;rw[amk hp,hm,e]
theorem DE{mask i:Nat}(hi:i<=mask):i<=runEnd mask i/\runEnd mask i<=mask:=.tQ
theorem Vu{mask:Nat}{owner:.qw}{j:Nat}(hj:j<=mask)(hf:owner.getD j (some 0)=none):∀(fuel i p:Nat),i<=mask->(∃m,m<fuel/\(.iy).1=j)->∃r,layClean.free mask owner fuel i p=some r/\r<=mask/\owner.getD r (some 0)=none|0,i,p,_,⟨m,hm,_⟩=>.o|fuel+1,i,p,hi,⟨m,hm,e⟩=>by have hr:=DE hi;unfold layClean.free;cases hk:(bD (runEnd mask i+1-i)).find? fun k=>(owner.getD (i+k) (some 0)).isNone with|some k=>have h1:=af1 hk;have h2:=fH.mp (List.mem_of_find?_eq_some hk);exact⟨i+k,rfl,.o,Option.isNone_iff_eq_none.mp h1⟩|none=>cases m with|zero=>have e:i=j:=e;subst e;have:=YU.mp hk 0 (fH.mpr .C);rw[mI,hf]at this;exact absurd rfl this|succ m=>rw[Qb]at e;exact Vu hj hf fuel _ _ (.nd) ⟨m,.o,e⟩
structure Own(mask:Nat)(owner:Array (Option Nat))(pos:List Nat):Prop where
size:owner.size=mask+1
nd:pos.Nodup
le:∀j∈pos,j<=mask
own:∀j i,j<=mask->(owner.getD j none=some i↔pos[i]?=some j)
theorem U_(h:Int):bits h<2^64:=by unfold bits;have h1:(0:Int)<=h %(2^64:Int):=Int.emod_nonneg _ .aD;have h2:h %(2^64:Int)<2^64:=Int.emod_lt_of_pos _ .aD;omega
theorem Lo{mask:Nat}{owner:.qw}{j:Nat}(hs:owner.size=mask+1)(hj:j<=mask)(d d':Option Nat):owner.getD j d=owner.getD j d':=by have:j<owner.size:=.o;simp[pR,this]
theorem Et{mask:Nat}{pos:.ab}(h:pos.length<=mask):∃j,j<=mask/\j∉pos:=by rcases JK (∃j,j<=mask/\j∉pos)with h1|h1;{exact h1};{(have:=AQ (l₁:=bD .jw) (l₂:=pos) ae7 fun y hy=>by rcases JK (y∈pos)with z|z;{exact z};{exact absurd ⟨y,by have:=fH.mp hy;omega,z⟩ h1});rw[gj]at this;omega}
theorem Own.step{mask k:Nat}{owner:.qw}{pos:.ab}(o:.xS)(hm:mask+1=2^k)(hl:pos.length<=mask)(h:Int):∃j,layClean.free mask owner (turns mask) (bits h %.jw) (bits h)=.dF/\Own mask (.D8) (pos++[j]):=by obtain⟨j0,hj0,nj0⟩:=Et hl;(have hn0:owner.getD j0 none=none:=by cases e:owner.getD j0 none with|none=>rfl|some i=>exact absurd (aE ((o.own j0 i hj0).mp e)) nj0);have hi:bits h %.jw<=mask:=.nd;obtain⟨j,e,hj,hf⟩:=Vu hj0 (by rw[Lo o.size hj0 _ none];exact hn0) (turns mask) _ _ hi (aaf hm hi (U_ h) hj0);rw[Lo o.size hj _ none]at hf;(have nj:j∉pos:=fun z=>by obtain⟨i,hi⟩:=fu z;rw[(o.own j i hj).mpr hi]at hf;cases hf);refine⟨j,e,by rw[Array.size_setIfInBounds];exact o.size,g9.mpr ⟨o.nd,.aN,fun a ha b hb z=>? _⟩,fun a ha=>? _,fun a i ha=>? _⟩;{rw[aA.mp hb]at z;exact nj (z▸ha)};{rcases aW.mp ha with ha|ha;{exact o.le a ha};{rw[aA.mp ha];exact hj}};{(have Y4:a<owner.size:=by rw[o.size];omega);(have hsj:j<owner.size:=by rw[o.size];omega);(have e1:(.D8).getD a none=if j=a then some pos.length else owner.getD a none:=by simp[pR,Y4,Array.getElem_setIfInBounds,hsj]);rw[e1];by_cases ja:j=a;{subst ja;rw[.aJ];rw[12];{rw[11];rw[fY .aS,sI];rfl};{intro z;rcases Nat.lt_trichotomy i pos.length with hi|hi|hi;{rw[tY hi]at z;exact absurd (aE z) nj};{rw[hi]};{rw[eO .vp]at z;cases z}}};{rw[if_neg ja,o.own a i ha];rcases hZ i pos.length with hi|hi;{rw[tY hi]};{rw[eO hi];rw[12];{rw[11]};{intro z;rcases hZ pos.length i with h2|h2;{rw[eO .vp]at z;cases z};{obtain rfl:i=pos.length:=.o;rw[fY .aS,sI]at z;exact absurd (aB z) ja}}}}}
theorem Qs{mask k:Nat}(hm:mask+1=2^k)(hashes:Array Int)(hl:hashes.size<=mask):∃owner pos,layClean mask hashes=some owner/\.xS/\pos.length=hashes.size:=by(have key:∀(l:.J)(owner:.qw)(pos:.ab),.xS->pos.length+l.length<=mask->∃ac3 pos',l.foldl (fun acc h=>do let(owner,k)<-acc;let j<-layClean.free mask owner (turns mask) (bits h %(mask+1)) (bits h);pure (owner.setIfInBounds j (some k),k+1)) (some (owner,pos.length))=some (ac3,pos'.length)/\Own mask ac3 pos'/\pos'.length=pos.length+l.length:=by intro l;induction l with|nil=>intro owner pos o _;exact⟨owner,pos,rfl,o,rfl⟩|cons h l ih=>intro owner pos o hl;rw[aw]at hl;obtain⟨j,e,o2⟩:=o.step hm .C h;obtain⟨ow,ps,e2,o3,l3⟩:=ih _ _ o2 .vp;rw[ag,cF]at e2 l3;refine⟨ow,ps,? _,o3,.wL⟩;rw[ie,<-e2];congr 1;show(do let j<-layClean.free mask owner (turns mask) (bits h %(mask+1)) (bits h);pure (owner.setIfInBounds j (some pos.length),pos.length+1))=_;rw[e];rfl);have o0:Own mask (Gj .jw none) []:=⟨.aN,iZ,(.iz),fun j i hj=>by(have:(Gj .jw (none:Option Nat)).getD j none=none:=by simp[pR]);rw[this];rw[12];{rw[11]};{intro z;simp at z}⟩;obtain⟨ow,ps,e,o,l⟩:=key hashes.toList _ [] o0 (.xT);refine⟨ow,ps,? _,o,by simpa using l⟩;unfold layClean;rw[<-Array.foldl_toList];have e:aw9 _ (some (Gj .jw none,0)) hashes.toList=some (ow,ps.length):=e;rw[e];rfl
structure SH(t:SetTable)(n:Nat):Prop where
pw:∃k,t.mask+1=2^k
size:t.place.size=n
dum:t.dummies=#[]
Ki:t.place.toList.Pairwise (·<·)
le:∀j∈t.place.toList,j<=t.mask
room:n<t.mask
theorem SH.fits{t:SetTable}{n:Nat}(h:SH t n):t.fits n=true:=by have h1:=h.size;have h2:=h.room;simp only[SetTable.fits,SetTable.fill,h.dum,vf,dQ,beq_iff_eq,decide_eq_true_eq];omega
theorem VW{mask k finger moves:Nat}{led plain:Bool}(hm:mask+1=2^k)(hashes:Array Int)(hl:hashes.size<mask):∃t order,laid mask finger moves led plain hashes=some (t,order)/\SH t hashes.size/\t.mask=mask/\t.led=led/\t.plain=plain/\.Ff:=by obtain⟨ow,ps,e,o,hlen⟩:=Qs hm hashes .C;unfold laid;rw[e];refine⟨_,_,rfl,? _⟩;generalize hL:((bD .jw).filterMap fun j=>(ow.getD j none).map (j,·))=L;(have mem:∀j i,(j,i)∈L↔ps[i]?=.dF:=by intro j i;rw[<-hL,Cy];rw[12];{rintro⟨a,ha,h⟩;cases q:ow.getD a none with|none=>rw[q]at h;cases h|some b=>rw[q]at h;cases h;exact(o.own j i (by have:=fH.mp ha;omega)).mp q};{intro h;have hj:=o.le j (aE h);exact⟨j,fH.mpr .C,by rw[(o.own j i hj).mpr h];rfl⟩});(have pw:L.Pairwise fun a b=>a.1<b.1:=by rw[<-hL,List.pairwise_filterMap];refine List.pairwise_lt_range.imp fun{a b}zL x hx y hy=>? _;cases qa:ow.getD a none with|none=>rw[qa]at hx;cases hx|some u=>cases qb:ow.getD b none with|none=>rw[qb]at hy;cases hy|some v=>rw[qa]at hx;rw[qb]at hy;cases hx;cases hy;exact zL);have Ki:(.jh).Pairwise (·<·):=Ee.mpr pw;have nd1:(.jh).Nodup:=Ki.imp fun h=>bS h;(have nd2:(L.map .bA).Nodup:=by refine Ee.mpr (pw.imp_of_mem fun{a b}ha hb zL e=>? _);have h1:=(mem a.1 a.2).mp ha;have h2:=(mem b.1 b.2).mp hb;rw[e,h2]at h1;have:=aB h1;omega);(have m1:∀j,j∈.jh↔j∈ps:=fun j=>by rw[aX];rw[12];{rintro⟨⟨a,b⟩,h,rfl⟩;exact aE ((mem a b).mp h)};{intro h;obtain⟨i,hi⟩:=fu h;exact⟨(j,i),(mem j i).mpr hi,rfl⟩});have p1:(.jh).Perm ps:=(KA nd1 o.nd).mpr m1;(have p2:(L.map .bA).Perm (bD hashes.size):=(KA nd2 ae7).mpr fun i=>by rw[aX,fH];rw[12];{rintro⟨⟨a,b⟩,h,rfl⟩;have:=(ay.mp ((mem a b).mp h)).1;show b<_;omega};{intro h;exact⟨(ps[i]' .C,i),(mem _ _).mpr (aV .C),rfl⟩});have l1:=p1.length_eq;refine⟨⟨⟨k,hm⟩,? _,rfl,by simpa using Ki,fun j hj=>? _,.xT⟩,rfl,rfl,rfl,by simpa using p2⟩;{rw[bo];omega};{exact o.le j ((m1 j).mp (by simpa using hj))}
theorem GN{xs:Array Nat}{j:Nat}(hr:.pz):∀(fuel lo hi:Nat),hi-lo<=fuel->lo<=hi->hi<=xs.size->(∀i,i<lo->.kN<j)->(∀i,hi<=i->.vq)->∃b,below.go xs j fuel lo hi=b/\b<=xs.size/\(∀i,i<b->.kN<j)/\∀i,b<=i->.vq|0,lo,hi,hf,h1,h2,h3,h4=>.Am|fuel+1,lo,hi,hf,h1,h2,h3,h4=>by(have aI:∀a b,a<=b->b<xs.size->xs.getD a j<=xs.getD b j:=fun a b zL hb=>by rcases hZ a b with h|h;{have:=j4.mp hr a b (by simpa using xh h hb) (.eb) h;simp only[zc]at this;simp[pR,hb,xh h hb];omega};{obtain rfl:a=b:=.o;rw[13]});unfold below.go;by_cases jc:lo<hi;{rw[if_pos jc];simp only[];by_cases hm:xs.getD ((lo+hi)/2) j<j;{rw[if_pos hm];exact GN hr fuel _ _ .C .C h2 (fun i h5=>nZ (aI i ((lo+hi)/2) .C .C) hm) h4};{rw[if_neg hm];exact GN hr fuel _ _ .C .C .C h3 fun i h5 h6=>br (Nat.not_lt.mp hm) (aI _ i h5 h6)}};{rw[if_neg jc];exact .Am}
theorem xm{xs:Array Nat}(j:Nat)(hr:.pz):.gp<=xs.size/\(∀i,i<.gp->.kN<j)/\∀i,.gp<=i->.vq:=by obtain⟨b,e,h⟩:=GN (j:=j) hr xs.size 0 xs.size .C (bw _) .aS (fun i hi=>.o) fun i h1 h2=>.o;unfold below;rw[e];exact h
theorem W5{xs:Array Nat}{j:Nat}(hr:.pz):xs[.gp]?=.dF↔j∈xs.toList:=by obtain⟨h1,h2,h3⟩:=xm j hr;rw[12];{intro h;rw[<-fO]at h;exact aE h};{intro h;obtain⟨i,hi⟩:=fu h;rw[fO]at hi;obtain⟨jc,e⟩:=jP.mp hi;(have ei:.kN=j:=by simp[pR,jc,e]);(have hb:.gp<=i:=by rcases hZ i (below xs j)with z|z;{have:=h2 i z;omega};{exact z});rcases hZ (below xs j) i with z|z;{have h4:=h3 _ .aS .C;have h5:=j4.mp hr (.gp) i (by simpa using xh z jc) (by simpa using jc) z;simp only[zc]at h5;simp[pR,xh z jc]at h4;omega};{obtain rfl:i=.gp:=.o;exact hi}}
theorem Uu{t:SetTable}{n:Nat}(o:SH t n){j:Nat}:t.slot j=.empty/\j∉t.place.toList\/(∃i,t.slot j=.live i)/\j∈t.place.toList:=by have hb:=W5 (j:=j) o.Ki;unfold slot;by_cases h:t.place[below t.place j]?=.dF;{right;refine⟨⟨below t.place j,? _⟩,hb.mp h⟩;simp[h]};{left;refine⟨? _,fun z=>h (hb.mpr z)⟩;have h2:(t.place[below t.place j]?==.dF)=false:=.e6;rw[.GX,o.dum];rfl}
theorem Ij{t:SetTable}{n:Nat}(o:SH t n){j:Nat}(hj:j<=t.mask)(nj:j∉t.place.toList)(h:Int):∀(fuel m:Nat)(p:Probe),p.dummy=none->p.i<=t.mask->p.j<=t.mask->p.j+p.more<=t.mask->p.more<=9->(p.j=p.i\/m≠0)->(hd t.mask p.i p.perturb m).1=j->p.more+1+10*m<=fuel->∃r,probe.go t (fun _=>h+1) h fuel p=some (.empty r none)/\.Fg|0,m,p,_,_,_,_,_,_,_,hf=>.o|fuel+1,m,p,hd0,hi,hpj,hr,h9,hji,e,hf=>by unfold probe.go;rcases Uu o (j:=p.j)with⟨es,hn⟩|⟨⟨i,es⟩,tS⟩;{rw[es];exact⟨p.j,by rw[<-hd0],hpj,hn⟩};{rw[es];(have mi:¬((fun _=>h+1:Nat->Int) i==h)=true:=by simp only[beq_iff_eq];omega);simp only[];rw[if_neg mi];unfold advance;by_cases hm:p.more>0;{rw[if_pos hm];have hm0:m≠0\/p.j=p.i:=hji.symm;refine Ij o hj nj h fuel m _ hd0 hi (by show p.j+1<=_;omega) (by show p.j+1+(p.more-1)<=_;omega) (by show p.more-1<=9;omega) ? _ e (by show p.more-1+1+10*m<=fuel;omega);right;rw[2];rcases hji with z|z;{have e:p.i=j:=e;rw[<-e,<-z]at nj;exact nj tS};{exact z rfl}};{rw[if_neg hm];cases m with|zero=>rcases hji with z|z;{have e:p.i=j:=e;rw[<-e,<-z]at nj;exact absurd tS nj};{exact absurd rfl z}|succ m=>rw[Qb]at e;have hl:.ox<=t.mask:=.nd;have hre:=DE hl;have h10:.sF<=9:=.tQ;exact Ij o hj nj h fuel m _ hd0 hl hl (by show .ox+(.sF)<=_;omega) h10 .bB e (by show .sF+1+10*m<=fuel;omega)}}
theorem P7{t:SetTable}{n:Nat}(o:SH t n)(h:Int):∃r,t.freeSlot h=some (r,false)/\.Fg:=by obtain⟨k,hk⟩:=o.pw;obtain⟨j,hj,nj⟩:=Et (mask:=t.mask) (pos:=t.place.toList) (by rw[a0,o.size];exact mJ o.room);have hi:.qx<=t.mask:=.nd;obtain⟨m,hm,e⟩:=aaf hk hi (U_ h) hj;have hre:=DE hi;have h10:.sG<=9:=.tQ;obtain⟨r,e2,hr,nr⟩:=Ij o hj nj h (10*turns t.mask) m (t.probeStart h) rfl hi hi (by show .qx+(.sG)<=_;omega) h10 .bB e (by show .sG+1+10*m<=_;omega);refine⟨r,? _,hr,nr⟩;unfold freeSlot probe;rw[e2];rfl
theorem Q1{xs:Array Nat}{j:Nat}(hr:.pz)(nj:j∉xs.toList):(insertAt xs (.gp) j).toList.Pairwise (·<·):=by obtain⟨h1,h2,h3⟩:=xm j hr;rw[SetTable.toList_insertAt];(have at_:∀i(hi:i<xs.size),.kN=xs.toList[i]' .vr:=fun i hi=>by simp[pR,hi]);refine List.pairwise_append.mpr ⟨hr.sublist (Ef _ _),fZ.mpr ⟨.cg,hr.sublist (List.drop_sublist _ _)⟩,fun a ha b hb=>? _⟩;{obtain⟨i,hi⟩:=fu hy;rw[199];have mi:y≠j:=fun z=>nj (z▸UT hy);omega};{(have ha':a<j:=by obtain⟨i,hi⟩:=fu ha;rw[List.getElem?_take]at hi;split at hi;{rename_i hib;have:=h2 i hib;obtain⟨jc,e⟩:=ay.mp hi;rw[at_ i (by simpa using jc),e]at this;rw[5]};{cases hi});rw[105];{exact ha'};{obtain⟨i,hi⟩:=fu hb;rw[199];omega}}
theorem XH{t:SetTable}{es:.bf}(o:SH t es.size)(h:Int)(x:Value):∃jL t',layNew t es h x=(jL,t',false,false)/\jL.toList.Perm (es.toList++[(h,x)])/\t'.mask=t.mask/\.nP/\.nf/\t'.place.size=es.size+1/\t'.dummies=#[]/\t'.place.toList.Pairwise (·<·)/\(∀j∈t'.place.toList,j<=t.mask)/\jL.size=es.size+1:=by obtain⟨r,e,hr,nr⟩:=P7 o h;have hp:=layNew_perm t es h x;unfold layNew at hp|-;rw[e]at hp|-;simp only[SetTable.put]at hp|-;(have hd:(has t.dummies r)=false:=by rw[o.dum];rfl);(have sz:(.D9).size=es.size+1:=by rw[<-a0,SetTable.toList_insertAt,ag,aw,be,d_,a0,o.size];have:=(xm r o.Ki).1;rw[o.size]at this;omega);(have jL:(.tR).size=es.size+1:=by rw[<-a0,hp.length_eq,a0,Array.size_push]);(have fit:SetTable.fits {t with place:=insertAt t.place (below t.place r) r,dummies:=if has t.dummies r=true then eraseAt t.dummies (below t.dummies r)else t.dummies} (.tR).size=true:=by rw[hd,jL];simp only[SetTable.fits,SetTable.fill,sz,o.dum,dQ,beq_iff_eq,decide_eq_true_eq];have:=o.room;simp;omega);refine⟨.tR,{t with place:=insertAt t.place (below t.place r) r,dummies:=if has t.dummies r=true then eraseAt t.dummies (below t.dummies r)else t.dummies},? _,by simpa using hp,? _⟩;{rw[SetTable.orStandIn,if_pos fit,fit];rfl};{rw[hd];refine⟨rfl,rfl,rfl,sz,o.dum,Q1 o.Ki nr,fun j hj=>? _,jL⟩;have hj:j∈(.D9).toList:=hj;rw[(SetTable.insertAt_perm ..).mem_iff,YQ,aW,aA]at hj;rcases hj with hj|rfl;{exact o.le j hj};{exact hr}}
theorem vL {n : Nat} (h : n < 2 ^ 60) : ∃ k, sizeAbove n = 2 ^ k ∧ n < 2 ^ k ∧ 8 ≤ 2 ^ k ∧ 2 ^ k ≤ max 8 (2 * n) := by
  have key : ∀ (fuel j : Nat), n < 2 ^ (j + fuel) → (j = 3 ∨ 2 ^ j ≤ 2 * n) → 3 ≤ j → ∃ k, sizeAbove.go n fuel (2 ^ j) = 2 ^ k ∧ n < 2 ^ k ∧ 3 ≤ k ∧ (k = 3 ∨ 2 ^ k ≤ 2 * n) := by
    intro fuel
    induction fuel with
    | zero => intro j h1 h2 h3; exact ⟨j, rfl, h1, h3, h2⟩
    | succ fuel ih =>
      intro j h1 h2 h3
      unfold sizeAbove.go
      by_cases hle : 2 ^ j ≤ n
      · rw [if_pos hle, ← iY]
        exact ih (j + 1) (by rw [show j + 1 + fuel = j + (fuel + 1) by omega]; exact h1) (.inr (by rw [iY]; omega)) (by omega)
      · rw [if_neg hle]
        exact ⟨j, rfl, by omega, h3, h2⟩
  obtain ⟨k, e, h1, h2, h3⟩ := key 64 3 (bW h (qO (by decide) (by decide))) (.inl rfl) (aF _)
  refine ⟨k, e, h1, ?_, ?_⟩
  · calc 8 = 2 ^ 3 := rfl
      _ ≤ 2 ^ k := qO (by decide) h2
  · rcases h3 with rfl | h3
    · exact ajf ..
    · exact br h3 (Nat.le_max_right ..)
theorem LZ{t:SetTable}{wanted:Nat}(hashes:Array Int)(hw:hashes.size<wanted\/(hashes.size=0/\wanted=0))(hb:wanted<2^60):∃t' order,t.relaid hashes wanted=some (t',order)/\SH t' hashes.size/\.nP/\.nf/\.Ff/\t'.mask+1=.ng:=by obtain⟨k,e,h1,h2,_⟩:=vL hb;(have hm:.ng-1+1=2^k:=by rw[e];omega);obtain⟨t',order,e1,o,em,el,ep,pm⟩:=VW (finger:=t.finger) (moves:=t.movedTo (.ng-1)) (led:=t.led) (plain:=t.plain) hm hashes .C;exact⟨t',order,e1,o,el,ep,pm,by rw[em,hm,e]⟩
theorem Q0{t:SetTable}{es:.bf}{wanted:Nat}(hw:es.size<wanted)(hb:wanted<2^60):∃jL t',relayAll t es wanted=(jL,t',false)/\.pA/\.rU/\.nP/\.nf:=by have hp:=relayAll_perm t es wanted;obtain⟨t',order,e,o,el,epl,pm,_⟩:=LZ (t:=t) (wanted:=wanted) (es.map .aX) (.inl (by rw[oR];exact hw)) hb;rw[oR]at o pm;unfold relayAll at hp|-;rw[e]at hp|-;have hs:.lx=es.size:=.sI;(have hc:(coversAll order es.size&&t'.fits .lx)=true:=by rw[hs,o.fits,OJ];exact List.isPerm_iff.mpr pm);simp only[]at hp|-;rw[.dQ]at hp|-;exact⟨_,_,rfl,hp,.wM,el,epl⟩
def BT(w:World):Bool:=w.params.followText "set-order"
def OU(e:Int×Value):Int:=match e.2 with|.int k _=>k|_=>0
def EI(l:.qy):Prop:=∀e∈l,∃k tk,e=(hashInt k,.iA)
structure SI(w:World)(es:Array (Int×Value))(t:SetTable)(ks:List Int):Prop where
tok:SH t es.size
led:t.led=! BT w
pl:t.plain=true
els:EI es.toList
zr:(es.toList.map OU).Perm ks
nd:ks.Nodup
abbrev jk(es:.bf)(ep:Nat)(t:SetTable):Obj:={cls:=.type "set",dict:=none,data:=.set es ep t,slots:=#[]}
theorem EI.ahr{l m:.qy}(h:EI l)(p:m.Perm l):EI m:=fun e he=>h e (p.mem_iff.mp he)
theorem EI.as7{P:Program}{w:World}{l:.qy}(h:EI l):ElemsOf (.f3) l:=fun e he=>by obtain⟨k,tk,rfl⟩:=h e he;exact⟨⟨k,.Fh,rfl⟩,rfl⟩
theorem SI.size{w:World}{es:.bf}{t:SetTable}{ks:.J}(h:.dJ):es.size=ks.length:=by rw[<-h.zr.length_eq,aa,a0]
section
variable{P:Program}{w:World}{A:Around}{E:Value->Shared->Prop}{s:Shared}
theorem aa1{l:.qy}(h:EI l)(k:Int):(l.findIdx? fun e=>(.f3).is k e.2).isSome=decide (k∈l.map OU):=by induction l with|nil=>rfl|cons e l ih=>obtain⟨j,tk,rfl⟩:=h e .aK;have ih:=ih .mm;rw[YV];(have e1:(.f3).is k (.nh)=decide (j=k):=by show Value.isInt k (.nh)=_;simp only[Value.isInt];rfl);by_cases hj:j=k;{subst hj;simp[e1,OU]};{rw[show(.f3).is k (hashInt j,.nh).2=false from by rw[e1];exact decide_eq_false hj];rw[.aE,tK,ih,aO];have:OU (hashInt j,.nh)=j:=rfl;rw[this];have hk:k≠j:=fun z=>hj z.symm;simp[hk]}
theorem Zn{a:Addr}{es:.bf}{ep:Nat}{t:SetTable}{ks:.J}{k:Int}{tk:Tok}{Q:.mn}(ho:.eH)(S:.dJ)(hb:ks.length+1<scanBound)(h:∀h' jL vw t',.e7->.hT->SI w jL t' (if k∈ks then ks else ks++[k])->Q (! decide (k∈ks)) {s with heap:=h'}):wpAny .aQ A (setAddHashed a (.int k tk) (hashInt k)) Q E s:=by have hf:=S.tok.fits;have hsz:=S.size;have hel:=S.els.as7 (P:=P) (w:=w);have To:(.f3).is k (.iA)=true:=.Fh;unfold setAddHashed setAddHashedIn;refine wpAny_holding (.Cs);rw[9];rw[byScan_of (knd:=.f3) rfl .C hel];simp only[↓reduceIte];unfold setAddByScan;rw[16];refine wpAny_bind (wpAny_rule ? _);refine wpAny_bind (wpAny_setScan_of (knd:=.f3) To ho rfl hf hel ? _);have hfk:=aa1 (P:=P) (w:=w) S.els k;have tS:(k∈es.toList.map OU)↔k∈ks:=S.zr.mem_iff;cases hr:List.findIdx? (fun e=>(intKind P w).is k e.2) es.toList with|some j=>rw[9];rw[hr]at hfk;have hk:k∈ks:=tS.mp (of_decide_eq_true hfk.symm);refine wpAny_pure .cC;have h2:=h s.heap es ep t (Heap.SameBut.refl a s.heap) ho (by rw[.bP];exact S);rw[.xU]at h2;rw[161];rw[e];exact h2|none=>rw[9];rw[hr]at hfk;(have hk:k∉ks:=fun z=>by have:=of_decide_eq_false hfk.symm;exact this (tS.mpr z));obtain⟨MO,t1,eL,p1,em,as6,epl,ps,dm,ri,le,sz1⟩:=XH S.tok (hashInt k) (.iA);have eL':layNew t es ((.f3).hash k) (.iA)=(MO,t1,false,false):=eL;(have aA2:EI MO.toList:=fun e he=>by rcases aW.mp (p1.mem_iff.mp he)with he|he;{exact S.els e he};{exact⟨k,tk,aA.mp he⟩});(have aub:(MO.toList.map OU).Perm (ks++[k]):=by refine(p1.map OU).trans ? _;rw[aG];exact S.zr.append_right _);have nd1:(ks++[k]).Nodup:=g9.mpr ⟨S.nd,.aN,fun x hx y hy e=>hk (by rw[<-aA.mp hy,<-e];exact hx)⟩;rw[eL];rw[9];refine .ri;rw[show t1.plain=true from epl.trans S.pl];simp only[↓reduceIte];refine .ri;simp only[hashByValue,↓reduceIte];have hz1:MO.size<=sizeLine:=.tS;refine wpAny_bind (wpAny_storeSet_of ho rfl ? _ hz1);(have Sj:(s.heap.update a .qz).get? a=some (jk MO (ep+1) t1):=by have:=Heap.get?_update_self .qz ho (by rw[putSet_of MO t1 rfl];rfl);rw[putSet_of MO t1 rfl]at this;rw[5]);have ats:=Heap.SameBut.update s.heap a .qz;(have fin:∀h' jL vw t',.e7->.hT->.rU->.nP->.nf->jL.toList.Perm MO.toList->Q true {s with heap:=h'}:=by intro h' jL vw t' sb hg to tl tp pm;have:=h h' jL vw t' sb hg ⟨to,tl.trans S.led,tp.trans S.pl,aA2.ahr pm,by rw[.bV];exact(pm.map OU).trans aub,by rw[.bV];exact nd1⟩;rw[.xV]at this;rw[5]);by_cases htf:t1.tooFull=true;{rw[htf];simp only[aj8,OI,↓reduceIte];(have hgr:SetTable.grown MO.size=MO.size*4:=by unfold SetTable.grown;rw[if_neg .tT]);obtain⟨Z7,t2,eR,pm,o2,l2,p2⟩:=Q0 (t:=t1) (es:=MO) (wanted:=SetTable.grown MO.size) (by rw[hgr];omega) (by rw[hgr];have:.rj:=rfl;have:(2:Nat)^60=1152921504606846976:=.aW;omega);rw[eR];rw[9];refine .ri;(have hz2:Z7.size<=sizeLine:=by rw[<-a0,pm.length_eq,a0];exact hz1);refine wpAny_bind (wpAny_storeSet_of Sj rfl ? _ hz2);(have Y1:((s.heap.update a .qz).update a (Obj.putSet Z7 t2)).get? a=some (jk Z7 (ep+1+1) t2):=by have:=Heap.get?_update_self (Obj.putSet Z7 t2) Sj (by rw[putSet_of Z7 t2 rfl];rfl);rw[putSet_of Z7 t2 rfl]at this;rw[5]);exact wpAny_pure (wpAny_pure (fin _ Z7 _ t2 (ats.trans (Heap.SameBut.update _ a _)) Y1 o2 (l2.trans as6) (p2.trans epl) pm))};{rw[(vU _).mp htf];simp only[zw,bV,↓reduceIte];refine wpAny_pure (wpAny_pure (fin _ MO _ t1 ats Sj ⟨by rw[em];exact S.tok.pw,by rw[ps,sz1],dm,ri,by rw[em];exact le,? _⟩ as6 epl (jw _)));(have h5:¬(t1.fill*5>=t1.mask*3):=by simpa[SetTable.tooFull]using htf);simp only[SetTable.fill,dm,ps,vf]at h5;omega}
end
theorem Wb{α:Type}(next:Nat->Nat):∀(fuel k:Nat)(left:.aT)(out:Array α),fuel=left.length->(pickOrder.go next fuel k left out).toList.Perm (out.toList++left)|0,k,left,out,h=>by rw[jg.mp h.symm,bM];exact jw _|fuel+1,k,left,out,h=>by have jc:next k %left.length<left.length:=n9 _ .C;unfold pickOrder.go;rw[aV jc];simp only[];refine(Wb next fuel .bb _ _ (by rw[List.length_eraseIdx,if_pos jc];omega)).trans ? _;rw[YQ,eC];refine oJ _ ? _;rw[List.eraseIdx_eq_take_drop_succ,List.singleton_append];refine ae8.symm.trans ? _;rw[<-fz jc,lK]
theorem LR{α:Type}(next:Nat->Nat)(xs:Array α):(pickOrder next xs).toList.Perm xs.toList:=by have:=Wb next xs.size 0 xs.toList #[] .aC;simpa[pickOrder]using this
section
variable{P:Program}{w:World}{A:Around}{E:Value->Shared->Prop}{s:Shared}
theorem rB{Q:.mn}(h:Q (BT w) s):wpAny .aQ A setsByText Q E s:=by unfold setsByText;exact wpAny_bind (wpAny_askSetting (.hb))
theorem OF{a:Addr}{es:.bf}{ep:Nat}{t:SetTable}{ks:.J}{Q:.bf->.bK}(ho:.eH)(S:.dJ)(h:∀jL,.pA->(.kO->jL=es)->(BT w=true->jL=.Ea)->Q jL s):wpAny .aQ A (setWalk a) Q E s:=by unfold setWalk;rw[106];cases hb:BT w with|true=>simp only[↓reduceIte];refine wpAny_bind (wpAny_askSetting (wpAny_pure (h _ (LR _ _) (.tU) .bQ)))|false=>simp only[bV,↓reduceIte];rw[200];show wpAny _ _ (if(! t.led&&decide (es.size>1))=true then _ else _) _ _ _;rw[hl];rw[181];exact wpAny_pure (wpAny_pure (h es (jw _) (.bQ) .tU))
theorem Ku{a:Addr}{others:.ao}{filled:.bE}{es:.bf}{ep:Nat}{t:SetTable}{ks:.J}{Q:.bf->.bK}(ho:.eH)(S:.dJ)(h:∀jL,.pA->Q jL s):wpAny .aQ A (setWalkUnseen a others filled) Q E s:=by unfold setWalkUnseen;rw[106];(have hc:(BT w||(t.led&&t.plain)||decide (es.size<=1))=true:=by rw[S.led,S.pl];cases BT w<;>rfl);rw[.dQ];exact OF ho S fun jL p _ _=>h jL p
theorem aco{a:Addr}{es:.bf}{ep:Nat}{t:SetTable}{wanted:Nat}{Q:.bW}(ho:.eH)(hf:t.fits es.size=true)(hw:es.size<wanted\/(es.size=0/\wanted=0))(hb:wanted<=1000000)(hz:es.size<=sizeLine)(h:∀h' jL t',.e7->.ji=some (jk jL (ep+1) t')->.pA->.rU->.nP->.nf->t'.mask+1=.ng->.fH):wpAny .aQ A (setRelay a wanted) Q E s:=by unfold setRelay;refine .Cs;rw[9];obtain⟨t',order,e,o,el,epl,pm,em⟩:=LZ (t:=t) (wanted:=wanted) (es.map .aX) (by rw[oR];exact hw) (nZ hb .aD);rw[oR]at o pm;have hs:.lx=es.size:=.sI;have hp:(.sH).toList.Perm es.toList:=.An;(have Y4:¬.ng>sizeLine:=by obtain⟨k,e1,_,_,h3⟩:=vL (n:=wanted) (nZ hb .aD);rw[e1,sizeLine_eq];omega);rw[if_neg Y4,e];rw[16];(have mi:(.lx !=es.size)=false:=by rw[hs];simp);show wpAny _ _ (if(.lx !=es.size)=true then _ else _) _ _ _;rw[337];refine wpAny_storeSet_of ho rfl (h _ _ _ (Heap.SameBut.update s.heap a _) ? _ hp (.wM) el epl em) (by rw[hs];exact hz);have:=Heap.get?_update_self (Obj.putSet (.sH) t') ho (by rw[putSet_of _ t' rfl];rfl);rw[putSet_of _ t' rfl]at this;rw[5]
theorem Wk{a:Addr}{es:.bf}{ep:Nat}{t:SetTable}{ks:.J}{more:Nat}{Q:.bW}(ho:.eH)(S:.dJ)(hb:ks.length+more<=100000)(h:∀h' jL vw t',.e7->.hT->SI w jL t' ks->(ks=[]->more<t'.mask)->.fH):wpAny .aQ A (setRoomFor a more) Q E s:=by have hsz:=S.size;unfold setRoomFor;rw[127];rw[9];unfold SetTable.roomFor;simp only[SetTable.fill,S.tok.dum,S.tok.size,vf];by_cases hc:(es.size+0+more)*5>=t.mask*3;{rw[.dQ];simp only[];have Hv:0<es.size+more\/es.size+more=0:=.o;refine aco ho S.tok.fits .C .C (.cQ) fun h' jL t' sb hg pm o el ep2 em=>? _;refine h h' jL _ t' sb hg ⟨o,el.trans S.led,ep2.trans S.pl,S.els.ahr pm,(pm.map OU).trans S.zr,S.nd⟩ fun hk=>? _;obtain⟨k,e1,h1,h8,_⟩:=vL (n:=(es.size+more)*2) (nZ (m:=200000) .C .aD);rw[e1]at em;omega};{rw[.fq];refine .gJ;rw[161];rw[e];exact h s.heap es ep t (Heap.SameBut.refl _ _) ho S fun hk=>.o}
end
def WW(ks:.J)(k:Int):.J:=if k∈ks then ks else ks++[k]
theorem Pa(ks:.J)(k x:Int):x∈WW ks k↔x∈ks\/x=k:=by unfold WW;split;{rename_i h;exact⟨.inl,fun z=>z.elim id fun e=>e▸h⟩};{simp}
theorem O_(ks:.J)(k:Int):(WW ks k).length<=ks.length+1:=by unfold WW;split<;>simp
section
variable{P:Program}{w:World}{A:Around}{E:Value->Shared->Prop}{s:Shared}
theorem ahx{h:Heap}{a:Addr}{es jL:.bf}{ep:Nat}{t t':SetTable}(ho:.bw=some (jk es ep t)):(h.update a (Obj.putSet jL t')).get? a=some (jk jL (ep+1) t'):=by have:=Heap.get?_update_self (Obj.putSet jL t') ho (by rw[putSet_of jL t' rfl];rfl);rw[putSet_of jL t' rfl]at this;rw[5]
theorem Qx{a b:Addr}{ea eb:.bf}{epa epb:Nat}{ta tb:SetTable}{ka kb:.J}{each:Sem Unit}{Q:.bW}(zL:a≠b)(hoa:.hc=some (jk ea epa ta))(Sa:SI w ea ta ka)(Ls:.gq=.j8)(Sb:SI w eb tb kb)(hl:.j9+1<scanBound)(at3:∀(s':Shared)(Q':.bW),.rk=.j8->Q' () s'->wpAny .aQ A each Q' E s')(h:∀h' jL vw t' oP,.e7->.hT->.iB->.Fi->oP.length<=.j9->.fH):wpAny .aQ A (setMerge a b each) Q E s:=by have hsb:=Sb.size;have hbound:.rj:=rfl;unfold setMerge;rw[if_neg (by simpa using zL)];refine wpAny_bind (wpAny_setState_of Ls rfl Sb.tok.fits ? _);rw[9];by_cases aga:eb.isEmpty=true;{rw[if_pos aga];(have:kb=[]:=by(have h0:eb.size=0:=by simpa using aga);exact jg.mp .C);subst this;refine .gJ;rw[161];rw[e];exact h s.heap ea epa ta ka (Heap.SameBut.refl _ _) hoa Sa .rV .aC};rw[if_neg aga];(have mi:0<eb.size:=by rcases nY eb.size with z|z;{exact absurd (by simpa using z) aga};{exact z});refine wpAny_bind (Wk hoa Sa .C fun h1 ea1 aA3 ta1 Y9 Sj S1 avd=>? _);have atk:h1.get? b=.j8:=(Y9.2 b (cW zL)).trans Ls;refine wpAny_bind (wpAny_setState_of (s:={s with heap:=h1}) Sj rfl S1.tok.fits ? _);rw[9];have Xy:=S1.size;have tS:∀k,k∈eb.toList.map OU↔k∈kb:=fun k=>Sb.zr.mem_iff;unfold SetTable.road;simp only[SetTable.fill,S1.tok.dum,S1.tok.size,vf,mI];by_cases h0:ea1.size=0;{have hka:ka=[]:=jg.mp .C;subst hka;have at5:∀(jL:.bf)(t':SetTable),jL.toList.Perm eb.toList->.rU->t'.led=! BT w->t'.plain=true->Q () {s with heap:=h1.update a (Obj.putSet jL t')}:=fun jL t' pm o l p=>h _ jL _ t' kb (Y9.trans (Heap.SameBut.update _ a _)) (ahx Sj) ⟨o,l,p,Sb.els.ahr pm,(pm.map OU).trans Sb.zr,Sb.nd⟩ .rV .aC;rw[if_neg (by simp[h0])];by_cases hc:(ta1.mask==tb.mask&&tb.dummies.isEmpty)=true;{rw[.dQ];simp only[dQ,beq_iff_eq]at hc;refine wpAny_storeSet_of Sj rfl (at5 eb _ (jw _) ⟨Sb.tok.pw,Sb.tok.size,Sb.tok.dum,Sb.tok.Ki,Sb.tok.le,Sb.tok.room⟩ ? _ ? _) (.tS);{show(ta1.led&&tb.led)=_;rw[S1.led,Sb.led,OI]};{show(ta1.plain&&tb.plain)=_;rw[S1.pl,Sb.pl];rfl}};{rw[.fq];simp only[];obtain⟨k2,hk2⟩:=S1.tok.pw;obtain⟨t',order,e,o,em,el,ep2,pm⟩:=VW (finger:=ta1.finger) (moves:=ta1.moves) (led:=ta1.led&&tb.led) (plain:=ta1.plain&&tb.plain) hk2 (eb.map .aX) (by rw[oR];exact avd rfl);rw[oR]at o pm;have hs:(.pB).size=eb.size:=.sI;have hp:(.pB).toList.Perm eb.toList:=.An;rw[e];rw[16];(have mi:((.pB).size !=eb.size)=false:=by rw[hs];simp);show wpAny _ _ (if((.pB).size !=eb.size)=true then _ else _) _ _ _;rw[337];refine wpAny_storeSet_of Sj rfl (at5 _ _ hp (.wM) (by rw[el,S1.led,Sb.led,OI]) (by rw[ep2,S1.pl,Sb.pl];rfl)) (by rw[hs];exact .tS)}};{rw[if_pos (by simpa using h0)];simp only[];refine wpAny_bind (Ku (s:={s with heap:=h1}) atk Sb fun el pm=>? _);rw[<-Array.forIn_toList];have hkl:∀k,k∈el.toList.map OU↔k∈kb:=fun k=>((pm.map OU).mem_iff).trans (tS k);(have hll:el.toList.length=kb.length:=by rw[pm.length_eq,a0,hsb]);have hei:EI el.toList:=Sb.els.ahr pm;rw[16];refine wpAny_forIn_list _ (fun rest _ s'=>∃h' jL vw t' oP,s'={s with heap:=h'}/\.e7/\.hT/\.iB/\(∃pre,el.toList=pre++rest/\(∀k,k∈oP↔k∈ka\/k∈pre.map OU)/\oP.length<=ka.length+pre.length)) _ ? _ ? _ _ _ ⟨h1,ea1,aA3,ta1,ka,rfl,Y9,Sj,S1,[],rfl,.rV,.aC⟩;{rintro⟨hx,x⟩rest b' s'⟨h',jL,vw,t',oP,rfl,sb',Xr,S',pre,S_,Xv,Xt⟩;(have Y2:(hx,x)∈el.toList:=by rw[S_];simp);obtain⟨k,tk,ek⟩:=hei _ Y2;cases ek;(have aMm:pre.length+(rest.length+1)=kb.length:=by rw[<-hll,S_,ag,aw]);have aBq:.e0=.j8:=(sb'.2 b (cW zL)).trans Ls;refine .y7;have Xx:h2.get? b=.j8:=(sb2.2 b (cW zL)).trans aBq;refine wpAny_bind (at3 _ _ Xx ? _);refine wpAny_bind (wpAny_setState_of (s:={s with heap:=h2}) Xx rfl Sb.tok.fits ? _);rw[9];rw[.ha];refine wpAny_pure ⟨h2,Z7,ep2,t2,WW oP k,rfl,sb'.trans sb2,Y1,S2,pre++[(hashInt k,.iA)],by rw[S_,eC];rfl,fun y=>? _,? _⟩;{rw[Pa,Xv,aG,aW];have:[(hashInt k,.iA)].map OU=[k]:=rfl;rw[this,aA];exact or_assoc};{have:=O_ oP k;rw[ag,cF];omega}};{rintro b' s'⟨h',jL,vw,t',oP,rfl,sb',Xr,S',pre,S_,Xv,Xt⟩;rw[bM]at S_;refine wpAny_pure (h h' jL vw t' oP sb' Xr S' (fun k=>by rw[Xv,<-S_,hkl]) (by rw[<-S_,hll]at Xt;exact Xt))}}
end
end Zs
namespace L2
open PySem PySem.Spec PyProof.Rows
abbrev gx:=Sum Int Str
def EK:gx->Value->Bool|.inl k,v=>Value.isInt k v|.inr x,v=>Value.isStrOf x v
def aCu(w:World):gx->Int|.inl k=>hashInt k|.inr x=>hashStr w x
theorem jr:∀{k:gx}{v:Value},EK k v=true->(∃i t,k=dH i/\v=Value.int i t)\/(∃x t,k=lq x/\v=Value.str x t)|.inl i,v,h=>by obtain⟨t,e⟩:=Value.isInt_shape (k:=i) (v:=v) h;exact .inl ⟨i,t,rfl,e⟩|.inr x,v,h=>by obtain⟨t,e⟩:=Value.isStrOf_shape (x:=x) (v:=v) h;exact .inr ⟨x,t,rfl,e⟩
theorem XB(i:Int)(t:Tok):EK (.inl i) (.int i t)=true:=by simp[EK,Value.isInt]
theorem XD(x:Str)(t:Tok):EK (.inr x) (.str x t)=true:=by simp[EK,Value.isStrOf]
theorem an7(a b:Int):decide ((dH a:gx)=dH b)=(a==b):=by by_cases e:a=b;{subst e;simp};{have h:¬(dH a:gx)=dH b:=fun q=>e (sR q);rw[.iC];exact(beq_eq_false_iff_ne.mpr e).symm}
theorem ana(a b:Str):decide ((lq a:gx)=lq b)=decide (a=b):=by by_cases e:a=b;{subst e;simp};{have h:¬(lq a:gx)=lq b:=fun q=>e (ajm q);rw[.iC,.xW]}
theorem an8(a:Int)(b:Str):decide ((dH a:gx)=lq b)=false:=.Fj
theorem an9(a:Str)(b:Int):decide ((lq a:gx)=dH b)=false:=.Fj
def fk(prog:Program)(w:World):PySem.KeyKind prog w gx where is:=EK;hash:=aCu w;inj:=(fun v a b ha hb=>by rcases jr ha with⟨i,t,rfl,rfl⟩|⟨x,t,rfl,rfl⟩;{rw[261];{injection e with e1 _;rw[e1]};{exact nomatch e}};{rw[261];{exact nomatch e};{injection e with e1 _;rw[e1]}});byValue:=(fun k v h=>by rcases jr h with⟨i,t,rfl,rfl⟩|⟨x,t,rfl,rfl⟩<;>rfl);pyHash:=(fun hv h=>by rcases jr hv with⟨i,t,rfl,rfl⟩|⟨x,t,rfl,rfl⟩;{exact wpAny_pyHash_int h};{exact wpAny_pyHash_str h});eqBool:=(fun hu hv h=>by rcases jr hu with⟨i,t,rfl,rfl⟩|⟨x,t,rfl,rfl⟩;{rw[262];{rw[an7]at h;exact wpAny_eqBool_int h};{rw[an8]at h;exact SeqAt.EqAt.int_str i t y u _ _ _ _ h}};{rw[262];{rw[an9]at h;exact SeqAt.EqAt.str_int x t j u _ _ _ _ h};{rw[ana]at h;exact wpAny_eqBool_str h}});«strs»:=fun k x t v h=>by rcases jr h with⟨i,u,rfl,e⟩|⟨y,u,rfl,e⟩;{exact nomatch e};{injection e with e1 _;subst e1;cases v<;>rfl}
theorem xS(prog:Program)(w:World)(i:Int)(t:Tok):(fk prog w).is (.inl i) (.int i t)=true:=XB i t
theorem Qy(prog:Program)(w:World)(x:Str)(t:Tok):(fk prog w).is (.inr x) (.str x t)=true:=XD x t
inductive V where|jD|bl(b:Bool)|int(i:Int)|str(x:Str)|rC(b:Array UInt8)|flt(b:UInt64)|ref(a:Addr)|ty(n:String)deriving DecidableEq
def e_:V->Value->Prop|.jD,u=>u=Value.none|.bl b,u=>u=Value.bool b|.int i,u=>.qA|.str x,u=>∃t,u=Value.str x t|.rC b,u=>∃t,u=Value.bytes b t|.flt b,u=>∃t,u=Value.float b t|.ref a,u=>u=.f5|.ty n,u=>u=Value.type n
abbrev dP:.aj->.ar->Prop:=Paired e_
theorem dP.length{xs:.aj}{us:.ar}(r:.d2):xs.length=us.length:=Paired.length r
theorem dP.get:∀{xs:.aj}{us:.ar}{i:Nat}{x:V},.d2->.e8->∃u,us[i]?=.aP/\e_ x u|_,_,_,_,.nil,e=>by simp at e|_,_,0,_,.cons r _,e=>by simp at e;subst e;exact⟨_,rfl,r⟩|_,_,i+1,x,.cons _ t,e=>by obtain⟨u,h1,h2⟩:=dP.get (i:=i) (x:=x) t (by simpa using e);exact⟨u,.j7,h2⟩
theorem dP.append:∀{xs ys:.aj}{us ws:.ar},.d2->dP ys ws->dP .jq (us++ws)|_,_,_,_,.nil,s=>s|_,_,_,_,.cons r t,s=>.cons r (dP.append t s)
theorem dP.take:∀{xs:.aj}{us:.ar}(n:Nat),.d2->dP (xs.take n) (us.take n)|_,_,0,_=>.nil|_,_,_+1,.nil=>.nil|_,_,n+1,.cons r t=>.cons r (dP.take n t)
theorem dP.drop:∀{xs:.aj}{us:.ar}(n:Nat),.d2->dP (xs.drop n) (us.drop n)|_,_,0,r=>r|_,_,_+1,.nil=>.nil|_,_,n+1,.cons _ t=>dP.drop n t
def t9:.bL->.dR->Prop|some v,some u=>e_ v u|none,none=>True|_,_=>False
def KV{κ:Type}:.ct->.iD->Prop:=Paired fun(p:κ×V)(q:κ×Value)=>p.1=q.1/\e_ p.2 q.2
def kV:gx->V|.inl i=>.bp|.inr x=>.str x
inductive HO where/--a list -/|bJ(xs:List V)/--a tuple (never changes) -/|fL(xs:List V)/--a dict whose keys are ints and texts; one whose keys are tuples of ints and texts (the empty one is both) -/|dK(kvs:List (gx×V))|dT(kvs:List (List gx×V))/--a set of ints: its members, its size -/|set(S:Int->Bool)(n:Nat)/--an instance of the class at C, its dict at dx, its attributes -/|cH(C dx:Addr)(fs:List (Str×V))/--the dict of the instance at x -/|own(x:Addr)/--the dict of an exception -/|xd(fs:List (Str×V))/--a bound method, f of x -/|met(f x:Addr)/--a range object lo, lo + 1, .. below hi -/|rng(lo hi:Int)/--a thing that is known to the object (the script; a dict while a loop walks it): read, never written while it is so -/|lu(o:Obj)(u:HO)/--a code object's table -/|tbl(ps:Array Value)/--any other thing, by what is true of its one object (a def of one's own: SetO a S n := HO.ext fun h => ..) -/|ext(φ:Heap->Prop)
abbrev Hp:=Addr->Option HO
def aN(H:Hp)(a:Addr)(o:HO):Hp:=fun b=>if b=a then .ah else H b
theorem ah{H:Hp}{a:Addr}{o:HO}:aN H a o a=.ah:=by unfold aN;rw[.aJ]
theorem ai{H:Hp}{a b:Addr}{o:HO}(h:b≠a):aN H a o b=H b:=by unfold aN;rw[.cp]
theorem gJ{H:Hp}{a:Addr}{o u:HO}:aN .dv a u=aN H a u:=by funext b;unfold aN;split<;>rfl
theorem cv{H:Hp}{a b:Addr}{o u:HO}(h:H a=.ah)(h':H b=.aP)(d:o≠u):a≠b:=by intro e;subst e;rw[h]at h';exact d (aB h')
theorem aq{H:Hp}{a b:Addr}{o:HO}(h:H a=.ah)(h':.bx):a≠b:=by intro e;subst e;rw[h]at h';cases h'
section
variable(P:Program)(w:World)
def i5(H:Hp)(h:Heap)(a:Addr):HO->Prop|.bJ xs=>.gK/\∃(d7:.ar)(n:Nat),dP xs d7/\.bw=.tV|.fL xs=>.gK/\∃d7:.ar,dP xs d7/\IsTup h a d7.toArray|.dK kvs=>.sJ|.dT kvs=>.pC/\.iE/\∃xs:.hU,Paired (fun(p:List gx×V)(q:List gx×Addr×Value)=>.Ao) kvs xs/\∃o es ep,.jj/\o.ExactDict/\.mo/\es.toList=xs.map (entryOfKey (.qB))/\(xs.map .aX).Nodup|.set S n=>h.SetOf (.f3) a S n|.cH C dx fs=>H dx=.ni/\fs.length<=1000/\dx≠a/\.bw=some (jU C dx)/\∃mA,h.Ns1 dx mA/\(.vs)/\O2 mA (fs.map .aX)|.own _=>∃o,.jj|.xd fs=>∃mA,h.Ns1 a mA/\.vs|.rng lo hi=>∃t u v,.bw=some {cls:=.type "range",data:=.fields #[.int lo t,.int hi u,.int 1 v]}|.lu o u=>.jj/\i5 H h a u|.tbl ps=>.bw=.tW|.met f x=>.bw=some (A5 .cW .aR)|.ext φ=>φ h/\(∃o,.jj)/\∀h1 h2:Heap,φ h1->(∀o,h1.get? a=.ah->h2.get? a=.ah)->φ h2
def tG(H:Hp)(h:Heap):Prop:=∀a o,H a=.ah->.rl
end
section
variable{P:Program}{w:World}{H H':Hp}{h h':Heap}{a:Addr}{o:HO}
theorem i5.lt(x:.rl):a<h.objs.size:=by cases o with|bJ xs=>obtain⟨_,_,_,_,e⟩:=x;rw[22]|fL xs=>obtain⟨_,_,_,p⟩:=x;exact p.lt|dK kvs=>rw[59];rw[22]|dT kvs=>rw[59];rw[22]|set S n=>obtain⟨o,_,_,_,e,_⟩:=x;rw[22]|cH C dx fs=>obtain⟨_,_,_,e,_⟩:=x;rw[22]|own y=>obtain⟨_,e⟩:=x;rw[22]|xd fs=>obtain⟨_,⟨_,_,_,e,_⟩,_⟩:=x;rw[22]|rng lo hi=>obtain⟨_,_,_,e⟩:=x;rw[22]|lu ob u=>obtain⟨e,_⟩:=x;rw[22]|tbl ps=>exact .Eb|met f y=>exact .Eb|ext φ=>obtain⟨_,⟨_,e⟩,_⟩:=x;rw[22]
theorem Paired.ab4{α β:Type}{F G:.eI}:∀{l₁:.aT}{l₂:.dD},Paired F l₁ l₂->(∀a b,F a b->G a b)->.xX|_,_,.nil,_=>.nil|_,_,.cons r t,f=>.cons (f _ _ r) (Paired.ab4 t f)
theorem Paired.pZ{α β:Type}{F G:.eI}(f:∀a b,F a b->G a b){l₁:.aT}{l₂:.dD}(r:Paired F l₁ l₂):.xX:=Paired.ab4 r f
theorem i5.B0(x:.rl)(k:∀b u,(b=a\/H b=.ni)->.ly)(ho:∀b,H b=.ni->H' b=.ni)(ht:.Ct):i5 P w H' h' a o:=by induction o with|bJ xs=>obtain⟨z,d7,n,r,e⟩:=x;exact⟨z,d7,n,r,.eJ⟩|fL xs=>obtain⟨z,d7,r,ob,e,c⟩:=x;exact⟨z,d7,r,ob,.eJ,c⟩|dK kvs=>obtain⟨z,y,vs,r,ob,es,ep,e,c⟩:=x;exact⟨z,y,vs,r,ob,es,ep,.eJ,c⟩|dT kvs=>obtain⟨z,y,xs,r,ob,es,ep,e,c⟩:=x;exact⟨z,y,xs,Paired.ab4 r fun p q z=>⟨z.1,ht _ _ z.2.1,z.2.2⟩,ob,es,ep,.eJ,c⟩|set S n=>obtain⟨ob,es,ep,t,e,c⟩:=x;exact⟨ob,es,ep,t,.eJ,c⟩|cH C dx fs=>obtain⟨d,z,ne,e,mA,⟨od,es,ep,e2,c⟩,r⟩:=x;exact⟨ho _ d,z,ne,.eJ,mA,⟨od,es,ep,k _ _ (.inr d) e2,c⟩,r⟩|own y=>obtain⟨ob,e⟩:=x;exact⟨ob,.eJ⟩|xd fs=>obtain⟨mA,⟨od,es,ep,e,c⟩,r⟩:=x;exact⟨mA,⟨od,es,ep,.eJ,c⟩,r⟩|rng lo hi=>obtain⟨t,u,v,e⟩:=x;exact⟨t,u,v,.eJ⟩|lu ob u ih=>obtain⟨e,q⟩:=x;exact⟨.eJ,ih q⟩|tbl ps=>have e:.bw=.tW:=x;show .ji=.tW;exact k a _ .bB e|met f y=>have e:.bw=some (A5 .cW .ew):=x;show .ji=some (A5 .cW .ew);exact k a _ .bB e|ext φ=>obtain⟨p,⟨o,e⟩,st⟩:=x;exact⟨st _ _ p fun o q=>k _ _ .bB q,⟨o,.eJ⟩,st⟩
theorem tG.lt(x:.cj)(e:H a=.ah):a<h.objs.size:=(x a o e).lt
theorem tG.fresh(x:.cj)(e:h.objs.size<=a):.fs:=by cases q:H a with|none=>rfl|some u=>exact absurd (bW (x.lt q) e) (g_ _)
theorem tG.ji(x:.cj)(k:.jx):tG P w H h':=fun a o e=>(x a o e).B0 (fun b u _ q=>k b u q) .n8 .hI
theorem tG.laid(x:.cj)(k:.jx)(hp:h.objs.size<=a)(new:i5 P w .dv h' a o):tG P w .dv h':=fun b u e=>by have hn:=x.fresh hp;by_cases hb:b=a;rw[201]
end
def Rd(H:Hp)(a:Addr)(u:HO):Prop:=H a=.aP\/∃o,H a=.rm
theorem Rd.ok{P:Program}{w:World}{H:Hp}{h:Heap}{a:Addr}{u:HO}(r:Rd H a u)(x:.cj):i5 P w H h a u:=by rcases r with r|⟨o,r⟩;{exact x a u r};{obtain⟨_,q⟩:=x a _ r;exact q}
def Mut:Option HO->Prop|some (.bJ _)=>True|some (.dK _)=>True|some (.dT _)=>True|some (.set _ _)=>True|some (.cH _ _ _)=>True|some (.ext _)=>True|_=>False
section
variable{P:Program}{w:World}{H:Hp}{h h':Heap}{x e:Addr}{o':HO}
theorem tG.Ct(ok:.cj)(mu:Mut (H x))(he:.vt)(k:∀b u,b≠e->.ly)(heo:.wN)(new:i5 P w (aN H x o') h' x o'):tG P w (aN H x o') h':=fun b u q=>by have aur:∀c y,H c=some (.own y)->c≠x:=fun c y r z=>.Ec;have aDd:∀c xs,H c=.qC->c≠x:=fun c xs r z=>.Ec;by_cases hb:b=x;{subst hb;rw[ah]at q;cases q;exact new};{rw[ai hb]at q;by_cases Ti:b=e;{(have q':H b=some .ft:=by rcases he with z|z;{exact absurd (Ti.trans z) hb};{rw[Ti];exact z});rw[q]at q';cases q';obtain⟨v,hv⟩:=heo;exact⟨v,by rw[Ti];exact hv⟩};{(refine(ok b u q).B0 (fun c v hc r=>k c v ? _ r) (fun c r=>by rw[ai (aur c b r)];exact r) fun c xs r=>by rw[ai (aDd c xs r)];exact r);rcases hc with rfl|hc;{exact Ti};{rw[2];rcases he with z|z;{exact aur c b hc z};{rw[hc]at z;cases z;exact hb rfl}}}}
end
structure Un(fs ex:List Addr)(H H':Hp)(h h':Heap):Prop where
keep:∀b o,h.get? b=some o->H b=none->b∉fs->b∉ex->h'.get? b=some o
slot:∀b o,h.get? b=some o->H b=none->b∈fs->b∉ex->∃sl,h'.get? b=some {o with slots:=sl}
free:∀b o,h.get? b=some o->H b=none->b∉ex->H' b=none
there:∀b o,h.get? b=some o->b∉ex->∃o',h'.get? b=some o'
Cr:∀b xs,H b=some (.fL xs)->H' b=some (.fL xs)
zm:∀b o u,H b=some (.lu o u)->H' b=some (.lu o u)
Cq:∀b ps,H b=some (.tbl ps)->∃more,H' b=some (.tbl (ps++more))
section
variable{fs Xn ex ex':List Addr}{H H1 H2:Hp}{h h1 h2 h':Heap}{a x e:Addr}{o:HO}
theorem Un.any(u:Un fs ex H H1 h h1){b:Addr}{ob:Obj}(q:h.get? b=some ob)(n:.bx)(hx:b∉ex):∃sl,h1.get? b=some {ob with slots:=sl}:=by by_cases hb:b∈fs;{exact u.slot b ob q n hb hx};{exact⟨ob.slots,u.keep b ob q n hb hx⟩}
theorem Un.ji(k:.jx):Un fs ex H H h h':=⟨fun b ob q _ _ _=>k b ob q,fun b ob q _ _ _=>⟨ob.slots,k b ob q⟩,fun _ _ _ n _=>n,fun b ob q _=>⟨ob,k b ob q⟩,.hI,fun _ _ _ q=>q,fun _ ps q=>⟨#[],by rw[q];simp⟩⟩
theorem Un.refl:Un fs ex H H h h:=Un.ji .hI
theorem Un.laid(k:.jx)(hp:h.objs.size<=a)(hn:.fs):Un fs ex H .dv h h' where keep:=fun b u q _ _ _=>k b u q;slot:=.Fk;free:=(fun b u q n _=>by rw[ai (bS (bW (Heap.lt_size q) hp))];exact n);there:=fun b u q _=>⟨u,k b u q⟩;Cr:=fun b xs q=>.eK;zm:=fun b u xs q=>.eK;Cq:=.Cu
theorem Un.Ct(mu:Mut (H x))(he:.vt)(k:∀b u,b≠e->.ly)(heo:.wN):Un fs ex H (aN H x o) h h':=by(have hx:∀b,.bx->b≠x:=fun b n z=>by subst z;rw[n]at mu;exact mu);(have hb:∀b,.bx->b≠e:=fun b n z=>by subst z;rcases he with r|r;{exact hx b n r};{rw[n]at r;cases r});(have hm:∀b u,H b=.aP->¬Mut (.aP)->b≠x:=fun b u q nm z=>by subst z;rw[q]at mu;exact nm mu);refine⟨fun b u q n _ _=>k b u (hb b n) q,fun b u q n _ _=>⟨u.slots,k b u (hb b n) q⟩,fun b u q n _=>by rw[ai (hx b n)];exact n,fun b u q _=>? _,fun b xs q=>.Cv,fun b u xs q=>.Cv,fun b ps q=>⟨#[],by rw[ai (hm b _ q fun z=>z),q];simp⟩⟩;by_cases Ti:b=e;{subst Ti;exact heo};{exact⟨u,k b u Ti q⟩}
end
def trk(h:Heap)(H:Hp):.ao:=(bD h.objs.size).filter fun a=>(H a).isSome
def Ht(h:Heap)(H:Hp):Heap:=PySem.W.hideAll h (trk h H)
theorem Xs(h:Heap)(H:Hp):(Ht h H).objs.size=h.objs.size:=PySem.W.hideAll_size _ _
theorem Qe{h:Heap}{H:Hp}{b:Addr}{o:Obj}(e:.ka)(n:.bx):(Ht h H).get? b=.ah:=PySem.W.hideAll_get _ e fun hm=>by have q:(H b).isSome=true:=(nI.mp hm).2;rw[n]at q;simp at q
theorem ah4{h:Heap}{H:Hp}{b:Addr}{o:Obj}(e:(Ht h H).get? b=.ah):.ka/\.bx:=by have e':.ka:=PySem.W.of_hideAll (trk h H) e;refine⟨e',? _⟩;cases q:H b with|none=>rfl|some x=>have hm:b∈trk h H:=nI.mpr ⟨fH.mpr (Heap.lt_size e'),by simp[q]⟩;have z:(Ht h H).get? b=none:=PySem.W.hideAll_none (trk h H) hm;rw[z]at e;cases e
def afb(g h:Heap)(L:Addr):.aA:=(bD h.objs.size).filterMap fun a=>if a=L\/(g.get? a).isSome=true then none else(.bw).map fun o=>(a,o)
def rest(g h:Heap)(L d:Addr):.aA:=(afb g h L).filter fun p=>decide (p.1≠d)
structure Mod(K:ae)(mg:Str->Option Value)(base:Heap):Prop where
kin:K.In base
C7:base.Ns mainGlobals mg
blt:∃mb,base.Ns builtinsNs mb/\∀x:Str,x≠"__name__"->mb x=bootBuiltins x
nolimit:base.NoLimit
seer:base.NoSeer
structure Cx where
prog:Program
w:World
K:ae
mg:Str->Option Value
base:Heap
A:Around
N:List Str
wx:Shared
H_0:Hp
bA:Env
aY:List Env
stack:List Env
ex:List Addr
fn:Str->Bool
tQ:Bool
pn:List (Addr×Obj)
xe:Value->Shared->Prop
def Ak(l:.dw):.ao:=l.filterMap (·.frame)
abbrev Cx.fs(X:Cx):.ao:=Ak X.aY
def Vis(sc:Scope)(x:Str):Prop:=.kb=.dS\/.kb=.e1\/.kb=.hD
def Loc(sc:Scope)(x:Str):Prop:=.kb=.dS\/.kb=.e1
def az4(bA:Env)(h:Heap)(m:.aV)(x:Str)(u:Value):Prop:=(bA.kindOf x=.dS/\m x=.aP)\/((bA.kindOf x=.e1\/bA.kindOf x=.hD)/\∃c,bA.cells.lookup x=.br/\h.IsCell c (.aP))
structure Cx.Ok(X:Cx):Prop where
ET:Mod X.K X.mg X.base
kind:X.bA.scope.kind=.function
C7:X.bA.globals=mainGlobals
blt:X.bA.builtins=builtinsNs
above:X.wx.heap.objs.size<=X.bA.locals
inj:∀x y c,X.bA.cells.lookup x=some c->X.bA.cells.lookup y=some c->x=y
has:∀x,(X.bA.kindOf x=some .cell\/X.bA.kindOf x=some .free)->∃c,X.bA.cells.lookup x=some c
cab:∀x c,X.fn x=true->X.bA.cells.lookup x=some c->X.wx.heap.objs.size<=c
hd:X.tQ=true->X.A.handled=none
frames:X.A.frames=some X.stack
stk:X.stack=X.aY\/(X.stack=X.bA::X.aY/\X.bA.frame=some X.bA.locals)
exf:∀b∈X.ex,b≠X.bA.locals/\∀x c,X.bA.cells.lookup x=some c->c≠b
bs:∀b o,X.base.get? b=some o->X.wx.heap.get? b=some o/\X.H_0 b=none
W7:X.base.objs.size<=X.wx.heap.objs.size
sh:∀b o,X.base.get? b=some o->b∉X.ex
MP:∀b∈X.ex,b∉X.fs
Al:X.wx.heap.FunFrames X.base X.aY
frf:∀b∈X.fs,X.H_0 b=none
structure Inv(X:Cx)(pins:List (Addr×Obj))(σ:List (Option V))(H:Hp)(s:Shared):Prop where
ok:X.Ok
os:s.os=X.wx.os
lG:AllBare s.gens
base:Un X.fs X.ex X.H_0 H X.wx.heap s.heap
CL:∃m,s.heap.Ns X.bA.locals m/\∀(i:Nat)(x:Str)(v:V),X.N[i]?=some x->σ[i]?=some (some v)->Vis X.bA.scope x->∃u,e_ v u/\az4 X.bA s.heap m x u
cell:∀x c,X.bA.cells.lookup x=some c->∃v,s.heap.IsCell c v
free:H X.bA.locals=none
mT:∀x c,X.bA.cells.lookup x=some c->H c=none
AY:∀p∈X.pn++pins,s.heap.get? p.1=some p.2/\H p.1=none/\p.1≠X.bA.locals/\p.1∉X.fs/\∀v,p.2.data≠.cell v
fb:tG X.prog X.w H s.heap
j9:σ.length=X.N.length
section
variable{X:Cx}{pins:List (Addr×Obj)}{σ:List (Option V)}{H H':Hp}{s:Shared}{h':Heap}
theorem Cx.Ok.aD8(ok:X.Ok){b:Addr}{o:Obj}(e:.xY):b∉X.fs:=fun hb=>by have:=(ok.Al.mem hb).1;rw[e]at this;cases this
theorem Inv.bs(I:.aa):∀b o,.xY->.dx/\.bx:=fun b o e=>⟨I.base.keep b o (.rW).1 (.rW).2 (I.ok.aD8 e) (I.ok.sh b o e),I.base.free b o (.rW).1 (.rW).2 (I.ok.sh b o e)⟩
theorem Inv.bk(I:.aa):∀b o,.xY->.dx:=fun b o e=>(I.bs b o e).1
theorem Inv.ET(I:.aa):Mod X.K X.mg X.base:=I.ok.ET
theorem Inv.C9(I:.aa):X.K.In s.heap:=I.ok.ET.kin.keeps I.bk
theorem Inv.nolimit(I:.aa):s.heap.NoLimit:=I.ok.ET.nolimit.keeps I.bk
theorem Inv.fr(I:.aa):∃m,Fr X.base X.bA.locals s.heap m:=let⟨m,hn,_⟩:=I.CL;⟨m,hn,I.bk,br I.ok.W7 I.ok.above⟩
theorem Inv.lt(I:.aa):X.bA.locals<s.heap.objs.size:=let⟨_,hn,_⟩:=I.CL;hn.lt
theorem Inv.sz(I:.aa):X.wx.heap.objs.size<=s.heap.objs.size:=br I.ok.above (mJ I.lt)
theorem Inv.aD9(I:.aa){a:Addr}(h:s.heap.objs.size<=a):a∉X.fs:=fun hb=>by obtain⟨_,o,ho,_⟩:=I.ok.Al.mem hb;exact absurd (bW (Heap.lt_size ho) (br I.sz h)) (g_ _)
theorem Inv.cne(I:.aa):∀x c,.mq->c≠X.bA.locals:=fun x c e z=>by obtain⟨v,o,ho,hd⟩:=.kP;obtain⟨m,⟨o',es,ep,Qj,hd',_⟩,_⟩:=I.CL;rw[z,Qj]at ho;cases ho;rw[hd']at hd;cases hd
theorem Inv.Al(I:.aa):s.heap.FunFrames X.base X.aY:=by(have all:∀(l:.dw),(∀b∈Ak l,b∈X.fs)->X.wx.heap.FunFrames X.base l->s.heap.FunFrames X.base l:=by intro l;induction l with|nil=>intro _ _;trivial|cons bA r ih=>intro hs hl;obtain⟨hk,⟨L,o,hf,hn,ho,hd⟩,hr⟩:=hl;have hL:L∈X.fs:=hs L (by unfold Ak;rw[m5,hf];exact au);obtain⟨sl,e⟩:=I.base.slot L o ho (I.ok.frf L hL) hL fun z=>I.ok.MP L z hL;exact⟨hk,⟨L,_,hf,hn,e,hd⟩,ih (fun b hb=>hs b (by unfold Ak;rw[m5,hf];exact ak _ hb)) hr⟩);exact all X.aY (fun _ hb=>hb) I.ok.Al
theorem Inv.stack(I:.aa):s.heap.FunFrames X.base X.stack:=by rcases I.ok.stk with e|⟨e,hf⟩;{rw[e];exact I.Al};{rw[e];obtain⟨m,hn,_⟩:=I.CL;refine .cons (by rw[I.ok.kind];decide) hf hn ? _ I.Al;exact Heap.get?_none_of_le (br I.ok.W7 I.ok.above)}
theorem Inv.Jb(I:.aa):∀b∈.gr,b∈X.bA.locals::X.fs:=fun b hb=>by rcases I.ok.stk with e|⟨e,hf⟩;{rw[e]at hb;exact ak _ hb};{rw[e]at hb;unfold Ak at hb;rw[m5,hf]at hb;exact hb}
theorem Inv.yW(I:.aa):∀b∈.gr,.bx:=fun b hb=>by rcases aJ.mp (I.Jb b hb)with e|hb;{rw[e];exact I.free};{obtain⟨_,o,ho,_⟩:=I.ok.Al.mem hb;exact I.base.free b o ho (I.ok.frf b hb) fun z=>I.ok.MP b z hb}
theorem Inv.step{g':Array GenState}{t':Nat}{d':Drawn}{ch:.ao}(I:.aa)(VA:.sL)(keep:∀b o,.kc->b∉X.fs->b∉ch->.dx->.bx->.e0=.ah)(slot:∀b o,.kc->b∈X.fs->b∉ch->.dx->.bx->.tX)(free:∀b o,b∉ch->.dx->.bx->.jk)(there:∀b o,b∉ch->.dx->∃o',.e0=some o')(Cr:.Ct)(zm:∀b o u,H b=.rm->H' b=.rm)(Cq:∀b ps,H b=some (.tbl ps)->∃more,H' b=some (.tbl (ps++more)))(ns:∀m,s.heap.Ns X.bA.locals m->h'.Ns X.bA.locals m)(fb:.wO)(hg:AllBare g'):.Ap:=by rw[128];(have neC:∀b o,.wQ->b∉X.ex->b∉ch:=fun b o e hx hb=>by rcases(VA b hb).1 with z|z;{exact hx z};{exact absurd (bW .hV z) (g_ _)});(have cellK:∀x c,.mq->∀v,.Fl:=fun x c e v⟨o,ho,hd⟩=>by have nch:c∉ch:=.Fm;by_cases hc:c∈X.fs;{obtain⟨sl,q⟩:=slot c o (I.cne x c e) hc nch ho (.k4);exact⟨_,q,hd⟩};{exact⟨o,keep c o (I.cne x c e) hc nch ho (.k4),hd⟩});refine⟨I.ok,I.os,hg,⟨.kQ,.kQ,fun b o e n hx=>? _,fun b o e hx=>? _,fun b xs e=>Cr b xs (I.base.Cr b xs e),fun b o xs e=>zm b o xs (I.base.zm b o xs e),fun b ps e=>? _⟩,? _,fun x c e=>? _,? _,fun x c e=>? _,.eS,fb,I.j9⟩;{exact keep b o .kR hb .rn .lz (.mr)};{rw[71];obtain⟨sl',e2⟩:=slot b _ .kR hb .rn e1 (.mr);exact⟨sl',e2⟩};{rw[72];exact free b o' .rn e1 (.mr)};{rw[72];exact there b o' .rn e1};{obtain⟨m1,e1⟩:=I.base.Cq b ps e;obtain⟨m2,e2⟩:=Cq b _ e1;exact⟨m1++m2,by rw[e2,Array.append_assoc]⟩};{rw[107];refine⟨m,ns m hn,fun i x v e1 e2 e3=>? _⟩;obtain⟨u,r,l⟩:=hl i x v e1 e2 e3;refine⟨u,r,? _⟩;rcases l with l|⟨k,c,e,z⟩;{exact .inl l};{exact .inr ⟨k,c,e,cellK x c e _ z⟩}};{obtain⟨v,z⟩:=.kP;exact⟨v,cellK x c e v z⟩};{obtain⟨m,⟨o,_,_,ho,_⟩,_⟩:=I.CL;exact free _ o (fun z=>(VA _ z).2.1 rfl) ho I.free};{obtain⟨v,o,ho,hd⟩:=.kP;exact free c o (.Fm) ho (.k4)};{rw[162];have nch:p.1∉ch:=fun z=>(VA p.1 z).2.2.2 p hp rfl;exact⟨keep p.1 p.2 ne nf nch e n,free p.1 p.2 nch e n,ne,nf,d⟩}
theorem Inv.un{t':Nat}(I:.aa)(u:Un X.fs [] H H' s.heap h')(fb:.wO):Inv X pins σ H' {s with heap:=h',toks:=t'}:=by obtain⟨m,⟨o,es,ep,ho,r⟩,_⟩:=id I.CL;obtain⟨sl,hL⟩:=u.any ho I.free .aC;exact I.step (g':=s.gens) (d':=s.drawn) (ch:=[]) (fun _ z=>nomatch z) (fun b o _ hb _ e n=>u.keep b o e n hb .aC) (fun b o _ hb _ e n=>u.slot b o e n hb .aC) (fun b o _ e n=>u.free b o e n .aC) (fun b o _ e=>u.there b o e .aC) u.Cr u.zm u.Cq .y8 fb I.lG
theorem Inv.call{g':Array GenState}{t':Nat}{d':Drawn}{ch:.ao}(I:.aa)(u:Un (.gr) ch H H' s.heap h')(fb:.wO)(hg:AllBare g')(VA:.sL):.Ap:=by obtain⟨m,⟨o,es,ep,ho,r⟩,_⟩:=id I.CL;obtain⟨sl,hL⟩:=u.any ho I.free fun z=>(VA _ z).2.1 rfl;exact I.step (ch:=ch) VA (fun b o hL hb hc e n=>u.keep b o e n (fun z=>(aJ.mp (I.Jb b z)).elim hL hb) hc) (fun b o _ _ hc e n=>u.any e n hc) (fun b o hc e n=>u.free b o e n hc) (fun b o hc e=>u.there b o e hc) u.Cr u.zm u.Cq .y8 fb hg
theorem Inv.nq{t':Nat}{it:Addr}(I:.aa)(k:∀b o,b≠it->.gL)(hn:H it=none)(hL:it≠X.bA.locals)(h1:it∈X.ex\/X.wx.heap.objs.size<=it)(h2:∀x c,.mq->c≠it)(h3:∀p∈.dy,p.1≠it):.oy:=by(have nit:∀b u,H b=.aP->b≠it:=fun b u e z=>by rw[z,hn]at e;cases e);refine I.step (g':=s.gens) (d':=s.drawn) (ch:=[it]) (.cG) (fun b o _ _ hc e _=>.tY) (fun b o _ _ hc e _=>⟨o.slots,.tY⟩) (fun _ _ _ _ n=>n) (fun b o hc e=>⟨o,.tY⟩) (fun _ _ e=>e) (fun _ _ _ e=>e) .Cw (fun m hm=>? _) (fun b u e=>? _) I.lG;{rw[73];exact⟨h1,hL,h2,h3⟩};{obtain⟨o,es,ep,ho,r⟩:=hm;exact⟨o,es,ep,k _ o (cW hL) ho,r⟩};rw[202]
theorem Inv.tok(I:.aa)(t:Nat):Inv X pins σ H {s with toks:=t}:=I.un (h':=s.heap) (t':=t) Un.refl I.fb
theorem Inv.ji{t':Nat}(I:.aa)(k:.oz):.oy:=I.un (Un.ji k) (I.fb.ji k)
theorem Inv.laid{a:Addr}{o:HO}{t':Nat}(I:.aa)(k:.oz)(hp:s.heap.objs.size<=a)(new:i5 X.prog X.w .dv h' a o):.Cx:=I.un (Un.laid k hp (I.fb.fresh hp)) (I.fb.laid k hp new)
theorem Inv.Ct{x e:Addr}{o:HO}{t':Nat}(I:.aa)(mu:Mut (H x))(he:.vt)(k:∀b u,b≠e->.gq=.aP->.e0=.aP)(heo:.wN)(new:i5 X.prog X.w (aN H x o) h' x o):Inv X pins σ (aN H x o) {s with heap:=h',toks:=t'}:=I.un (Un.Ct mu he k heo) (I.fb.Ct mu he k heo new)
theorem Inv.aw4{σ':List (.bL)}(I:.aa)(hl:σ'.length=σ.length)(w:∀(i:Nat)v,σ'[i]?=some (.a4)->σ[i]?=some (.a4)):Inv X pins σ' H s:=⟨I.ok,I.os,I.lG,I.base,let⟨m,hn,Xt⟩:=I.CL;⟨m,hn,fun i x v e1 e2 e3=>Xt i x v e1 (w i v e2) e3⟩,I.cell,I.free,I.mT,I.AY,I.fb,hl.trans I.j9⟩
theorem Inv.Wc{xZ:.aA}(I:.aa)(h:∀p∈xZ,s.heap.get? p.1=some p.2/\H p.1=none/\p.1≠X.bA.locals/\p.1∉X.fs/\∀v,p.2.data≠.cell v):Inv X xZ σ H s:=⟨I.ok,I.os,I.lG,I.base,I.CL,I.cell,I.free,I.mT,fun p hp=>(aW.mp hp).elim (fun z=>I.AY p (bR _ z)) (h p),I.fb,I.j9⟩
theorem HR{N:.a0}(hN:N.Nodup){i j:Nat}{x:Str}(a:N[i]?=.bu)(b:N[j]?=.bu):i=j:=.y9
theorem DZ{M:Model}{A:Around}{E:.ax}{i:Nat}{x:Str}{v:V}{u:Value}{Q:.bW}(I:.aa)(hN:X.N.Nodup)(hi:.iF)(hx:.nj)(r:e_ v u)(h:∀s',.Fn->(∃a,Heap.SameBut a s.heap s'.heap/\(a=X.bA.locals\/X.bA.cells.lookup x=some a))->Q () s')(hf:.lA:=by rw[74]):.Ed:=by obtain⟨m,hn,hl⟩:=id I.CL;(have aAs:(X.bA.scope.kind==.class||(X.bA.scope.kind==.module&&X.bA.locals !=X.bA.globals))=false:=by rw[I.ok.kind];rfl);(have hiσ:i<σ.length:=by rw[I.j9];exact(ay.mp hi).1);have cne:=I.cne;(have tracked:∀{a:Addr}{h':Heap},(∃o,.hc=.ah/\.fs)->.e7->tG X.prog X.w H h':=fun{a h'}ha hs b ob e=>by obtain⟨_,_,EH⟩:=ha;refine(I.fb b ob e).B0 (fun c w' hc q=>(hs.2 c ? _).trans q) .n8 .hI;rw[2];rcases hc with rfl|hc;{rw[EH]at e;cases e};{rw[EH]at hc;cases hc});rcases hx with hk|hk;{refine wpAny_storeName_local hk hn (fun h' Tp hs=>? _) aAs;obtain⟨oL,_,_,hoL,_⟩:=id hn;refine h _ ⟨I.ok,I.os,I.lG,.Aq,⟨_,Tp,fun j y v' e1 e2 e3=>? _⟩,fun y c e=>? _,I.free,I.mT,.eS,tracked ⟨oL,hoL,I.free⟩ hs,by simpa using I.j9⟩ ⟨_,hs,.fu⟩;{exact(.tZ).trans .lz};{rw[71];exact⟨sl,(.tZ).trans e1⟩};{rw[72];exact⟨o',(.tZ).trans e1⟩};{by_cases hj:j=i;{rw[338];exact⟨u,r,.inl ⟨hk,.aN⟩⟩};{rw[263];rcases q with⟨k,e⟩|⟨k,c,e,z⟩;{refine .inl ⟨k,? _⟩;have:y≠x:=fun e=>hj (HR hN e1 (e▸hi));simp[this,e]};{exact .inr ⟨k,c,e,z.sameBut hs (cne y c e)⟩}}};{obtain⟨w',z⟩:=I.cell y c e;exact⟨w',z.sameBut hs (cne y c e)⟩};{rw[162];exact⟨(hs.2 p.1 ne).trans e,n,ne,nf,d⟩}};{(have hfn:X.fn x=true:=by rcases hf with z|z;{exact z};{rw[z]at hk;cases hk});obtain⟨c,hc⟩:=I.ok.has x (.inl hk);obtain⟨w',z⟩:=I.cell x c hc;refine wpAny_storeName_cell I.ok.kind hk hc z (fun h' hc' hs=>? _);obtain⟨oc,hoc,aBr⟩:=id z;refine h {s with heap:=h'} ⟨I.ok,I.os,I.lG,.Aq,⟨m,hn.sameBut hs (cW (cne x c hc)),fun j y v' e1 e2 e3=>? _⟩,fun y c' e=>? _,I.free,I.mT,.eS,tracked ⟨oc,hoc,I.mT x c hc⟩ hs,by simpa using I.j9⟩ ⟨c,hs,.inr hc⟩;{exact(.sM).trans .lz};{rw[71];exact⟨sl,(.sM).trans e1⟩};{rw[72];exact⟨o',(.sM).trans e1⟩};{by_cases hj:j=i;{rw[338];exact⟨u,r,.inr ⟨.inl hk,c,hc,hc'⟩⟩};{rw[263];rcases q with q|⟨k,c',e,z'⟩;{exact .inl q};{refine .inr ⟨k,c',e,z'.sameBut hs ? _⟩;rw[2];exact hj (HR hN e1 (I.ok.inj _ _ _ e hc▸hi))}}};{by_cases hcc:c'=c;{subst hcc;exact⟨_,hc'⟩};{obtain⟨w2,z2⟩:=I.cell y c' e;exact⟨w2,z2.sameBut hs hcc⟩}};{rw[162];refine⟨(hs.2 p.1 ? _).trans e,n,ne,nf,d⟩;intro q;rw[q,hoc]at e;have q':oc=p.2:=aB e;exact d w' (by rw[<-q'];exact aBr)}}
theorem B_{M:Model}{A:Around}{E:.ax}{i:Nat}{x:Str}{v:V}{u:Value}{Q:.bW}(I:.aa)(hN:X.N.Nodup)(hi:.iF)(hx:.nj)(r:e_ v u)(h:∀s',.Fn->Q () s')(hf:.lA:=by rw[74]):.Ed:=DZ I hN hi hx r (fun s' I' _=>h s' I') hf
theorem Inv.U'{s':Shared}{ch:.ao}(I:.aa)(ho:s'.os=s.os)(u:Un (.gr) ch H H' s.heap s'.heap)(fb:tG X.prog X.w H' s'.heap)(hg:.ro)(VA:.sL):.ec:=by obtain⟨h',g',d',t',o'⟩:=s';have e:o'=s.os:=ho;subst e;exact I.call (g':=g') (t':=t') (d':=d') u fb hg VA
end
abbrev XK:=Value->.bE->.a3
abbrev St:=List (.bL)
abbrev VK:=V->.a3
abbrev TE:=St->.rp
abbrev TT:=St->Hp->(.n9)->Prop
abbrev TA:=St->Hp->(.aj->.a3)->Prop
structure CN where
nx:St->Hp->Prop
rt:VK
bk:St->Hp->Prop:=fun _ _=>False
ct:St->Hp->Prop:=fun _ _=>False
abbrev TS:=CN->.dM
def EP(X:Cx)(pins:.aA)(σ:St)(Q:VK)(u:Value)(s':Shared):Prop:=∃v H',.ec/\e_ v u/\Q v H'
def TP(X:Cx)(pins:.aA)(σ:St)(Q:.n9)(b:Bool)(s':Shared):Prop:=∃H',.ec/\Q b H'
def AP(X:Cx)(pins:.aA)(σ:St)(Q:.aj->.a3)(us:.ar)(s':Shared):Prop:=∃vs H',.ec/\dP vs us/\Q vs H'
def SP(X:Cx)(pins:.aA)(D:CN)(f:Flow)(s':Shared):Prop:=match f with|.next=>∃σ' H',.hg/\D.nx σ' H'|.brk=>∃σ' H',.hg/\D.bk σ' H'|.cont=>∃σ' H',.hg/\D.ct σ' H'|.ret u=>∃v σ' H',.hg/\e_ v u/\D.rt v H'
def PE(X:Cx)(e:Expr)(t:TE):Prop:=∀(pins:.aA)(s:Shared)(σ:St)(H:Hp)(Q:VK),.aa->t σ H Q->wpAny .av X.A (.dU) .dz X.xe s
def PT(X:Cx)(e:Expr)(t:TT):Prop:=∀(pins:.aA)(s:Shared)(σ:St)(H:Hp)(Q:.n9),.aa->t σ H Q->wpAny .av X.A (isTrue e X.bA (.dU)) .xZ X.xe s
def PW(X:Cx)(e:Expr)(t:TT):Prop:=∀(whole:.hJ)(pins:.aA)(s:Shared)(σ:St)(H:Hp)(Q:.n9),.aa->t σ H Q->wpAny .av X.A (isTrue e X.bA whole) .xZ X.xe s
theorem PW.pt{X:Cx}{e:Expr}{t:TT}(h:PW X e t):PT X e t:=h _
def PA(X:Cx)(es:.bF)(t:TA):Prop:=∀(pos:Pos)(pins:.aA)(s:Shared)(σ:St)(H:Hp)(Q:.aj->.a3),.aa->t σ H Q->wpAny .av X.A (spliced (.t2)) (AP X pins σ Q) X.xe s
def PS(X:Cx)(st:Stmt)(t:TS):Prop:=∀(pins:.aA)(s:Shared)(σ:St)(H:Hp)(D:CN),.aa->t D σ H->wpAny .av X.A (exec st X.bA) .rX X.xe s
def Mm(X:Cx)(st:.hK)(t:TS):Prop:=∀(pins:.aA)(s:Shared)(σ:St)(H:Hp)(D:CN),.aa->t D σ H->wpAny .av X.A (execs st X.bA) .rX X.xe s
theorem iu{α:Type}{t:Sem α}{Q Q':α->.bK}{M:Model}{A:Around}{E:.ax}{s:Shared}(h:wpAny M A t Q E s)(hQ:∀a s,Q a s->Q' a s):wpAny M A t Q' E s:=wpAny_mono h hQ fun _ _ x=>x
section
variable{X:Cx}
def Kq(i:Nat):TE:=fun σ H Q=>∃v,σ[i]?=some (.a4)/\Q v H
def tC(v:V):TE:=fun _ H Q=>Q v H
theorem ao8{i:Nat}{x:Str}{pos:Pos}(hN:.iF)(hv:Vis X.bA.scope x)(hd:.bX:=by decide)(Vy:.Fo:=by decide):PE X .hh (Kq i):=by rw[3];obtain⟨v,e,h⟩:=h;rw[107];obtain⟨u,r,l⟩:=hl i x v hN e hv;have fin:EP X pins σ Q u s:=⟨v,H,I,r,h⟩;rcases l with⟨hk,hm⟩|⟨hk,c,hc,Vz⟩;{exact wpAny_Name (wpAny_loadName_local I.ok.kind hk hn hm fin) hd};{rcases hk with hk|hk;{exact wpAny_Name (wpAny_loadName_cell I.ok.kind hk hc Vz fin) hd};{exact wpAny_Name (wpAny_loadName_free I.ok.kind hk hc Vz fin Vy) hd}}
theorem bH{i j pos}:PE X (.Constant (.bp) j pos) (tC (.bp)):=fun _ _ _ H _ I h=>wpAny_Constant_int ⟨.bp,H,.bz,.aU,h⟩
theorem wo{b j pos}:PE X (.Constant (.bool b) j pos) (tC (.bl b)):=fun _ _ _ H _ I h=>Constant_bool ⟨.bl b,H,I,rfl,h⟩
theorem ao7{j pos}:PE X (.Constant .none j pos) (tC .jD):=fun _ _ _ H _ I h=>Constant_none ⟨.jD,H,I,rfl,h⟩
theorem dN{x j pos}:PE X (.Constant (.str x) j pos) (tC (.str x)):=fun _ _ _ H _ I h=>Calls.Constant_str ⟨.str x,H,.bz,.aU,h⟩
def Gl(X:Cx)(x:Str):Prop:=X.bA.kindOf x=some .globalImplicit
theorem qW{E:.ax}{pins:.aA}{s:Shared}{σ:St}{H:Hp}{x:Str}{u:Value}{pos:Pos}{Q:.ax}(I:.aa)(hg:.cq)(hm:.cO=.aP)(h:Q u s)(hd:.bX:=by decide):.Ee:=Calls.Name_function_global I.ok.kind hg (Calls.loadGlobal_global .Cy hm h) hd
theorem xI{E:.ax}{pins:.aA}{s:Shared}{σ:St}{H:Hp}{x:Str}{u:Value}{pos:Pos}{Q:.ax}(I:.aa)(hg:.cq)(hm:.cO=none)(hv:.rq=.aP)(h:Q u s)(hn:.rr:=by decide)(hd:.bX:=by decide):.Ee:=by obtain⟨mb,h1,h2⟩:=I.ET.blt;exact Calls.Name_function_global I.ok.kind hg (Calls.loadGlobal_builtin .Cy hm (by rw[I.ok.blt];exact h1.keeps I.bk) ((h2 x hn).trans hv) h) hd
theorem NG{x:Str}{v:V}{u:Value}{pos:Pos}(hg:.cq)(hm:.cO=.aP)(r:e_ v u)(hd:.bX:=by decide):PE X .hh (tC v):=fun _ _ _ H _ I h=>qW I hg hm ⟨v,H,I,r,h⟩ hd
variable{a b:Expr}{ta tb:TE}{pos:Pos}
def PC(X:Cx)(op:CmpOp)(a b:Expr)(t:TE):Prop:=∀(pins:.aA)(s:Shared)(σ:St)(H:Hp)(Q:VK),.aa->t σ H Q->wpAny .av X.A (eval a X.bA) (fun v s₁=>wpAny .av X.A (eval b X.bA) (fun u s₂=>wpAny .av X.A (compareOp op v u) .dz X.xe s₂) X.xe s₁) X.xe s
theorem abj(b:Expr){op:CmpOp}(h:op≠.In)(h2:op≠.NotIn):.mu:=.za
def Ot(ta:TE):TE:=fun σ H Q=>ta σ H fun x H1=>Q (.bl (decide (x=.jD))) H1
theorem e_.abk{x:V}{v:Value}(r:e_ x v):(v==Value.none)=decide (x=.jD):=.zb
theorem ao3{j pos'}(ha:.eT):PC X .Is a (.Constant .none j pos') (Ot ta):=by rw[3];refine .oA;exact Constant_none (is_none_gen ⟨.bl _,H1,I1,by rw[r1.abk];rfl,q1⟩)
def tB(t:TE):TT:=fun σ H Q=>t σ H fun x H1=>∃c,x=.bl c/\Q c H1
theorem tU{op:CmpOp}{t:TE}(h:PC X op a b t)(h1:.mu:=by first|exact abj _ .aD .aD|rfl):PT X .vu (tB t):=by intro pins s σ H Q I hw;refine wpAny_isTrue_Compare1 (iu .vv fun v s1 h1=>iu h1 fun u s2 h2=>iu h2 fun c s3⟨x,H1,I1,r1,q1⟩=>? _) h1;rw[264]
theorem km{e:Expr}{t:TE}(h:PE X e t)(he:∀whole,isTrue e X.bA whole=(do let v<-whole;standAt e.pos;holding [v] (truthy v)):=by intro _;rfl):PT X e (tB t):=by intro pins s σ H Q I hw;refine isTrue_plain (iu .vv .jy) (he _);rw[264]
variable{tA tB':TT}{rest:List Expr}
def Oj(t u:TT):TT:=fun σ H Q=>t σ H fun c H1=>if c=true then u σ H1 Q else Q false H1
def tOr(t u:TT):TT:=fun σ H Q=>t σ H fun c H1=>if c=true then Q true H1 else u σ H1 Q
def Ov(t:TT):TT:=fun σ H Q=>t σ H fun c H1=>Q (! c) H1
theorem BO(ha:PT X a tA):PW X (.BoolOp .And [a] pos) tA:=by intro wh pins s σ H Q I h;refine isTrue_and .Cz;cases c with|true=>exact isTrue_and_nil e|false=>exact e
theorem Im(ha:PT X a tA):PW X (.BoolOp .Or [a] pos) tA:=by intro wh pins s σ H Q I h;refine isTrue_or .Cz;cases c with|false=>exact isTrue_or_nil e|true=>exact e
theorem Il(ha:PT X a tA)(hb:PW X .Fp tB'):PW X .Fq (Oj tA tB'):=by intro wh pins s σ H Q I h;refine isTrue_and .Ef;cases c with|true=>exact hb wh pins s1 σ H1 Q I1 q1|false=>exact⟨H1,I1,q1⟩
theorem QV(ha:PT X a tA)(hb:PW X (.BoolOp .Or (b::rest) pos) tB'):PW X .Fs (tOr tA tB'):=by intro wh pins s σ H Q I h;refine isTrue_or .Ef;cases c with|true=>exact⟨H1,I1,q1⟩|false=>exact hb wh pins s1 σ H1 Q I1 q1
theorem DC(ha:PT X a tA):PT X (.UnaryOp .Not a pos) (Ov tA):=by rw[3];exact isTrue_not (ha pins s σ H (fun c H1=>Q (! c) H1) I h)
def Cb(ta tb:TE):TE:=fun σ H Q=>ta σ H fun x H1=>∃c,x=.bl c/\if c=true then tb σ H1 Q else Q (.bl false) H1
def Ow(ta tb:TE):TE:=fun σ H Q=>ta σ H fun x H1=>∃c,x=.bl c/\if c=true then Q (.bl true) H1 else tb σ H1 Q
theorem ac9{op}{t:TE}(h:PE X a t):PE X (.BoolOp op [a] pos) t:=fun pins s σ H Q I hw=>BoolOp_one (h pins s σ H Q I hw)
theorem ao4(ha:.eT)(hb:PE X .Fp tb):PE X .Fq (Cb ta tb):=by rw[3];refine BoolOp_and (.oA);obtain⟨c,rfl,q1⟩:=q1;cases r1;refine .qD;cases c with|true=>exact .vw|false=>exact⟨.bl false,H1,I1,rfl,q1⟩
theorem av3(ha:.eT)(hb:PE X (.BoolOp .Or (b::rest) pos) tb):PE X .Fs (Ow ta tb):=by rw[3];refine BoolOp_or (.oA);obtain⟨c,rfl,q1⟩:=q1;cases r1;refine .qD;cases c with|false=>exact .vw|true=>exact⟨.bl true,H1,I1,rfl,q1⟩
def tIf(t:TT)(ta tb:TE):TE:=fun σ H Q=>t σ H fun c H1=>if c=true then ta σ H1 Q else tb σ H1 Q
theorem Ib{c:Expr}(hc:PT X c tA)(ha:.eT)(hb:.hL):PE X (.IfExp c a b pos) (tIf tA ta tb):=by rw[3];refine wpAny_IfExp .As;cases d with|true=>exact ha pins s1 σ H1 Q I1 q1|false=>exact .vw
end
def cM(K:ae)(H:Hp)(a:Addr)(xs:.aj):Prop:=Rd H a (.bJ xs)\/∃(o:Obj)(d7:.er)(n:Nat),K.lookup a=.ah/\o.cls=.nQ/\o.dict=none/\.Au
def ig(K:ae)(H:Hp)(a:Addr)(xs:.aj):Prop:=Rd H a (.fL xs)\/∃(o:Obj)(d7:.er)(n:Nat),K.lookup a=.ah/\.wR/\.Au
def azp:Value->.bL|.none=>some .jD|.bool b=>some (.bl b)|.int i _=>some (.bp)|.str x _=>some (.str x)|.bytes b _=>some (.rC b)|.float b _=>some (.flt b)|.ref a=>.ed|.type n=>some (.ty n)|_=>none
theorem e_.abs{x:V}{u:Value}(r:e_ x u):azp u=.bu:=.zb
theorem e_.inj{x y:V}{u:Value}(r:e_ x u)(q:.cx):x=y:=aB (r.abs.symm.trans q.abs)
theorem dP.inj:∀{xs ys:.aj}{us:.ar},.d2->dP ys us->xs=ys|_,_,_,.nil,.nil=>rfl|_,_,_,.cons r t,.cons r' t'=>by rw[r.inj r',dP.inj t t']
section
variable{X:Cx}{pins:List (Addr×Obj)}{σ:St}{H:Hp}{s:Shared}{a:Addr}{xs ys:List V}
theorem cM.of{K:ae}(h:H a=.ff):.bZ:=.inl (.inl h)
theorem ig.of{K:ae}(h:H a=.qC):.fg:=.inl (.inl h)
theorem Inv.list(I:.aa)(h:cM X.K H a xs):∃d7:.ar,dP xs d7/\PlainL s.heap a d7.toArray/\.gK:=by rcases h with h|⟨o,d7,n,hk,hc,hd,hs,hz,r⟩;{obtain⟨z,d7,n,r,e⟩:=h.ok I.fb;exact⟨d7,r,⟨_,n,e,rfl,rfl,rfl⟩,z⟩};{refine⟨d7.toList,r,⟨o,n,I.C9 a o hk,hc,hd,.wU⟩,? _⟩;have e:=r.length;simp only[a0]at e;omega}
theorem Inv.tuple(I:.aa)(h:ig X.K H a xs):∃d7:.ar,dP xs d7/\IsTup s.heap a d7.toArray/\.gK:=by rcases h with h|⟨o,d7,n,hk,hc,hs,hz,r⟩;{obtain⟨z,d7,r,p⟩:=h.ok I.fb;exact⟨d7,r,p,z⟩};{refine⟨d7.toList,r,⟨o,I.C9 a o hk,hc,n,.wU⟩,? _⟩;have e:=r.length;simp only[a0]at e;omega}
theorem Inv.xK(I:.aa)(h:cM X.K H a xs)(h':cM X.K H a ys):xs=ys:=by obtain⟨d7,r,⟨o,n,e,_,_,d⟩,_⟩:=I.list h;obtain⟨its',r',⟨o',n',e',_,_,d'⟩,_⟩:=I.list h';rw[e]at e';cases e';rw[d]at d';injection d' with d1 _;(have:d7=its':=by simpa using congrArg aky d1);subst this;exact r.inj r'
end
abbrev Cx.Kv(X:Cx)(E:.ax):Cx:={X with xe:=E}
abbrev Cx.nox(X:Cx):Cx:=X.Kv fun _ _=>False
theorem Cx.Ok.Kv{X:Cx}(ok:X.Ok)(E:.ax):(X.Kv E).Ok:=.zc
theorem Cx.Ok.yo{X:Cx}{E:.ax}(ok:(X.Kv E).Ok):X.Ok:=.zc
section
variable{X:Cx}{pins:List (Addr×Obj)}{σ:St}{H:Hp}{s:Shared}{E:Value->Shared->Prop}
theorem Inv.Kv(I:.aa)(E:.ax):Inv (X.Kv E) pins σ H s:=⟨I.ok.Kv E,I.os,I.lG,I.base,I.CL,I.cell,I.free,I.mT,I.AY,I.fb,I.j9⟩
theorem Inv.yo(I:Inv (X.Kv E) pins σ H s):.aa:=⟨I.ok.yo,I.os,I.lG,I.base,I.CL,I.cell,I.free,I.mT,I.AY,I.fb,I.j9⟩
theorem SP.yo{D:CN}{f:Flow}{s':Shared}(h:SP (X.Kv E) pins D f s'):SP X pins D f s':=by cases f with|next=>rw[129]|brk=>rw[129]|cont=>rw[129]|ret u=>obtain⟨v,σ',H',I,r,q⟩:=h;exact⟨v,σ',H',I.yo,r,q⟩
theorem Mm.nox{st:.hK}{t:TS}(h:Mm X.nox st t):Mm X st t:=fun pins s σ H D I hw=>wpAny_mono (h pins s σ H D (I.Kv _) hw) (fun _ _ q=>q.yo) fun _ _ z=>gD z
end
section
variable{X:Cx}{st:Stmt}{rest:List Stmt}{t u:TS}{e:Expr}{te:TE}{pos:Pos}
def Ci:TS:=fun D σ H=>.gs
def Oy(t u:TS):TS:=fun D σ H=>t {D with nx:=u D} σ H
theorem bZ:Mm X [] Ci:=fun _ _ σ H _ I h=>wpAny_execs_nil ⟨σ,H,I,h⟩
theorem aj(h1:PS X st t)(h2:Mm X rest u):Mm X (st::rest) (Oy t u):=by rw[14];refine wpAny_execs_cons (iu (h1 pins s σ H {D with nx:=u D} I h) fun f s1 q=>? _);cases f with|next=>obtain⟨σ',H',I',q⟩:=q;exact h2 pins s1 σ' H' D I' q|ret v=>exact q|brk=>exact q|cont=>exact q
theorem aD(h1:PS X st t):Mm X [st] t:=by rw[14];refine wpAny_execs_cons (iu (h1 pins s σ H D I h) fun f s1 q=>? _);cases f with|next=>exact wpAny_execs_nil q|ret v=>exact q|brk=>exact q|cont=>exact q
theorem Inv.quiet{pins:.aA}{σ:St}{H:Hp}{s:Shared}(I:.aa):interactive X.bA=false:=by simp[interactive,I.ok.kind]
def Cd(te:TE):TS:=fun D σ H=>te σ H fun _ H1=>D.nx σ H1
theorem dO(he:.cI)(hs:swapsWith e none pos.line X.bA=pure false:=by rfl):PS X (.Expr e pos) (Cd te):=by rw[14];exact wpAny_Expr_any (iu .cD fun v s1⟨x,H1,I1,r1,q1⟩=>⟨σ,H1,I1,q1⟩) I.quiet hs
def Ox(te:TE):TS:=fun D σ H=>te σ H D.rt
theorem ba(he:.cI):PS X (.Return (some e) pos) (Ox te):=by rw[14];exact wpAny_Return_some (iu .cD fun v s1⟨x,H1,I1,r1,q1⟩=>⟨x,σ,H1,I1,r1,q1⟩)
def Oq(c:TT)(t u:TS):TS:=fun D σ H=>c σ H fun b H1=>if b=true then t D σ H1 else u D σ H1
theorem dG{c:Expr}{a b:.hK}{tc:TT}(hc:PT X c tc)(ha:Mm X a t)(hb:Mm X b u):PS X (.If c a b pos) (Oq tc t u):=by rw[14];refine wpAny_If .As;cases d with|true=>exact ha pins s1 σ H1 D I1 q1|false=>exact hb pins s1 σ H1 D I1 q1
end
abbrev TG:=V->St->Hp->(.dM)->Prop
abbrev TGs:=.aj->St->Hp->(.dM)->Prop
def PG(X:Cx)(target:Expr)(t:TG):Prop:=∀(pins:.aA)(s:Shared)(σ:St)(H:Hp)(v:V)(u:Value)(Q:.dM),.aa->e_ v u->t v σ H Q->wpAny .av X.A (assign target X.bA u) .Eg X.xe s
def PGs(X:Cx)(ts:.bF)(t:TGs):Prop:=∀(pins:.aA)(s:Shared)(σ:St)(H:Hp)(vs:.aj)(us:.ar)(Q:.dM),.aa->dP vs us->t vs σ H Q->wpAny .av X.A (assignInOrder ((assignEach ts X.bA).map .bA) us) .Eg X.xe s
abbrev TIp:=.kd
def PIp(X:Cx)(op:Operator)(t:TIp):Prop:=∀(pins:.aA)(s:Shared)(σ:St)(H:Hp)(x y:V)(v u:Value)(Q:VK),.aa->e_ x v->.cx->t x y H Q->wpAny .av X.A (inplaceOp op v u) .dz X.xe s
section
variable{X:Cx}{pos:Pos}
def gy(i:Nat):TG:=fun v σ H Q=>Q (σ.set i (.a4)) H
theorem cD{i:Nat}{x:Str}(hN:X.N.Nodup)(hi:.iF)(hx:.nj)(hf:.lA:=by rw[74]):PG X .hh (gy i):=by intro pins s σ H v u Q I r h;exact wpAny_assign_Name (B_ I hN hi hx r (fun s' I'=>⟨_,H,I',h⟩) hf)
def wO:TGs:=fun vs σ H Q=>vs=[]/\Q σ H
def jS(t:TG)(u:TGs):TGs:=fun vs σ H Q=>∃v r,vs=v::r/\t v σ H fun σ' H'=>u r σ' H' Q
theorem mm:PGs X [] wO:=by rw[31];obtain⟨e,h⟩:=h;subst e;cases r;exact assignInOrder_nil ⟨σ,H,I,h⟩
theorem ff{e:Expr}{es:.bF}{t:TG}{u:TGs}(h1:PG X e t)(h2:PGs X es u)(hs:(assignEach .eA X.bA).map .bA=assign e X.bA::(.x1).map .bA:=by rfl):PGs X .eA (jS t u):=by rw[31];obtain⟨v,vr,e1,h⟩:=h;subst e1;cases r with|cons r rr=>rw[hs];refine assignInOrder_cons (iu (h1 pins s σ H _ _ _ I r h) fun _ s1⟨σ1,H1,I1,q1⟩=>? _);exact h2 pins s1 σ1 H1 _ _ Q I1 rr q1
def aa5(K:ae)(n:Nat)(t:TGs):TG:=fun v σ H Q=>∃a xs,v=.b2/\.fg/\xs.length=n/\t xs σ H Q
theorem pH{es:.bF}{k:Nat}{t:TGs}{n:Nat}(hc:.cJ)(h:PGs X es t)(hn:(.x1).length=n:=by rfl)(hst:(.x1).findIdx? .aX=none:=by rfl):PG X (.Tuple es k pos) (aa5 X.K n t):=by intro pins s σ H v u Q I r hw;obtain⟨a,xs,e1,hq,hl,hw⟩:=hw;subst e1;cases r;obtain⟨d7,rv,ht,hz⟩:=I.tuple hq;refine assign_Tuple_tuple .b0 ht (by simp[hn,<-hl,rv.length]) hst fun h' hx=>? _;have I1:.pD:=I.ji (t':=s.toks) fun b o e=>hx b o (.gM) e;exact h pins _ σ H xs _ Q I1 (by simpa using rv) hw
def Jd(te:TE)(g:TG):TS:=fun D σ H=>te σ H fun x H1=>g x σ H1 D.nx
theorem bP{i:Nat}{x:Str}{e:Expr}{te:TE}{pos':Pos}(hN:X.N.Nodup)(hi:.iF)(hx:.nj)(he:.cI)(hs:swapsWith e (some (.Name x pos')) pos.line X.bA=pure false:=by rfl)(hf:.lA:=by rw[74]):PS X (.Assign [.Name x pos'] e pos) (Jd te (gy i)):=by rw[14];refine wpAny_Assign_Name (iu .cD fun v s1⟨y,H1,I1,r1,q1⟩=>? _) hs;exact B_ I1 hN hi hx r1 (fun s2 I2=>⟨_,H1,I2,q1⟩) hf
def Ol(i:Nat)(te:TE)(ti:TIp):TS:=fun D σ H=>∃x,σ[i]?=some (.bu)/\te σ H fun y H1=>ti x y H1 fun z H2=>D.nx (σ.set i (.cy)) H2
theorem ya{i:Nat}{x:Str}{e:Expr}{te:TE}{op:Operator}{ti:TIp}{pos':Pos}(hN:X.N.Nodup)(hi:.iF)(hx:.nj)(he:.cI)(ho:PIp X op ti)(hf:.lA:=by rw[74]):PS X (.AugAssign (.Name x pos') op e pos) (Ol i te ti):=by rw[14];obtain⟨v,e1,h⟩:=h;rw[107];(have vis:Vis X.bA.scope x:=by rcases hx with k|k;exact .cz;exact .inr (.cz));obtain⟨u,r,l⟩:=hl i x v hi e1 vis;refine wpAny_AugAssign_Name ? _;(have go:wpAny .av X.A (.dU) (fun w s₂=>wpAny .av X.A (inplaceOp op u w) (fun r s₃=>wpAny .av X.A (storeName X.bA x r) (fun _=>SP X pins D .next) X.xe s₃) X.xe s₂) X.xe s:=by refine iu .cD fun w s1⟨y,H1,I1,r1,q1⟩=>? _;refine iu (ho pins s1 σ H1 v y u w _ I1 r r1 q1) fun z s2⟨zv,H2,I2,r2,q2⟩=>? _;exact B_ I2 hN hi hx r2 (fun s3 I3=>⟨_,H2,I3,q2⟩) hf);rcases l with⟨hk,hm⟩|⟨hk,c,hc,Vz⟩;{exact wpAny_loadName_local I.ok.kind hk hn hm go};{rcases hk with hk|hk;{exact wpAny_loadName_cell I.ok.kind hk hc Vz go};{rcases hx with k|k;rw[265];rw[265]}}
def ipI(f:Int->Int->Int):TIp:=fun x y H Q=>∃i j,x=.bp/\y=.int j/\Q (.int (f i j)) H
theorem Ap:PIp X .Add (ipI fun i j=>i+j):=by intro pins s σ H x y v u Q I r1 r2 h;obtain⟨i,j,e1,e2,q⟩:=h;rw[130];exact iadd_int .t4
end
section
variable{X:Cx}{pos:Pos}
def adn(c:TT)(tb:TS):TS:=fun D σ H=>∃W:.hX,(∃m,W m σ H)/\∀m σ H,W m σ H->c σ H fun b H1=>if b=true then∃N:.dM,(∀σ' H',N σ' H'->∃m',m'<m/\W m' σ' H')/\tb {D with nx:=N,ct:=N,bk:=D.nx} σ H1 else D.nx σ H1
theorem lW{c:Expr}{body:.hK}{tc:TT}{tb:TS}(hp:PassesOwn .av X.A X.bA X.xe)(hc:PT X c tc)(hb:Mm X body tb):PS X (.While c body [] pos) (adn tc tb):=by rw[14];obtain⟨W,⟨m0,w0⟩,turn⟩:=h;refine wpAny_While (codeAny_whileLoop (fun n s'=>∃σ' H',.hg/\W n σ' H') ? _ m0 ⟨σ,H,I,w0⟩);rintro n s1⟨σ1,H1,I1,w1⟩;refine wpAny_passesOwn hp (iu (hc pins s1 σ1 H1 _ I1 (turn n σ1 H1 w1)) fun b s2⟨H2,I2,q2⟩=>? _);cases b with|true=>(obtain⟨N,hN,q2⟩:=q2;rw[.aJ];refine wpAny_passesOwn hp (iu (hb pins s2 σ1 H2 _ I2 q2) fun f s3 q3=>? _);cases f with|next=>rw[203]|cont=>rw[203]|brk=>exact q3|ret v=>exact q3)|false=>rw[.dC];exact wpAny_execs_nil ⟨σ1,H2,I2,q2⟩
end
structure It where
go:Nat->Hp->Prop
WH:Nat->Hp->V->Hp->Prop
stop:Nat->Hp->Prop
def ze(X:Cx)(pins:.aA)(H:Hp)(b:Addr):Prop:=.bx/\.kc/\b∉X.fs/\.Eh/\.Av
theorem Inv.P6{X:Cx}{pins:.aA}{σ:St}{H H':Hp}{s:Shared}{b:Addr}(I:.aa)(hb:s.heap.objs.size<=b)(hn:.jk):ze X pins H' b:=by refine⟨hn,ia (bW I.lt hb),I.aD9 hb,.inr (br I.sz hb),fun x c e z=>? _,fun p hp z=>? _⟩;{obtain⟨v,q⟩:=.kP;exact absurd (bW q.lt (by rw[z];exact hb)) (g_ _)};{exact absurd (bW (Heap.lt_size (I.AY p hp).1) (by rw[z];exact hb)) (g_ _)}
structure Mr(P:Program)(w:World)(K:ae)(tg:Expr)(J:It)(fp:List Addr)(it:Addr)(tn:Nat->Heap->Prop):Prop where
mem:it∈fp
obj:∀i h,tn i h->∀b∈fp,∃o,h.get? b=some o/\∀v,o.data≠.cell v
keep:∀i h h',tn i h->(∀b∈fp,∀o,h.get? b=some o->h'.get? b=some o)->tn i h'
item:∀(X:Cx),X.prog=P->X.w=w->X.K=K->X.tQ=true->∀(i:Nat)(pins:List (Addr×Obj))(s:Shared)(σ:St)(H:Hp)(E:Value->Shared->Prop),Inv X pins σ H s->(∀b∈fp,ze X pins H b)->tn i s.heap->J.go i H->wpAny (model P w) X.A (pyNext (.ref it)) (fun r s1=>∃u,r=some u/\wpAny (model P w) X.A (letOwnedTupleGo tg (.ref it) u) (fun _ s2=>∃x H',Inv X pins σ H' s2/\e_ x u/\J.WH i H x H'/\tn (i+1) s2.heap/\∀b∈fp,H' b=none) E s1) E s
done:∀(X:Cx),X.prog=P->X.w=w->X.K=K->X.tQ=true->∀(i:Nat)(pins:List (Addr×Obj))(s:Shared)(σ:St)(H:Hp)(E:Value->Shared->Prop),Inv X pins σ H s->(∀b∈fp,ze X pins H b)->tn i s.heap->J.stop i H->wpAny (model P w) X.A (pyNext (.ref it)) (fun r s1=>r=none/\Inv X pins σ H s1) E s
self:∀(A:Around)(i:Nat)(s:Shared)(Q:Value->Shared->Prop)(E:Value->Shared->Prop),tn i s.heap->Q (.ref it) s->wpAny (model P w) A (pyIter (.ref it)) Q E s
abbrev TI:=St->Hp->(It->.a3)->Prop
def PIE(X:Cx)(pins:.aA)(σ:St)(tg:Expr)(R:It->.a3)(itv:Value)(s2:Shared):Prop:=∃(it:Addr)(fp:.ao)(tn:Nat->.k5)(J:It)(H':Hp),itv=.ref it/\Inv X pins σ H' s2/\Mr X.prog X.w X.K tg J fp it tn/\tn 0 s2.heap/\(∀b∈fp,ze X pins H' b)/\R J H'
def PI(X:Cx)(tg iter:Expr)(wi:TI):Prop:=∀(pins:.aA)(s:Shared)(σ:St)(H:Hp)(R:It->.a3),.aa->wi σ H R->wpAny .av X.A (eval iter X.bA) (fun v s1=>wpAny .av X.A (pyIter v) (PIE X pins σ tg R) X.xe s1) X.xe s
theorem Vv{M:Model}{A:Around}{E:.ax}{s:Shared}{tg:Expr}{it:Addr}{u:Value}{o:Obj}{n:String}{vs:.er}{Q:.bW}(ho:s.heap.get? it=.ah)(hc:o.cls=.type n)(hd:.ke)(hn:.zd=false)(hQ:Q () s):wpAny M A (letOwnedTupleGo tg .i5 u) Q E s:=by unfold letOwnedTupleGo;cases tg<;>first|exact wpAny_pure hQ|(cases u<;>first|exact wpAny_pure hQ|(refine wpAny_bind (wpAny_load ho ? _);rw[hc,hd];show wpAny M A (if(.zd&&vs[0]?==some (rawInt _))=true then _ else _) Q E s;rw[if_neg (by intro h;rw[hn,mq]at h;cases h)];exact wpAny_pure hQ))
def Itl(K:ae)(a:Addr):It:=⟨fun i H=>∃xs x,.bZ/\.e8,fun i H x H'=>H'=H/\.x2,fun i H=>∃xs,.bZ/\xs.length<=i⟩
def Itr(lo:Int)(n:Nat):It:=⟨fun i _=>i<n,fun i H x H'=>H'=H/\x=.int (lo+i),fun i _=>n<=i⟩
theorem YI{P:Program}{w:World}{K:ae}{tg:Expr}(a it:Addr):Mr P w K tg (Itl K a) [it] it (fun i h=>h.IsListIter it a i)where mem:=.aN;obj:=.ze;keep:=fun i h h' st k=>st.at fun o e=>k it .aC o e;item:=(by rw[18];obtain⟨xs,x,hq,hx⟩:=hg;rw[131];rw[34];refine wpAny_pyNext_list_item st p.isList (x:=u) .pE fun h' Y_ sb=>? _;rw[204];exact⟨u,rfl,Vv (s:={s with heap:=h'}) e c d .aD ⟨x,H,I1,ru,⟨rfl,.t5⟩,Y_,.qE⟩⟩);done:=(by rw[18];rw[266];exact wpAny_pyNext_list_end .b0 st p.isList (.iG) .lB);self:=fun _ _ _ _ _ st h=>wpAny_pyIter_listiter st h
theorem UG{P:Program}{w:World}{K:ae}{tg:Expr}(it:Addr)(lo:Int)(n:Nat):Mr P w K tg (Itr lo n) [it] it (fun i h=>IsRangeIter h it (lo+(i:Nat)*1) (.cN-(i:Nat)) 1)where mem:=.aN;obj:=(fun i h st b hb=>by rw[73];exact⟨_,st,fun v z=>by have z':Data.fields _=Data.cell v:=z;cases z'⟩);keep:=fun i h h' st k=>k it .aC _ st;item:=(by rw[18];rw[34];have W:=Walks.range (prog:=X.prog) (w:=X.w) .b0 it lo 1 n;refine .Ei;obtain⟨t,rfl⟩:=hv;have I1:.oB:=.CA;refine⟨_,rfl,Vv (s:={s with heap:=h',toks:=tk}) (n:="range_iterator") Y_ rfl rfl .aD ⟨.int (lo+i),H,I1,⟨t,? _⟩,.ea,Y_,.qE⟩⟩;rw[Int.mul_one]);done:=(by rw[18];rw[34];exact wpAny_pyNext_range_end .b0 st (by have:n<=i:=hg;omega) .lB);self:=fun _ _ _ _ _ st h=>wpAny_pyIter_rangeiter st h
section
variable{X:Cx}{tg:Expr}
def au7(K:ae)(tl:TE):TI:=fun σ H R=>tl σ H fun x H1=>∃a,.dA/\(∃xs,cM K H1 a xs)/\R (Itl K a) H1
theorem iL{l:Expr}{tl:TE}(hl:PE X l tl):PI X tg l (au7 X.K tl):=by rw[58];refine iu (hl pins s σ H _ I h) .jy;obtain⟨a,e,⟨xs,hq⟩,q⟩:=q1;subst e;cases r1;obtain⟨d7,rv,p,hz⟩:=I1.list hq;refine wpAny_pyIter_list p.isList ? _;refine⟨s1.heap.objs.size,[s1.heap.objs.size],_,_,H1,rfl,I1.ji (t':=s1.toks) .pF,YI a _,.fI,.cG,q⟩;have e:b=s1.heap.objs.size:=.eb;subst e;exact I1.P6 .aS (.iH)
theorem ack{pins:.aA}{σ:St}{H:Hp}{s:Shared}{R:It->.a3}{E:.ax}{lo hi:Int}{t u v:Tok}{tk:Nat}(I:.aa)(h1:-(2^62)<=lo)(h2:lo<2^62)(h3:-(2^62)<=hi)(h4:hi<2^62)(q:R (Itr lo .rY) H):wpAny .av X.A (pyIter .cR) (PIE X pins σ tg R) E {s with heap:=s.heap.push {cls:=.type "range",data:=.fields #[.int lo t,.int hi u,.int 1 v]},toks:=tk}:=by refine wpAny_pyIter_range (IsRange.new ..) (small_one h1 h2 h3 h4) ? _;have I1:Inv X pins σ H {s with heap:=s.heap.push {cls:=.type "range",data:=.fields #[.int lo t,.int hi u,.int 1 v]},toks:=tk}:=I.ji .pF;refine⟨.sN,[.sN],_,_,H,rfl,I1.ji (t':=tk) .pF,UG _ lo .rY,? _,.cG,q⟩;{have e1:lo+.nk*1=lo:=.aN;(have e2:((.rY:Nat):Int)-.nk=Builtin.Range.rangeSize lo hi 1:=by rw[rangeSize_one];rw[32]);show IsRangeIter _ _ (lo+.nk*1) (((.rY:Nat):Int)-.nk) 1;rw[e1,e2];exact .cK};{have e:b=.sN:=.eb;subst e;exact I1.P6 .aS (.iH)}
def au8(ta:TA):TI:=fun σ H R=>ta σ H fun vs H1=>∃j:Int,vs=[.int j]/\-(2^62)<=j/\j<2^62/\R (Itr 0 j.toNat) H1
theorem Yd{a:Expr}{ta:TA}{p pos:Pos}(hg:Gl X "range")(hm:X.mg "range"=none)(ha:PA X [a] ta)(hs:starEach [a] X.bA=[(false,eval a X.bA)]:=by rfl):PI X tg (.Call (.Name "range" p) [a] [] pos) (au8 ta):=by rw[58];refine Call_ (xI I hg hm boot_range .sO);obtain⟨j,e,q1,q2,q⟩:=q1;subst e;cases r1 with|cons r rr=>cases rr;rw[23];exact call_range_1 (ack I1 .C .C q1 q2 (by simpa using q))
def aEa(wi:TI)(g:TG)(tb:TS):TS:=fun D σ H=>wi σ H fun J H1=>∃W:.jz,(∃m,W 0 m σ H1)/\∀i m σ H,.k6->(J.stop i H/\.gs)\/(J.go i H/\∃N:.dM,.jA/\∀x H',J.WH i H x H'->.jB)
def Dy(fp:.ao)(h:Heap):.aA:=fp.filterMap fun b=>(h.get? b).map fun o=>(b,o)
theorem vA{fp:.ao}{h:Heap}{b:Addr}{o:Obj}(hb:b∈fp)(e:.ka):(b,o)∈Dy fp h:=Cy.mpr ⟨b,hb,by rw[e];rfl⟩
theorem XW{fp:.ao}{h:Heap}{p:Addr×Obj}(hp:p∈Dy fp h):p.1∈fp/\h.get? p.1=some p.2:=by obtain⟨b,hb,e⟩:=Cy.mp hp;cases q:h.get? b with|none=>rw[q]at e;cases e|some o=>rw[q]at e;have e':(b,o)=p:=aB e;subst e';exact⟨hb,q⟩
theorem Inv.Ue{pins:.aA}{σ:St}{H:Hp}{s:Shared}{fp:.ao}(I:.aa)(hf:∀b∈fp,.rZ)(ho:∀b∈fp,∃o,.dx/\∀v,o.data≠.cell v):Inv X (pins++Dy fp s.heap) σ H s:=I.Wc fun p hp=>(aW.mp hp).elim (fun z=>I.AY p (bC _ z)) fun z=>by obtain⟨hb,e⟩:=XW z;obtain⟨f0,f1,f2,_⟩:=hf p.1 hb;obtain⟨o,e',d⟩:=ho p.1 hb;rw[e]at e';cases e';exact⟨e,f0,f1,f2,d⟩
theorem Inv.yn{pins pl:.aA}{σ:St}{H:Hp}{s:Shared}(I:Inv X (pins++pl) σ H s):.aa:=I.Wc fun p hp=>I.AY p (bC _ (bR _ hp))
theorem j5{iter:Expr}{body:.hK}{wi:TI}{g:TG}{tb:TS}{pos:Pos}(hp:PassesOwn .av X.A X.bA X.xe)(hc:.cJ)(hi:.kf)(hg:PG X tg g)(hb:Mm X body tb)(hs:.jC:=by intro _;rfl):PS X (.For tg iter body [] pos) (aEa wi g tb):=by rw[14];refine wpAny_For (iu .kg fun v s1 h1=>iu h1 fun itv s2 h2=>? _) hs;obtain⟨it,fp,tn,J,H2,e,I2,T,st2,f2,W,⟨m0,w0⟩,turn⟩:=h2;subst e;have Ja:∀{H':Hp},.fJ->∀b∈fp,ze X pins H' b:=fun hn b hb=>⟨hn b hb,(f2 b hb).2⟩;refine codeAny_forLoop_any (fun n s'=>∃i σ' H',.hg/\.nR/\.fJ/\W i n σ' H') ? _ m0 ⟨0,σ,H2,I2,st2,fun b hb=>(f2 b hb).1,w0⟩;rintro n s3⟨i,σ3,H3,I3,st3,fr3,w3⟩;rcases turn i n σ3 H3 w3 with⟨stop,qn⟩|⟨go,N,hN,step⟩;{refine wpAny_passesOwn hp (iu (T.done X rfl rfl rfl hc i pins s3 σ3 H3 X.xe I3 (Ja fr3) st3 stop) fun r s4⟨hr,I4⟩=>? _);subst hr;exact wpAny_execs_nil ⟨σ3,H3,I4,qn⟩};{refine wpAny_passesOwn hp (iu (T.item X rfl rfl rfl hc i pins s3 σ3 H3 X.xe I3 (Ja fr3) st3 go) fun r s4⟨u,hr,h4⟩=>? _);subst hr;refine wpAny_passesOwn hp (iu h4 fun _ s5⟨x,H5,I5,r5,y5,YA,fr5⟩=>? _);have I5':=I5.Ue (Ja fr5) (T.obj _ _ YA);refine wpAny_passesOwn hp (iu (hg _ s5 σ3 H5 x u _ I5' r5 (step x H5 y5)) fun _ s6⟨σ6,H6,I6,q6⟩=>? _);refine wpAny_passesOwn hp (iu (hb _ s6 σ6 H6 _ I6 q6) fun f s7 q7=>? _);(have again:∀{σ7:St}{H7:Hp},Inv X (pins++Dy fp s5.heap) σ7 H7 s7->N σ7 H7->∃m,m<n/\∃i σ' H',Inv X pins σ' H' s7/\tn i s7.heap/\.fJ/\W i m σ' H':=fun{σ7 H7}I7 n7=>by obtain⟨m',hm,w7⟩:=hN σ7 H7 n7;refine⟨m',hm,i+1,σ7,H7,I7.yn,T.keep _ _ _ YA fun b hb o e=>(I7.AY (b,o) .vx).1,.cG,w7⟩;obtain⟨o,e,d⟩:=T.obj _ _ YA b hb;exact(I7.AY (b,o) .vx).2.1);cases f with|next=>rw[339]|cont=>rw[339]|brk=>obtain⟨σ7,H7,I7,q7⟩:=q7;exact⟨σ7,H7,I7.yn,q7⟩|ret v=>obtain⟨x7,σ7,H7,I7,r7,q7⟩:=q7;exact⟨x7,σ7,H7,I7.yn,r7,q7⟩}
end
theorem mS{K:ae}{a:Addr}{xs:.aj}{g:TG}{tb:TS}{D:CN}{σ:St}{H:Hp}(Pv:.hX)(h0:Pv 0 σ H)(hl:.t6)(hs:∀i x σ H,.e8->.fv->g x σ H .lC)(hd:.oC):∃W:.jz,.mv/\∀i m σ H,.k6->((Itl K a).stop i H/\.gs)\/((Itl K a).go i H/\∃N:.dM,.jA/\∀x H',(Itl K a).WH i H x H'->.jB):=by rw[182];{refine .inr ⟨.x8,.e2,.oD,.fj⟩;rw[108];exact hs i x σ _ (y xs q) p};{have e:i=xs.length:=.o;subst e;exact .Ej}
abbrev R2:=.kd
def A2(X:Cx)(f:.mw)(r:R2):Prop:=∀(pins:.aA)(s:Shared)(σ:St)(H:Hp)(x y:V)(v u:Value)(Q:VK),.aa->e_ x v->.cx->r x y H Q->wpAny .av X.A (f v u) .dz X.xe s
def mr(X:Cx)(f:Value)(r:.ee):Prop:=∀(pins:.aA)(s:Shared)(σ:St)(H:Hp)(xs:.aj)(us:.ar)(Q:VK),.aa->.d2->r xs H Q->wpAny .av X.A (call f us) .dz X.xe s
def Y'(r:R2)(ta tb:TE):TE:=fun σ H Q=>ta σ H fun x H1=>tb σ H1 fun y H2=>r x y H2 Q
def rI(C:Int->Int->Prop)(g:Int->Int->V):R2:=fun x y H Q=>∃i j,x=.bp/\y=.int j/\C i j/\Q .gH H
def Ul(g:Int->Int->V):R2:=fun x y H Q=>∃i j,x=.bp/\y=.int j/\Q .gH H
section
variable{X:Cx}{a b c:Expr}{ta tb tc:TE}{pos:Pos}
theorem alk(ha:.eT)(hb:.hL){pins:.aA}{s:Shared}{σ:St}{H:Hp}{R:V->V->.a3}(I:.aa)(h:ta σ H fun x H1=>tb σ H1 fun y H2=>R x y H2){Q:.ax}{f:.mw}(hf:∀v u s2 x y H2,Inv X pins σ H2 s2->e_ x v->.cx->R x y H2->wpAny .av X.A (f v u) Q X.xe s2):wpAny .av X.A (eval a X.bA) (fun v s₁=>wpAny .av X.A (eval b X.bA) (fun u s₂=>wpAny .av X.A (f v u) Q X.xe s₂) X.xe s₁) X.xe s:=by refine .oA;refine iu .vy fun u s2⟨y,H2,I2,r2,q2⟩=>? _;exact hf v u s2 x y H2 I2 r1 r2 q2
theorem de{op:Operator}{r:R2}(ho:A2 X (binaryOp op) r)(ha:.eT)(hb:.hL):PE X (.BinOp a op b pos) .r1:=by rw[3];exact wpAny_BinOp .Aw
theorem opI{f:.mw}{C:Int->Int->Prop}{g:Int->Int->Int}(rule:∀(i j:Int)(t u:Tok)(s:Shared)(Q:.ax)(E:.ax),C i j->.zi):A2 X f (rI C fun i j=>.int .gH):=by rw[27];obtain⟨i,j,rfl,rfl,hc,q⟩:=h;rw[7];rw[8];exact rule i j t t' s _ _ hc .Ft
theorem av1{f:.mw}{g:Int->Int->Int}(rule:∀(i j:Int)(t u:Tok)(s:Shared)(Q:.ax)(E:.ax),.zi):A2 X f (Ul fun i j=>.int .gH):=by rw[314];exact rule i j t t' s _ _ .Ft
theorem anx{f:.mw}{g:Int->Int->Bool}(rule:∀(i j:Int)(t u:Tok)(s:Shared)(Q:.ax)(E:.ax),Q (.bool .gH) s->.zh):A2 X f (Ul fun i j=>.bl .gH):=by rw[314];exact rule i j t t' s _ _ ⟨.bl .gH,H,I,rfl,q⟩
theorem sj:A2 X .rt (Ul fun i j=>.int (i+j)):=av1 fun _ _ _ _ _ _ _ q=>add_int q
theorem Dv:A2 X (binaryOp .Sub) (Ul fun i j=>.int (i-j)):=av1 fun _ _ _ _ _ _ _ q=>sub_int q
theorem abz:A2 X (binaryOp .Mod) (rI (fun _ j=>0<j) fun i j=>.int (i %j)):=opI fun i j _ _ _ _ _ hc q=>by have h1:(0:Int)<j:=hc;exact mod_int' .C (by rw[Int.fmod_eq_emod_of_nonneg i .C];exact q)
end
def Ko:V->V->Bool|.jD,.jD=>true|.jD,.int _=>true|.int _,.jD=>true|.jD,.bl _=>true|.bl _,.jD=>true|.jD,.str _=>true|.str _,.jD=>true|.int _,.int _=>true|.bl _,.bl _=>true|.str _,.str _=>true|.rC _,.rC _=>true|.int _,.str _=>true|.str _,.int _=>true|.bl _,.str _=>true|.str _,.bl _=>true|_,_=>false
def rEq:R2:=fun x y H Q=>Ko x y=true/\Q (.bl (decide (x=y))) H
def rNe:R2:=fun x y H Q=>Ko x y=true/\Q (.bl (! decide (x=y))) H
theorem Vd{i j:Int}:decide (V.int i=V.int j)=(i==j):=.wV
theorem Z2{i j:Bool}:decide (V.bl i=V.bl j)=(i==j):=.wV
theorem Vf{i j:Str}:decide (V.str i=V.str j)=(i==j):=.wV
theorem Vc{i j:Array UInt8}:decide (V.rC i=V.rC j)=(i.toList==j.toList):=by rw[fG];cases i;cases j;simp
section
variable{X:Cx}{a b c:Expr}{ta tb tc:TE}{pos:Pos}
theorem gA{pins:.aA}{σ:St}{H:Hp}{s:Shared}{Q:VK}{k k':Bool}(I:.aa)(q:Q (.bl k) H)(e:k=k'):EP X pins σ Q (.bool k') s:=by subst e;exact⟨.bl k,H,I,rfl,q⟩
theorem gH:A2 X (compareOp .Eq) rEq:=by rw[27];obtain⟨hs,q⟩:=h;cases x with|jD=>(cases rx;cases y with|jD=>cases ry;exact awy .bI|bl j=>cases ry;exact aww .bI|int j=>rw[8];exact awx .bI|str j=>rw[8];exact awz .bI|_=>exact .ef)|bl i=>(cases rx;cases y with|jD=>cases ry;exact awu .bI|bl j=>cases ry;exact eq_bool (gA I q Z2)|str j=>rw[8];exact aqw .bI|_=>exact .ef)|int i=>(rw[7];cases y with|jD=>cases ry;exact awv .bI|int j=>rw[8];exact eq_int (gA I q Vd)|str j=>rw[8];exact aqx .bI|_=>exact .ef)|str i=>(rw[7];cases y with|jD=>cases ry;exact ax0 .bI|bl j=>cases ry;exact aqy .bI|int j=>rw[8];exact aqz .bI|str j=>rw[8];exact eq_str (gA I q Vf)|_=>exact .ef)|rC i=>(rw[7];cases y with|rC j=>rw[8];exact PySem.W.eq_bytes (gA I q Vc)|_=>exact .ef)|_=>cases y<;>exact .ef
theorem QM:A2 X (compareOp .NotEq) rNe:=by rw[27];obtain⟨hs,q⟩:=h;cases x with|jD=>(cases rx;cases y with|jD=>cases ry;exact ax7 .bI|bl j=>cases ry;exact ax3 .bI|int j=>rw[8];exact ax5 .bI|str j=>rw[8];exact ax8 .bI|_=>exact .ef)|bl i=>(cases rx;cases y with|jD=>cases ry;exact ax1 .bI|bl j=>cases ry;exact ne_bool (gA I q (congrArg not Z2))|str j=>rw[8];exact ar0 .bI|_=>exact .ef)|int i=>(rw[7];cases y with|jD=>cases ry;exact ax2 .bI|int j=>rw[8];exact ne_int (gA I q (congrArg not Vd))|str j=>rw[8];exact ar1 .bI|_=>exact .ef)|str i=>(rw[7];cases y with|jD=>cases ry;exact ax9 .bI|bl j=>cases ry;exact ar2 .bI|int j=>rw[8];exact ar3 .bI|str j=>rw[8];exact ne_str (gA I q (congrArg not Vf))|_=>exact .ef)|rC i=>(rw[7];cases y with|rC j=>rw[8];exact PySem.W.ne_bytes (gA I q (congrArg not Vc))|_=>exact .ef)|_=>cases y<;>exact .ef
theorem wj:A2 X (compareOp .Lt) (Ul fun i j=>.bl (decide (i<j))):=anx fun _ _ _ _ _ _ _ q=>lt_int q
theorem LM:A2 X (compareOp .LtE) (Ul fun i j=>.bl (decide (i<=j))):=anx fun _ _ _ _ _ _ _ q=>le_int q
theorem xW:A2 X (compareOp .Gt) (Ul fun i j=>.bl (decide (j<i))):=anx fun _ _ _ _ _ _ _ q=>gt_int q
theorem cw(b:Expr){op:CmpOp}(h:op≠.In:=by decide)(h2:op≠.NotIn:=by decide):.mu:=.za
theorem m7{op:CmpOp}{r:R2}(ho:.pG)(ha:.eT)(hb:.hL)(hm:.mu):PE X .vu .r1:=by rw[3];exact wpAny_Compare1 .Aw hm
def zZ(t:TE):TT:=fun σ H Q=>t σ H fun x H'=>∃k,x=.bl k/\Q k H'
theorem cb{op:CmpOp}{r:R2}(ho:.pG)(ha:.eT)(hb:.hL)(hm:.mu):PT X .vu (zZ .r1):=by rw[3];refine wpAny_isTrue_Compare1 (iu .hW fun v s1⟨x,H1,I1,r1,q1⟩=>iu .vy fun u s2⟨y,H2,I2,r2,q2⟩=>iu .CB fun c s3⟨z,H3,I3,r3,k,e,q3⟩=>? _) hm;subst e;cases r3;exact wpAny_truthy_bool ⟨H3,I3,q3⟩
def tW(r r':R2)(ta tb tc:TE):TE:=fun σ H Q=>ta σ H fun x H1=>tb σ H1 fun y H2=>r x y H2 fun z H3=>∃k,z=.bl k/\(if k=true then tc σ H3 fun w' H4=>r' y w' H4 Q else Q (.bl false) H3)
theorem ac5{op op':CmpOp}{r r':R2}(ho:.pG)(Qj:A2 X (compareOp op') r')(ha:.eT)(hb:.hL)(hc:PE X c tc)(hm:.Fu:=by with_unfolding_all rfl):PE X .Fv (tW r r' ta tb tc):=by rw[3];refine Compare_chain (iu .hW fun v s1⟨x,H1,I1,r1,q1⟩=>chain_link .zj) hm;subst e;cases r3;refine .qD;cases k with|false=>exact ite_ff ⟨.bl false,H3,I3,rfl,q3⟩|true=>exact ite_tt (chain_last (iu (hc pins s3 σ H3 _ I3 q3) fun w' s4⟨z',H4,I4,r4,q4⟩=>Qj pins s4 σ H4 y z' u w' Q I4 r2 r4 q4))
theorem Ik{op op':CmpOp}{r r':R2}(ho:.pG)(Qj:A2 X (compareOp op') r')(ha:.eT)(hb:.hL)(hc:PE X c tc)(hm:.Fu:=by with_unfolding_all rfl):PT X .Fv (zZ (tW r r' ta tb tc)):=by rw[3];refine isTrue_chain (iu .hW fun v s1⟨x,H1,I1,r1,q1⟩=>test_link .zj) hm;subst e;cases r3;refine .qD;cases k with|false=>obtain⟨k',e',q'⟩:=q3;cases e';exact ite_ff ⟨H3,I3,q'⟩|true=>refine ite_tt (test_last (iu (hc pins s3 σ H3 _ I3 q3) fun w' s4⟨z',H4,I4,r4,q4⟩=>iu (Qj pins s4 σ H4 y z' u w' _ I4 r2 r4 q4) fun d' s5⟨z2,H5,I5,r5,k2,e2,q5⟩=>? _));subst e2;cases r5;exact wpAny_truthy_bool ⟨H5,I5,q5⟩
theorem HD:(sizeLine:Nat)<2^63:=.bg
theorem kR:A2 X .rt (fun x y H Q=>∃i j,x=.str i/\y=.str j/\i.length+j.length<=sizeLine/\Q (.str (i++j)) H):=by rw[27];obtain⟨i,j,rfl,rfl,hz,q⟩:=h;rw[7];rw[8];exact add_str (fun t' tk=>⟨.str (i++j),H,.bz,.aU,q⟩) hz
theorem Mf{x:V}{us:.ar}(r:dP [x] us):∃u,us=[u]/\e_ x u:=by cases r with|cons r1 r2=>cases r2;exact⟨_,rfl,r1⟩
theorem aw2{x y:V}{us:.ar}(r:dP [x,y] us):∃u w',us=[u,w']/\e_ x u/\e_ y w':=by cases r with|cons r1 r2=>cases r2 with|cons r3 r4=>cases r4;exact⟨_,_,rfl,r1,r3⟩
theorem ZH:mr X (.builtin "abs") (fun xs H Q=>∃i,xs=[.bp]/\Q (.int (if i<0 then-i else i)) H):=by rw[91];obtain⟨i,rfl,q⟩:=h;rw[163];exact call_abs_int fun u tk=>⟨.int (if i<0 then-i else i),H,.bz,.aU,q⟩
theorem ZI:mr X (.builtin "ord") (fun xs H Q=>∃x,xs=[.str x]/\x.length=1/\Q (.int (x.cps.getD 0 0:Nat)) H):=by rw[91];obtain⟨x,rfl,hz,q⟩:=h;rw[163];exact ord_of_one hz .t4
end
structure Sy(h:Heap)(x dx C:Addr)(mA:Str->Option Value):Prop where
obj:h.get? x=some (jU C dx)
ns:h.Ns1 dx mA
ne:dx≠x
theorem De{h:Heap}{dx:Addr}{mA:.aV}(n:h.Ns1 dx mA):∃od,h.get? dx=some od/\.Fw:=by obtain⟨o,es,ep,ho,hd,hk,_,hm⟩:=n;refine⟨o,ho,fun name=>? _⟩;have e:=hm name;unfold nsFind findBy at e;rw[<-WK]at e;unfold xj;rw[hd];rw[9];split;{rename_i y q;rw[q]at e;exact congrArg some e};{rename_i q;rw[q]at e;(have a:es.toList.any (·.refKey)=false:=by rw[List.any_eq_false];intro y hy;obtain⟨z,t,To⟩:=hk y (zd.mp hy);simp[DictEntry.refKey,To]);(have a':¬es.toList.any (·.refKey)=true:=by rw[a];exact a7);rw[if_neg a'];exact congrArg some e}
theorem Sy.XJ{h:Heap}{x dx C:Addr}{mA:.aV}(I:Sy h x dx C mA):∃od,PySem.W.InstAt h x (jU C dx) C (some od)/\.Fw:=let⟨od,ho,hl⟩:=De I.ns;⟨od,⟨I.obj,rfl,rfl,ho⟩,hl⟩
section
variable{prog:Program}{w:World}{A:Around}{E:Value->Shared->Prop}{s:Shared}{K:ae}{x dx C f:Addr}{mA:Str->Option Value}{name:Str}{v:Value}
theorem ag2{expr:Bool}{Q:.ax}(X:.dV)(I:.wW)(hg:t8 K C name=true)(hh:n_ K C=true)(ha:.lD)(hv:mA name=.a4)(hv':CQ v=true)(h:Q v {s with toks:=s.toks+1}):wpAny .bh A (getAttr .aR name expr) Q E s:=by obtain⟨od,J,hl⟩:=I.XJ;exact PySem.W.get_value X J (zf hg).1 (Sf hh ha rfl (by rw[hl,hv])) hv' h
theorem aa9{pl:Sem Bool}{Q:Value×.ar->.bK}(X:.dV)(I:.wW)(hg:t8 K C name=true)(hf:aR K .be name=.mx)(ht:vi K .cW=true)(hv:mA name=none)(h:Q (.ref f,[.dE]) s):wpAny .bh A (getMethod .aR name pl) Q E s:=by obtain⟨od,J,hl⟩:=I.XJ;exact PySem.W.method_fn X J (zf hg).1 (zf hg).2 hf (beq_iff_eq.mp ht) (by show(xj name od).map (·.isSome)=some false;rw[hl,hv];rfl) h
theorem aie{ns:.a0}{Q:.bW}(X:.dV)(I:.wW)(hs:aR K .be "__setattr__"=some (some (.builtin "object.__setattr__")))(hp:UZ K C=true)(ht:Fh K C name=some none)(hh:n_ K C=true)(hw:O2 mA ns)(hsz:ns.length<=sizeLine)(h:∀h',Sy h' x dx C .Fx->Heap.SameBut dx s.heap h'->Q () {s with heap:=h',toks:=s.toks+2}):wpAny .bh A (setAttr .aR name v) Q E s:=by obtain⟨od,J,hl⟩:=I.XJ;refine U0 X J hs (PySem.W.osa_open (s:={s with toks:=s.toks+1}) (r:=none) X J hp ht fun b=>? _);obtain⟨cd,hc,hd'⟩:=PySem.W.any_some hh;have hx:.fh=some ⟨.ref C,.d3,.plain,#[]⟩:=I.obj;refine wpAny_bind (wpAny_pure (wpAny_bind (wpAny_bind (wpAny_loadPart hx (wpAny_bind (ar7 (s:={s with toks:=s.toks+1}) (PySem.W.looks_clsIn X hc) ? _))))));rw[hd'];refine wpAny_pure (a:=.d3) (wpAny_bind (wpAny_pure (.r2)));refine wpAny_nsSet1 (s:={s with toks:=s.toks+1}) I.ns fun h' MZ hs2=>? _;obtain⟨oD,esD,epD,hoD,hdD,hcD⟩:=MZ.count (axa name v hw);refine wpAny_bind (wpAny_lookBehind hoD (by rw[hdD];exact pastItsLine_dict (br hcD (.wL))) ? _);exact wpAny_pure (h _ ⟨(hs2.2 _ (cW I.ne)).trans I.obj,MZ,I.ne⟩ hs2)
theorem ab3{R:Result->.bK}{vs:.ar}{kw:.iJ}(X:.dV)(hm:Fg K C=true)(hi:aR K .be "__init__"=.mx)(hf:PySem.W.typeIn K .cW=some (.type "function"))(h:codeAny .bh (A.under (.builtin "type.__call__" ⟨.ref C::vs,kw⟩)) (.call .cW ⟨.ref .dg::vs,kw⟩) (PySem.W.InitBack .dg R) {s with heap:=(s.heap.push gR).push (jU C s.heap.objs.size)}):codeAny .bh A (.call .be ⟨vs,kw⟩) R s:=by obtain⟨hh,g,d,t,os⟩:=s;exact PySem.W.make_core (PySem.W.makes_of X hm) (PySem.W.looks_findIn X hi) (fun self=>PySem.W.bind_fn X self hf) .bB h
end
def kY(f:Str)(v:V):.a7->.a7|[]=>[(f,v)]|(g,x)::r=>if g=f then(g,v)::r else(g,x)::kY f v r
theorem EN(f g:Str)(v:V):∀fs:.a7,(kY f v fs).lookup g=if g=f then .a4 else fs.lookup g|[]=>by show j7 g [(f,v)]=_;by_cases h:g=f;{have hb:(g==f)=true:=beq_iff_eq.mpr h;simp only[j7,hb,.cn]};{have hb:(g==f)=false:=.pH;simp only[j7,hb,.cp]}|(k,x)::r=>by have ih:=EN f g v r;rw[132];{rw[.bP];by_cases h:g=k;{have hb:(g==k)=true:=beq_iff_eq.mpr h;simp only[j7,hb,if_pos (h.trans hk)]};{have hb:(g==k)=false:=.pH;simp only[j7,hb,if_neg (fun e:g=f=>h (e.trans hk.symm))]}};{rw[.bV];by_cases h:g=k;{have hb:(g==k)=true:=beq_iff_eq.mpr h;simp only[j7,hb,if_neg (fun e:g=f=>hk (h.symm.trans e))]};{have hb:(g==k)=false:=.pH;simp only[j7,hb];exact ih}}
theorem Dd(f:Str)(v:V):∀fs:.a7,f∈(kY f v fs).map .aX/\∀g,g∈fs.map .aX->g∈(kY f v fs).map .aX|[]=>⟨by simp[kY],fun g h=>.ix⟩|(k,x)::r=>by obtain⟨i1,i2⟩:=Dd f v r;rw[132];{rw[.bP];subst hk;exact⟨.aN,fun g h=>.e6⟩};{rw[.bV];refine⟨? _,fun g h=>? _⟩;{rw[aO];exact ak _ i1};{rw[aO]at h|-;rcases aJ.mp h with e|e;{exact aJ.mpr (.inl e)};{exact ak _ (i2 g e)}}}
theorem EL(f:Str)(v:V):∀fs:.a7,(kY f v fs).length<=fs.length+1|[]=>by simp[kY]|(k,x)::r=>by have ih:=EL f v r;rw[132];{rw[.bP,aw,aw];omega};{rw[.bV,aw,aw];omega}
theorem t9.Gd{v:V}{o:.dR}(r:t9 (.a4) o):∃u,o=.aP/\e_ v u:=by cases o with|none=>exact(show False from r).elim|some u=>exact⟨u,rfl,r⟩
theorem t9.ah2{o:.dR}(r:t9 none o):o=none:=by cases o with|none=>rfl|some u=>exact(show False from r).elim
theorem Lq{v:V}{u:Value}(r:e_ v u):CQ u=true:=by cases v with|jD=>cases(show u=Value.none from r);rfl|bl b=>cases(show u=Value.bool b from r);rfl|int i=>obtain⟨t,e⟩:=(show .qA from r);cases e;rfl|str x=>obtain⟨t,e⟩:=(show∃t,u=Value.str x t from r);cases e;rfl|rC b=>obtain⟨t,e⟩:=(show∃t,u=Value.bytes b t from r);cases e;rfl|flt b=>obtain⟨t,e⟩:=(show∃t,u=Value.float b t from r);cases e;rfl|ref a=>cases(show u=Value.ref a from r);rfl|ty n=>cases(show u=Value.type n from r);rfl
section
variable{P:Program}{w:World}{H H':Hp}{h h':Heap}{a C dx:Addr}{fs Xn:List (Str×V)}
theorem M'(fb:.cj)(e:H a=.cS):∃mA,Sy h a dx C mA/\(.vs)/\O2 mA (fs.map .aX)/\fs.length<=1000/\H dx=.ni:=by obtain⟨d,z,ne,ob,mA,n,r,q⟩:=(show i5 P w H h a (.cH C dx fs)from fb a _ e);exact⟨mA,⟨ob,n,ne⟩,r,q,z,d⟩
end
structure Kx(K:ae)(C:Addr):Prop where
pg:t8 K C Str.empty=true
hd:n_ K C=true
po:UZ K C=true
sa:aR K (.ref C) "__setattr__"=some (some (.builtin "object.__setattr__"))
theorem Kx.get{K:ae}{C:Addr}(c:Kx K C)(f:Str):t8 K C f=true:=c.pg
def eE(K:ae)(C:Addr)(f:Str):Prop:=aR K .be f=some none
theorem eE.avw{K:ae}{C:Addr}{f:Str}(n:eE K C f):Fh K C f=some none:=by unfold Fh;rw[show aR K .be f=some none from n];rfl
structure Con(K:ae)(C:Addr)(f:Str)(v:V)(u:Value):Prop where
at_:aR K (.ref C) f=some (some u)
zV:e_ v u
get:PySem.W.specialIn K u "__get__"=some none
cp:PySem.W.copiedNames.contains f=false
structure Zg(K:ae)(C:Addr)(m:Str)(f:Addr):Prop where
at_:aR K (.ref C) m=some (some (.ref f))
fn:vi K (.ref f)=true
kp:gk K (.ref f)=true
section
variable{X:Cx}{pins:List (Addr×Obj)}{σ:St}{H:Hp}{s:Shared}{a C dx:Addr}{fs:List (Str×V)}{f:Str}{v:V}{A:Around}{E:Value->Shared->Prop}
theorem Ho{b:Bool}{Q:.ax}(I:.aa)(e:H a=.cS)(c:Kx X.K C)(n:eE X.K C f)(l:.qF)(h:∀u s',.kh->e_ v u->Q u s'):wpAny .av A (getAttr .bY f b) Q E s:=by obtain⟨mA,O,r,_,_,_⟩:=M' I.fb e;obtain⟨u,hu,ru⟩:=.CC;exact ag2 I.C9 O (c.get f) c.hd n hu (Lq ru) (h u _ (.bz) ru)
theorem Hq{m:Str}{g:Addr}{pl:Sem Bool}{Q:Value×.ar->.bK}(I:.aa)(e:H a=.cS)(c:Kx X.K C)(k:Zg X.K C m g)(l:fs.lookup m=none)(h:Q (.ref g,.fi) s):wpAny .av A (getMethod .bY m pl) Q E s:=by obtain⟨mA,O,r,_,_,_⟩:=M' I.fb e;have hn:mA m=none:=t9.ah2 (by rw[<-l];exact r m);exact aa9 I.C9 O (c.get m) k.at_ k.fn hn h
theorem IB{y:V}{u:Value}{Q:.bW}(I:.aa)(e:H a=.cS)(c:Kx X.K C)(n:eE X.K C f)(hl:fs.length<1000)(ry:.cx)(h:∀s',Inv X pins σ (aN H a (.cH C dx (kY f y fs))) s'->Q () s'):wpAny .av A (setAttr .bY f u) Q E s:=by obtain⟨mA,O,r,wi,_,ho⟩:=M' I.fb e;have hz:(fs.map .aX).length<=sizeLine:=.e9;refine aie I.C9 O c.sa c.po n.avw c.hd wi hz fun h' O' sb=>h _ ? _;have hd:∃o,h'.get? dx=.ah:=let⟨o,_,_,e',_⟩:=O'.ns;⟨o,e'⟩;refine I.Ct (x:=a) (e:=dx) .pI (.inr ho) (fun b q hb z=>(sb.2 b hb).trans z) hd ? _;refine⟨by rw[ai O.ne];exact ho,? _,O.ne,O'.obj,_,O'.ns,fun g=>? _,fun g hg=>? _⟩;{have:=EL f y fs;omega};{show t9 ((kY f y fs).lookup g) (if g=f then .aP else mA g);rw[EN];by_cases q:g=f;{rw[if_pos q,if_pos q];exact ry};{rw[if_neg q,if_neg q];exact r g}};{by_cases q:g=f;{rw[q];exact(Dd f y fs).1};{refine(Dd f y fs).2 g (wi g fun z=>hg ? _);show(if g=f then .aP else mA g)=none;rw[if_neg q];exact z}}
theorem Inv.made(I:.aa):Inv X pins σ (aN (aN H s.heap.objs.size (.own .dg)) .dg (.cH C s.heap.objs.size [])) {s with heap:=(s.heap.push gR).push (jU C s.heap.objs.size)}:=by have e1:(.nq).get? s.heap.objs.size=some gR:=Heap.get?_push_size s.heap rfl;(have e2:((.nq).push (.wX)).get? .dg=some (.wX):=by have:=Heap.get?_push_size (.nq) (o:=.wX) rfl;rwa[Heap.size_push]at this);have e3:(.nq).Ns s.heap.objs.size (.gu):=⟨gR,#[],_,e1,rfl,(fun e he=>absurd he .aC),.bQ⟩;have I1:=I.laid (a:=s.heap.objs.size) (o:=.own .dg) (h':=.nq) (t':=s.toks) (fun b u q=>.fK) .aS ⟨_,e1⟩;refine I1.laid (a:=.hY) (o:=.cH C s.heap.objs.size []) (t':=s.toks) (fun b u q=>.fK) (lj (Heap.size_push _ _)) ? _;have ne:s.heap.objs.size≠.hY:=bS (mK _);refine⟨by rw[ai ne,ah],bw _,ne,e2,.gu,(Heap.Ns1.of_empty e3).at fun o q=>.fK,fun _=>jR,fun y hy=>absurd rfl hy⟩
theorem U5{prog:Program}{w:World}{bA:Env}{e:Expr}{f:Str}{pos:Pos}{s:Shared}{Q:.ax}(hb:attributeBase e f bA (eval e bA)=eval e bA)(h:wpAny .bh A (eval e bA) (fun o s₁=>wpAny .bh A (getAttr o f true) Q E s₁) E s):wpAny .bh A (eval .wY bA) Q E s:=Attribute_any_ h (by rw[arm_eval_Attribute,hb])
end
def yl(K:ae)(ta:TE)(f:Str):TE:=fun σ H Q=>ta σ H fun x H1=>∃a C dx fs v,.dA/\H1 a=.cS/\Kx K C/\eE K C f/\.qF/\Q v H1
def NS(K:ae)(ta tv:TE)(f:Str):TS:=fun D σ H=>tv σ H fun y H1=>ta σ H1 fun x H2=>∃a C dx fs,.dA/\H2 a=.cS/\Kx K C/\eE K C f/\fs.length<1000/\D.nx σ (aN H2 a (.cH C dx (kY f y fs)))
def aqn(X:Cx)(op:Operator)(rd:.kd):Prop:=∀(pins:.aA)(s:Shared)(σ:St)(H:Hp)(x y:V)(u v:Value)(Q:VK),.aa->e_ x u->e_ y v->rd x y H Q->wpAny .av X.A (inplaceOp op u v) .dz X.xe s
def rf(K:ae)(ta tv:TE)(rd:.kd)(f:Str):TS:=fun D σ H=>ta σ H fun x H1=>∃a C dx fs v,.dA/\H1 a=.cS/\Kx K C/\eE K C f/\.qF/\tv σ H1 fun y H2=>rd v y H2 fun z H3=>∃GY Xn,H3 a=some (.cH C GY Xn)/\Xn.length<1000/\D.nx σ (aN H3 a (.cH C GY (kY f z Xn)))
section
variable{X:Cx}{o e value:Expr}{f:Str}{pos pos' AN:Pos}{ta tv:TE}
theorem aP(he:PE X e ta)(hb:.Fy):PE X .wY (yl X.K ta f):=by rw[3];refine U5 hb (iu .cD fun u s1⟨x,H1,I1,rx,a,C,dx,fs,v,ex,ea,c,n,l,q⟩=>? _);rw[39];exact Ho I1 ea c n l fun u' s2 I2 ru=>⟨v,H1,I2,ru,q⟩
theorem dW(ha:PE X o ta)(hv:PE X value tv)(hs:swapsWith value (some (.Attribute o f pos')) pos.line X.bA=pure false):PS X (.Assign [.Attribute o f pos'] value pos) (NS X.K ta tv f):=by rw[14];refine plainObj_wpAny_Assign_Attribute (iu (hv pins s σ H _ I h) fun u s1⟨y,H1,I1,ry,q⟩=>iu (ha pins s1 σ H1 _ I1 q) fun ov s2⟨x,H2,I2,rx,a,C,dx,fs,ex,ea,c,n,l,q2⟩=>? _) hs;subst ex;obtain rfl:ov=.f5:=rx;exact IB I2 ea c n l ry fun s3 I3=>⟨σ,_,I3,q2⟩
theorem yT{op:Operator}{rd:.kd}(ha:PE X o ta)(hv:PE X value tv)(hop:aqn X op rd):PS X (.AugAssign (.Attribute o f AN) op value pos) (rf X.K ta tv rd f):=by rw[14];refine wpAny_AugAssign_AttributeAny (iu .hW fun ov s1⟨x,H1,I1,rx,a,C,dx,fs,v,ex,ea,c,n,l,q⟩=>? _);subst ex;obtain rfl:ov=.f5:=rx;refine Ho I1 ea c n l fun u s2 I2 ru=>iu (hv pins s2 σ H1 _ I2 q) fun w3 s3⟨y,H2,I3,ry,q3⟩=>iu (hop pins s3 σ H2 v y u w3 _ I3 ru ry q3) fun w4 s4⟨z,H3,I4,rz,GY,Xn,ea',l',q4⟩=>? _;exact IB I4 ea' c n l' rz fun s5 I5=>⟨σ,_,I5,q4⟩
def NM:.kd:=fun x y H Q=>∃i j,x=.bp/\y=.int j/\Q (.int (i+j)) H
theorem M_:aqn X .Add NM:=by rintro pins s σ H x y u v Q I rx ry⟨i,j,rfl,rfl,q⟩;obtain⟨t,rfl⟩:=(show .qA from rx);obtain⟨t',rfl⟩:=(show∃t',v=Value.int j t' from ry);exact awo ⟨.int (i+j),H,.bz,.aU,q⟩
end
structure kJ(k:Nat)(A:Around):Prop where
hd:A.handled=none
dp:A.depth+3*k+5<recursionLimit
un:A.units+16*k+200<cLine
theorem kJ.aI{j k:Nat}{A:Around}(r:kJ k A)(h:j<=k):kJ j A:=⟨r.hd,by have:=r.dp;omega,by have:=r.un;omega⟩
theorem kJ.deeper{k:Nat}{A:Around}(r:kJ .bb A)(bA:Env):kJ k (A.deeper bA):=⟨r.hd,by have:=r.dp;show A.depth+1+3*k+5<_;omega,by have:=r.un;show A.units+3+16*k+200<_;omega⟩
theorem HG{A:Around}{C:Addr}{us:.ar}{kw:.iJ}:(.oE).depth=A.depth+1:=by first|rfl|simp[Around.under,Code.weight,Code.isCreation,Code.isGuard,Code.isCaller,Code.frames,Code.isFrame,guardIds]
theorem Tx{A:Around}{C:Addr}{us:.ar}{kw:.iJ}:(.oE).units=A.units+1:=by first|rfl|simp[Around.under,Code.cUnits,Code.frames,Code.isFrame]
theorem kJ.Qv{k:Nat}{A:Around}(r:kJ .bb A)(C:Addr)(us:.ar)(kw:.iJ):kJ k (.oE):=⟨r.hd,by have:=r.dp;rw[HG];omega,by have:=r.un;rw[Tx];omega⟩
theorem kJ.depth{k:Nat}{A:Around}(r:kJ k A):A.depth<recursionLimit:=by have:=r.dp;omega
theorem kJ.units{k:Nat}{A:Around}(r:kJ k A):A.units+64<cLine:=by have:=r.un;omega
def Jg:TA:=fun _ H Q=>Q [] H
def Cc(ta:TE)(tr:TA):TA:=fun σ H Q=>ta σ H fun x H1=>tr σ H1 fun xs H2=>Q (x::xs) H2
section
variable{X:Cx}{e:Expr}{es:List Expr}{te:TE}{t:TA}{pos:Pos}
theorem ao:PA X [] Jg:=fun _ _ _ _ H Q I h=>Calls.spliced_nil ⟨[],H,I,.nil,h⟩
theorem af(ha:.cI)(hr:PA X es t)(hs:.eg:=by rfl):PA X .eA (Cc te t):=by intro pos pins s σ H Q I h;rw[hs];show wpAny _ _ (spliced ((false,.dU)::.t2)) _ _ s;refine Calls.spliced_cons (iu .hW fun u s1⟨x,H1,I1,r1,q1⟩=>? _);exact iu (hr pos pins s1 σ H1 _ I1 q1) fun us s2⟨xs,H2,I2,r2,q2⟩=>⟨x::xs,H2,I2,.cons r1 r2,q2⟩
def Oz(t:TA):TE:=fun σ H Q=>t σ H fun xs H1=>.gK/\∀p,H1 p=none->Q .b6 (aN H1 p (.fL xs))
def Ou(t:TA):TE:=fun σ H Q=>t σ H fun xs H1=>.gK/\∀p,H1 p=none->Q .b6 (aN H1 p (.bJ xs))
theorem AA{x1}(h:PA X es t):PE X (.Tuple es x1 pos) (Oz t):=by intro pins s σ H Q I hq;refine wpAny_Tuple_spliced .zk;have hf:H1 s1.heap.objs.size=none:=.iH;refine⟨.vz,aN H1 s1.heap.objs.size (.fL xs),.Ax,rfl,q _ hf⟩;exact⟨z,us,r,⟨_,.cK,rfl,_,rfl⟩⟩
theorem eU(h:PA X es t):PE X (.List es pos) (Ou t):=by intro pins s σ H Q I hq;refine wpAny_List_spliced .zk;have hf:H1 s1.heap.objs.size=none:=.iH;refine⟨.vz,aN H1 s1.heap.objs.size (.bJ xs),.Ax,rfl,q _ hf⟩;exact⟨z,us,0,r,.cK⟩
end
abbrev Sp:=.aj->Hp->VK->XK->Prop
abbrev OK:=.dw->Hp->Shared->XK->.ax
structure So(P:Program)(w:World)(K:ae)(mg:Str->Option Value)(base:Heap)(A:Around)(aY:List Env)(s:Shared)(H:Hp):Prop where
frames:A.frames=some aY
ET:Mod K mg base
bs:∀b o,base.get? b=some o->s.heap.get? b=some o/\H b=none
W7:base.objs.size<=s.heap.objs.size
Al:s.heap.FunFrames base aY
frf:∀b∈Ak aY,H b=none
fb:tG P w H s.heap
lG:AllBare s.gens
def CE(aY:.dw)(P:Program)(w:World)(H:Hp)(s:Shared)(Q:VK)(u:Value)(s':Shared):Prop:=∃v H',s'.os=s.os/\.ro/\.Fz/\tG P w H' s'.heap/\e_ v u/\Q v H'
def CR(CX:OK)(aY:.dw)(P:Program)(w:World)(H:Hp)(s:Shared)(Q:VK)(E:XK)(r:Result)(s':Shared):Prop:=match r with|.ok (.ret u)=>CE aY P w H s Q u s'|.ok _=>False|.error e=>CX aY H s E e s'
structure wB(P:Program)(w:World)(K:ae)(mg:Str->Option Value)(base:Heap)(CX:OK)(k:Nat)(f:Addr)(fd:FuncData)(ps:List Str)(sp:Sp):Prop where
j9:∀vs H Q E,sp vs H Q E->vs.length=ps.length
run:∀(A:Around)(aY:List Env)(s:Shared)(H:Hp)(args:Args)(us:List Value)(vs:List V)(Q:VK)(E:XK),kJ k A->So P w K mg base A aY s H->BindsTo s fd args (ps.zip us)->dP vs us->sp vs H Q E->codeAny (model P w) A (.call (.ref f) args) (CR CX aY P w H s Q E) s
theorem So.Qv{P:Program}{w:World}{K:ae}{mg:.aV}{base:Heap}{A:Around}{aY:.dw}{s:Shared}{H:Hp}(e:So P w K mg base A aY s H)(C:Addr)(us:.ar)(kw:.iJ):So P w K mg base (.oE) aY s H:=⟨by first|exact e.frames|(simpa[Around.under,Code.envs,Code.isFrame,pushEnvs]using e.frames),e.ET,e.bs,e.W7,e.Al,e.frf,e.fb,e.lG⟩
section
variable{X:Cx}{pins:List (Addr×Obj)}{σ:St}{H:Hp}{s s':Shared}
theorem Inv.as9(I:.aa):So X.prog X.w X.K X.mg X.base X.A X.stack s H:=⟨I.ok.frames,I.ok.ET,I.bs,br I.ok.W7 I.sz,I.stack,I.yW,I.fb,I.lG⟩
theorem Inv.ajn{Q:VK}{u:Value}(I:.aa)(h:CE X.stack X.prog X.w H s Q u s'):EP X pins σ Q u s':=by obtain⟨v,H',os,lG,un,fb,r,q⟩:=h;obtain⟨hh,g,d,t,os'⟩:=s';obtain rfl:os'=s.os:=os;exact⟨v,H',I.call (h':=hh) (g':=g) (d':=d) (t':=t) (ch:=[]) un fb lG (fun b z=>absurd z .aC),r,q⟩
end
def zX(sp:Sp)(J0:.aj)(E:XK)(t:TA):TE:=fun σ H Q=>t σ H fun vs H1=>sp .hQ H1 Q E
def wy(C:Addr)(m:Str)(sp:Sp)(J0:.aj)(E:XK)(ta:TE)(t:TA):TE:=fun σ H Q=>ta σ H fun x H1=>∃a dx fs,.dA/\H1 a=.cS/\fs.lookup m=none/\t σ H1 fun vs H2=>sp (x::.hQ) H2 Q E
def zY(C:Addr)(sp:Sp)(J0:.aj)(E:XK)(t:TA):TE:=fun σ H Q=>t σ H fun vs H1=>∀x dx,H1 x=none->H1 dx=none->dx≠x->sp (.dE::.hQ) (aN (aN H1 dx .ft) x (.cH C dx [])) (fun v H2=>v=.jD/\Q .aR H2) E
def vT(K:ae)(fd:FuncData)(ps:.a0)(ds:.ar):Prop:=∀(s:Shared)(us:.ar),.dV->(us++ds).length=ps.length->BindsTo s fd .k7 (ps.zip (us++ds))
theorem vT.all{K:ae}{fd:FuncData}{ps:.a0}(h:∀us:.ar,.x3->bindArgs fd .k7=pure .oa):.nr:=fun s us _ hl=>by rw[bM]at hl|-;exact .of_eq (h us hl)
def m_(CX:OK)(X:Cx)(E:XK):Prop:=∀(pins:.aA)(σ:St)(H:Hp)(s:Shared)(e:Value)(s':Shared),.aa->CX X.stack H s E e s'->X.xe e s'
section
variable{X:Cx}{CX:OK}{k:Nat}{f C:Addr}{fd:FuncData}{ps:List Str}{sp:Sp}{J0:List V}{ds:List Value}{E:XK}{x m:Str}{p pos apos:Pos}{e o:Expr}{es:List Expr}{ta:TE}{t:TA}
theorem NR{pins:.aA}{σ:St}{H:Hp}{s:Shared}{Q:VK}{us:.ar}{vs:.aj}(F:.jE)(hr:.fw)(hb:.ki)(hd:dP J0 ds)(hx:.fx)(I:.aa)(r:dP vs us)(h:sp .hQ H Q E):wpAny .av X.A (call .cW us) .dz X.xe s:=by have r2:dP .hQ (us++ds):=r.append hd;(have hl:(us++ds).length=ps.length:=by rw[<-r2.length];exact F.j9 _ _ _ _ h);refine wpAny_call (codeAny_mono (F.run X.A X.stack s H .k7 (us++ds) .hQ Q E hr I.as9 (hb s us I.C9 hl) r2 h) fun r s' hq=>? _);cases r with|error e=>exact hx pins σ H s e s' I hq|ok fl=>cases fl with|ret u=>exact I.ajn hq|next=>exact gD hq|brk=>exact gD hq|cont=>exact gD hq
theorem ahn(F:.jE)(hr:.fw)(hg:.cq)(hm:.cO=some .cW)(hk:gk X.K .cW=true)(hb:.ki)(hd:dP J0 ds)(hx:.fx)(ha:.eM)(Hs:.bX:=by decide)(he:.eg:=by rfl)(tZ:.fM:=by rfl):PE X .jF (zX sp J0 E t):=by rw[3];refine .oF;refine nc (h₀:=X.base) I.ok.ET.kin hk (iu .rh .t7) he tZ;exact NR F hr hb hd hx I1 r q
theorem ahq{pl:Sem Bool}(he:PE X o ta)(c:Kx X.K C)(hm:Zg X.K C m f)(F:.jE)(hr:.fw)(hb:.ki)(hd:dP J0 ds)(hx:.fx)(ha:.eM)(hst:.eg:=by rfl)(tZ:.fM:=by rfl)(ht:.zl:=by rfl):PE X .t8 (wy C m sp J0 E ta t):=by rw[267];refine nc (first:=.fi) (h₀:=X.base) I.ok.ET.kin hm.kp (iu (ha pos pins s1 σ H1 _ I1 q) fun us s2⟨vs,H2,I2,r,q2⟩=>⟨I2.C9,? _⟩) hst tZ;exact NR (us:=.b2::us) (vs:=.b2::vs) F hr hb hd hx I2 (.cons rfl r) q2
theorem ac8{pl:Sem Bool}(he:PE X o ta)(c:Kx X.K C)(hm:Zg X.K C m f)(F:.jE)(hr:.fw)(hb:.ki)(hd:dP J0 ds)(hx:.fx)(ht:.zm:=by rfl):PE X .t9 (wy C m sp J0 E ta Jg):=by rw[267];exact Se (first:=.fi) I1.C9 hm.kp (NR (us:=.fi) (vs:=.fi) F hr hb hd hx I1 (.cons rfl .nil) q)
structure Mk(K:ae)(C f:Addr):Prop where
aui:Fg K C=true
init:aR K (.ref C) "__init__"=some (some (.ref f))
fn:vi K (.ref f)=true
kp:gk K (.ref C)=true
theorem acu{pins:.aA}{σ:St}{H:Hp}{s:Shared}{Q:VK}{us:.ar}{vs:.aj}(M:Mk X.K C f)(F:.jE)(hr:kJ .bb X.A)(hb:.ki)(hd:dP J0 ds)(hx:.fx)(I:.aa)(r:dP vs us)(h:∀x dx,.hR->H dx=none->dx≠x->sp (.dE::.hQ) (aN .kj x (.cH C dx [])) (fun v H2=>v=.jD/\Q .aR H2) E):wpAny .av X.A (call .be us) .dz X.xe s:=by have hq:=h .dg s.heap.objs.size (I.fb.fresh (z6 _)) (.dN) (bS (mK _));have I2:=Inv.made (C:=C) I;have r2:dP (V.ref .dg::.hQ) (.lE::(us++ds)):=.cons rfl (r.append hd);(have hl:(.lE::us++ds).length=ps.length:=by have e:=r2.length;rw[F.j9 _ _ _ _ hq]at e;exact e.symm);refine wpAny_call (ab3 (f:=f) I.C9 M.aui M.init (beq_iff_eq.mp M.fn) (codeAny_mono (F.run _ X.stack _ _ ⟨.lE::us,[]⟩ (.lE::(us++ds)) _ _ E (hr.Qv C us []) (I2.as9.Qv C us []) (hb _ (.lE::us) I2.C9 hl) r2 hq) fun r s' hq'=>? _));cases r with|error e=>exact hx pins σ _ _ e s' I2 hq'|ok fl=>cases fl with|ret u=>obtain⟨v,H',I3,rv,ev,q3⟩:=I2.ajn hq';subst ev;exact⟨rv,⟨V.ref .dg,H',I3,rfl,q3⟩⟩|next=>exact gD hq'|brk=>exact gD hq'|cont=>exact gD hq'
theorem ahp(M:Mk X.K C f)(F:.jE)(hr:kJ .bb X.A)(hg:.cq)(hm:.cO=.eh)(hb:.ki)(hd:dP J0 ds)(hx:.fx)(ha:.eM)(Hs:.bX:=by decide)(he:.eg:=by rfl)(tZ:.fM:=by rfl):PE X .jF (zY C sp J0 E t):=by rw[3];refine .oF;refine nc (h₀:=X.base) I.ok.ET.kin M.kp (iu .rh .t7) he tZ;exact acu M F hr hb hd hx I1 r q
end
section
variable{X:Cx}{CX:OK}{k:Nat}{f C:Addr}{fd:FuncData}{ps ks:List Str}{sp:Sp}{E:XK}{x m:Str}{p pos apos aNg:Pos}{e o:Expr}{es:List Expr}{kws:List Keyword}{te ta:TE}{t tk:TA}{nm:Option Str}
structure az0(K:ae)(fd:FuncData)(ps ks:List Str)(g:List Value->List Value->List Value)(gV:List V->List V->List V):Prop where
to:∀(s:Shared)(us ws:List Value),K.In s.heap->(g us ws).length=ps.length->BindsTo s fd ⟨us,ks.zip ws⟩ (ps.zip (g us ws))
zV:∀{vs:List V}{us:List Value}{zs:List V}{ws:List Value},dP vs us->dP zs ws->dP (gV vs zs) (g us ws)
variable{g:List Value->List Value->List Value}{gV:List V->List V->List V}
end
structure a9(N P:List Str)(sc:Scope):Prop where
kind:sc.kind=.function
co:sc.isCoroutine=false
gen:sc.isGenerator=false
nd:N.Nodup
pre:N.take P.length=P
par:∀x∈P,sc.names.lookup x=some .local\/sc.names.lookup x=some .cell
ant:∀y∈sc.names,y.2≠.free
theorem KU{kindOf:.pJ}{x:Str}:∀{vZ:.iJ}{m:.aV},(∀v,(x,v)∉vZ)->bindL kindOf vZ m x=m x|[],_,_=>rfl|(n,v)::r,m,h=>by unfold bindL;rw[KU fun w hw=>h w (ak _ hw)];split;rw[353];{rfl}
theorem KR{kindOf:.pJ}{x:Str}:∀{vZ:.iJ}{m:.aV},(∀v,(x,v)∉vZ)->bindC kindOf vZ m x=m x|[],_,_=>rfl|(n,v)::r,m,h=>by unfold bindC;rw[KR fun w hw=>h w (ak _ hw)];split;{rfl};rw[353]
theorem KS{kindOf:.pJ}{x:Str}{v:Value}:∀{P:.a0}{vs:.ar}{i:Nat}{m:.aV},P.Nodup->P[i]?=.bu->vs[i]?=.a4->kindOf x=.dS->bindL kindOf (P.zip vs) m x=.a4|[],_,_,_,_,h,_,_=>.ix|_::_,[],_,_,_,_,h,_=>.ix|p::P,w::vs,0,m,nd,h1,h2,hk=>by simp at h1 h2;subst h1;subst h2;show bindL kindOf .qG m p=_;unfold bindL;rw[KU .FA,.bP];simp|p::P,w::vs,i+1,m,nd,h1,h2,hk=>by show bindL kindOf .qG m x=_;unfold bindL;exact KS (i:=i) (cI.mp nd).2 (.j7) (by simpa using h2) hk
theorem KQ{kindOf:.pJ}{x:Str}{v:Value}:∀{P:.a0}{vs:.ar}{i:Nat}{m:.aV},P.Nodup->P[i]?=.bu->vs[i]?=.a4->kindOf x≠.dS->bindC kindOf (P.zip vs) m x=.a4|[],_,_,_,_,h,_,_=>.ix|_::_,[],_,_,_,_,h,_=>.ix|p::P,w::vs,0,m,nd,h1,h2,hk=>by simp at h1 h2;subst h1;subst h2;show bindC kindOf .qG m p=_;unfold bindC;rw[KR .FA,.bV];simp|p::P,w::vs,i+1,m,nd,h1,h2,hk=>by show bindC kindOf .qG m x=_;unfold bindC;exact KQ (i:=i) (cI.mp nd).2 (.j7) (by simpa using h2) hk
def start(N:.a0)(vs:.aj):St:=vs.map some++eY (N.length-vs.length) none
def JV(CX:OK)(P:Program)(w:World)(K:ae)(mg:.aV)(base:Heap)(N:.a0)(qual:Str)(scope:Scope)(f:Addr)(cd:Value)(A:Around)(aY:.dw)(s:Shared)(H:Hp)(E:XK):Cx where prog:=P;w:=w;K:=K;mg:=mg;base:=base;A:=A.deeper (.hZ);N:=N;wx:=s;H_0:=H;bA:=.hZ;aY:=aY;stack:=.hZ::aY;ex:=[];tQ:=true;fn:=fun _=>true;pn:=[];xe:=fun e s'=>wpAny .aQ (A.deeper (.hZ)) (leaving (.hZ) e) (fun _ s''=>CX aY H s E e s'') (fun e' s''=>CX aY H s E e' s'') s'
theorem Pk{sc:Scope}{n:Nat}{x:Str}(h:.kb=.e1):∃c,(cellsFrom n sc.names []).lookup x=.br:=by have q:=Mp sc.names n [] (.inl h);exact iS.mp q
theorem XA{CX:OK}{P:Program}{w:World}{K:ae}{mg:.aV}{base:Heap}{N ps:.a0}{qual:Str}{scope:Scope}{f:Addr}{cd:Value}{A:Around}{aY:.dw}{s s1:Shared}{H:Hp}{E:XK}{us:.ar}{vs:.aj}(S:a9 N ps scope)(hd:.f6)(e0:So P w K mg base A aY s H)(hl:vs.length=ps.length)(r:dP vs us)(x:InCallC s s.heap.objs.size (bindL (.hZ).kindOf .oa .gu) (cellsFrom .dg scope.names []) (bindC (.hZ).kindOf .oa .gu) s1):Inv (.ua) [] .r3 H s1:=by(have tZ:ps.length<=N.length:=by have:=congrArg jF S.pre;rw[be]at this;omega);obtain⟨h1,tk,rfl,hk⟩:=x.done;have noA:∀b:Addr,b∉(.ua).ex:=fun b z=>.Ek;refine⟨⟨e0.ET,S.kind,rfl,rfl,aF _,fun y z c h1 h2=>? _,.cg,fun y c _ h=>? _,fun _=>hd,Around.frames_deeper e0.frames,.inr .ea,fun b z=>absurd z (noA b),e0.bs,e0.W7,fun b _ _=>noA b,fun b z=>absurd z (noA b),e0.Al,e0.frf⟩,rfl,e0.lG,Un.ji hk,⟨_,x.toInCall.ns,fun i y v h1 h2 h3=>? _⟩,fun y c h=>⟨_,x.cell y c h⟩,e0.fb.fresh .aS,fun y c h=>? _,fun p hp=>absurd (show p∈([]:.aA)from hp) .aC,e0.fb.ji hk,? _⟩;{exact name_of_addr x.apart (cP h1) (cP h2)};{have hy:.gN=.e1\/.gN=.hD:=hy;rcases hy with hy|hy;{exact Pk hy};{exact absurd rfl (S.ant _ (cP hy))}};{exact mJ (x.above y c (cP h))};{(have hi:i<vs.length:=by unfold start at h2;by_cases hi:i<vs.length;{exact hi};{rw[fY .vr]at h2;rw[OZ]at h2;split at h2<;>cases h2});(have ha:vs[i]?=.a4:=by unfold start at h2;rw[tY .vr,aS]at h2;cases e:vs[i]? with|none=>rw[e]at h2;cases h2|some a=>rw[e]at h2;cases h2;rfl);obtain⟨u,hu,rv⟩:=r.get ha;(have hp:ps[i]?=some y:=by rw[<-S.pre,u5 .C];exact h1);(have ndP:ps.Nodup:=by rw[<-S.pre];exact S.nd.sublist (Ef _ _));refine⟨u,rv,? _⟩;rcases S.par y (aE hp)with k|k;{exact .inl ⟨k,KS ndP hp hu k⟩};{obtain⟨c,e⟩:=Pk (n:=.hY) k;refine .inr ⟨.cz,c,e,? _⟩;have q:=x.cell y c e;rw[KQ ndP hp hu (by show .gN≠_;rw[k];decide)]at q;exact q}};{exact e0.fb.fresh (mJ (x.above y c (cP h)))};{unfold start;show _=N.length;rw[ag,aa,List.length_replicate];omega}
theorem ajy{CX:OK}{P:Program}{w:World}{K:ae}{mg:.aV}{base:Heap}{k:Nat}{f:Addr}{name qual:Str}{params:Arguments}{body:.hK}{scope:Scope}{dV kV doc pm eQ ct oc:Value}{an od:.bE}{LN:Array (.dR)}{N ps:.a0}{sp:Sp}(lk:.ll=some ⟨oc,od,.func .Ay,LN⟩)(Vy:.qH)(S:a9 N ps scope)(j9:.fN)(aae:∀(A:Around)(aY:.dw)(s:Shared)(H:Hp)(vs:.aj)(Q:VK)(E:XK),kJ k (A.deeper (envOfC qual scope s.heap.objs.size f eQ))->sp vs H Q E->∃t,Mm .sP body t/\.ub):wB P w K mg base CX .bb f .Ay ps sp:=by refine⟨j9,fun A aY s H args us vs Q E hr e0 hb r Ft=>? _⟩;have hl:=j9 _ _ _ _ Ft;have KX:.dV:=e0.ET.kin.keeps fun b o e=>(e0.bs b o e).1;have lim:s.heap.NoLimit:=e0.ET.nolimit.keeps fun b o e=>(e0.bs b o e).1;(have Qh:∀y∈ps.zip us,.vA=.dS\/(.vA=.e1/\((cellsFrom .dg scope.names []).lookup y.1).isSome=true):=fun⟨n,v⟩hy=>by rcases S.par n (Jv hy).1 with q|q;{exact .inl q};{exact .inr ⟨q,Mp _ _ _ (.inl q)⟩});refine codeAny_call_function hr.depth (KX _ _ lk) rfl S.co S.gen rfl (SE KX Vy) (hb _ _ _ _ ? _);refine wpAny_newFunctionEnv_cells S.kind Qh fun bA he s1 x=>? _;subst he;refine⟨lim.keeps x.toInCall.keep,codeAny_func ? _⟩;obtain⟨t,ht,hq⟩:=aae A aY s H vs Q E (hr.deeper _) Ft;have I:Inv .sP [] .r3 H s1:=XA S hr.hd e0 hl r x;refine wpAny_mono (ht [] s1 .r3 H _ I hq) (fun fl s' hs=>? _) fun e s' hs=>hs;have fin:∀{σ':St}{H':Hp}{v:V}{u:Value},Inv .sP [] σ' H' s'->e_ v u->Q v H'->CE aY P w H s Q u s':=fun{σ' H' v u}J rv q=>⟨v,H',J.os,J.lG,J.base,J.fb,rv,q⟩;cases fl with|ret u=>obtain⟨v,σ',H',J,rv,q⟩:=hs;exact fin J rv q|next=>obtain⟨σ',H',J,q⟩:=hs;exact fin (v:=V.jD) (u:=Value.none) J rfl q|brk=>obtain⟨_,_,_,q⟩:=hs;exact gD q|cont=>obtain⟨_,_,_,q⟩:=hs;exact gD q
section
variable{X:Cx}{x:Str}{p pos:Pos}{e:Expr}{es:List Expr}{t:TA}{id T:String}{r:List V->Hp->VK->Prop}
def tCB(r:.ee)(t:TA):TE:=fun σ H Q=>t σ H fun vs H1=>r vs H1 Q
theorem bT(hc:mr X .iK r)(hg:.cq)(hm:.cO=none)(hv:.rq=some .iK)(ha:.eM)(hn:.rr:=by decide)(Hs:.bX:=by decide)(he:.eg:=by rfl)(tZ:.fM:=by rfl):PE X .jF (tCB r t):=by rw[3];refine .CD;exact awm .zo he tZ
theorem kj(hc:mr X (.type T) r)(hg:.cq)(hm:.cO=none)(hv:.rq=some (.type T))(ha:.eM)(hn:.rr:=by decide)(Hs:.bX:=by decide)(he:.eg:=by rfl)(tZ:.fM:=by rfl):PE X .jF (tCB r t):=by rw[3];refine .CD;exact fD .zo he tZ
end
end L2
namespace HT
open PySem PyProof.Rows
section
variable{prog:Program}{w:World}{A:Around}{E:Value->Shared->Prop}{s:Shared}
theorem afj{t b:Addr}{vs ws:.ar}{Q:.ax}(ht:IsTup s.heap t vs.toArray)(hb:IsTup s.heap b ws.toArray)(hv:vs≠[])(h1:ws=[]->Q (.ref t) s)(h2:ws≠[]->Q .cR {s with heap:=s.heap.push {cls:=.type "tuple",data:=.seq (vs++ws).toArray}})(hsz:vs.length+ws.length<=sizeLine):wpAny .bh A (binaryOp .Add (.ref t) (.cP)) Q E s:=by obtain⟨⟨cls,dd,data,sl⟩,ho,hc,n,hd⟩:=id ht;obtain⟨⟨aJf,dd2,data2,sl2⟩,ho2,hc2,n2,hd2⟩:=id hb;simp only at hc hd hc2 hd2;subst hc hd hc2 hd2;have e:vs.toArray++ws.toArray=(vs++ws).toArray:=.aN;by_cases hw:ws=[];{exact concat_meets .nt ⟨_,ho2,rfl⟩ noFill_tuple_add seq_tuple_add Mo KG (JO _ _) (tuple_addW1 t b vs.toArray ws.toArray n n2 dd dd2 sl sl2 (by simpa using hv) (by simp[hw])) ⟨ho,ho2,h1 hw⟩};{refine concat_meets .nt ⟨_,ho2,rfl⟩ noFill_tuple_add seq_tuple_add Mo KG (JO _ _) (tuple_addW2 t b vs.toArray ws.toArray n n2 dd dd2 sl sl2 (by simpa using hv) .vB (by rw[bo,bo];exact hsz)) ⟨ho,ho2,? _⟩;rw[e];exact h2 hw}
def qG(n d:Nat):.b9->Nat|none=>d|some v=>.uc
theorem acx(n d:Nat):qG n d none=d:=rfl
theorem vH(n d k:Nat):qG n d (some (k:Int))=min k n:=by show(if(k:Int)<0 then((k:Int)+.cN).toNat else min (k:Int).toNat n)=min k n;rw[.cf,l_]
theorem acw(n d:Nat)(hd:d<=n)(o:.b9):qG n d o<=n:=by cases o with|none=>exact hd|some v=>show(.uc)<=n;by_cases hv:v<0;{rw[if_pos hv];omega};{rw[if_neg hv];exact Nat.min_le_right _ _}
end
end HT
namespace L2
open PySem PySem.Spec PyProof.Rows
abbrev TO:=St->Hp->(.b9->.a3)->Prop
def PO(X:Cx)(e:Option Expr)(t:TO):Prop:=∀(pins:.aA)(s:Shared)(σ:St)(H:Hp)(Q:.b9->.a3),.aa->t σ H Q->wpAny .av X.A (evalPart e X.bA) (fun u s'=>∃o H',.ec/\IsPart u o/\Q o H') X.xe s
def rh:TO:=fun _ H Q=>Q none H
def Cj(t:TE):TO:=fun σ H Q=>t σ H fun x H1=>∃i,x=.bp/\Q (some i) H1
section
variable{X:Cx}{e:Expr}{te:TE}{lo hi:Option Expr}{tl th:TO}{pos p2:Pos}
theorem We:PO X none rh:=by rw[3];rw[evalPart_none];exact wpAny_pure ⟨none,H,I,.none,h⟩
theorem pQ(h:.cI):PO X (some e) (Cj te):=by intro pins s σ H Q I hw;rw[evalPart_some];refine iu .vv fun u s1⟨x,H1,I1,r1,q1⟩=>? _;obtain⟨i,rfl,q⟩:=q1;rw[109];exact⟨some i,H1,I1,.int i t,q⟩
def SlR(X:Cx)(r:.lF):Prop:=∀(pins:.aA)(s:Shared)(σ:St)(H:Hp)(x:V)(v vl vu:Value)(lo hi:.b9)(sl:Addr)(Q:VK),.aa->e_ x v->s.heap.IsSliceOf sl vl vu .none->IsPart vl lo->IsPart vu hi->r x lo hi H Q->∃T id,.Az/\s.TypeIs v T/\wpAny .av X.A (getItem v (.ref sl)) .dz X.xe s
def tSl(r:.lF)(te:TE)(tl th:TO):TE:=fun σ H Q=>te σ H fun x H1=>tl σ H1 fun l H2=>th σ H2 fun u H3=>r x l u H3 Q
theorem uI{r:.lF}(hr:SlR X r)(he:.cI)(hl:PO X lo tl)(hu:PO X hi th):PE X (.Subscript e (.Slice lo hi none p2) pos) (tSl r te tl th):=by rw[3];refine Subscript_ (iu .cD .jy);refine wpAny_Slice (iu (hl pins s1 σ H1 _ I1 q1) fun vl s2⟨l,H2,I2,pl,q2⟩=>iu (hu pins s2 σ H2 _ I2 q2) fun vu s3⟨u,H3,I3,pu,q3⟩=>? _);rw[evalPart_none];refine .gJ;have I4:Inv X pins σ H3 {s3 with heap:=s3.heap.push {cls:=.type "slice",data:=.fields #[vl,vu,.none]}}:=I3.ji (t':=s3.toks) .oG;obtain⟨T,id,hT,ht,hg⟩:=hr pins {s3 with heap:=s3.heap.push {cls:=.type "slice",data:=.fields #[vl,vu,.none]}} σ H3 x v vl vu l u s3.heap.objs.size Q I4 r1 (Heap.IsSliceOf.new ..) pl pu q3;show wpAny .av X.A (subscriptTail e (.Slice lo hi none p2) v (.ref s3.heap.objs.size)) .dz X.xe {s3 with heap:=s3.heap.push {cls:=.type "slice",data:=.fields #[vl,vu,.none]}};exact tail_any (ops:=[.ref s3.heap.objs.size,v]) ht hT hg (by with_unfolding_all rfl)
def Pr(xs:.aj)(lo hi:.b9):.aj:=(xs.drop (.wZ)).take .CE
theorem Pt(xs:.aj)(lo hi:.b9):(Pr xs lo hi).length<=xs.length:=by unfold Pr;rw[be,d_];omega
def akm(K:ae):R2:=fun x y H Q=>∃a b xs ys,.dA/\y=.cP/\.fg/\ig K H b ys/\xs≠[]/\xs.length+ys.length<=sizeLine/\(ys=[]->Q .bY H)/\(ys≠[]->∀p,.bM->Q .b6 (aN H p (.fL .jq)))
theorem dP.Ni{xs:.aj}{us:.ar}(r:.d2):us=[]↔xs=[]:=by cases r with|nil=>simp|cons _ _=>simp
theorem ahi:A2 X .rt (akm X.K):=by rw[27];obtain⟨a,b,xs,ys,rfl,rfl,ha,hb,hx,hz,q1,q2⟩:=h;cases rx;cases ry;obtain⟨d7,r1,p1,_⟩:=I.tuple ha;obtain⟨Aq,r2,p2,_⟩:=I.tuple hb;refine HT.afj p1 p2 (fun z=>hx (r1.Ni.mp z)) (fun z=>⟨.b2,H,I,rfl,q1 (r2.Ni.mp z)⟩) .f7 (by rw[<-r1.length,<-r2.length];exact hz);refine⟨.eL,_,I.laid (t':=s.toks) (o:=.fL .jq) (.oG) .aS ? _,rfl,q2 (fun w=>z (r2.Ni.mpr w)) _ (.dN)⟩;exact⟨by rw[ag];exact hz,_,r1.append r2,IsTup.new _ _⟩
end
def ixN(n:Nat)(i:Int):Option Nat:=if 0<=i then(if i<n then some i.toNat else none)else if-.cN<=i then some (i+n).toNat else none
def W4{α:Type}(xs:.aT)(i:Int):Option α:=(ixN xs.length i).bind fun j=>xs[j]?
theorem ago{n:Nat}{i:Int}{j:Nat}(h:ixN n i=.dF):seqIndex? i n=.dF/\j<n/\-.cN<=i/\i<n:=by unfold ixN at h;by_cases h0:0<=i;{rw[if_pos h0]at h;by_cases h1:i<n;{rw[.jr]at h;have e:i.toNat=j:=aB h;exact⟨by rw[seqIndex_of h0 h1,e],.o,.o,h1⟩};{rw[.ep]at h;cases h}};{rw[if_neg h0]at h;by_cases h1:-.cN<=i;{rw[.jr]at h;have e:(i+n).toNat=j:=aB h;exact⟨by rw[seqIndex_neg .C h1,e],.o,h1,.o⟩};{rw[.ep]at h;cases h}}
theorem Mx{α:Type}{xs:.aT}{i:Int}{v:α}(h:W4 xs i=.a4):∃j,seqIndex? i xs.length=.dF/\xs[j]?=.a4/\j<xs.length/\-(xs.length:Int)<=i/\i<xs.length:=by unfold W4 at h;cases e:ixN xs.length i with|none=>rw[30]|some j=>rw[e]at h;obtain⟨h1,h2,h3,h4⟩:=ago e;exact⟨j,h1,h,h2,h3,h4⟩
theorem gT{α:Type}{xs:.aT}{j:Nat}{v:α}(h:xs[j]?=.a4):W4 xs .eB=.a4:=by have hj:j<xs.length:=(ay.mp h).1;(have e:ixN xs.length .eB=.dF:=by unfold ixN;rw[.ml,.ml];simp);unfold W4;rw[e];exact h
def af6(b:Expr):Prop:=∀o i,subscripted b false o i=operate [o,i] (getItem o i)
def IxR(X:Cx)(r:R2):Prop:=∀(value slice:Expr)(pins:.aA)(s:Shared)(σ:St)(H:Hp)(x y:V)(v u:Value)(Q:VK),.aa->e_ x v->.cx->r x y H Q->subscripted slice false v u=operate [v,u] (getItem v u)->wpAny .av X.A (subscriptTail value slice v u) .dz X.xe s
def WN(X:Cx)(id:String)(r:.dh):Prop:=.zp
section
variable{X:Cx}{a b:Expr}{ta tb:TE}{pos:Pos}
theorem eZ{r:R2}(hr:IxR X r)(ha:.eT)(hb:.hL)(hs:af6 b):PE X (.Subscript a b pos) .r1:=by rw[3];exact Subscript_ (alk ha hb I h fun v u s2 x y H2 I2 rx ry q=>hr a b pins s2 σ H2 x y v u Q I2 rx ry q (hs _ _))
def Kh(K:ae):R2:=fun x y H Q=>∃p xs i v,x=.bO/\y=.bp/\cM K H p xs/\W4 xs i=.a4/\Q v H
def Fz(K:ae):R2:=fun x y H Q=>∃p xs i v,x=.bO/\y=.bp/\ig K H p xs/\W4 xs i=.a4/\Q v H
def NN:R2:=fun x y H Q=>∃z i c,x=.str z/\y=.bp/\.x4/\W4 z.cps.toList i=.br/\Q (.kk) H
theorem j':IxR X (Kh X.K):=by rw[268];rw[164];rw[206];by_cases h0:0<=i;{(have hj:i.toNat=j:=by rw[seqIndex_of h0 h5]at h1;exact aB h1);exact item_listR pl.isList h0 .C .FC fin hs};{(have hj:(i+(d7.toArray.size:Int)).toNat=j:=by rw[seqIndex_neg .C h4]at h1;rw[bo,<-hl];exact aB h1);exact subscriptTail_builtinR (x:=w) pl.isList.typeIs slot_list_getitem.lookup (wpAny_getItem_list_neg (Q:=.FD) pl.isList .C (by rw[bo]<;>omega) .C .FC ⟨rfl,fin⟩) hs}
theorem gr:IxR X (Fz X.K):=by rw[268];rw[165];rw[206];exact subscriptTail_builtinR (x:=w) pl.typeIs slot_tuple_getitem.lookup (getItem_tuple (j:=j) (Q:=.FD) pl .C .C (by rw[bo,<-hl];exact h1) (by simpa using ew) ⟨rfl,fin⟩) hs
theorem C8:IxR X NN:=by intro value slice pins s σ H x y v u Q I rx ry h hs;obtain⟨z,i,c,rfl,rfl,hz,he,q⟩:=h;rw[7];rw[8];obtain⟨j,h1,h2,h3,h4,h5⟩:=Mx he;(have hl:z.cps.toList.length=z.length:=by simp[Str.length]);rw[hl]at h1 h4 h5;have hn:=HD;exact tail_any (typeIs_str s z t) slot_str_getitem.lookup (getItem_str (c:=c) (by have e1:decide (i< -(2^63:Int))=false:=.lG;have e2:decide (i>=2^63)=false:=.lG;rw[e1,e2,Bool.or_false]) (by rw[h1];simpa using h2) ⟨.kk,H,.bz,.aU,q⟩) hs
theorem N5(lo hi:.b9)(n:Nat):(.vC).1=((HT.qG n 0 lo:Nat):Int)/\(.vC).2.1=((HT.qG n n hi:Nat):Int)/\(.vC).2.2=1:=by refine⟨? _,? _,rfl⟩;{cases lo with|none=>simp[sliceBounds,HT.qG]|some i=>rw[207]};{cases hi with|none=>simp[sliceBounds,HT.qG]|some i=>rw[207]}
theorem Kp(d7:.ar)(lo hi:.b9):slicePick d7.toArray lo hi none=((d7.drop (HT.qG d7.length 0 lo)).take (HT.qG d7.length d7.length hi-HT.qG d7.length 0 lo)).toArray:=by obtain⟨h1,h2,h3⟩:=N5 lo hi d7.toArray.size;unfold slicePick;rw[h1,h2,h3];simp only[sliceRange_one,pick_run,bo]<;>rfl
def NP(K:ae):.lF:=fun x lo hi H Q=>∃a xs,.dA/\.bZ/\∀p,.bM->Q .b6 (aN H p (.bJ (Pr xs lo hi)))
theorem Wn:SlR X (NP X.K):=by intro pins s σ H x v vl vu lo hi sl Q I rx hs pl pu h;obtain⟨a,xs,rfl,hx,q⟩:=h;cases rx;obtain⟨d7,r,ht,hz⟩:=I.list hx;have hlen:=r.length;refine⟨"list",_,slot_list_getitem.lookup,ht.isList.typeIs,? _⟩;refine wpAny_getItem_list_slice ht.isList hs pl pu .none .aC ? _ (by rw[bo]<;>omega);rw[Kp,<-hlen];refine⟨.eL,_,I.laid (t':=s.toks) (o:=.bJ (Pr xs lo hi)) (.oG) .aS ? _,rfl,q _ (.dN)⟩;exact⟨br (Pt xs lo hi) hz,_,0,(r.drop (.wZ)).take .CE,.cK⟩
def mR:V->Bool|.jD=>true|.bl _=>true|.int _=>true|.str _=>true|_=>false
def Z5:V->V->Bool|.jD,.jD=>true|.bl a,.bl b=>a==b|.bl a,.int b=>(if a then 1 else 0)==b|.int a,.bl b=>a==(if b then 1 else 0)|.int a,.int b=>a==b|.str a,.str b=>a==b|_,_=>false
theorem am5{A:Around}{s:Shared}{y x:V}{u v:Value}(ry:.cx)(rx:e_ x v)(fy:mR y=true)(fx:mR x=true):SeqAt.EqAt A s u v (Z5 y x):=by cases y with|jD=>(cases ry;cases x with|jD=>cases rx;exact SeqAt.EqAt.same _|bl b=>cases rx;exact SeqAt.EqAt.none_bool b|int b=>rw[7];exact SeqAt.EqAt.none_int b t|str b=>rw[7];exact SeqAt.EqAt.none_str b t|_=>exact absurd (show false=true from fx) a7)|bl a=>(cases ry;cases x with|jD=>cases rx;exact SeqAt.EqAt.bool_none a|bl b=>cases rx;exact SeqAt.EqAt.bool_bool a b|int b=>rw[7];exact SeqAt.EqAt.bool_int a b t|str b=>rw[7];exact SeqAt.EqAt.bool_str a b t|_=>exact absurd (show false=true from fx) a7)|int a=>(rw[8];cases x with|jD=>cases rx;exact SeqAt.EqAt.int_none a t'|bl b=>cases rx;exact SeqAt.EqAt.int_bool a t' b|int b=>rw[7];exact SeqAt.EqAt.int_int a t' b t|str b=>rw[7];exact SeqAt.EqAt.int_str a t' b t|_=>exact absurd (show false=true from fx) a7)|str a=>(rw[8];cases x with|jD=>cases rx;exact SeqAt.EqAt.str_none a t'|bl b=>cases rx;exact SeqAt.EqAt.str_bool a t' b|int b=>rw[7];exact SeqAt.EqAt.str_int a t' b t|str b=>rw[7];exact SeqAt.EqAt.str_str a t' b t|_=>exact absurd (show false=true from fx) a7)|_=>exact absurd (show false=true from fy) a7
def OR(x:V)(u:Value):Bool:=match u with|.none=>Z5 .jD x|.bool b=>Z5 (.bl b) x|.int i _=>Z5 (.bp) x|.str z _=>Z5 (.str z) x|_=>false
theorem MN{x y:V}{u:Value}(r:.cx)(f:mR y=true):OR x u=Z5 y x:=by cases y with|jD=>cases r;rfl|bl b=>cases r;rfl|int i=>rw[23];rfl|str z=>rw[23];rfl|_=>exact absurd (show false=true from f) a7
theorem Ba{x:V}:∀{xs:.aj}{us:.ar},.d2->xs.all mR=true->us.any (OR x)=xs.any fun y=>Z5 y x|_,_,.nil,_=>rfl|y::xs,u::us,.cons r t,f=>by rw[jE,dQ]at f;rw[qr,qr,MN r f.1,Ba t f.2]
theorem rZ{A:Around}{s:Shared}{x:V}{v:Value}(rx:e_ x v)(fx:mR x=true):∀{xs:.aj}{us:.ar},.d2->xs.all mR=true->∀u∈us,SeqAt.EqAt A s u v (OR x u)|_,_,.nil,_=>fun u hu=>by cases hu|y::xs,u::us,.cons r t,f=>fun u' hu=>by rw[jE,dQ]at f;rw[19];{rw[MN r f.1];exact am5 r rx f.1 fx};{exact rZ rx fx t f.2 u' hu}
def inV(x:V)(xs:.aj):Bool:=xs.any fun y=>Z5 y x
def rIn(K:ae)(neg:Bool):R2:=fun x y H Q=>∃p xs,y=.bO/\(cM K H p xs\/ig K H p xs)/\mR x=true/\xs.all mR=true/\Q (.bl (if neg then ! inV x xs else inV x xs)) H
theorem Yb:A2 X (compareOp .In) (rIn X.K false):=by rw[269];{rw[164];refine SeqAt.in_listAt (OR x) pl.isList .oH .pK;rw[94];exact q};{rw[165];refine SeqAt.in_tupleAt (OR x) pl .oH .pK;rw[94];exact q}
theorem NC:A2 X (compareOp .NotIn) (rIn X.K true):=by rw[269];{rw[164];refine SeqAt.notIn_listAt (OR x) pl.isList .oH .pK;rw[94];exact q};{rw[165];refine SeqAt.notIn_tupleAt (OR x) pl .oH .pK;rw[94];exact q}
theorem cC:mr X .kl (fun xs H Q=>∃p ys,xs=[.bO]/\.FE/\Q (.int ys.length) H):=by rw[270];cases rx;have hn:=HD;rcases hq with hq|hq;{rw[340];exact Calls.call_len_list pl.isList .pL .AA};{rw[315];exact len_tuple pl .pL .AA}
theorem iH:mr X .kl (fun xs H Q=>∃z,xs=[.str z]/\.x4/\Q (.int z.length) H):=by rw[91];obtain⟨z,rfl,hz,q⟩:=h;rw[163];have hn:=HD;exact len_str .C ⟨.int z.length,H,.bz,.aU,q⟩
theorem oa:mr X (.nQ) (fun xs H Q=>∃p ys,xs=[.bO]/\.FE/\∀l,H l=none->Q (.cA) (aN H l (.bJ ys))):=by rw[270];cases rx;have fin:∀(d7:.ar),dP ys d7->.w0->∀(h':Heap)(c':Nat),(∀b o',.gq=some o'->.e0=some o')->.h1=some {cls:=.type "list",dict:=none,data:=.seq d7.toArray c',slots:=#[]}->EP X pins σ Q .cR {s with heap:=h'}:=fun d7 r' hz h' c' kp e=>⟨.eL,_,I.laid (t':=s.toks) kp .aS (show i5 X.prog X.w _ h' _ (.bJ ys)from⟨hz,d7,c',r',e⟩),rfl,q _ (.dN)⟩;rcases hq with hq|hq;{rw[340];obtain⟨o,ho,hc,n,hd⟩:=pl.isList;exact call_list_seq p .bB ho hc hd .El .pL};{rw[315];obtain⟨o,ho,hc,n,hd⟩:=pl;exact call_list_seq p .k8 ho hc hd .El .pL}
def tyV(K:ae)(T:String)(x:V)(H:Hp):Prop:=match x with|.str _=>T="str"|.int _=>T="int"|.ref p=>(T="list"/\∃xs,cM K H p xs)\/(T="tuple"/\∃o,K.lookup p=.ah/\.wR/\o.dict=none)\/(T="dict"/\((∃kvs,H p=.ei)\/∃kvs,H p=some .jl))\/(T="set"/\∃S n,H p=some (.set S n))|_=>False
theorem adx{pins:.aA}{σ:St}{H:Hp}{s:Shared}{T:String}{x:V}{v:Value}(I:.aa)(r:e_ x v)(ty:tyV X.K T x H):s.TypeIs v T/\∀a,v=.b2->∃ob,.hc=some ob/\ob.dict=none:=by cases x with|str z=>rw[23];cases(show T="str"from ty);exact⟨typeIs_str s z t,.ru⟩|int i=>rw[23];cases(show T="int"from ty);exact⟨typeIs_int s i t,.ru⟩|ref p=>cases r;rcases ty with⟨rfl,xs,hq⟩|⟨rfl,o,hk,hc,hd⟩|⟨rfl,hk⟩|⟨rfl,S,n,hk⟩;{obtain⟨d7,_,pl,_⟩:=I.list hq;refine⟨pl.isList.typeIs,fun a e=>? _⟩;cases e;obtain⟨o,n,e,c,hd,_⟩:=pl;exact⟨o,e,hd⟩};{refine⟨⟨o,I.C9 p o hk,hc⟩,fun a e=>? _⟩;cases e;exact⟨o,I.C9 _ o hk,hd⟩};{(have z:∃o,s.heap.get? p=.ah/\o.ExactDict:=by rcases hk with⟨kvs,hk⟩|⟨kvs,hk⟩;rw[271];rw[271]);obtain⟨o,e,ex⟩:=z;rw[316]};{obtain⟨o,_,_,_,e,ex,_⟩:=I.fb p _ hk;rw[316]}|_=>exact gD ty
def Om(K:ae)(T:String)(r:.dh)(to:TE):TE:=fun σ H Q=>to σ H fun x H1=>tyV K T x H1/\r x [] H1 Q
def tBM(K:ae)(T:String)(r:.dh)(to:TE)(t:TA):TE:=fun σ H Q=>to σ H fun x H1=>tyV K T x H1/\t σ H1 fun xs H2=>r x xs H2 Q
variable{o e:Expr}{es:List Expr}{to:TE}{t:TA}{name:Str}{apos mQ:Pos}{T id:String}{r:V->List V->Hp->VK->Prop}
theorem Ud(pa:PlainAttrs T)(slot:Slot T name id)(hty:.oI)(hm:WN X id r)(ho:PE X o to)(um:.oJ:=by rfl)(uo:.pM:=by rfl):PE X (.Call .pN [] [] mQ) (Om X.K T r to):=by rw[3];refine wpAny_Call_method0_late um uo .CF;obtain⟨h1,h2⟩:=adx I1 r1 ty;exact⟨T,id,pa,slot,hty,h1,h2,Calls.callWith_builtin rfl (ro (hm pins s1 σ H1 x [] v [] Q I1 r1 .nil q1))⟩
theorem mW(pa:PlainAttrs T)(slot:Slot T name id)(hty:.oI)(hm:WN X id r)(ho:PE X o to)(ha:.eM)(um:.oJ:=by rfl)(aB0:((backTo mQ (starEach .eA X.bA)).all (fun x=>! x.1)&&(backToKw mQ (keywordEach [] X.bA)).all (fun x=>x.1.isSome)&&decide ((e::es).length+([]:List Keyword).length+(if([]:List Keyword).isEmpty then 0 else 1)<30))=true:=by rfl)(uo:.pM:=by rfl)(hs:.eg:=by rfl)(amr:.ud=false:=by rfl):PE X (.Call .pN .eA [] mQ) (tBM X.K T r to t):=by rw[3];refine wpAny_Call_method_late um aB0 uo rfl .CF;obtain⟨h1,h2⟩:=adx I1 r1 ty;refine⟨T,id,pa,slot,hty,h1,h2,? _⟩;have hA:=ha mQ pins s1 σ H1 _ I1 q1;rw[hs]at hA|-;refine Calls.callWith_builtin (by show(false||.ud)=false;rw[amr]<;>rfl) (Calls.evalArgs_plain ? _);exact iu hA fun us s2⟨vs,H2,I2,r2,q2⟩=>hm pins s2 σ H2 x vs v us Q I2 r1 r2 q2
end
def MtM(X:Cx)(id:String)(r:.dh):Prop:=.zp
theorem dP.one:∀{x:V}{us:.ar},dP [x] us->∃u,us=[u]/\e_ x u|_,_,.cons r .nil=>⟨_,rfl,r⟩
theorem dP.two:∀{x y:V}{us:.ar},dP [x,y] us->∃u v,us=[u,v]/\e_ x u/\e_ y v|_,_,_,.cons r (.cons q .nil)=>⟨_,_,rfl,r,q⟩
theorem dP.zero:∀{us:.ar},dP [] us->us=[]|_,.nil=>rfl
theorem dP.dropLast{xs:.aj}{us:.ar}(h:.d2):dP xs.dropLast us.dropLast:=by induction h with|nil=>exact .nil|cons r t ih=>cases t with|nil=>exact .nil|cons q t'=>exact .cons r ih
theorem dP.reverse{xs:.aj}{us:.ar}(h:.d2):dP xs.reverse us.reverse:=by induction h with|nil=>exact .nil|cons r t ih=>rw[c_,c_];exact dP.append ih (.cons r .nil)
theorem Tc{α:Type}(l:.aT):l.eraseIdx (l.length-1)=l.dropLast:=by induction l with|nil=>rfl|cons a r ih=>cases r with|nil=>rfl|cons b r=>(have e:(a::b::r).length-1=((b::r).length-1)+1:=by have h1:(a::b::r).length=r.length+2:=rfl;have h2:(b::r).length=r.length+1:=rfl;omega);rw[e,List.eraseIdx_cons_succ,ih];all_goals rfl
section
variable{X:Cx}{pins:List (Addr×Obj)}{σ:St}{H:Hp}{s:Shared}{l b:Addr}{xs ys zs:List V}
theorem Inv.agt{d7 its':.ar}{n:Nat}{f:.er->.er}{t':Nat}(I:.aa)(hH:.hi)(e:s.heap.get? l=.tV)(hf:f d7.toArray=its'.toArray)(hv:dP ys its')(hz:.w0):Inv X pins σ (aN H l (.bJ ys)) {s with heap:=s.heap.update l (Obj.mapSeq f),toks:=t'}:=by have q:=PySem.IsL.update e f;rw[hf]at q;refine I.Ct (x:=l) (e:=l) (by rw[hH];exact trivial) .bB (fun b' u hb hu=>(Heap.get?_update_other s.heap (Obj.mapSeq f) (cW hb)).trans hu) ⟨_,q⟩ ? _;exact⟨hz,its',_,hv,q⟩
theorem Inv.aD0{d7:.ar}{t':Nat}(I:.aa)(hv:dP ys d7)(hz:.w0):Inv X pins σ (aN H s.heap.objs.size (.bJ ys)) {s with heap:=s.heap.push {cls:=.type "list",data:=.seq d7.toArray},toks:=t'}:=I.laid (fun _ _ q=>.fK) .aS ⟨hz,d7,0,hv,.cK⟩
theorem Inv.fresh(I:.aa):H s.heap.objs.size=none:=.dN
theorem Inv.Tw(I:.aa)(hH:.hi):.gK/\∃(d7:.ar)(n:Nat),dP xs d7/\xs.length=d7.length/\s.heap.get? l=.tV:=by obtain⟨z,d7,n,r,e⟩:=I.fb l _ hH;exact⟨z,d7,n,r,r.length,e⟩
theorem QB{n:Nat}(h:n<=sizeLine):Builtin.List.listTooLong n=false:=by unfold Builtin.List.listTooLong;exact .lG
end
section
variable{X:Cx}
def qZ:.dh:=fun x vs H Q=>∃l xs y,x=.cA/\vs=[y]/\.hi/\xs.length<sizeLine/\Q .jD (aN H l (.bJ (xs++[y])))
theorem iB:MtM X "list.append" qZ:=by intro pins s σ H x vs v us Q I rx rv h;obtain⟨l,xs,y,rfl,rfl,hH,hz,q⟩:=h;cases rx;obtain⟨u,rfl,ru⟩:=rv.one;rw[110];refine call_meets F.slot_list_append .r4 F.entry_list_append (F.args_list_append_2 _ _) (PySem.list_append l d7.toArray n u (.km)) ⟨e,? _⟩;refine⟨.jD,_,I.agt (its':=d7++[u]) hH e .aC (r.append (.cons ru .nil)) ? _,rfl,q⟩;rw[ag,cF];omega
def q_:.dh:=fun x vs H Q=>∃l b xs zs,x=.cA/\vs=[.cP]/\.hi/\H b=some (.bJ zs)/\.AB
theorem Dg:MtM X "list.extend" q_:=by rw[208];obtain⟨z2,Aq,n2,r2,hl2,e2⟩:=I.Tw hB;(have hsz:.ue<=sizeLine:=by rw[bo,bo];omega);have atd:¬(! d7.toArray.isEmpty&&Builtin.List.listTooLong (.ue))=true:=.FF;refine call_meets F.slot_list_extend .r4 F.entry_list_extend (F.args_list_extend_2 _ _) (AutoSeq1.list_extend_list_list_0 l d7.toArray n b Aq.toArray n2 atd (.km) .C) ⟨e,e2,? _⟩;refine⟨.jD,_,I.agt (its':=d7++Aq) hH e .aC (r.append r2) ? _,rfl,q⟩;rw[ag];omega
def NO:.dh:=fun x vs H Q=>∃l xs y,x=.cA/\vs=[]/\.hi/\xs[xs.length-1]?=some y/\Q y (aN H l (.bJ xs.dropLast))
theorem TH:MtM X "list.pop" NO:=by intro pins s σ H x vs v us Q I rx rv h;obtain⟨l,xs,y,rfl,rfl,hH,hy,q⟩:=h;cases rx;have hus:=rv.zero;subst hus;rw[110];obtain⟨u,hu,ru⟩:=r.get hy;(have hy':d7.toArray[d7.toArray.size-1]?=.aP:=by show d7.toArray[d7.length-1]?=.aP;rw[<-fO,<-hl];exact hu);refine call_meets F.slot_list_pop .r4 F.entry_list_pop (F.args_list_pop_1 _) (MeetsSeq.list_pop_last l d7.toArray n u hy' (.km)) ⟨e,? _⟩;refine⟨y,_,I.agt (its':=d7.dropLast) hH e ? _ r.dropLast ? _,ru,q⟩;{show d7.toArray.eraseIdxIfInBounds (d7.toArray.size-1)=d7.dropLast.toArray;rw[bo,List.eraseIdxIfInBounds_toArray,Tc]};{rw[List.length_dropLast];omega}
def aob:R2:=fun x y H Q=>∃l b xs zs,x=.cA/\y=.cP/\.hi/\H b=some (.bJ zs)/\.FG/\∀p,.bM->Q .b6 (aN H p (.bJ (xs++zs)))
theorem sk:A2 X .rt aob:=by rw[27];obtain⟨l,b,xs,zs,rfl,rfl,hH,hB,hz,q⟩:=h;cases rx;cases ry;rw[110];obtain⟨z2,Aq,n2,r2,hl2,e2⟩:=I.Tw hB;refine PySem.P.add_list e e2 ? _ (by rw[bo,bo];omega);have ea:d7.toArray++Aq.toArray=(d7++Aq).toArray:=.aN;rw[ea];exact⟨.ref _,_,I.aD0 (t':=s.toks) (r.append r2) (by rw[ag];omega),rfl,q _ I.fresh⟩
end
section
variable{prog:Program}{w:World}{A:Around}{E:Value->Shared->Prop}{s:Shared}
set_option maxRecDepth 100000 in end
theorem dP.ints:∀{ns:.J}{us:.ar},dP .kn us->IntsAre us ns|[],us,h=>by rw[eX]at h;cases h;exact IntsAre.nil|n::ns,us,h=>by rw[aO]at h;cases h with|cons r t=>obtain⟨k,rfl⟩:=r;exact IntsAre.cons n k (dP.ints t)
theorem vR:∀{us:.ar}{ns:.J},IntsAre us ns->dP .kn us|_,_,.nil=>by rw[eX];exact Paired.nil|_,_,.cons n t h=>by rw[aO];exact Paired.cons (show e_ (V.int n) (Value.int n t)from .gb) (vR h)
theorem dP.bls:∀{bs:List Bool}{us:.ar},dP (bs.map V.bl) us->us=bs.map Value.bool|[],us,h=>by rw[eX]at h;cases h;rfl|b::bs,us,h=>by rw[aO]at h;cases h with|cons r t=>cases r;rw[dP.bls t,aO]
theorem dP.QZ{a:Addr}{us:.ar}(r:dP [V.ref a] us):us=[.f5]:=by cases r with|cons r t=>cases t;cases r;rfl
section
variable{prog:Program}{w:World}{A:Around}{E:Value->Shared->Prop}{s:Shared}{l:Addr}{d7:List Value}{ns:List Int}{Q:Value->Shared->Prop}
theorem aim(hh:.f6)(hl:.vD)(hi:IntsAre d7 ns)(h:∀h' tk t',.fO->Q (.int ns.sum t') {s with heap:=h',toks:=tk}):wpAny .bh A (call .qI [.cA]) Q E s:=by rw[209];rw[e]at hl;refine PySem.sum_intListG hh hl fun h' tk t' hk=>? _;have:=h h' tk t' hk;rw[preSum_eq,k_ .aC,hn];rw[5]
theorem agx(hh:.f6)(hl:.vD)(hi:IntsAre d7 ns)(mi:0<ns.length)(h:∀h' tk M t',.fO->M∈ns->(∀a,a∈ns->a<=M)->.Em):wpAny .bh A (call .qJ [.cA]) Q E s:=by rw[317];refine PySem.max_intList hh hl hsz fun v h' tk hv hk=>? _;obtain⟨t,rfl⟩:=intItems_at hv;obtain⟨h1,h2⟩:=argBest_gt (numAt xs) (xs.size-1);rw[210]
theorem agy(hh:.f6)(hl:.vD)(hi:IntsAre d7 ns)(mi:0<ns.length)(h:∀h' tk M t',.fO->M∈ns->(∀a,a∈ns->M<=a)->.Em):wpAny .bh A (call .x5 [.cA]) Q E s:=by rw[317];refine PySem.min_intList hh hl hsz fun v h' tk hv hk=>? _;obtain⟨t,rfl⟩:=intItems_at hv;obtain⟨h1,h2⟩:=argBest_lt (numAt xs) (xs.size-1);rw[210]
end
section
variable{X:Cx}
def avb(K:ae):.ee:=fun vs H Q=>∃(a:Addr)(ns:.J),.nS/\.pO/\Q (.int ns.sum) H
def av9(K:ae):.ee:=fun vs H Q=>∃(a:Addr)(ns:.J),.nS/\.pO/\0<ns.length/\∀m,m∈ns->(∀y,y∈ns->y<=m)->Q (.int m) H
def aDl(K:ae):.ee:=fun vs H Q=>∃(a:Addr)(ns:.J),.nS/\.pO/\0<ns.length/\∀m,m∈ns->(∀y,y∈ns->m<=y)->Q (.int m) H
theorem SU(hc:.cJ):mr X .qI (avb X.K):=by rw[31];obtain⟨a,ns,rfl,hs,q⟩:=h;rw[133];exact aim .b0 hl.isList rv.ints fun h' tk t' hk=>⟨.int _,H,I.ji hk,.aU,q⟩
theorem ZT(hc:.cJ):mr X .qJ (av9 X.K):=by rw[318];exact agx .b0 hl.isList rv.ints mi .AD
theorem alq(hc:.cJ):mr X .x5 (aDl X.K):=by rw[318];exact agy .b0 hl.isList rv.ints mi .AD
end
section
variable{X:Cx}
def aod(K:ae):.dh:=fun x xs H Q=>∃(a:Addr)(ys:.aj)(y:V)(j:Nat)(z:V),x=V.ref a/\xs=[y]/\cM K H a ys/\mR y=true/\ys.all mR=true/\ys[j]?=.cy/\Z5 z y=true/\(∀(m:Nat)(z':V),m<j->ys[m]?=some z'->Z5 z' y=false)/\Q (.int (j:Nat)) H
theorem Vs{ys:.aj}(f:ys.all mR=true){j:Nat}{z:V}(h:ys[j]?=.cy):mR z=true:=iO.mp f z (aE h)
theorem abb:WN X "list.index" (aod X.K):=by intro pins s σ H x xs v us Q I rx rxs h;obtain⟨a,ys,y,j,z,rfl,rfl,hs,fy,fys,hz,hzj,hno,q⟩:=h;cases rx;cases rxs with|cons ry rt=>rename_i uy ut;cases rt;rw[211];obtain⟨u,hu,ru⟩:=rv.get hz;obtain⟨hjl,hje⟩:=ay.mp hu;have hvl:=rv.length;(have hj:j<d7.toArray.size:=by simpa using hjl);have hsl:=sizeLine_eq;refine call_meets KI .nt PySem.F.entry_list_index (PySem.F.args_list_index_2 _ _) (SeqAt.list_indexAt a d7.toArray n dd sl uy (OR y) j hj .C ? _ ? _) ⟨ho,fun u' hu'=>rZ ry fy rv fys u' (by simpa using hu'),? _⟩;{(have e1:d7.toArray[j]=u:=by simpa using hje);rw[e1,MN ru (Vs fys hz)];exact hzj};{intro m hm hmj;(have hml:m<d7.length:=by simpa using hm);have hmy:m<ys.length:=.o;have hy':ys[m]?=some ys[m]:=aV hmy;obtain⟨u2,hu2,ru2⟩:=rv.get hy';obtain⟨_,hme⟩:=ay.mp hu2;(have e1:d7.toArray[m]=u2:=by simpa using hme);rw[e1,MN ru2 (Vs fys hy')];exact hno m _ hmj hy'};{exact⟨.int (j:Nat),H,.bz,.aU,q⟩}
end
theorem aay{prog:Program}{w:World}{A:Around}{E:.ax}{s:Shared}{l:Addr}{items:.er}{Q:.ax}(hl:s.heap.IsList l items)(h:∀s₂:Shared,s₂={s with heap:=s.heap.push {cls:=.type "list_iterator",data:=.fields #[.ref l,.int 0 0]}}->(s₂.heap.IsListIter s.heap.objs.size l 0/\s₂.heap.IsList l items)->l≠s.heap.objs.size->Q .cR s₂):wpAny .bh A (pyIter (.cA)) Q E s:=by(have jc:l<s.heap.objs.size:=by obtain⟨_,e,_⟩:=hl;rw[22]);exact wpAny_pyIter_list hl (h _ rfl ⟨.fI,hl.push _⟩ (bS jc))
theorem RM{prog:Program}{w:World}{A:Around}{bs:List Bool}{d7:.ar}(e:d7=bs.map Value.bool):TruthOf prog w A (fun i v=>d7.toArray[i]?=.a4) (fun i=>.rv):=fun i v s Q E hv hq=>by(have hv':d7[i]?=.a4:=by simpa using hv);rw[e,aS]at hv';obtain⟨b,hb,rfl⟩:=oK.mp hv';(have hg:.rv=b:=by rw[Kz,hb]<;>rfl);have hq':Q (.rv) s:=hq;rw[hg]at hq';exact wpAny_truthy_bool hq'
theorem KN:∀bs:List Bool,(bD bs.length).all (fun i=>.rv)=bs.all id|[]=>rfl|b::bs=>by rw[aw,oZ,jE,RW,jE,<-KN bs];all_goals rfl
section
variable{X:Cx}
def aDk(K:ae):.ee:=fun vs H Q=>∃(a:Addr)(bs:List Bool),.nS/\cM K H a (bs.map V.bl)/\Q (.bl (bs.all id)) H
theorem SS(hc:.cJ):mr X (.builtin "all") (aDk X.K):=by rw[31];obtain⟨a,bs,rfl,hs,q⟩:=h;rw[133];have hb:=rv.bls;refine call_all_walk (aay hl.isList fun s₂ e2 st mi=>? _);subst e2;refine⟨_,_,_,_,_,_,_,rfl,Walks.list (A:=X.A.in1) .b0 _ a mi d7.toArray,st,RM hb,fun h' tk hk=>? _⟩;refine⟨.bl _,H,I.ji fun b o eo=>hk b o (fun tS=>? _) (Heap.get?_push_of_some _ eo),? _,q⟩;{rcases aJ.mp tS with e1|tS;{exact absurd (e1▸Heap.lt_size eo) (g_ _)};{cases tS}};{show Value.bool _=Value.bool _;rw[<-KN,hb,bo,aa]}
end
mutual
inductive Dp(K:ae)(H:Hp):V->PyData->Prop|jD:Dp K H .jD .none|bl(b:Bool):Dp K H (.bl b) (.bool b)|int(i:Int):Dp K H (.int i) (.int i)|str(x:Str):Dp K H (.str x) (.str x)|bJ{a:Addr}{xs:List V}{ds:List PyData}:cM K H a xs->Gr K H xs ds->Dp K H (.ref a) (.list ds)|fL{a:Addr}{xs:List V}{ds:List PyData}:ig K H a xs->Gr K H xs ds->Dp K H (.ref a) (.tuple ds)
inductive Gr(K:ae)(H:Hp):List V->List PyData->Prop|nil:Gr K H [] []|cons{v:V}{vs:List V}{d:PyData}{ds:List PyData}:Dp K H v d->Gr K H vs ds->Gr K H (v::vs) (d::ds)
end
section
variable{X:Cx}{pins:List (Addr×Obj)}{σ:St}{H:Hp}{s:Shared}
mutual
theorem Dp.EY(I:Inv X pins σ H s):∀(d:PyData)(v:V)(u:Value),Dp X.K H v d->e_ v u->∃as,Reads s.heap u d as|.none,_,_,h,r=>by cases h;cases r;exact⟨_,Reads.none⟩|.bool b,_,_,h,r=>by cases h;cases r;exact⟨_,Reads.bool b⟩|.int i,_,_,h,r=>by cases h;obtain⟨t,rfl⟩:=r;exact⟨_,Reads.int i t⟩|.str x,_,_,h,r=>by cases h;obtain⟨t,rfl⟩:=r;exact⟨_,Reads.str x t⟩|.list ds,_,_,h,r=>(by cases h with|bJ hs ha=>cases r;obtain⟨d7,rv,⟨o,n,ho,hc,_,hd⟩,_⟩:=I.list hs;obtain⟨as,hr⟩:=Dp.sx I ds _ d7 ha rv;exact⟨_,Reads.list ho hc hd hr⟩)|.tuple ds,_,_,h,r=>(by cases h with|fL hs ha=>cases r;obtain⟨d7,rv,⟨o,ho,hc,n,hd⟩,_⟩:=I.tuple hs;obtain⟨as,hr⟩:=Dp.sx I ds _ d7 ha rv;exact⟨_,Reads.tuple ho hc hd hr⟩)|.dict _,_,_,h,_=>by cases h
theorem Dp.sx(I:Inv X pins σ H s):∀(ds:List PyData)(vs:List V)(us:List Value),Gr X.K H vs ds->dP vs us->∃as,ReadsAll s.heap us ds as|[],_,_,h,r=>by cases h;cases r;exact⟨_,ReadsAll.nil⟩|d::ds,_,_,h,r=>by cases h with|cons h1 h2=>cases r with|cons r1 r2=>obtain⟨as,q1⟩:=Dp.EY I d _ _ h1 r1;obtain⟨bs,q2⟩:=Dp.sx I ds _ _ h2 r2;exact⟨_,ReadsAll.cons q1 q2⟩
end
end
section
variable{X:Cx}
def aDm(K:ae):R2:=fun x y H Q=>∃d e,Dp K H x d/\Dp K H y e/\SeqAt.shaped d=true/\SeqAt.shaped e=true/\Q (.bl (! PyData.eqv d e)) H
theorem anz(hu:X.A.units+64<cLine):A2 X (compareOp .NotEq) (aDm X.K):=by rw[27];obtain⟨d,e,hd,he,sd,se,q⟩:=h;obtain⟨as,r1⟩:=Dp.EY I d x v hd rx;obtain⟨bs,r2⟩:=Dp.EY I e y u he ry;exact SeqAt.compareNe_shaped r1 r2 sd se hu ⟨.bl _,H,I,rfl,q⟩
end
abbrev Zb(h:Heap)(c:Addr)(v:.dR):Prop:=h.IsCell c v
def aDo(scope sc:Scope):Scope:={scope with names:=scope.names.map fun(n,k)=>if(k==.free&&sc.kind==.function&&sc.names.lookup n==some .cell)then(n,.cell)else(n,k)}
def f9(cells:.bD):.fa->.bD->.bD|[],acc=>acc|(n,k)::r,acc=>if k==.free then f9 cells r ((n,.vE)::acc)else f9 cells r acc
theorem Bi(bA:Env)(f:Str×NameKind->.bD->Sem (ForInStep (.bD)))(hf:∀n k c,f (n,k) c=if k==.free then(do let a<-cellOf bA n;pure (.yield ((n,a)::c)))else pure (.yield c)):∀(names:.fa)(acc:.bD),(∀y∈names,.CG)->forIn names acc f=pure (f9 bA.cells names acc)|[],acc,_=>by rw[ajd];rfl|(n,k)::r,acc,h=>by rw[List.forIn_cons,hf];have ih:=fun acc=>Bi bA f hf r acc .pP;unfold f9;by_cases hk:(k==NameKind.free)=true;{rw[.bP,.bP];obtain⟨c,hc⟩:=h (n,k) au (.x6);(have e:cellOf bA n=pure c:=by unfold cellOf;rw[hc]);rw[e];(have e2:(bA.cells.lookup n).getD 0=c:=by rw[hc];rfl);rw[e2];exact ih _};{rw[.bV,.bV];exact ih _}
theorem GQ{scope:Scope}{bA:Env}(h:∀y∈scope.names,.CG):closureFor scope bA=pure (f9 bA.cells scope.names []):=by simp only[closureFor];rw[Bi bA _ (fun n k c=>rfl) scope.names [] h];rfl
theorem As{α:Type}:∀{l:List (Str×α)}{n:Str}{c:α},(n,c)∈l->∃c',l.lookup n=some c'|(k,v)::r,n,c,h=>by rw[gM];cases hb:n==k with|true=>exact .aU|false=>rw[121];{cases e;simp at hb};{exact As h}
theorem sS{cells:.bD}:∀{names:.fa}{acc:.bD}{n:Str}{c:Addr},(n,c)∈.x7->(n,c)∈acc\/((n,.free)∈names/\c=.vE)|[],_,_,_,h=>.inl h|(m,k)::r,acc,n,c,h=>by unfold f9 at h;rw[4];{rename_i hk;have hk:k=.free:=.x6;rcases sS h with h|⟨h1,h2⟩;{rw[121];{cases e;exact .inr ⟨hk▸au,rfl⟩};{exact .inl h}};{exact .inr ⟨ak _ h1,h2⟩}};{rcases sS h with h|⟨h1,h2⟩;{exact .inl h};{exact .inr ⟨ak _ h1,h2⟩}}
theorem xn{cells:.bD}:∀{names:.fa}{acc:.bD}{p:Str×Addr},p∈acc->p∈.x7|[],_,_,h=>h|(m,k)::r,acc,p,h=>by unfold f9;split;{exact xn (ak _ h)};{exact xn h}
theorem xo{cells:.bD}:∀{names:.fa}{acc:.bD}{n:Str},(n,.free)∈names->(n,.vE)∈.x7|(m,k)::r,acc,n,h=>by unfold f9;rw[121];{cases e;exact xn au};{split;{exact xo h};{exact xo h}}
theorem ua:∀{names:.fa}{h:Heap}{acc:.bD}{x:Str}{c:Addr},(x,c)∈.uf->(x,c)∈acc\/((x,.cell)∈names/\h.objs.size<=c/\Zb (pushCells h names) c none)|[],_,_,_,_,h=>.inl h|(n,k)::r,h,acc,x,c,hm=>by unfold cellsFrom at hm;unfold pushCells;split at hm;{rename_i hk;rw[.bP];have hk:k=.cell:=.x6;rw[<-.CH]at hm;rcases ua hm with hm|⟨h1,h2,h3⟩;{rcases aJ.mp hm with e|hm;{cases e;exact .inr ⟨hk▸au,aF _,_,pushCells_keeps r _ _ _ (.cK),rfl⟩};{exact .inl hm}};{rw[Heap.size_push]at h2;exact .inr ⟨ak _ h1,u7 h2,h3⟩}};{rename_i hk;rw[.bV];rcases ua hm with hm|⟨h1,h2,h3⟩;{exact .inl hm};{exact .inr ⟨ak _ h1,h2,h3⟩}}
theorem yF:∀{names:.fa}{n:Nat}{acc:.bD}{p:Str×Addr},p∈acc->p∈cellsFrom n names acc|[],_,_,_,h=>h|(m,k)::r,n,acc,p,h=>by unfold cellsFrom;split;{exact yF (ak _ h)};{exact yF h}
theorem CY:∀{names:.fa}{n:Nat}{acc:.bD}{x:Str},(x,.cell)∈names->∃c,(x,c)∈cellsFrom n names acc|(m,k)::r,n,acc,x,h=>by unfold cellsFrom;rw[121];{cases e;exact⟨n,yF au⟩};{split;{exact CY h};{exact CY h}}
theorem CZ:∀{names:.fa}{h:Heap}{acc:.bD}{x y:Str}{c:Addr},(∀p∈acc,p.2<h.objs.size)->(∀x y c,(x,c)∈acc->(y,c)∈acc->x=y)->(x,c)∈.uf->(y,c)∈.uf->x=y|[],_,_,_,_,_,_,hi,h1,h2=>hi _ _ _ h1 h2|(n,k)::r,h,acc,x,y,c,hl,hi,h1,h2=>by unfold cellsFrom at h1 h2;split at h1;{rename_i hk;rw[.bP]at h2;rw[<-.CH]at h1 h2;refine CZ (h:=h.push _) (.eS) (fun x y c a b=>? _) h1 h2;{rw[Heap.size_push];rcases aJ.mp hp with rfl|hp;{exact mK _};{exact ma (hl p hp)}};{rcases aJ.mp a with e|a<;>rcases aJ.mp b with e'|b;{cases e;cases e';rfl};{cases e;exact absurd (hl _ b) (g_ _)};{cases e';exact absurd (hl _ a) (g_ _)};{exact hi _ _ _ a b}}};{rename_i hk;rw[.bV]at h2;exact CZ hl hi h1 h2}
theorem EU{M:Model}{A:Around}{E:.ax}{s:Shared}{scope:Scope}{globals:Addr}{closure:.bD}{qual:Str}{func:.bE}{code:Value}{around:Env}{builtins:Addr}{Q:Env->.bK}(h:Q (newEnv scope s.heap.objs.size globals (cellsFrom .dg scope.names closure) qual func code (some around) builtins) {s with heap:=pushCells (s.heap.push {cls:=.type "dict",data:=.dict #[]}) scope.names}):wpAny M A (newFunctionEnv scope globals closure [] qual func code (some around) builtins) Q E s:=by simp only[newFunctionEnv,UX,if_true];refine wpAny_bind (wpAny_alloc ? _);refine wpAny_bind (wpAny_layCells _ (fun n k c=>rfl) scope.names closure _ _ ? _);rw[show({s with heap:=s.heap.push {cls:=.type "dict",data:=.dict #[]}}:Shared).heap.objs.size=.hY from Heap.size_push ..];rw[ajd];exact wpAny_bind (wpAny_pure (.hb))
theorem xN{sc:Scope}:∀{names:.fa}{x:Str}{k:NameKind},(names.map fun(n,k)=>if(k==NameKind.free&&sc.kind==.function&&sc.names.lookup n==.e1)then(n,NameKind.cell)else(n,k)).lookup x=.dG->∃k',names.lookup x=some k'/\(k=k'\/(k'=.free/\k=.cell))|[],_,_,h=>.ix|(n,k₀)::r,x,k,h=>by have ih:=@xN sc r x k;have h':j7 x ((if .sQ then(n,NameKind.cell)else(n,k₀))::(r.map _))=.dG:=h;cases hx:x==n with|true=>simp only[gM,hx];by_cases hc:.sQ;{rw[.dQ]at h';rw[125];cases h';simp only[dQ,beq_iff_eq]at hc;exact⟨k₀,rfl,.inr ⟨hc.1.1,rfl⟩⟩};{rw[.fq]at h';rw[125];cases h';exact⟨_,rfl,.fu⟩}|false=>simp only[gM,hx];by_cases hc:.sQ;{rw[.dQ]at h';rw[125];exact ih h'};{rw[.fq]at h';rw[125];exact ih h'}
structure Gn(N:List Str)(sc scope:Scope)(own:List (Str×Nat)):Prop where
kind:scope.kind=.function
Kt:∀y∈scope.names,scope.names.lookup y.1=some y.2
ix:∀p∈own,N[p.2]?=some p.1
free:∀y∈scope.names,y.2=.free->sc.names.lookup y.1=some .cell\/sc.names.lookup y.1=some .free
own:∀y∈scope.names,y.2=.local\/y.2=.cell->y.1∈own.map (·.1)\/y.1∉N
def fU(σ:St):.ab->St|[]=>σ|v::vs=>(.d4).set v none
theorem tE(σ:St):∀vs:.ab,(.d4).length=σ.length|[]=>rfl|v::vs=>by unfold fU;rw[List.length_set,tE σ vs]
theorem za{σ:St}{i:Nat}{x:V}:∀{vs:.ab},(.d4)[i]?=some (.bu)->σ[i]?=some (.bu)/\i∉vs|[],h=>⟨h,.aN⟩|v::vs,h=>by unfold fU at h;by_cases hi:v=i;{subst hi;by_cases hv:v<(.d4).length;{rw[oY hv]at h;cases h};{rw[eO (by simpa using hv)]at h;cases h}};{rw[zA hi]at h;obtain⟨h1,h2⟩:=za h;exact⟨h1,by simp only[aJ,not_or];exact⟨fun e=>hi e.symm,h2⟩⟩}
abbrev Cx.vo(X:Cx)(s:Shared)(H:Hp)(scope:Scope)(cenv:Env)(fp:.ao):Cx:={X with wx:=s,H_0:=H,bA:=cenv,aY:=X.stack,ex:=fp,fn:=fun x=>scope.names.lookup x==some .cell,pn:=[],xe:=fun _ _=>False}
section
variable{X:Cx}{pins:List (Addr×Obj)}{σ:St}{H:Hp}{s:Shared}
theorem Ej{scope:Scope}{own:.hj}{fp:.ao}(I:.aa)(ok:.jG)(hN:X.N.Nodup)(Qc:∀b∈fp,.rZ/\b<s.heap.objs.size):Inv (X.vo s H scope (.zr) fp) [] (fU σ .eU) H {s with heap:=pushCells (s.heap.push {cls:=.type "dict",data:=.dict #[]}) scope.names}:=by rw[134];generalize Qa:.zr=cenv;have kp:∀b o,.dx->(pushCells (.h2) scope.names).get? b=.ah:=fun b o e=>pushCells_keeps _ _ _ _ (.es);have hL:cenv.locals=s.heap.objs.size:=.w1;have Tj:cenv.cells=.zq:=.w1;have hsc:cenv.scope=aDo scope X.bA.scope:=.w1;rw[<-Heap.size_push s.heap {cls:=.type "dict",data:=.dict #[]}]at Tj;(have cm:∀{y c},(y,c)∈.qK->.CJ:=fun{y c}hm=>by rcases sS hm with hm|⟨h1,rfl⟩;{cases hm};{obtain⟨c,hc⟩:=EH _ h1 rfl;rw[hc];obtain⟨w,z⟩:=I.cell _ _ hc;exact⟨rfl,z.lt⟩});(have mem:∀{y c},.gO->(.CJ)\/(.hY<=c/\Zb (pushCells (.h2) scope.names) c none):=fun{y c}e=>by rw[Tj]at e;rcases ua (cP e)with hm|⟨_,h2,h3⟩;{exact .inl (cm hm)};{rw[Heap.size_push]at h2;exact .inr ⟨h2,h3⟩});(have XJ:∀{y},.gN=.hD->∃c,.gO/\.CI:=fun{y}hl=>by have hy:(y,NameKind.free)∈scope.names:=cP hl;obtain⟨c',e'⟩:=As (yF (names:=scope.names) (n:=(.h2).objs.size) (xo (cells:=X.bA.cells) (acc:=[]) hy));rw[<-Tj]at e';refine⟨c',e',? _⟩;rw[Tj]at e';rcases ua (cP e')with hm|⟨h1,_,_⟩;{exact(cm hm).1};{have:=ok.Kt _ h1;rw[hl]at this;cases this});(have okB:(X.vo s H scope cenv fp).Ok:=by refine⟨I.ok.ET,by show cenv.scope.kind=_;rw[hsc];exact ok.kind,by show cenv.globals=_;rw[<-Qa];exact I.ok.C7,by show cenv.builtins=_;rw[<-Qa];exact I.ok.blt,by show s.heap.objs.size<=cenv.locals;rw[hL];rw[13],fun y z c e1 e2=>? _,.cg,fun y c z e=>? _,I.ok.hd,I.ok.frames,.fu,fun b hb=>⟨? _,fun y c e z=>? _⟩,I.bs,br I.ok.W7 I.sz,fun b o e hb=>? _,fun b hb z=>? _,I.stack,I.yW⟩;{have e1:.gO:=e1;have e2:cenv.cells.lookup z=.br:=e2;rw[Tj]at e1 e2;refine CZ (.eS) (fun y z c a b=>I.ok.inj y z c (cm a).1 (cm b).1) (cP e1) (cP e2);rw[Heap.size_push];exact ma (cm (y:=p.1) (c:=p.2) hp).2};{show∃c,.gO;(have key:∀k,cenv.kindOf y=.dG->(k=.cell\/k=.free)->∃c,.gO:=fun k hk Fq=>by unfold Env.kindOf at hk;rw[hsc]at hk;obtain⟨k',e,r⟩:=xN hk;(have:k'=.cell\/k'=.free:=by rcases r with rfl|⟨rfl,_⟩;{exact Fq};{exact .inr rfl});rcases this with rfl|rfl;{obtain⟨c,hm⟩:=CY (n:=(.h2).objs.size) (acc:=.qK) (cP e);obtain⟨c',e'⟩:=As hm;exact⟨c',by rw[Tj];exact e'⟩};{obtain⟨c,h1,_⟩:=XJ e;exact⟨c,h1⟩});rcases hy with hy|hy;{exact key _ hy .bB};{exact key _ hy .k8}};{have z:(.gN==some NameKind.cell)=true:=z;(have z:.gN=.e1:=by simpa using z);have e:.gO:=e;rw[Tj]at e;rcases ua (cP e)with hm|⟨_,h2,_⟩;{rcases sS hm with hm|⟨h1,_⟩;{cases hm};{have q:=ok.Kt _ h1;rw[z]at q;cases q}};{rw[Heap.size_push]at h2;exact u7 h2}};{show b≠cenv.locals;rw[hL];exact bS (Qc b hb).2};{rw[319];{exact(Qc b hb).1.2.2.2.2.1 y c h1 z};{(have h2:.hY<=b:=by rw[<-z];exact h1);exact absurd (bW (Qc b hb).2 (u7 h2)) (g_ _)}};{rcases(Qc b hb).1.2.2.2.1 with z|z;{exact I.ok.sh b o e z};{exact absurd (bW .hV (br I.ok.W7 z)) (g_ _)}};{rcases aJ.mp (I.Jb b z)with z|z;{exact(Qc b hb).1.2.1 z};{exact(Qc b hb).1.2.2.1 z}});refine⟨okB,rfl,I.lG,Un.ji kp,⟨.gu,? _,fun i y av e1 e2 e3=>? _⟩,fun y c e=>? _,? _,fun y c e=>? _,.eS,I.fb.ji kp,by rw[tE];exact I.j9⟩;{show Heap.Ns _ cenv.locals _;rw[hL];exact Heap.Ns.keeps (Heap.Ns.new ..) fun b o e=>pushCells_keeps _ _ _ _ e};{obtain⟨e2,mi⟩:=za e2;(have hfr:.AE:=by(have key:∀k,cenv.scope.names.lookup y=.dG->k=.local\/k=.cell\/k=.free->.AE:=fun k hk Fq=>by have hk0:=hk;rw[hsc]at hk;obtain⟨k',e,r⟩:=xN hk;(have no:¬(k'=.local\/k'=.cell):=fun hh=>by rcases ok.own _ (cP e) hh with e'|e';{obtain⟨p,hp,hpy⟩:=aX.mp e';have e3:=ok.ix p hp;have:p.1=y:=hpy;rw[this]at e3;exact mi (aX.mpr ⟨p,hp,HR hN e3 e1⟩)};{exact e' (aE e1)});rcases r with rfl|⟨rfl,rfl⟩;{rcases Fq with rfl|rfl|rfl;{exact absurd .bB no};{exact absurd .k8 no};{exact⟨e,.inr hk0⟩}};{exact⟨e,.inl hk0⟩});have e3:Vis cenv.scope y:=e3;rcases e3 with e3|e3|e3;{exact key _ e3 .bB};{exact key _ e3 (.inr .bB)};{exact key _ e3 (.inr .k8)});rw[107];have aCi:Vis X.bA.scope y:=(ok.free _ (cP hfr.1) rfl).elim (fun k=>.inr (.cz)) (fun k=>.inr (.inr k));obtain⟨w,r,q⟩:=hl i y av e1 e2 aCi;refine⟨w,r,.inr ⟨hfr.2,? _⟩⟩;obtain⟨c,h1,h2⟩:=XJ hfr.1;rcases q with⟨k,_⟩|⟨_,c',e',z⟩;{have k:.ug:=k;rcases ok.free _ (cP hfr.1) rfl with k'|k'<;>rw[show X.bA.scope.names.lookup y=_ from k']at k<;>cases k};{rw[h2]at e';cases e';exact⟨c,h1,z.keeps kp⟩}};{have e:.gO:=e;rcases mem e with⟨h1,_⟩|⟨_,z⟩;{obtain⟨w,z⟩:=I.cell y c h1;exact⟨w,z.keeps kp⟩};{exact⟨_,z⟩}};{show H cenv.locals=none;rw[hL];exact .dN};{rw[319];{exact I.mT y c h1};{exact I.fb.fresh (u7 h1)}};{exact .CK}
theorem Zx{E:.ax}{D:Addr}{xs:.aj}{y:V}{v:Value}{Q:.ax}(I:.aa)(hD:H D=.ff)(hz:xs.length<sizeLine)(r:e_ y v)(h:∀s',Inv X pins σ (aN H D (.bJ (xs++[y]))) s'->Q .none s'):wpAny .av X.A (call (.builtin "list.append") [.ref D,v]) Q E s:=by obtain⟨Qn,d7,n,ri,e⟩:=I.fb D _ hD;have hl:=ri.length;refine append_at (hsz:=.km) e fun h' sb Qj=>? _;refine h {s with heap:=h'} (I.Ct (t':=s.toks) (by rw[hD];trivial) .bB (fun b u hb q=>(sb.2 b hb).trans q) ⟨_,Qj⟩ ⟨by rw[ag];exact hz,d7++[v],n+1,ri.append (.cons r .nil),? _⟩);rw[Qj];simp
def PTs(X:Cx)(ifs:.bF)(t:TT):Prop:=∀(pins:.aA)(s:Shared)(σ:St)(H:Hp)(Q:.n9),.aa->t σ H Q->wpAny .av X.A (forIn ifs true fun c r=>if r=true then do let ok<-isTrue c X.bA (eval c X.bA);pure (u0 ok)else pure (u0 r)) .xZ X.xe s
def vQ:TT:=fun _ H Q=>Q true H
theorem jM:PTs X [] vQ:=fun _ _ _ H _ I h=>wpAny_tests_nil ⟨H,I,h⟩
end
theorem OA{α:Type}{t:Sem α}{Q Q':α->.bK}{M:Model}{A:Around}{E:.ax}{s:Shared}(h:wpAny M A t Q .hk s)(hQ:∀a s,Q a s->Q' a s):wpAny M A t Q' E s:=wpAny_mono h hQ fun _ _ z=>gD z
theorem Bj{prog:Program}{w:World}{A:Around}{R:Result->.bK}{s:Shared}{elt target iter:Expr}{ifs:.bF}{scope:Scope}{pos:Pos}{it acc:Value}{bA:Env}(I:Nat->.bK)(turn:∀n s,I n s->wpAny .bh A (pyNext it) (fun r s₁=>match r with|none=>R (.ok .next) s₁|some v=>wpAny .bh A (letOwnedTupleGo target it v) (fun _ s₁'=>wpAny .bh A (assign target bA v) (fun _ s₂=>wpAny .bh A (forIn ifs true fun c r=>if r=true then do let ok<-isTrue c bA (eval c bA);pure (u0 ok)else pure (u0 r)) (fun ok s₃=>if ok=true then wpAny .bh A (eval elt bA) (fun x s₄=>wpAny .bh A (call (.builtin "list.append") [acc,x]) (fun _ s₅=>∃m,m<n/\I m s₅) .jH s₄) .jH s₃ else∃m,m<n/\I m s₃) .jH s₂) .jH s₁') .jH s₁) .jH s)(n:Nat)(h:I n s):codeAny .bh A (.compLoop .CL 0 it acc bA) R s:=by refine codeAny_loop rfl I (fun n s hI=>? _) n h;show wpAny _ A ((compTurn .CL 0 it acc bA).onRaise (fun x=>do noteFrame x bA;theTreesLotGoes x)) _ _ s;refine wpAny_noted ? _;rw[compTurn_list];refine wpAny_bind (wpAny_standAt (wpAny_bind (wpAny_mono (turn n s hI) (fun r s₁ h₁=>? _) .eV)));cases r with|none=>exact wpAny_pure h₁|some v=>refine wpAny_bind (wpAny_mono h₁ (fun _ s₁' h₁'=>? _) .eV);refine wpAny_bind (wpAny_mono h₁' (fun _ s₂ h₂=>wpAny_bind (wpAny_mono h₂ (fun ok s₃ h₃=>? _) .eV)) .eV);cases ok with|false=>exact wpAny_pure ⟨rfl,h₃⟩|true=>exact wpAny_bind (wpAny_bind (wpAny_mono h₃ (fun x s₄ h₄=>wpAny_bind (wpAny_mono h₄ (fun _ s₅ h₅=>wpAny_pure (wpAny_pure ⟨rfl,h₅⟩)) .eV)) .eV))
section
variable{X:Cx}
def tLc(wi:TI)(g:TG)(tt:TT)(te:TE)(vs:.ab):TE:=fun σ H Q=>wi σ H fun J H1=>∀D,H1 D=none->∃W:.h4,.h5/\∀i m H,W i m H->(J.stop i H/\Q .dW H)\/(J.go i H/\∃Nx:.a3,.h6/\∀x H',J.WH i H x H'->.jI)
theorem VX{pins:.aA}{s:Shared}{σ:St}{H:Hp}{Q:VK}{elt tg iter:Expr}{ifs:.bF}{scope:Scope}{own:.hj}{pos pos':Pos}{wi:TI}{g:TG}{tt:TT}{te:TE}{use:.pQ}{Qf:.ax}(hc:.cJ)(hN:X.N.Nodup)(I:.aa)(hi:.kf)(ok:.jG)(hg:.sS)(ht:.sT)(he:.sU)(hs:.jC)(h:tLc wi g tt te .eU σ H Q)(hRR:∀D C s' m H',.ec->Q .dW H'->.r5->ze X pins H' C->compPost .av X.A X.xe use Qf .dW C (.ok .next) s'):.zu:=by rw[134];refine wpAny_comprehension_free (use:=use) rfl hs (GQ EH) ok.kind .En .AF;obtain⟨it,fp,tn,J,H2,e,I2,T,st2,f2,q⟩:=h2;subst e;refine wpAny_newObj_type (EU ? _) .uh;rw[212];rw[213];show codeAny _ _ .zv .AG {s3 with heap:=pushCells (s3.heap.push {cls:=.type "dict",data:=.dict #[]}) scope.names};rw[354];generalize hce:.oK=ce at I4 pg pt pe|-;rw[214];have Ja:∀{σ':St}{H':Hp}{s':Shared},Inv (.gP) [] σ' H' s'->.fJ->∀b∈fp,ze (.gP) [] H' b:=.zw;(have loop:codeAny .av X.A .FH .AG s4:=by refine Bj (fun n s'=>∃i H',Inv (.gP) [] (fU σ .eU) H' s'/\.nR/\.fJ/\W i n H') ? _ m0 ⟨0,H3,I4,st4,nfp,w0⟩;rw[215];{have td:=T.done (.gP) rfl rfl rfl hc i [] s5 _ H5 .hk I5 (Ja I5 n5) YA stop;refine OA td fun r s6⟨hr,I6⟩=>? _;subst hr;have I7:Inv X pins σ H5 s6:=.zx;(have nC:H5 s3.heap.objs.size=none:=by have z:H5 ce.locals=none:=I6.free;rw[cL]at z;exact z);obtain⟨m,hn,_⟩:=I6.CL;have hn:s6.heap.Ns ce.locals m:=hn;rw[cL]at hn;exact .AH};{have ti:=T.item (.gP) rfl rfl rfl hc i [] s5 _ H5 .hk I5 (Ja I5 n5) YA go;rw[216];refine OA .CM .FI;refine OA (pt _ s8 σ8 H8 _ I8 q8) fun b s9⟨H9,I9,q9⟩=>? _;have fin:∀{s':Shared}{H':Hp},Inv (.gP) ([]++Dy fp s7.heap) σ8 H' s'->Nx H'->∃m,m<n/\∃i H',Inv (.gP) [] (fU σ .eU) H' s'/\.nR/\.fJ/\W i m H':=.zy;cases b with|false=>simp only[bV,if_false]at q9|-;exact fin I9 q9|true=>simp only[if_true]at q9|-;refine OA (pe _ s9 σ8 H9 _ I9 q9) .CN;exact Zx (X:=.gP) I10 amf an2 r10 fun s11 I11=>fin I11 nx});exact .AI
theorem wu{elt tg iter:Expr}{ifs:.bF}{scope:Scope}{own:.hj}{pos:Pos}{wi:TI}{g:TG}{tt:TT}{te:TE}(hc:.cJ)(hN:X.N.Nodup)(hi:.kf)(ok:.jG)(hg:.sS)(ht:.sT)(he:.sU)(hs:.jC:=by intro _;rfl):PE X .jJ (tLc wi g tt te .eU):=by rw[3];rw[eval_ListComp];refine VX hc hN I hi ok hg ht he hs h fun D C s' m H' I' q hn f=>⟨m,hn,fun YY sb=>? _⟩;obtain⟨f0,f1,f2,f3,f4,f5⟩:=f;exact⟨.ref D,H',I'.nq (t':=s'.toks) .ui f0 f1 f3 f4 f5,rfl,q⟩
theorem yc{i:Nat}{y:Str}{py:Pos}{elt tg iter:Expr}{ifs:.bF}{scope:Scope}{own:.hj}{pos Od:Pos}{wi:TI}{g:TG}{tt:TT}{te:TE}(hc:.cJ)(hN:X.N.Nodup)(hy:X.N[i]?=some y)(hyl:.ug)(hsw:.zz)(hi:.kf)(ok:.jG)(hg:.sS)(ht:.sT)(he:.sU)(hs:.jC:=by intro _;rfl):.zA:=by rw[217];refine wpAny_bind (iu (VX (Qf:=fun _ s'=>SP X pins D .next s') hc hN I hi ok hg ht he hs h fun L C s' m H' I' q hn f=>? _) .Eo);rw[218]
theorem yX{elt:Expr}{gs:List Comprehension}{scope:Scope}{pos py:Pos}{y:Str}{l:Nat}{bA:Env}(hk:bA.scope.kind=.function)(hy:bA.scope.names.lookup y=.dS)(hl:(py.line==pos.line)=true)(ha:(scope.names.any fun(n,k)=>n==y&&(k==.local||k==.cell))=false):swapsWith (.ListComp elt gs scope pos) (some (.Name y py)) l bA=pure true:=by have ky:bA.kindOf y=.dS:=hy;(have hb:bA.blockKind=.function:=by unfold Env.blockKind;rw[hk];rfl);unfold swapsWith;simp only[hb,ky,ha,Expr.pos,hl];rfl
end
theorem ab1{lo:Int}{n:Nat}{g:TG}{tt:TT}{te:TE}{vs:.ab}{σ:St}{H1:Hp}{D:Addr}{Qd:.a3}(Pv:.h3)(h0:.jK)(hs:∀i H,i<n->Pv i H->g (.int (lo+i)) (.d4) H .lI)(hd:∀H,Pv n H->Qd H):∃W:.h4,.h5/\∀i m H,W i m H->((Itr lo n).stop i H/\Qd H)\/((Itr lo n).go i H/\∃Nx:.a3,.h6/\∀x H',(Itr lo n).WH i H x H'->.jI):=by refine⟨fun i m H=>m=n-i/\i<=n/\Pv i H,⟨n,.aN,bw _,h0⟩,? _⟩;rw[111];by_cases jc:i<n;{refine .inr ⟨jc,.e2,fun H' p'=>⟨n-.aH,.o,rfl,jc,p'⟩,.fj⟩;obtain⟨e,y⟩:=y;subst e y;exact hs i _ jc p};{have e:i=n:=.o;subst e;exact .vF}
theorem oj{K:ae}{a:Addr}{xs:.aj}{g:TG}{tt:TT}{te:TE}{vs:.ab}{σ:St}{H1:Hp}{D:Addr}{Qd:.a3}(Pv:.h3)(h0:.jK)(hl:∀i H,.iI->Pv i H->.bZ)(hs:∀i x H,.e8->.zB)(hd:.vG):∃W:.h4,.h5/\∀i m H,W i m H->((Itl K a).stop i H/\Qd H)\/((Itl K a).go i H/\∃Nx:.a3,.h6/\∀x H',(Itl K a).WH i H x H'->.jI):=by rw[135];have q:=hl i H hi p;rw[82];{refine .inr ⟨.x8,.e2,.sV,.fj⟩;rw[108];exact hs i x _ (y xs q) p};{have e:i=xs.length:=.o;subst e;exact .inl ⟨⟨xs,q,aF _⟩,hd H p⟩}
section
variable{κ:Type} [DecidableEq κ]
def j6(kvs:.ct)(k:κ):.bL:=(kvs.find? .oL).map .bA
def nW(kvs:.ct)(k:κ)(v:V):.ct:=if .rx=true then kvs.map (fun kv=>if kv.1=k then(kv.1,v)else kv)else kvs++[(k,v)]
theorem lZ{p:κ×V}{r:.ct}{k:κ}(e:p.1=k):j6 (p::r) k=some p.2:=by simp[j6,gC,e]
theorem lY{p:κ×V}{r:.ct}{k:κ}(e:¬p.1=k):j6 (p::r) k=j6 r k:=by simp[j6,gC,e]
theorem uV(k:κ):∀kvs:.ct,.rx=(.gz).isSome|[]=>rfl|p::r=>by rw[qr];by_cases e:p.1=k;{simp only[lZ e,decide_eq_true e,ap9,UX]};{rw[lY e,.xW,al0];exact uV k r}
theorem RQ(k j:κ)(y:V):∀kvs:.ct,j6 .uj j=(j6 kvs j).map fun x=>if j=k then y else x|[]=>rfl|p::r=>by have ih:=RQ k j y r;rw[aO];by_cases h:p.1=k;{rw[.cn];by_cases e:p.1=j;{rw[lZ (p:=(p.1,y)) e,lZ e,je,if_pos (e.symm.trans h)]};{rw[lY (p:=(p.1,y)) e,lY e,ih]}};{rw[.cp];by_cases e:p.1=j;{rw[lZ (p:=p) e,lZ e,je,if_neg (fun z=>h (e.trans z))]};{rw[lY (p:=p) e,lY e,ih]}}
theorem Me(k j:κ)(y:V):∀kvs:.ct,.gz=none->j6 (kvs++[(k,y)]) j=if j=k then some y else j6 kvs j|[],_=>by by_cases e:k=j;{rw[if_pos e.symm];exact lZ (p:=(k,y)) e};{rw[if_neg (fun z=>e z.symm)];exact lY (p:=(k,y)) e}|p::r,hn=>by rw[fM];(have hk:¬p.1=k:=fun z=>by rw[lZ z]at hn;cases hn);rw[lY hk]at hn;have ih:=Me k j y r hn;by_cases e:p.1=j;{rw[lZ e,lZ e,if_neg (fun z=>hk (e.trans z))]};{rw[lY e,lY e,ih]}
theorem xJ(kvs:.ct)(k:κ)(v:V):(.lp).length<=kvs.length+1:=by unfold nW;split;{rw[aa];omega};{rw[ag,aw,cg];omega}
theorem acj{kvs:.ct}{k:κ}(v:V)(h:.gz=none):.lp=kvs++[(k,v)]:=by unfold nW;rw[uV,h];exact .aE
theorem t9.ur{o:.bL}{u:.dR}(r:t9 o u):o.isSome=u.isSome:=by cases o with|none=>(cases u with|none=>rfl|some _=>exact(show False from r).elim)|some _=>cases u with|none=>exact(show False from r).elim|some _=>rfl
theorem t9.getD{o:.bL}{u:.dR}{d:V}{d':Value}(r:t9 o u)(rd:e_ d d'):e_ (o.getD d) (u.getD d'):=by cases o with|none=>(cases u with|none=>exact rd|some _=>exact(show False from r).elim)|some _=>cases u with|none=>exact(show False from r).elim|some _=>exact r
theorem KV.val{kvs:.ct}{vs:.iD}(r:.fy)(k:κ):t9 (.gz) (valueAt vs k):=by unfold KV at r;induction r with|nil=>exact jR|@cons p q ps qs h t ih=>rw[122];by_cases e:p.1=k;{have e':q.1=k:=.ry;(have b:valueAt (q::qs) k=some q.2:=by simp[valueAt,gC,e']);rw[lZ e,b];exact h2};{have e':¬q.1=k:=.qL;(have b:valueAt (q::qs) k=valueAt qs k:=by simp[valueAt,gC,e']);rw[lY e,b];exact ih}
theorem KV.any{kvs:.ct}{vs:.iD}(r:.fy)(k:κ):.rx=vs.any .oL:=by unfold KV at r;induction r with|nil=>rfl|cons h t ih=>rw[qr,qr,ih,h.1]
theorem KV.aoh{kvs:.ct}{vs:.iD}(r:.fy)(k:κ){y:V}{u:Value}(ry:.cx):KV .uj (vs.map fun kv=>if kv.1=k then(kv.1,u)else kv):=by unfold KV at r|-;induction r with|nil=>exact .nil|@cons p q ps qs h t ih=>rw[aO,aO];refine .cons ? _ ih;rw[122];by_cases e:p.1=k;{rw[.du,if_pos (.ry)];exact⟨h1,ry⟩};{rw[.cL,if_neg (.qL)];exact .ob}
theorem KV.put{kvs:.ct}{vs:.iD}(r:.fy)(k:κ){y:V}{u:Value}(ry:.cx):KV (nW kvs k y) (stored vs k u):=by unfold nW stored;rw[r.any k];by_cases e:(vs.any .oL)=true;{rw[.du,.du];exact r.aoh k ry};{rw[.cL,.cL];exact Paired.snoc r ⟨rfl,ry⟩}
theorem KV.length{kvs:.ct}{vs:.iD}(r:.fy):.qM:=Paired.length r
end
theorem Bx{P:Program}{w:World}{k:gx}{u:Value}(r:e_ (kV k) u):(fk P w).is k u=true:=by cases k with|inl i=>obtain⟨t,e⟩:=(show .qA from r);subst e;exact xS P w i t|inr x=>obtain⟨t,e⟩:=(show∃t,u=Value.str x t from r);subst e;exact Qy P w x t
theorem Lv{P:Program}{w:World}:∀{ks:List gx}{us:.ar},dP (ks.map kV) us->ItemsAre .js ks us|[],_,r=>by rw[eX]at r;cases r;exact .nil|k::ks,_,r=>by rw[aO]at r;cases r with|cons h t=>exact .cons (Bx h) (Lv t)
abbrev KT(H:Hp):.hl->.hU->Prop:=Paired fun p q=>.Ao
theorem KT.val{H:Hp}{kvs:.hl}{xs:.hU}(r:.oc)(k:List gx):t9 (.gz) ((atKey xs k).map .bA):=by induction r with|nil=>exact jR|@cons p q ps qs h t ih=>obtain⟨h1,_,h2⟩:=h;by_cases e:p.1=k;{have e':q.1=k:=.ry;(have b:atKey (q::qs) k=some q.2:=by simp[atKey,gC,e']);rw[lZ e,b];exact h2};{have e':¬q.1=k:=.qL;(have b:atKey (q::qs) k=atKey qs k:=by simp[atKey,gC,e']);rw[lY e,b];exact ih}
theorem KT.aoh{H:Hp}{kvs:.hl}{xs:.hU}(r:.oc)(k:List gx){y:V}{u:Value}(ry:.cx):KT H .uj (xs.map (putAt k u)):=by induction r with|nil=>exact .nil|@cons p q ps qs h t ih=>rw[aO,aO];refine .cons ? _ ih;obtain⟨h1,h2,h3⟩:=h;unfold putAt;by_cases e:p.1=k;{rw[.du,if_pos (.ry)];exact⟨h1,h2,ry⟩};{rw[.cL,if_neg (.qL)];exact⟨h1,h2,h3⟩}
theorem KT.put{H:Hp}{kvs:.hl}{xs:.hU}(r:.oc)(k:List gx){b:Addr}{y:V}{u:Value}(hb:.vH)(ry:.cx):KT H (nW kvs k y) (storedH xs k b u):=by(have e:.rx=(atKey xs k).isSome:=by rw[uV,(r.val k).ur,tK]);unfold nW storedH;rw[e];by_cases q:(atKey xs k).isSome=true;{rw[if_pos q,if_pos q];exact r.aoh k ry};{rw[if_neg q,if_neg q];exact Paired.snoc r ⟨rfl,hb,ry⟩}
theorem KT.keeps{H H':Hp}{kvs:.hl}{xs:.hU}(r:.oc)(ht:∀b ys,H b=some (.fL ys)->H' b=some (.fL ys)):KT H' kvs xs:=Paired.ab4 r fun _ _ z=>⟨z.1,ht _ _ z.2.1,z.2.2⟩
section
variable{P:Program}{w:World}{H:Hp}{h:Heap}{a:Addr}
theorem akp{u:HO}(ok:.cj)(e:Rd H a u):i5 P w H h a u:=e.ok ok
theorem Er{kvs:.az}(ok:.cj)(e:Rd H a .cT):.sJ:=show i5 P w H h a .cT from akp ok e
theorem aju{kvs:.az}(ok:.cj)(e:H a=.ei):.sJ:=Er ok (.inl e)
theorem C_{ks:List gx}(ok:.cj)(e:H a=some (.fL (ks.map kV))):(.qB).is h ks a:=by obtain⟨_,d7,r,o,h1,h2,n,h3⟩:=(show i5 P w H h a (.fL (ks.map kV))from ok a _ e);exact⟨o,d7.toArray,n,h1,h2,h3,by simpa using Lv r⟩
theorem GX{kvs:.hl}(ok:.cj)(e:Rd H a .jl):.zC:=by obtain⟨z,y,xs,r,o,es,ep,h1,h2,h3,h4,h5⟩:=(show i5 P w H h a .jl from akp ok e);refine⟨z,y,xs,r,o,es,ep,h1,h2,h3,h4,.fk,h5⟩;(have all:∀{l:.hl}{m:.hU},KT H l m->∀x∈m,(.qB).is h x.1 x.2.1:=by intro l m q;induction q with|nil=>intro x hx;exact nomatch hx|@cons p q ps qs hq t ih=>intro x hx;rcases aJ.mp hx with e|hx;{subst e;exact C_ ok (by rw[<-hq.1];exact hq.2.1)};{exact ih x hx});exact all r x hx
theorem as4{kvs:.hl}(ok:.cj)(e:H a=some .jl):.zC:=GX ok (.inl e)
end
def pf(H:Hp)(a:Addr)(y:V)(r:.bL):Prop:=(∃kvs k,Rd H a .cT/\y=kV k/\r=.gz)\/∃kvs k b,Rd H a .jl/\y=.cP/\.vH/\r=.gz
def Gq(H:Hp)(a:Addr)(y v:V)(H':Hp):Prop:=(∃kvs k,H a=.ei/\y=kV k/\.x9/\H'=aN H a (.dK (.lp)))\/∃kvs k b,H a=some .jl/\y=.cP/\.vH/\.x9/\H'=aN H a (.dT (.lp))
theorem pf.k{H:Hp}{a:Addr}{kvs:.az}{k:gx}(e:H a=.ei):pf H a (kV k) (.gz):=.inl ⟨kvs,k,.inl e,rfl,rfl⟩
theorem Gq.k{H:Hp}{a:Addr}{kvs:.az}{k:gx}{v:V}(e:H a=.ei)(hl:.x9):Gq H a (kV k) v (aN H a (.dK (.lp))):=.inl ⟨kvs,k,e,rfl,hl,rfl⟩
section
variable{X:Cx}{pins:List (Addr×Obj)}{σ:St}{H:Hp}{s:Shared}{a:Addr}{y v:V}{u r:Value}{o:Option V}{A:Around}{E:Value->Shared->Prop}
theorem Inv.big(I:.aa):sysModules<s.heap.objs.size:=by have h:mainGlobals<s.heap.objs.size:=(I.ET.C7.keeps I.bk).lt;exact xh .aD h
theorem Xd{Q:.ax}(hu:.ko)(I:.aa)(g:pf H a y (.a4))(ry:.cx)(h:∀w' s',.kh->e_ v w'->Q w' s'):wpAny .av A (getItem .bY u) Q E s:=by rw[95];{subst ey;rw[75];obtain⟨w',hw,rw'⟩:=t9.Gd (v:=v) (o:=valueAt vs k) .FJ;exact wpAny_getItem_of (Bx ry) dd.mapOf hw (h w' _ (.bz) rw')};{rw[96];obtain⟨w',hw,rw'⟩:=t9.Gd (v:=v) (o:=(atKey xs k).map .bA) .FJ;obtain⟨p,hp,hp2⟩:=oK.mp hw;refine wpAny_getItem_heap (tupleKind_room_in1 hu) .r6 dd hp ? _;rw[hp2];exact h w' _ (.bz) rw'}
theorem aA0{Q:.ax}(hu:.ko)(I:.aa)(g:pf H a y o)(ry:.cx)(h:∀s',.kh->Q (.bool o.isSome) s'):wpAny .av A (compareOp .In u .bY) Q E s:=by rw[95];{subst ey;rw[75];refine wpAny_in_of (Bx ry) hd dd.mapOf ? _;rw[<-(zV.val k).ur,<-l];exact h _ (.bz)};{rw[96];refine wpAny_in_heap (tupleKind_room_in1 hu) .r6 hd dd ? _;rw[320]}
theorem afq{Q:.ax}(hu:.ko)(I:.aa)(g:pf H a y o)(ry:.cx)(h:∀s',.kh->Q (.bool (! o.isSome)) s'):wpAny .av A (compareOp .NotIn u .bY) Q E s:=by rw[95];{subst ey;rw[75];refine wpAny_notIn_of (Bx ry) hd dd.mapOf ? _;rw[<-(zV.val k).ur,<-l];exact h _ (.bz)};{rw[96];refine wpAny_notIn_heap (tupleKind_room_in1 hu) .r6 hd dd ? _;rw[320]}
theorem MF{h':Heap}{t':Nat}{ob:HO}(I:.aa)(mu:Mut (H a))(hs:.e7)(he:∃q,.ji=some q)(new:i5 X.prog X.w (aN H a ob) h' a ob):Inv X pins σ (aN H a ob) {s with heap:=h',toks:=t'}:=I.Ct (x:=a) (e:=a) mu .bB (fun b q hb z=>(hs.2 b hb).trans z) he new
theorem Z3{P:Program}{w:World}{H':Hp}{h':Heap}{kvs:.az}{vs:.nu}(z:.pC)(hd:.iE)(zV:.fy)(dd:h'.DictOf .js a vs):i5 P w H' h' a .cT:=⟨z,hd,vs,zV,dd⟩
theorem Xf{H':Hp}{Q:.bW}(hu:.ko)(I:.aa)(g:Gq H a y v H')(ry:.cx)(rv:e_ v r)(h:∀s',.ec->Q () s'):wpAny .av A (setItem .bY u r) Q E s:=by rcases g with⟨kvs,k,e,ey,l,eH⟩|⟨kvs,k,b,e,ey,eb,l,eH⟩;{subst ey eH;obtain⟨z,hd,vs,zV,dd⟩:=aju I.fb e;(have hz:.qN:=by rw[<-zV.length];exact z);rw[321];refine wpAny_setItem_pairs (hsz:=hz) (Bx ry) dd fun h' dd' hs=>h _ ? _;have he:∃q,.ji=some q:=let⟨q,_,_,hq,_⟩:=dd';⟨q,hq⟩;exact MF I .pI hs he (Z3 hl hd (zV.put k rv) dd')};{subst ey eH;cases(show u=Value.ref b from ry);obtain⟨z,hd,xs,zV,dd⟩:=as4 I.fb e;(have hz:.gK:=by rw[<-Paired.length zV];exact z);rw[321];refine wpAny_setItem_heap (hsz:=hz) (tupleKind_room_in1 hu) .r6 dd fun h' dd' hs=>h _ ? _;obtain⟨q,es,ep,hq,h2,h3,h4,_,h5⟩:=dd';refine MF I .pI hs ⟨q,hq⟩ ⟨hl,hd,_,(zV.put k eb rv).keeps fun c ys ec=>? _,q,es,ep,hq,h2,h3,h4,h5⟩;rw[ai (cv ec e .bt)];exact ec}
end
section
variable{X:Cx}{pins:List (Addr×Obj)}{σ:St}{H:Hp}{s:Shared}{a:Addr}{kvs:List (gx×V)}{k:gx}{u:Value}{A:Around}{E:Value->Shared->Prop}
theorem as3{Q:.ax}(I:.aa)(e:Rd H a .cT)(h:∀t s',.kh->Q (.int kvs.length t) s'):wpAny .av A (call .kl .fi) Q E s:=by rw[75];refine call_len_dict hd dd (by rw[<-zV.length];rw[sizeLine_eq]at z;omega) ? _;rw[<-zV.length];exact h _ _ (.bz)
end
def al6(i:Expr):Prop:=∀ov iv,subscripted i false ov iv=operate [ov,iv] (getItem ov iv)
theorem Wz{prog:Program}{w:World}{A:Around}{E:.ax}{s:Shared}{bA:Env}{value slice:Expr}{pos:Pos}{T id:String}{Q:.ax}(hl:.Az)(hs:al6 slice)(h:wpAny .bh A (eval value bA) (fun o s₁=>wpAny .bh A (eval slice bA) (fun i s₂=>s₂.TypeIs o T/\wpAny .bh A (getItem o i) Q E s₂) E s₁) E s):wpAny .bh A (eval (.Subscript value slice pos) bA) Q E s:=by refine Subscript_ (wpAny_mono h (fun o s₁ h₁=>wpAny_mono h₁ (fun i s₂ h₂=>? _) fun _ _ x=>x) fun _ _ x=>x);obtain⟨hT,h₂⟩:=h₂;unfold subscriptTail;rw[16];rw[getitemInPython_of_ne hT.not_modules];refine wpAny_bind (wpAny_specialOf hT hl ? _);(have fin:wpAny .bh A (subscripted slice false o i) (fun r s₃=>wpAny .bh A (letTemporaryGo value o r>>=fun _=>pure r) Q E s₃) E s₂:=by rw[hs o i];exact wpAny_operating (wpAny_mono h₂ (fun r s₃ h₃=>wpAny_bind (wpAny_letTemporaryGo (wpAny_pure h₃))) fun _ _ x=>x));first|exact wpAny_pure (wpAny_bind fin)|exact wpAny_bind (wpAny_pure (wpAny_bind fin))|exact wpAny_bind fin
theorem PK{X:Cx}{pins:.aA}{σ:St}{H:Hp}{s:Shared}{a:Addr}{y:V}{o:.bL}(I:.aa)(g:pf H a y o):s.TypeIs .bY "dict":=by rcases g with⟨kvs,k,e,_,_⟩|⟨kvs,k,b,e,_,_,_⟩;{obtain⟨_,_,vs,_,dd⟩:=Er I.fb e;exact dd.typeIs};{obtain⟨_,_,xs,_,dd⟩:=GX I.fb e;exact dd.typeIs}
def RC(td ty:TE):TE:=fun σ H Q=>td σ H fun x H1=>ty σ H1 fun y H2=>∃a v,.dA/\pf H2 a y (.a4)/\Q v H2
def avs(ty td:TE):TE:=fun σ H Q=>ty σ H fun y H1=>td σ H1 fun x H2=>∃a o,.dA/\pf H2 a y o/\Q (.bl o.isSome) H2
def Oo(ty td:TE):TE:=fun σ H Q=>ty σ H fun y H1=>td σ H1 fun x H2=>∃a o,.dA/\pf H2 a y o/\Q (.bl (! o.isSome)) H2
def Iq(td ty tv:TE):TS:=fun D σ H=>tv σ H fun v H1=>td σ H1 fun x H2=>ty σ H2 fun y H3=>∃a H4,.dA/\Gq H3 a y v H4/\D.nx σ H4
section
variable{X:Cx}{o i e value:Expr}{pos pos' AN:Pos}{td ty tv:TE}
theorem yR(hu:.my)(ho:PE X o td)(hi:PE X i ty)(hs:al6 i):PE X (.Subscript o i pos) (RC td ty):=by rw[3];refine Wz JB.lookup hs (iu .lH fun u s1⟨x,H1,I1,rx,q1⟩=>iu (hi pins s1 σ H1 _ I1 q1) fun iv s2⟨y,H2,I2,ry,a,v,ex,g,q2⟩=>? _);rw[39];exact⟨PK I2 g,Xd hu I2 g ry fun w' s3 I3 rw'=>⟨v,H2,I3,rw',q2⟩⟩
theorem ao2(hu:.my)(hi:PE X i ty)(ho:PE X o td):PC X .In i o (avs ty td):=by rw[3];refine iu .kg fun iv s1⟨y,H1,I1,ry,q1⟩=>iu (ho pins s1 σ H1 _ I1 q1) fun u s2⟨x,H2,I2,rx,a,ov,ex,g,q2⟩=>? _;rw[39];exact aA0 hu I2 g ry fun s3 I3=>⟨.bl ov.isSome,H2,I3,rfl,q2⟩
theorem LO(hu:.my)(hi:PE X i ty)(ho:PE X o td):PC X .NotIn i o (Oo ty td):=by rw[3];refine iu .kg fun iv s1⟨y,H1,I1,ry,q1⟩=>iu (ho pins s1 σ H1 _ I1 q1) fun u s2⟨x,H2,I2,rx,a,ov,ex,g,q2⟩=>? _;rw[39];exact afq hu I2 g ry fun s3 I3=>⟨.bl (! ov.isSome),H2,I3,rfl,q2⟩
theorem tq(hu:.my)(ho:PE X o td)(hi:PE X i ty)(hv:PE X value tv)(hs:swapsWith value (some (.Subscript o i pos')) pos.line X.bA=pure false):PS X (.Assign [.Subscript o i pos'] value pos) (Iq td ty tv):=by rw[14];refine wpAny_Assign_Subscript (iu (hv pins s σ H _ I h) fun r s1⟨v,H1,I1,rv,q1⟩=>iu (ho pins s1 σ H1 _ I1 q1) fun u s2⟨x,H2,I2,rx,q2⟩=>iu (hi pins s2 σ H2 _ I2 q2) fun iv s3⟨y,H3,I3,ry,a,H4,ex,g,q3⟩=>? _) hs;rw[39];exact Xf hu I3 g ry rv fun s4 I4=>⟨σ,H4,I4,q3⟩
end
theorem PL{P:Program}{w:World}{H:Hp}(h:Heap)(hb:sysModules<h.objs.size):i5 P w H (h.push {cls:=.type "dict",data:=.dict #[]}) h.objs.size .cX:=⟨bw _,beq_eq_false_iff_ne.mpr (cW (bS hb)),[],.nil,Heap.DictOf.new h⟩
def UB:TE:=fun _ H Q=>∀p,.bM->Q .b6 (aN H p .cX)
section
variable{X:Cx}{pos:Pos}
theorem sv:PE X (.Dict [] [] pos) UB:=fun pins s σ H Q I h=>wpAny_Dict_empty ⟨.eL,_,I.laid (a:=s.heap.objs.size) (o:=.dK []) (t':=s.toks) (fun _ _ q=>.fK) .aS (PL s.heap I.big),rfl,h _ (.dN)⟩
end
def UC:.nv->St->Hp->(List (V×V)->.a3)->Prop|[],_,H,Q=>Q [] H|(tk,tv)::r,σ,H,Q=>tk σ H fun x H1=>tv σ H1 fun y H2=>UC r σ H2 fun ps H3=>Q ((x,y)::ps) H3
abbrev VV:List (V×V)->List (Value×Value)->Prop:=Paired fun p q=>e_ p.1 q.1/\e_ p.2 q.2
def PPs(X:Cx)(pos:Pos)(zr:.ya)(values:.bF)(trs:.nv):Prop:=∀(pins:.aA)(s:Shared)(σ:St)(H:Hp)(Q:List (V×V)->.a3),.aa->UC trs σ H Q->wpAny .av X.A (evalPairs (pairTrees zr values X.bA pos)) (fun vs s'=>∃ps H',.ec/\VV ps vs/\Q ps H') X.xe s
theorem ahu{X:Cx}{pos:Pos}:PPs X pos [] [] []:=fun pins s σ H Q I h=>pairTrees_nil_walk ⟨[],H,I,.nil,h⟩
theorem acg{X:Cx}{pos:Pos}{k v:Expr}{ks:.ya}{vs:.bF}{tk tv:TE}{trs:.nv}(hk:PE X k tk)(hv:PE X v tv)(hr:PPs X pos ks vs trs):PPs X pos (.dG::ks) (v::vs) ((tk,tv)::trs):=fun pins s σ H Q I h=>pairTrees_cons_walk (iu (hk pins s σ H _ I h) fun u s1⟨x,H1,I1,rx,q1⟩=>iu (hv pins s1 σ H1 _ I1 q1) fun w2 s2⟨y,H2,I2,ry,q2⟩=>iu (hr pins s2 σ H2 _ I2 q2) fun ws s3⟨ps,H3,I3,zV,q3⟩=>⟨(x,y)::ps,H3,I3,.cons ⟨rx,ry⟩ zV,q3⟩)
def HK(kvs more:.az):.az:=more.foldl (fun acc kv=>nW acc kv.1 kv.2) kvs
theorem KV.merge:∀{more:.az}{rs:.nu}{kvs:.az}{vs:.nu},KV more rs->.fy->KV (HK kvs more) (merged vs rs):=by intro more rs kvs vs r;unfold KV at r;induction r generalizing kvs vs with|nil=>intro q;exact q|@cons p q ps qs h t ih=>intro r0;(have e:KV .yb (stored vs q.1 q.2):=by have:=r0.put p.1 h.2;rw[<-h.1];rw[5]);exact ih e
theorem zO:∀(more kvs:.az),(HK kvs more).length<=kvs.length+more.length|[],kvs=>by show kvs.length<=kvs.length+0;omega|p::r,kvs=>by have h1:=zO r .yb;have h2:=xJ kvs p.1 p.2;show(HK .yb r).length<=_;rw[aw];omega
theorem GP{P:Program}{w:World}:∀{kvs:.az}{ws:List (Value×Value)},VV (kvs.map fun kv=>(kV kv.1,kv.2)) ws->∃rs,Carries .js ws rs/\KV kvs rs|[],_,r=>by rw[eX]at r;cases r;exact⟨[],jR,.nil⟩|p::kvs,_,r=>by rw[aO]at r;cases r with|@cons a b as bs h t=>obtain⟨rs,c,q⟩:=GP (P:=P) (w:=w) t;obtain⟨b1,b2⟩:=b;exact⟨(p.1,b2)::rs,⟨Bx h.1,rfl,c⟩,.cons ⟨rfl,h.2⟩ q⟩
def avt(trs:.nv):TE:=fun σ H Q=>∀p,.bM->UC trs σ (aN H p .cX) fun ps H2=>H2 p=.iL/\∃kvs:.az,ps=kvs.map (fun kv=>(kV kv.1,kv.2))/\kvs.length<=15/\Q .b6 (aN H2 p (.dK (HK [] kvs)))
theorem aho{X:Cx}{pos:Pos}{zr:.ya}{values:.bF}{trs:.nv}(h:PPs X pos zr values trs)(uk:zr.all (·.isSome)=true)(hl:zr.length=values.length)(h0:zr≠[])(h15:zr.length<=15):PE X (.Dict zr values pos) (avt trs):=by intro pins s σ H Q I q;have hn:=I.fb.fresh (aF s.heap.objs.size);have I1:=I.laid (a:=s.heap.objs.size) (o:=.dK []) (h':=.h2) (t':=s.toks) (fun _ _ q=>.fK) .aS (PL s.heap I.big);refine wpAny_Dict_walk (knd:=.gc) uk hl h0 h15 (iu (h pins _ σ _ _ I1 (q _ hn)) fun ws s2⟨ps,H2,I2,zV,e,kvs,ep,lk,q2⟩=>? _);subst ep;obtain⟨rs,c,rk⟩:=GP (P:=X.prog) (w:=X.w) zV;obtain⟨z,hd,vs0,r0,dd⟩:=aju I2.fb e;cases r0;refine⟨rs,c,dd,fun h' dd' hs=>⟨.eL,_,? _,rfl,q2⟩⟩;(have hz:(HK [] kvs).length<=sizeLine:=by have h1:=zO kvs [];rw[cg]at h1;rw[53];omega);have he:∃q,.h1=some q:=let⟨q,_,_,hq,_⟩:=dd';⟨q,hq⟩;exact MF I2 .pI hs he (Z3 hz hd (rk.merge .nil) dd')
structure M2(X:Cx)(o:Expr)(m:Str)(apos:Pos)(e f:Expr)(mQ:Pos):Prop where
base:attributeBase o m X.bA (eval o X.bA)=eval o X.bA
few:((backTo mQ (starEach [e,f] X.bA)).all (fun x=>! x.1)&&(backToKw mQ (keywordEach [] X.bA)).all (fun x=>x.1.isSome)&&decide (([e,f]:List Expr).length+([]:List Keyword).length+(if([]:List Keyword).isEmpty then 0 else 1)<30))=true
line:(apos.endLine==mQ.line)=true
df:backTo mQ (starEach [e,f] X.bA)=[(false,eval e X.bA),(false,eval f X.bA)]
def IsD(H:Hp)(a:Addr):Prop:=(∃kvs,Rd H a .cT)\/∃kvs,Rd H a .jl
theorem an6{X:Cx}{pins:.aA}{σ:St}{H:Hp}{s:Shared}{a:Addr}(I:.aa)(d:IsD H a):s.TypeIs .bY "dict"/\(∀b,.f5=.cP->∃ob,.gq=some ob/\ob.dict=none)/\.iE:=by rcases d with⟨kvs,e⟩|⟨kvs,e⟩;{obtain⟨_,hd,vs,_,dd⟩:=Er I.fb e;rw[219]};{obtain⟨_,hd,xs,_,dd⟩:=GX I.fb e;rw[219]}
section
variable{X:Cx}{pins:List (Addr×Obj)}{σ:St}{H:Hp}{s:Shared}{a:Addr}{y d:V}{u r:Value}{o:Option V}{A:Around}{E:Value->Shared->Prop}
theorem alw{Q:.ax}(hu:.ko)(I:.aa)(g:pf H a y o)(ry:.cx)(rd:e_ d r)(h:∀w' s',.kh->e_ (o.getD d) w'->Q w' s'):wpAny .av A (call (.builtin "dict.get") [.b2,u,r]) Q E s:=by rw[95];{subst ey;rw[75];refine call_meetsIn wD dd.typeIs Mn (KE _ _ _) (meets_dict_get_default (.gc) a (Bx ry) hd r) ⟨_,dd.mapOf,h _ _ (.bz) ? _⟩;rw[l];exact(zV.val k).getD rd};{rw[96];refine call_meetsIn wD dd.typeIs Mn (KE _ _ _) (meetsH_dict_get_default (tupleKind (.gc)) a b hd r) ⟨tupleKind_room_in1 hu,k,xs,C_ I.fb eb,dd,h _ _ (.bz) ? _⟩;rw[l];exact(zV.val k).getD rd}
end
def Je(td ty tx:TE):TE:=fun σ H Q=>td σ H fun x H1=>∃a,.dA/\IsD H1 a/\ty σ H1 fun y H2=>tx σ H2 fun z H3=>∃o,pf H3 a y o/\Q (o.getD z) H3
section
variable{X:Cx}{o e f:Expr}{apos mQ:Pos}{td ty tx:TE}
theorem xX(hu:.my)(ho:PE X o td)(he:PE X e ty)(hf:PE X f tx)(m:M2 X o "get" apos e f mQ):PE X (.Call (.Attribute o "get" apos) [e,f] [] mQ) (Je td ty tx):=by rw[3];refine wpAny_Call_method m.base m.few m.line PySem.F.plainAttrs_dict wD PySem.F.type_dict_get (iu .lH fun u s1⟨x,H1,I1,rx,a,ex,d,q1⟩=>? _);rw[39];obtain⟨t1,t2,_⟩:=an6 I1 d;refine⟨t1,t2,? _⟩;rw[m.df];refine Calls.callWith_builtin rfl (Calls.evalArgs_plain (Calls.spliced_cons (iu (he pins s1 σ H1 _ I1 q1) fun iv s2⟨y,H2,I2,ry,q2⟩=>Calls.spliced_cons (iu (hf pins s2 σ H2 _ I2 q2) fun fv s3⟨z,H3,I3,rz,ov,g,q3⟩=>.w2))));exact alw hu I3 g ry rz fun w' s4 I4 rw'=>⟨_,H3,I4,rw',q3⟩
end
theorem GO:.CO:=.aF
section
variable{X:Cx}{pins:List (Addr×Obj)}{σ:St}{H:Hp}{s:Shared}{h':Heap}
theorem Inv.aiz{t':Nat}{ch:.ao}(I:.aa)(k:∀b o,b∉ch->.gL)(hf:∀b∈ch,.rZ):.oy:=by rw[272];refine I.step (g':=s.gens) (d':=s.drawn) (ch:=ch) .AJ (fun b o _ _ hc e _=>k b o hc e) .CP (fun _ _ _ _ n=>n) .FK (fun _ _ e=>e) (fun _ _ _ e=>e) .Cw (fun m hm=>? _) (fun b u e=>? _) I.lG;rw[273];rw[202]
theorem Inv.Ea{t':Nat}{ch:.ao}{T:Addr}{ob:HO}(I:.aa)(k:∀b o,b∉ch->.gL)(hf:∀b∈ch,.rZ)(hT:s.heap.objs.size<=T)(new:i5 X.prog X.w (aN H T ob) h' T ob):Inv X pins σ (aN H T ob) {s with heap:=h',toks:=t'}:=by have hn:.gA:=I.fb.fresh hT;rw[272];refine I.step (g':=s.gens) (d':=s.drawn) (ch:=ch) .AJ (fun b o _ _ hc e _=>k b o hc e) .CP (fun b o _ e n=>? _) .FK (fun b xs e=>? _) (fun b o u e=>? _) (fun b ps e=>⟨#[],? _⟩) (fun m hm=>? _) (fun b u e=>? _) I.lG;{rw[ai (bS (bW .hV hT))];exact n};{rw[ai (aq e hn)];exact e};{rw[ai (aq e hn)];exact e};{rw[ai (aq e hn),e];simp};rw[273];{by_cases hb:b=T;{subst hb;rw[54];exact new};{rw[ai hb]at e;refine(I.fb b u e).B0 (fun c v hc q=>k c v ? _ q) (fun c q=>.eK) fun c xs q=>.eK;rw[322]}}
theorem Inv.ani{d:Addr}{u:HO}(I:.aa)(h:H d=.aP)(mu:Mut (.aP)):∃od,Inv X pins σ .qO s:=by have x:=I.fb d u h;(have ex:∃od,s.heap.get? d=some od:=by cases u with|bJ xs=>obtain⟨_,_,_,_,e⟩:=x;rw[26]|dK kvs=>rw[59];exact⟨o,e⟩|dT kvs=>rw[59];exact⟨o,e⟩|set S n=>obtain⟨o,_,_,_,e,_⟩:=x;exact⟨o,e⟩|cH C dx fs=>obtain⟨_,_,_,e,_⟩:=x;rw[26]|ext φ=>obtain⟨_,⟨_,e⟩,_⟩:=x;rw[26]|_=>exact gD mu);obtain⟨od,e⟩:=ex;(have new:i5 X.prog X.w .qO s.heap d (.lu od u):=by refine⟨e,x.B0 (fun b v _ q=>q) (fun b q=>? _) fun b xs q=>? _⟩;{rw[ai (fun z=>by rw[z,h]at q;cases q;exact mu)];exact q};{rw[ai (fun z=>by rw[z,h]at q;cases q;exact mu)];exact q});exact⟨od,I.Ct (x:=d) (e:=d) (t':=s.toks) (h':=s.heap) (by rw[h];exact mu) .bB (fun b v _ q=>q) ⟨od,e⟩ new⟩
theorem Inv.QA{d:Addr}{u:HO}(I:.aa)(h:H d=.aP)(mu:Mut (.aP)):.FL:=fun o' u' e=>by have q:=I.base.zm d o' u' e;rw[h]at q;cases q;exact mu
theorem Inv.Jm{d:Addr}{od:Obj}{u:HO}(I:.aa)(h:H d=some (.lu od u))(hn:.FL):Inv X pins σ (aN H d u) s:=by(have neH:∀b o,.hS->(∀o' u',o≠.lu o' u')->b≠d:=fun b o e mi z=>by rw[z,h]at e;cases e;exact mi _ _ rfl);(have neN:∀b,.bx->b≠d:=fun b e z=>by rw[z,h]at e;cases e);refine⟨I.ok,I.os,I.lG,⟨I.base.keep,I.base.slot,fun b o e n hx=>? _,I.base.there,fun b xs e=>? _,fun b o x e=>? _,fun b ps e=>? _⟩,I.CL,I.cell,? _,fun x c e=>? _,.eS,.cM,I.j9⟩;{rw[ai (neN b (.mr))];exact .mr};{have q:=I.base.Cr b xs e;rw[ai (neH b _ q .yc)];exact q};{have q:=I.base.zm b o x e;rw[ai (fun z=>by rw[z]at e;exact hn _ _ e)];exact q};{obtain⟨m,q⟩:=I.base.Cq b ps e;exact⟨m,by rw[ai (neH b _ q .yc)];exact q⟩};{rw[ai (neN _ I.free)];exact I.free};{rw[ai (neN c (.k4))];exact .k4};{obtain⟨e,n,r⟩:=I.AY p hp;exact⟨e,by rw[ai (neN _ n)];exact n,r⟩};{by_cases hb:b=d;{rw[hb,ah]at e;cases e;rw[hb];obtain⟨_,x⟩:=I.fb d _ h;exact x.B0 (fun c v _ q=>q) (fun c q=>.oM) fun c xs q=>.oM};{rw[ai hb]at e;exact(I.fb b o e).B0 (fun c v _ q=>q) (fun c q=>.oM) fun c xs q=>.oM}}
end
def avu(t:TS):TS:=fun D σ H=>∃d u,H d=.aP/\Mut (.aP)/\∀od,t ⟨fun σ' H'=>.mz/\D.nx σ' .od,fun v H'=>.mz/\D.rt v .od,fun σ' H'=>.mz/\D.bk σ' .od,fun σ' H'=>.mz/\D.ct σ' .od⟩ σ .qO
def ap1(t:TE):TE:=fun σ H Q=>∃d u,H d=.aP/\Mut (.aP)/\∀od,t σ .qO fun v H'=>.mz/\Q v .od
section
variable{X:Cx}
theorem NJ{st:Stmt}{t:TS}(h:PS X st t):PS X st (avu t):=by intro pins s σ H D I hw;rw[274];refine iu .FN fun f s1 q=>? _;cases f with|next=>rw[136]|brk=>rw[136]|cont=>rw[136]|ret v=>obtain⟨x,σ',H',I2,r,e,q⟩:=q;exact⟨x,σ',_,I2.Jm e (I.QA hd mu),r,q⟩
theorem V9{e:Expr}{t:TE}(h:PE X e t):PE X e (ap1 t):=by intro pins s σ H Q I hw;rw[274];refine iu .FN fun v s1⟨x,H1,I2,r,e2,q⟩=>? _;exact⟨x,_,I2.Jm e2 (I.QA hd mu),r,q⟩
theorem NI{tg:Expr}{pins:.aA}{σ:St}{H:Hp}{s:Shared}{R:It->.a3}{J:It}{tn:Nat->.k5}{tk:Nat}(I:.aa)(o:Obj)(T:Mr X.prog X.w X.K tg J [s.heap.objs.size] s.heap.objs.size tn)(st:tn 0 (s.heap.push o))(q:R J H):PIE X pins σ tg R .cR {s with heap:=s.heap.push o,toks:=tk}:=by refine⟨s.heap.objs.size,[s.heap.objs.size],tn,J,H,rfl,I.ji fun b ob e=>.es,T,st,.cG,q⟩;have e:b=s.heap.objs.size:=.eb;subst e;exact I.P6 .aS (.dN)
end
def RgC(i j c:Int)(n:Nat):Prop:=c≠0/\c.natAbs<1073741824/\Builtin.Range.small i j c=true/\Builtin.Range.rangeSize i j c=n
theorem RgC.neg{i j:Int}(ha:-(2^62)<=i)(ha':i<2^62)(hb:-(2^62)<=j)(YZ:j<2^62):RgC i j (-1) (i-j).toNat:=⟨.aW,.aW,PySem.W.small_down ha ha' hb YZ,PySem.W.rangeSize_downNat i j⟩
def Itv(K:ae)(a:Addr)(n:Nat):It:=⟨fun i H=>i<n/\∃(xs:.aj)(x:V),.bZ/\xs[n-1-i]?=.bu,fun i H x H'=>H'=H/\∀xs,.bZ->xs[n-1-i]?=.bu,fun i _=>n<=i⟩
theorem adu{P:Program}{w:World}{K:ae}{tg:Expr}(a it:Addr)(n:Nat):Mr P w K tg (Itv K a n) [it] it (fun i h=>i<=n/\h.IsRevIter it a (.cN-1-(i:Nat)))where mem:=.aN;obj:=(fun i h st b hb=>by rw[73];obtain⟨_,o,e,c,d⟩:=st;exact .CQ);keep:=fun i h h' st k=>⟨st.1,st.2.at fun o e=>k it .aC o e⟩;item:=(by rw[18];obtain⟨Y2,xs,x,hq,hx⟩:=hg;rw[131];rw[34];obtain⟨_,hit⟩:=st;have e1:.cN-1-((i:Nat):Int)=((n-1-i:Nat):Int):=.o;rw[e1]at hit;refine wpAny_pyNext_rev_item hit p.isList (x:=u) .pE fun h' Y_ sb=>? _;have e2:((n-1-i:Nat):Int)-1=.cN-1-.iM:=.o;rw[e2]at Y_;rw[204];exact⟨u,rfl,Vv (s:={s with heap:=h'}) e c d .aD ⟨x,H,I1,ru,⟨rfl,.t5⟩,⟨Y2,Y_⟩,.qE⟩⟩);done:=(by rw[18];rw[34];obtain⟨Y2,hit⟩:=st;have hge:n<=i:=hg;have e1:.cN-1-((i:Nat):Int)=-1:=.o;rw[e1]at hit;exact wpAny_pyNext_rev_end .b0 hit .lB);self:=fun A i s Q E st h=>wpAny_pyIter_revIter st.2 h
def aCn(K:ae)(ta:TA):TI:=fun σ H R=>ta σ H fun vs H1=>∃(a:Addr)(xs:.aj),.gd/\cM K H1 a xs/\R (.iN) H1
section
variable{X:Cx}{tg:Expr}
theorem tf{e:Expr}{ta:TA}{p pos:Pos}(hg:Gl X "reversed")(hm:X.mg "reversed"=none)(ha:PA X [e] ta)(hs:.lJ:=by rfl):PI X tg (.Call (.Name "reversed" p) [e] [] pos) (aCn X.K ta):=by rw[58];refine Call_ (xI I hg hm GO .sO);obtain⟨a,xs,e,hq,q⟩:=q1;subst e;cases r1 with|cons r rr=>rw[323];have hl:=rv.length;(have e1:((d7.toArray.size:Nat):Int)-1=(xs.length:Int)-1-.nk:=by simp only[bo];omega);refine call_reversed_list p'.isList (wpAny_pyIter_revIter (l:=a) (i:=((d7.toArray.size:Nat):Int)-1) .fI ? _);refine NI (tk:=s1.toks) I1 _ (adu a _ xs.length) ⟨bw _,? _⟩ q;rw[<-e1];exact .fI
end
def Its(x:Str):It:=⟨fun i _=>i<x.cps.size,fun i H v H'=>H'=H/\∃c,x.cps[i]?=.br/\v=.kk,fun i _=>x.cps.size<=i⟩
theorem RN{P:Program}{w:World}{K:ae}{tg:Expr}(it:Addr)(x:Str)(t:Tok)(ty:String)(hty:ty="str_ascii_iterator"\/ty="str_iterator"):Mr P w K tg (Its x) [it] it .FO where mem:=.aN;obj:=.ze;keep:=fun i h h' st k=>let⟨o,ho,r⟩:=st;⟨o,k it .aC o ho,r⟩;item:=(by rw[18];rw[34];(have W:Walks X.prog X.w X.A it [it] [it] x.cps.size (SignAt x) .FO:=by rcases hty with e|e;{rw[e];exact Walks.strAscii .b0 it x t};{rw[e];exact Walks.strWide .b0 it x t});(have hno:["enumerate","zip","dict_itemiterator","dict_reverseitemiterator","odict_iterator","itertools.zip_longest","itertools.pairwise"].contains ty=false:=by rcases hty with e|e;{rw[e];decide};{rw[e];decide});refine .Ei;obtain⟨c,u,hcx,rfl⟩:=hv;have I1:.oB:=.CA;obtain⟨oi,e,cc,dd⟩:=id Y_;exact⟨_,rfl,Vv (s:={s with heap:=h',toks:=tk}) e cc dd hno ⟨.kk,H,I1,⟨u,rfl⟩,⟨rfl,c,hcx,rfl⟩,Y_,.qE⟩⟩);done:=(by rw[18];rw[34];have hx:x.cps[i]?=none:=oQ hg;rcases hty with e|e;{rw[e]at st;exact wpAny_pyNext_ascii_end .b0 st hx .lB};{rw[e]at st;exact wpAny_pyNext_wide_end .b0 st hx .lB});self:=fun A i s Q E st h=>by rcases hty with e|e;{rw[e]at st;exact wpAny_pyIter_striter_ascii st h};{rw[e]at st;exact wpAny_pyIter_striter_wide st h}
def aCo(te:TE):TI:=fun σ H R=>te σ H fun v H1=>∃x,v=.str x/\R (Its x) H1
theorem ao9{X:Cx}{tg e:Expr}{te:TE}(he:.cI):PI X tg e (aCo te):=by rw[58];refine iu .cD fun v s1⟨y,H1,I1,r1,x,ex,q⟩=>? _;subst ex;rw[109];cases ha:x.cps.all (·<128);{exact wpAny_pyIter_wide ha (NI (tk:=s1.toks) I1 _ (RN _ x t "str_iterator" .k8) .fI q)};{exact wpAny_pyIter_ascii ha (NI (tk:=s1.toks) I1 _ (RN _ x t "str_ascii_iterator" .bB) .fI q)}
theorem anc{κ:Type}{kvs:.ct}{vs:.iD}(h:.fy):∀{i:Nat}{k:κ}{v:V},.qP->∃u,vs[i]?=some (k,u)/\e_ v u:=by unfold KV at h;induction h with|nil=>intro i k v e;simp at e|@cons a b l₁ l₂ r t ih=>intro i k v e;cases i with|zero=>simp only[dE,dj]at e;subst e;refine⟨b.2,? _,r.2⟩;simp only[dE];exact congrArg some (sQ r.1.symm rfl)|succ j=>simp only[d8]at e|-;exact ih e
theorem Ia{α β:Type}{G:.eI}{l₁:.aT}{l₂:.dD}(h:.xX):∀{i:Nat}{a:α},l₁[i]?=some a->∃b,l₂[i]?=some b/\G a b:=by induction h with|nil=>intro i a e;simp at e|@cons a b l₁ l₂ r t ih=>intro i a' e;cases i with|zero=>simp only[dE,dj]at e;subst e;exact⟨b,rfl,r⟩|succ j=>simp only[d8]at e|-;exact ih e
theorem Io{k:gx}{u:Value}(h:EK k u=true):e_ (kV k) u:=by rcases jr h with⟨i,t,rfl,rfl⟩|⟨x,t,rfl,rfl⟩;{exact .gb};{exact .gb}
section
variable{X:Cx}{pins:List (Addr×Obj)}{σ:St}{H:Hp}{s:Shared}{d:Addr}{o:Obj}
theorem Inv.amb{kvs:.az}(I:.aa)(h:.mA):.w3/\s.heap.get? d=.ah/\o.ExactDict/\∃(es:.rz)(ep:Nat)(vs:.nu),.mo/\es.size=kvs.length/\.fy/\s.heap.DictAt (.gc) d vs ep:=by obtain⟨hd,z,hs,vs,kv,o',es,ep,ho,hx,VB,r⟩:=I.fb d _ h;rw[hd]at ho;cases ho;refine⟨hs,hd,hx,es,ep,vs,VB,? _,kv,o,es,hd,hx,VB,r⟩;have l1:=r.2.1.length;have l2:.qM:=.nx;rw[a0]at l1;omega
end
def Iti(d:Addr)(o:Obj)(kvs:.az):It:=⟨fun i H=>.mA/\i<kvs.length,fun i H x H'=>∃T k v,.qP/\x=.ref T/\.gA/\H'=aN H T .mB,fun i H=>.mA/\kvs.length<=i⟩
theorem Vg{o:Obj}{es jL:.rz}{ep vw:Nat}(h:.mo)(h':o.data=.dict jL vw):jL=es/\vw=ep:=by rw[h]at h';cases h';exact .ea
section
variable{P:Program}{w:World}{K:ae}{tg:Expr}{d:Addr}{o:Obj}{es:Array DictEntry}{ep:Nat}
theorem UE{kvs:.az}{elts:.bF}{kk:Nat}{AN:Pos}(it:Addr)(hod:.mo):Mr P w K .h7 (.hE) [it] it (fun i h=>∃ok ov,IsItemIter h it d i kvs.length ep ok ov)where mem:=.aN;obj:=(fun i h st b hb=>by rw[73];obtain⟨ok,ov,e⟩:=st;exact⟨_,e,fun v z=>nomatch z⟩);keep:=fun i h h' st k=>let⟨ok,ov,e⟩:=st;⟨ok,ov,k it .aC _ e⟩;item:=(by rw[18];obtain⟨hd,hi⟩:=hg;rw[220];obtain⟨⟨k,v⟩,hkv⟩:∃p,kvs[i]?=some p:=⟨kvs[i],aV hi⟩;obtain⟨u,hu,ru⟩:=anc kv hkv;rw[275];have jc:it<s.heap.objs.size:=Heap.lt_size he;refine wpAny_pyNext_items_item he hm hu fun key h' To ho hT hz hk=>? _;refine⟨_,rfl,wpAny_letOwnedTupleGo_items (s:={s with heap:=h'}) ho fun YY he' sb=>? _⟩;have hT2:.vI=some {cls:=.type "tuple",data:=.seq #[key,u]}:=(sb.2 _ (ia jc)).trans hT;have new:i5 X.prog X.w .FP YY s.heap.objs.size .mB:=⟨.pR,[key,u],.cons (Io (show EK k key=true from To)) (.cons ru .nil),.w4⟩;have I1:Inv X pins σ .FP {s with heap:=YY}:=I.Ea (t':=s.toks) (ch:=[it]) (fun b ob hb e=>(sb.2 b (.eb)).trans (hk b ob (.eb) e)) hf .aS new;refine⟨.eL,_,I1,rfl,⟨_,k,v,hkv,rfl,.dN,rfl⟩,⟨key,u,? _⟩,.cG⟩;{rw[hl];exact he'};{have e:b=it:=.eb;rw[e,ai (bS jc)];exact(hf it .aC).1});done:=(by rw[18];obtain⟨hd,hi⟩:=hg;rw[34];rw[220];rw[275];exact wpAny_pyNext_items_end .b0 he hm (eO .C) fun h' eb=>⟨rfl,I.nq (t':=s.toks) (fun b ob hb e=>eb b ob hb e) f0 f1 f3 f4 f5⟩);self:=fun A i s Q E st h=>let⟨_,_,e⟩:=st;PySem.W.kcp_self e h
end
def an3(td:TE):TI:=fun σ H R=>td σ H fun x H1=>∃d o kvs,x=.ref d/\H1 d=some (.lu o .cT)/\R (.hE) H1
section
variable{X:Cx}{tg e:Expr}{td:TE}{apos mQ:Pos}
theorem xY{elts:.bF}{kk:Nat}{AN:Pos}(he:PE X e td)(um:attributeBase e "items" X.bA (.dU)=.dU:=by rfl)(uo:.pM:=by rfl):PI X .h7 (.Call (.Attribute e "items" apos) [] [] mQ) (an3 td):=by rw[58];refine wpAny_Call_method (T:="dict") (id:="dict.items") um rfl uo F.plainAttrs_dict F.slot_dict_items F.type_dict_items (iu .cD fun u s1⟨x,H1,I1,rx,d,o,kvs,ex,hd,q⟩=>? _);subst ex;obtain rfl:u=Value.ref d:=rx;obtain⟨hs,hgd,hx,es,ep,vs,VB,hsz,kv,hm⟩:=I1.amb hd;have hl:.qM:=.nx;refine⟨hm.dictOf.typeIs,hm.dictOf.mapOf.noDict,? _⟩;have I2:Inv X pins σ H1 {s1 with heap:=s1.heap.push {cls:=.type "dict_items",data:=.fields #[.ref d]}}:=I1.ji (t':=s1.toks) .oG;(have fin:wpAny .av X.A (pyIter (.vz)) (PIE X pins σ .h7 R) X.xe {s1 with heap:=s1.heap.push {cls:=.type "dict_items",data:=.fields #[.ref d]}}:=by refine wpAny_pyIter_items (d:=d) (knd:=.gc) .fI (hm.push _) (NI (tk:=s1.toks) I2 _ (UE _ VB) ⟨.none,.none,? _⟩ q);rw[hl];exact .cK);show wpAny _ _ (callWith mQ (.builtin "dict.items") [.ref d] [] []) _ X.xe s1;exact method_meetsIn F.slot_dict_items F.entry_dict_items rfl (ro ⟨rfl,hm.dictOf.typeIs,F.args_dict_items_1 _,_,meets_dict_items (.gc) d hs,⟨vs,hm.dictOf⟩,fin⟩)
end
def Ite(K:ae)(a:Addr):It:=⟨fun i H=>∃(xs:.aj)(x:V),.bZ/\.e8,fun i H v H'=>∃T x,v=.ref T/\.gA/\H'=aN H T .pS/\.x2,fun i H=>∃xs:.aj,.bZ/\xs.length<=i⟩
theorem YH{P:Program}{w:World}{K:ae}{elts:.bF}{kk:Nat}{AN:Pos}(a e it:Addr):Mr P w K .h7 (Ite K a) [e,it] e (fun i h=>(∃old,IsEnum h e it ((i:Nat):Int) old)/\h.IsListIter it a i/\e≠it)where mem:=.aN;obj:=(fun i h st b hb=>by obtain⟨⟨old,he⟩,⟨o,ho,hc,hd⟩,_⟩:=st;have e':b=e\/b=it:=.eb;rcases e' with z|z;{rw[z];exact⟨_,he,.rA⟩};{rw[z];exact⟨o,ho,fun v q=>by rw[hd]at q;cases q⟩});keep:=fun i h h' st k=>let⟨⟨old,he⟩,hi,mi⟩:=st;⟨⟨old,k e .aC _ he⟩,hi.at fun o q=>k it .aC o q,mi⟩;item:=(by rw[18];obtain⟨⟨old,he⟩,hit,mi⟩:=st;obtain⟨xs,x,hq,hx⟩:=hg;rw[131];have hel:e<s.heap.objs.size:=Heap.lt_size he;(have hil:it<s.heap.objs.size:=by obtain⟨_,q,_⟩:=hit;exact Heap.lt_size q);refine wpAny_pyNext_enum_item he hit p.isList (x:=u) .pE mi fun h' ho aB3 hT hsz hk=>? _;refine⟨_,rfl,wpAny_letOwnedTupleGo_enum (s:={s with heap:=h',toks:=s.toks+1}) ho fun YY he' sb=>? _⟩;have hT2:.vI=some {cls:=.type "tuple",data:=.seq #[.int i s.toks,u]}:=(sb.2 _ (ia hel)).trans hT;have new:i5 X.prog X.w .FQ YY s.heap.objs.size .pS:=⟨.pR,[.int i s.toks,u],.cons .aU (.cons ru .nil),.w4⟩;have I1:Inv X pins σ .FQ {s with heap:=YY,toks:=s.toks+1}:=I.Ea (ch:=[e,it]) (fun b ob hb q=>(sb.2 b .lK).trans (hk b ob .lK .lK q)) hf .aS new;refine⟨.eL,_,I1,rfl,⟨_,x,rfl,.dN,rfl,.t5⟩,⟨⟨u,? _⟩,aB3.at fun o q=>(sb.2 it (cW mi)).trans q,mi⟩,.cG⟩;{have e1:.iM=.fF+1:=.o;rw[e1];exact he'};{(have YZ:b<s.heap.objs.size:=by have e':b=e\/b=it:=.eb;rcases e' with z|z;{rw[z];exact hel};{rw[z];exact hil});rw[ai (bS YZ)];exact(hf b hb).1});done:=(by rw[18];obtain⟨⟨old,he⟩,hit,mi⟩:=st;rw[266];exact wpAny_pyNext_enum_end .b0 he hit p.isList (.iG) fun h' eb=>⟨rfl,I.nq (t':=s.toks) (fun b o hb q=>eb b o hb q) f0 f1 f3 f4 f5⟩);self:=fun A i s Q E st h=>let⟨⟨_,he⟩,_⟩:=st;wpAny_pyIter_enum he h
def au6(K:ae)(ta:TA):TI:=fun σ H R=>ta σ H fun vs H1=>∃a xs,.gd/\cM K H1 a xs/\R (Ite K a) H1
theorem Wa{X:Cx}{e:Expr}{ta:TA}{p pos AN:Pos}{elts:.bF}{kk:Nat}(hg:Gl X "enumerate")(hm:X.mg "enumerate"=none)(ha:PA X [e] ta)(hs:.lJ:=by rfl):PI X .h7 (.Call (.Name "enumerate" p) [e] [] pos) (au6 X.K ta):=by rw[58];refine Call_ (xI I hg hm boot_enumerate .sO);obtain⟨a,xs,ex,hq,q⟩:=q1;subst ex;cases r1 with|cons r rr=>rw[323];refine call_enumerate_list p'.isList fun h' he hit hsz hk=>wpAny_pyIter_enum he ? _;rw[324];refine⟨.fP,[.fP,s1.heap.objs.size],_,_,H1,rfl,I2,YH a (.fP) s1.heap.objs.size,⟨⟨.none,he⟩,hit,Nat.succ_ne_self _⟩,.cG,q⟩;have e':b=.fP\/b=s1.heap.objs.size:=.eb;(have hle:s1.heap.objs.size<=b:=by rcases e' with z|z;rw[83];{rw[z];rw[13]});exact I1.P6 hle .yd
theorem W6:bootBuiltins "zip"=some (.type "zip"):=.aF
def Itz(K:ae)(a b:Addr):It:=⟨fun i H=>∃(xs ys:.aj)(x y:V),.bZ/\.oe/\.e8/\.r7,fun i H v H'=>∃T x y,v=.ref T/\.gA/\H'=aN H T .ny/\(.x2)/\∀ys,.oe->.r7,fun i H=>∃xs ys:.aj,.bZ/\.oe/\(xs.length<=i\/ys.length<=i)⟩
theorem adv{P:Program}{w:World}{K:ae}{elts:.bF}{kk:Nat}{AN:Pos}{a b z TI TO i1 i2:Addr}(D:ZipApart z TI TO i1 i2 a b):Mr P w K .h7 (.hM) [z,TI,TO,i1,i2] z (fun i h=>IsZip h z TI TO .none/\IsPair h TI (.ref i1) (.ref i2)/\(∃x y,IsPair h TO x y)/\h.IsListIter i1 a i/\h.IsListIter i2 b i)where mem:=.aN;obj:=(fun i h st c hc=>by obtain⟨hz,hTI,⟨x,y,hTO⟩,⟨o1,e1,_,d1⟩,⟨o2,e2,_,d2⟩⟩:=st;(have e':.FR:=by simpa using hc);rcases e' with q|q|q|q|q;{rw[q];exact⟨_,hz,.rA⟩};{rw[q];exact⟨_,hTI,.rA⟩};{rw[q];exact⟨_,hTO,.rA⟩};{rw[q];exact⟨o1,e1,fun v q=>by rw[d1]at q;cases q⟩};{rw[q];exact⟨o2,e2,fun v q=>by rw[d2]at q;cases q⟩});keep:=(fun i h h' st k=>by obtain⟨hz,hTI,⟨x,y,hTO⟩,h1,h2⟩:=st;exact⟨k z .aC _ hz,k TI .aC _ hTI,⟨x,y,k TO .aC _ hTO⟩,h1.at fun o q=>k i1 .aC o q,h2.at fun o q=>k i2 .aC o q⟩);item:=(by rw[276];obtain⟨xs,ys,x,y,hqx,hqy,hx,hy⟩:=hg;rw[277];obtain⟨u,hu,ru⟩:=rv.get hx;obtain⟨u2,hu2,ru2⟩:=rv2.get hy;have hzl:z<s.heap.objs.size:=Heap.lt_size hz;refine wpAny_pyNext_zip_item D hz hTI hTO h1 h2 p.isList p2.isList (x:=u) (y:=u2) .pE (by simpa using hu2) fun h' z' TO' h1' h2' hT hsz hk=>? _;refine⟨_,rfl,wpAny_letOwnedTupleGo_zip (s:={s with heap:=h'}) z' fun YY z'' sb=>? _⟩;have hT2:.vI=some {cls:=.type "tuple",data:=.seq #[u,u2]}:=(sb.2 _ (ia hzl)).trans hT;have new:i5 X.prog X.w .FT YY s.heap.objs.size .ny:=⟨.pR,[u,u2],.cons ru (.cons ru2 .nil),.w4⟩;have I1:Inv X pins σ .FT {s with heap:=YY}:=I.Ea (t':=s.toks) (ch:=[z,TI,TO,i1,i2]) (fun c o hb q=>(sb.2 c .lL).trans (.zD)) hf .aS new;refine⟨.eL,_,I1,rfl,⟨_,x,y,rfl,.dN,rfl,fun l hl=>by rw[I.xK hl hqx];exact hx,fun l hl=>by rw[I.xK hl hqy];exact hy⟩,⟨z'',? _,⟨u,u2,? _⟩,? _,? _⟩,fun c hcm=>? _⟩;{exact(sb.2 _ D.TIz).trans (hk _ _ D.TIz D.TITO D.TIi1 D.TIi2 hTI)};{exact(sb.2 _ D.TOz).trans TO'};{exact h1'.at fun o q=>(sb.2 _ D.i1z).trans q};{exact h2'.at fun o q=>(sb.2 _ D.i2z).trans q};{(have jc:c<s.heap.objs.size:=by(have e':.FR:=by simpa using hcm);rcases e' with q|q|q|q|q;{rw[q];exact hzl};{rw[q];exact Heap.lt_size hTI};{rw[q];exact Heap.lt_size hTO};{rw[q];obtain⟨_,e1,_⟩:=h1;exact Heap.lt_size e1};{rw[q];obtain⟨_,e2,_⟩:=h2;exact Heap.lt_size e2});rw[ai (bS jc)];exact(hf c hcm).1});done:=(by rw[276];obtain⟨xs,ys,hqx,hqy,aAz⟩:=hg;rw[277];have l1:=rv.length;have l2:=rv2.length;(have he:d7.toArray[i]?=none\/Aq.toArray[i]?=none:=by rcases aAz with q|q;{exact .inl (.iG)};{exact .inr (.iG)});exact wpAny_pyNext_zip_end .b0 D hz hTI hTO h1 h2 p.isList p2.isList he fun h' hk=>⟨rfl,I.aiz (t':=s.toks) (ch:=[z,TI,TO,i1,i2]) (fun c o hb q=>.zD) hf⟩);self:=fun A i s Q E st h=>wpAny_pyIter_zip st.1 h
def aCp(K:ae)(ta:TA):TI:=fun σ H R=>ta σ H fun vs H1=>∃a b xs ys,vs=.hn/\cM K H1 a xs/\cM K H1 b ys/\R (.hM) H1
theorem Ig{X:Cx}{e e2:Expr}{ta:TA}{p pos AN:Pos}{elts:.bF}{kk:Nat}(hg:Gl X "zip")(hm:X.mg "zip"=none)(ha:PA X [e,e2] ta)(hs:starEach [e,e2] X.bA=(false,.dU)::starEach [e2] X.bA:=by rfl)(tZ:(backTo pos (starEach [e2] X.bA)).any .aX=false:=by rfl):PI X .h7 (.Call (.Name "zip" p) [e,e2] [] pos) (aCp X.K ta):=by rw[58];refine Call_ (xI I hg hm W6 (fD .zf hs tZ));obtain⟨a,b,xs,ys,ex,hqx,hqy,q⟩:=q1;subst ex;cases r1 with|cons r rr=>cases rr with|cons r' rr=>cases rr;cases r;cases r';obtain⟨d7,rv,p1,_⟩:=I1.list hqx;obtain⟨Aq,rv2,p2,_⟩:=I1.list hqy;have la:a<s1.heap.objs.size:=p1.lt;have lb:b<s1.heap.objs.size:=p2.lt;refine call_zip_2 p1.isList p2.isList fun h' hz hTI hTO h1 h2 hsz hk=>wpAny_pyIter_zip hz ? _;rw[324];refine⟨.ye,[.ye,s1.heap.objs.size+2,s1.heap.objs.size+3,s1.heap.objs.size,.fP],_,_,H1,rfl,I2,adv (PySem.W.ktu_apart s1.heap.objs.size a b la lb),⟨hz,hTI,⟨_,_,hTO⟩,h1,h2⟩,fun c hcm=>? _,q⟩;(have e':c=.ye\/c=s1.heap.objs.size+2\/c=s1.heap.objs.size+3\/c=s1.heap.objs.size\/c=.fP:=by simpa using hcm);(have hle:s1.heap.objs.size<=c:=by rcases e' with z|z|z|z|z;rw[83];rw[83];rw[83];{rw[z];rw[13]};rw[83]);exact I1.P6 hle .yd
end L2
section
end
section
namespace TL
open PySem PySem.Builtin PySem.Builtin.Str PySem.StrLaws
abbrev tl(x:Str):.ab:=x.cps.toList
def pre(S l:.ab):Bool:=l.take S.length==S
def spl(S:.ab):Nat->.ab->.ab->.k9|_,acc,[]=>[acc]|0,acc,c::r=>if pre S (c::r)=true then acc::spl S (S.length-1) [] r else spl S 0 (acc++[c]) r|k+1,acc,_::r=>spl S k acc r
theorem agp(y:Str)(parts:.a0):Txt.join y parts=Str.join y parts:=glued_eq_join y parts
end TL
end
namespace L2
open PySem PySem.Spec PyProof.Rows
theorem vN:∀{ys:.a0}{us:.ar},dP (ys.map V.str) us->StrsAre us ys|[],_,.nil=>.nil|y::ys,_,.cons r t=>by obtain⟨k,rfl⟩:=r;exact .cons y k (vN t)
section
variable{X:Cx}
theorem agz:WN X "str.join" .zE:=by intro pins s σ H x xs v us Q I rx rs h;obtain⟨a,p,ys,rfl,rfl,hp,hz,h⟩:=h;rw[7];cases rs with|cons r1 rs=>cases rs;cases r1;rcases hp with hp|hp;{obtain⟨d7,r,⟨o,n,ho,hc,_,hd⟩,_⟩:=I.list hp;exact awq (items:=d7.toArray) ⟨o,ho,hc,n,hd⟩ (by rw[WM];exact vN r) hz .CR};{obtain⟨d7,r,ht,_⟩:=I.tuple hp;exact awr (items:=d7.toArray) ht (by rw[WM];exact vN r) hz .CR}
theorem mt0{id:String}{C:Str->Prop}{g:Str->V}(rule:∀(a:Str)(t:Tok)(s:Shared)(Q:.ax),C a->(∀(u:Value)(k:Nat),e_ (g a) u->Q u {s with toks:=k})->wpAny .av X.A (call .iK [.str a t]) Q X.xe s):WN X id (fun x xs H Q=>∃a,.gB/\xs=[]/\C a/\Q (g a) H):=by intro pins s σ H x xs v us Q I rx rs h;obtain⟨a,rfl,rfl,hc,h⟩:=h;rw[7];cases rs;exact rule a t s _ hc fun u k r=>⟨g a,H,I.tok k,r,h⟩
theorem HM:WN X "str.isdigit" (fun x xs H Q=>∃a,.gB/\xs=[]/\True/\Q (.bl (Txt.isdigit a)) H):=mt0 (C:=fun _=>True) (g:=fun a=>.bl (Txt.isdigit a)) fun _ _ s _ _ h=>PySem.SC.isdigit .qQ
theorem TF:WN X "str.isalpha" (fun x xs H Q=>∃a,.gB/\xs=[]/\True/\Q (.bl (Txt.isalpha a)) H):=mt0 (C:=fun _=>True) (g:=fun a=>.bl (Txt.isalpha a)) fun _ _ s _ _ h=>PySem.SC.isalpha .qQ
theorem TB:WN X "str.isalnum" (fun x xs H Q=>∃a,.gB/\xs=[]/\True/\Q (.bl (Txt.isalnum a)) H):=mt0 (C:=fun _=>True) (g:=fun a=>.bl (Txt.isalnum a)) fun _ _ s _ _ h=>PySem.SC.isalnum .qQ
theorem mt1{id:String}{g:Str->Str->V}(rule:∀(a b:Str)(t u:Tok)(s:Shared)(Q:.ax),(∀(v:Value)(k:Nat),e_ (g a b) v->Q v {s with toks:=k})->wpAny .av X.A (call .iK [.str a t,.str b u]) Q X.xe s):WN X id (fun x xs H Q=>∃a b,.gB/\xs=[.str b]/\Q (g a b) H):=by intro pins s σ H x xs v us Q I rx rs h;obtain⟨a,b,rfl,rfl,h⟩:=h;rw[7];cases rs with|cons r1 rs=>cases rs;obtain⟨u,rfl⟩:=r1;exact rule a b t u s _ fun v k r=>⟨g a b,H,I.tok k,r,h⟩
theorem zS:WN X "str.startswith" (fun x xs H Q=>∃a b,.gB/\xs=[.str b]/\Q (.bl (Txt.startswith a b)) H):=mt1 (g:=fun a b=>.bl (Txt.startswith a b)) fun _ _ _ _ s _ h=>PySem.SC.startswith .qQ
theorem qS:mr X (.type "int") (fun xs H Q=>∃a n,xs=[.str a]/\PySem.intText? a=some n/\a.length<=640/\Q (.int n) H):=by intro pins s σ H xs us Q I rs h;obtain⟨a,n,rfl,hn,hl,h⟩:=h;cases rs with|cons r1 rs=>cases rs;rw[109];exact azg hn hl ⟨.int n,H,.bz,.aU,h⟩
end
section
variable{X:Cx}{o e:Expr}{to te:TE}
def tM0(r:.dh)(to:TE):TE:=fun σ H Q=>to σ H fun x H1=>(∃a,.gB)/\r x [] H1 Q
def tM1(r:.dh)(to te:TE):TE:=fun σ H Q=>to σ H fun x H1=>(∃a,.gB)/\te σ H1 fun y H2=>r x [y] H2 Q
theorem V_{id:String}{name:Str}{apos pos:Pos}{r:.dh}(slot:Slot "str" name id)(ty:.oI)(rule:WN X id r)(ho:PE X o to)(um:.oJ:=by rfl)(uo:.uk:=by rfl):PE X (.Call .pN [] [] pos) (tM0 r to):=by rw[3];refine PySem.Call_method0 um uo (iu .lH .jy);rw[278];exact⟨"str",_,F.plainAttrs_str,slot,ty,typeIs_str _ _ _,(.ru),Calls.callWith_builtin rfl (ro (rule pins s1 σ H1 _ [] _ [] Q I1 r1 .nil q1))⟩
theorem ac7{id:String}{name:Str}{apos pos:Pos}{r:.dh}(slot:Slot "str" name id)(ty:.oI)(rule:WN X id r)(ho:PE X o to)(he:.cI)(hs:.lJ:=by rfl)(um:.oJ:=by rfl)(uo:.uk:=by rfl):PE X (.Call .pN [e] [] pos) (tM1 r to te):=by rw[3];refine PySem.Call_method1 um hs uo (iu .lH .jy);rw[278];refine⟨"str",_,F.plainAttrs_str,slot,ty,typeIs_str _ _ _,(.ru),Calls.callWith_builtin rfl (Calls.evalArgs_plain (Calls.spliced_cons ? _))⟩;exact iu (he pins s1 σ H1 _ I1 q1) fun u s2⟨y,H2,I2,r2,q2⟩=>Calls.spliced_nil (rule pins s2 σ H2 _ [y] _ [u] Q I2 r1 (.cons r2 .nil) q2)
theorem V8{apos pos:Pos}(ho:PE X o to)(he:.cI)(hs:.lJ:=by rfl)(um:attributeBase o "join" X.bA (eval o X.bA)=eval o X.bA:=by rfl)(uo:.uk:=by rfl):PE X (.Call (.Attribute o "join" apos) [e] [] pos) (tM1 .zE to te):=ac7 F.slot_str_join F.type_str_join agz ho he hs um uo
end
section
variable{X:Cx}
theorem Ub:A2 X (compareOp .In) (fun x y H Q=>∃(c:Nat)(z:Str),x=.kk/\y=.str z/\Q (.bl (decide (c∈z.cps.toList))) H):=by rw[27];obtain⟨c,z,rfl,rfl,q⟩:=h;rw[7];rw[8];exact awp (gA I q (ar4 z c).symm)
end
theorem IsPart.raw{v:Value}{o:.b9}(p:IsPart v o):∃l:Option (Int×Tok),v=partValue l/\.ho=o:=by cases p with|none=>exact⟨none,rfl,rfl⟩|int i t=>exact⟨some (i,t),rfl,rfl⟩
def Po(n d:Nat):.b9->Int|none=>(d:Int)|some i=>max 0 (min (if i<0 then i+.cN else i) .cN)
theorem Pp(n d:Nat)(o:.b9):Po n d o=((HT.qG n d o:Nat):Int):=by cases o with|none=>rfl|some v=>show max (0:Int) (min (if v<0 then v+.cN else v) .cN)=(((.uc):Nat):Int);by_cases hv:v<0;{simp only[if_pos hv];omega};{simp only[if_neg hv];omega}
theorem Yy(a b:.b9)(n:Nat):.Ep=sliceRange (Po n 0 a) (Po n n b) 1:=by have h1:((1:Int)>0)=True:=.aN;cases a<;>cases b<;>first|rfl|(simp only[Builtin.Str.strSliceIndices,Po,h1,if_true];rfl)|simp[Builtin.Str.strSliceIndices,Po]
theorem aE5(a b:.b9)(n:Nat):.Ep=(bD (HT.qG n n b-HT.qG n 0 a)).map (fun k=>HT.qG n 0 a+k):=by rw[Yy,Pp,Pp];generalize HT.qG n 0 a=p;generalize HT.qG n n b=q;simp only[sliceRange,show((1:Int)>0)=True from .aN,if_true];by_cases jc:(p:Int)<q;{(have e3:(((q:Int)-p+1-1)/1).toNat=q-p:=by first|omega|(simp;done)|(simp;omega));simp only[jc,if_true,e3];refine bY fun k _=>? _;omega};{have:q-p=0:=.o;simp[jc,this]}
def Fk(z:Str)(lo hi:.b9):Str:=⟨.zF⟩
theorem zW(z:Str)(lo hi:.b9):iG z lo hi=Fk z lo hi:=by have h1:.fQ<=z.length:=HT.acw _ _ (bw _) _;have h2:.pT<=z.length:=HT.acw _ _ .aS _;have hp:.fQ<=.lM:=ajf _ _;have hq:.lM<=z.length:=Nat.max_le.mpr .ob;have hd:.lM-.fQ=.pT-.fQ:=.o;(have e:Builtin.Str.strSliceIndices lo hi 1 z.length=Builtin.Str.strSliceIndices (some ((.fQ:Nat):Int)) (some ((.lM:Nat):Int)) 1 z.length:=by rw[ar6 hp hq,hd,aE5]);(have e2:iG z lo hi=iG z (some ((.fQ:Nat):Int)) (some ((.lM:Nat):Int)):=by unfold iG;rw[e]);rw[e2,ar5 z hp hq,hd];rfl
theorem Pq(z:Str)(lo hi:.b9):(Fk z lo hi).length<=z.length:=by show(.zF).size<=z.cps.size;rw[bo,be,d_,a0];omega
def NQ:.lF:=fun x lo hi H Q=>∃z,x=.str z/\.x4/\Q (.str (Fk z lo hi)) H
theorem N4{X:Cx}:SlR X NQ:=by intro pins s σ H x v vl vu lo hi sl Q I rx hs pl pu h;obtain⟨z,rfl,hz,q⟩:=h;rw[7];obtain⟨os,hos,hcs,hds⟩:=hs;obtain⟨l,rfl,rfl⟩:=IsPart.raw pl;obtain⟨u,rfl,rfl⟩:=IsPart.raw pu;refine⟨"str",_,F.slot_str_getitem.lookup,typeIs_str _ _ _,? _⟩;refine wpAny_getItem_str_slice (l:=l) (u:=u) (st:=none) ⟨os,hos,hcs,hds⟩ rfl ? _;(have hl:(iG z (.ho) (u.map .aX)).length<=sizeLine:=by rw[zW];exact br (Pq z _ _) hz);rw[<-zW]at q;unfold iG at q hl;show Made.post (if .zH then Made.val (.str z t)else Made.str ⟨((.zG).filterMap (z.cps[·]?)).toArray⟩) .dz s;by_cases c:.zH;{rw[if_pos c]at q|-;exact⟨.str z,H,I,.gb,q⟩};{rw[if_neg c]at q hl|-;exact⟨hl,.str _,H,.bz,.aU,q⟩}
open PySem.W(WData Codec OpenSpec Well WellAll ReadsW ReadsAllW)
mutual
inductive Dw(K:ae)(H:Hp):V->WData->Prop|jD:Dw K H .jD .none|bl(b:Bool):Dw K H (.bl b) (.bool b)|int(i:Int):Dw K H (.int i) (.int i)|str(x:Str):Dw K H (.str x) (.str x)|rC(b:Array UInt8):Dw K H (.rC b) (.bytes b.toList)|bJ{a:Addr}{xs:List V}{ds:List WData}:cM K H a xs->vV K H xs ds->Dw K H (.ref a) (.list ds)|fL{a:Addr}{xs:List V}{ds:List WData}:ig K H a xs->vV K H xs ds->Dw K H (.ref a) (.tuple ds)
inductive vV(K:ae)(H:Hp):List V->List WData->Prop|nil:vV K H [] []|cons{v:V}{vs:List V}{d:WData}{ds:List WData}:Dw K H v d->vV K H vs ds->vV K H (v::vs) (d::ds)
end
theorem Vj{K:ae}{H:Hp}:∀ns:.J,vV K H .kn (ns.map WData.int)|[]=>.nil|n::r=>.cons (.int n) (Vj r)
theorem VI{K:ae}{H:Hp}:∀(ns:.J)(xs:.aj),vV K H xs (ns.map WData.int)->xs=ns.map V.int|[],xs,h=>by cases h;rfl|n::r,xs,h=>by cases h with|cons h1 h2=>cases h1;rw[VI r _ h2]<;>rfl
section
variable{P:Program}{w:World}{K:ae}{H:Hp}{h:Heap}{R:WT}{cl:Str->Option Addr}
theorem aos{a:Addr}{xs:.aj}(fb:.cj)(KX:K.In h)(q:.bZ):∃(d7:.ar)(o:Obj)(n:Nat),dP xs d7/\.jj/\o.cls=.nQ/\o.data=.seq d7.toArray n:=by rcases q with q|⟨o,d7,n,e,hc,_,hd,_,hv⟩;{obtain⟨_,d7,n,hv,e⟩:=(show i5 P w H h a (.bJ xs)from q.ok fb);exact⟨d7,_,n,hv,e,rfl,rfl⟩};{exact .CS}
theorem aot{a:Addr}{xs:.aj}(fb:.cj)(KX:K.In h)(q:.fg):∃(d7:.ar)(o:Obj)(n:Nat),dP xs d7/\.jj/\.wR/\o.data=.seq d7.toArray n:=by rcases q with q|⟨o,d7,n,e,hc,hd,_,hv⟩;{obtain⟨_,d7,hv,o,e,hc,n,hd⟩:=(show i5 P w H h a (.fL xs)from q.ok fb);exact⟨d7,o,n,hv,e,hc,hd⟩};{exact .CS}
mutual
theorem Dw.EY(fb:tG P w H h)(KX:K.In h):∀(d:WData)(v:V)(u:Value),Dw K H v d->e_ v u->∃as,ReadsW R cl h u d as|.none,_,_,x,r=>by cases x;cases r;exact⟨_,ReadsW.none⟩|.bool b,_,_,x,r=>by cases x;cases r;exact⟨_,ReadsW.bool b⟩|.int i,_,_,x,r=>by cases x;obtain⟨t,rfl⟩:=r;exact⟨_,ReadsW.int i t⟩|.str s,_,_,x,r=>by cases x;obtain⟨t,rfl⟩:=r;exact⟨_,ReadsW.str s t⟩|.bytes b,_,_,x,r=>by cases x;obtain⟨t,rfl⟩:=r;exact⟨_,ReadsW.bytes _ t⟩|.list ds,_,_,x,r=>(by cases x with|bJ hs ha=>cases r;obtain⟨d7,o,n,rv,ho,hc,hd⟩:=aos fb KX hs;obtain⟨as,hr⟩:=Dw.sx fb KX ds _ d7 ha rv;exact⟨_,ReadsW.list ho hc hd hr⟩)|.tuple ds,_,_,x,r=>(by cases x with|fL hs ha=>cases r;obtain⟨d7,o,n,rv,ho,hc,hd⟩:=aot fb KX hs;obtain⟨as,hr⟩:=Dw.sx fb KX ds _ d7 ha rv;exact⟨_,ReadsW.tuple ho hc hd hr⟩)|.float _,_,_,x,_=>by cases x|.dict _,_,_,x,_=>by cases x|.bytearray _,_,_,x,_=>by cases x|.set _,_,_,x,_=>by cases x|.frozenset _,_,_,x,_=>by cases x|.obj _ _,_,_,x,_=>by cases x
theorem Dw.sx(fb:tG P w H h)(KX:K.In h):∀(ds:List WData)(vs:List V)(us:List Value),vV K H vs ds->dP vs us->∃as,ReadsAllW R cl h us ds as|[],_,_,x,r=>by cases x;cases r;exact⟨_,ReadsAllW.nil⟩|d::ds,_,_,x,r=>by cases x with|cons h1 h2=>cases r with|cons r1 r2=>obtain⟨as,q1⟩:=Dw.EY fb KX d _ _ h1 r1;obtain⟨bs,q2⟩:=Dw.sx fb KX ds _ _ h2 r2;exact⟨_,ReadsAllW.cons q1 q2⟩
end
end
mutual
def Wd:WData->Bool|.none=>true|.bool _=>true|.int _=>true|.str _=>true|.bytes _=>true|.list xs=>Fy xs|.tuple xs=>Fy xs|_=>false
def Fy:List WData->Bool|[]=>true|x::r=>Wd x&&Fy r
end
theorem QP{α:Type}{f:α->WData}(h:∀a,Wd (f a)=true):∀l:.aT,Fy (l.map f)=true|[]=>rfl|x::r=>by show(Wd (f x)&&Fy (r.map f))=true;rw[h x,QP h r]<;>rfl
theorem x8:∀(c:Codec)(a:c.denote),Wd (c.enc a)=true|.unit,_=>rfl|.bool,_=>rfl|.int _ _,_=>rfl|.nat _ _,_=>rfl|.u8,_=>rfl|.bytes _ _,_=>rfl|.text _ _ _ _,_=>rfl|.list _ _ c,a=>QP (fun x=>x8 c x) a|.pair c d,a=>by show(Wd (c.enc a.1)&&(Wd (d.enc a.2)&&true))=true;rw[x8 c a.1,x8 d a.2]<;>rfl|.triple c d e,a=>by show(Wd (c.enc a.1)&&(Wd (d.enc a.2.1)&&(Wd (e.enc a.2.2)&&true)))=true;rw[x8 c a.1,x8 d a.2.1,x8 e a.2.2]<;>rfl|.option c,none=>rfl|.option c,some x=>x8 c x
theorem LS:∀(cs:List Codec)(a:Codec.denoteAll cs),Fy (Codec.encAll cs a)=true|[],_=>rfl|c::cs,a=>by show(Wd (c.enc a.1)&&Fy (Codec.encAll cs a.2))=true;rw[x8 c a.1,LS cs a.2]<;>rfl
theorem AO:∀{xs:.i6}{d:WData},d∈xs->d.weight<=WData.weightAll xs|[],d,h=>absurd h .aC|x::r,d,h=>by show d.weight<=x.weight+1+WData.weightAll r;rcases aJ.mp h with e|m;{rw[e];omega};{have z:=AO m;omega}
def RH:Value->V|.none=>.jD|.bool b=>.bl b|.int i _=>.bp|.str x _=>.str x|.bytes b _=>.rC b|.ref a=>.b2|_=>.jD
def WS(A:.ao):Value->Prop|.none=>True|.bool _=>True|.int _ _=>True|.str _ _=>True|.bytes _ _=>True|.ref a=>a∈A|_=>False
theorem WS.aI{A B:.ao}(h:∀a∈A,a∈B):∀{u:Value},WS A u->WS B u:=fun{u}x=>by cases u with|ref a=>exact h a x|none=>trivial|bool b=>trivial|int i t=>trivial|str s t=>trivial|bytes b t=>trivial|_=>exact gD x
theorem acm{A:.ao}{u:Value}(x:WS A u):e_ (RH u) u:=by cases u with|ref a=>rfl|none=>rfl|bool b=>rfl|int i t=>exact .gb|str s t=>exact .gb|bytes b t=>exact .gb|_=>exact gD x
theorem uX{A:.ao}:∀{vs:.ar},.mC->dP .og vs|[],_=>.nil|u::r,h=>.cons (acm (h u .aK)) (uX .mm)
def vS(h:Heap)(A:.ao)(a:Addr):Prop:=∃vs:.ar,.qN/\.mC/\(.bw=.oN\/.bw=.oO)
theorem vS.aI{h:Heap}{A B:.ao}{a:Addr}(k:∀a∈A,a∈B)(x:vS h A a):vS h B a:=by obtain⟨vs,h1,h2,h3⟩:=x;exact⟨vs,h1,fun u hu=>(h2 u hu).aI k,h3⟩
theorem tz{P:Params}{h:Heap}:∀{vs:.ar}{ds:.i6},.qR->vs.length=ds.length|_,_,.nil=>rfl|_,_,.cons _ b=>by show _+1=_+1;rw[tz b]
theorem Mh{P:Params}{h:Heap}{v:Value}{ds:.i6}(x:Well P h v (.list ds)):∃(a:Addr)(vs:.ar),v=.b2/\.bw=.oN/\.qR:=by cases x with|list ho uk=>exact⟨_,_,rfl,ho,uk⟩
theorem Jp{P:Params}{h:Heap}{v:Value}{ds:.i6}(x:Well P h v (.tuple ds)):∃(a:Addr)(vs:.ar),v=.b2/\.bw=.oO/\.qR:=by cases x with|tuple ho uk=>exact⟨_,_,rfl,ho,uk⟩
theorem Mg{P:Params}{h:Heap}{us:.ar}{d:WData}{ds:.i6}(x:WellAll P h us (d::ds)):∃(v:Value)(vs:.ar),us=v::vs/\Well P h v d/\.qR:=by cases x with|cons a b=>exact⟨_,_,rfl,a,b⟩
theorem VZ{n:Nat}(h:n<=1048576):n<=sizeLine:=br h .aD
section
variable{P:Params}{h:Heap}
mutual
theorem Zy:∀(d:WData)(v:Value),Well P h v d->Wd d=true->d.weight<=1048576->∃A:List Addr,WS A v/\∀a∈A,vS h A a|.none,_,x,_,_=>by cases x;exact⟨[],trivial,fun a m=>absurd m (by simp)⟩|.bool b,_,x,_,_=>by cases x;exact⟨[],trivial,fun a m=>absurd m (by simp)⟩|.int i,_,x,_,_=>by cases x;exact⟨[],trivial,fun a m=>absurd m (by simp)⟩|.str s,_,x,_,_=>by cases x;exact⟨[],trivial,fun a m=>absurd m (by simp)⟩|.bytes b,_,x,_,_=>by cases x;exact⟨[],trivial,fun a m=>absurd m (by simp)⟩|.list ds,_,x,p,z=>by obtain⟨a,vs,rfl,ho,uk⟩:=Mh x;have z2:WData.weightAll ds<=1048576:=z;obtain⟨A,h1,h2⟩:=Bb ds _ uk p fun d hd=>br (AO hd) z2;have k:∀b∈A,b∈a::A:=fun b hb=>ak _ hb;refine⟨a::A,au ..,fun b hb=>? _⟩;rcases aJ.mp hb with e|m;{rw[e];exact⟨vs,VZ (by rw[tz uk];exact br (Ff ds) z2),fun u hu=>(h1 u hu).aI k,.inl ho⟩};{exact(h2 b m).aI k}|.tuple ds,_,x,p,z=>by obtain⟨a,vs,rfl,ho,uk⟩:=Jp x;have z2:WData.weightAll ds<=1048576:=z;obtain⟨A,h1,h2⟩:=Bb ds _ uk p fun d hd=>br (AO hd) z2;have k:∀b∈A,b∈a::A:=fun b hb=>ak _ hb;refine⟨a::A,au ..,fun b hb=>? _⟩;rcases aJ.mp hb with e|m;{rw[e];exact⟨vs,VZ (by rw[tz uk];exact br (Ff ds) z2),fun u hu=>(h1 u hu).aI k,.inr ho⟩};{exact(h2 b m).aI k}|.float _,_,_,p,_=>dR (show false=true from p)|.dict _,_,_,p,_=>dR (show false=true from p)|.bytearray _,_,_,p,_=>dR (show false=true from p)|.set _,_,_,p,_=>dR (show false=true from p)|.frozenset _,_,_,p,_=>dR (show false=true from p)|.obj _ _,_,_,p,_=>dR (show false=true from p)
theorem Bb:∀(ds:List WData)(vs:List Value),WellAll P h vs ds->Fy ds=true->(∀d∈ds,d.weight<=1048576)->∃A:List Addr,(∀u∈vs,WS A u)/\∀a∈A,vS h A a|[],_,x,_,_=>by cases x;exact⟨[],fun u m=>absurd m (by simp),fun a m=>absurd m (by simp)⟩|d::ds,_,x,p,z=>by obtain⟨v,vs,rfl,x1,x2⟩:=Mg x;have q:Wd d=true/\Fy ds=true:=zu.mp p;obtain⟨A,a1,a2⟩:=Zy d v x1 q.1 (z d (au ..));obtain⟨B,b1,b2⟩:=Bb ds vs x2 q.2 fun e he=>z e (ak _ he);have kA:∀b∈A,b∈A++B:=fun b hb=>aW.mpr (.inl hb);have kB:∀b∈B,b∈A++B:=fun b hb=>aW.mpr (.inr hb);refine⟨A++B,fun u hu=>? _,fun b hb=>? _⟩;{rcases aJ.mp hu with e|m;{rw[e];exact a1.aI kA};{exact(b1 u m).aI kB}};{rcases aW.mp hb with m|m;{exact(a2 b m).aI kA};{exact(b2 b m).aI kB}}
end
end
def agh(o:Obj):Option HO:=match o.data with|.seq vs _=>if(o.cls==.mD)=true then some (.lu o (.bJ (vs.toList.map RH)))else some (.lu o (.fL (vs.toList.map RH)))|_=>none
def tP(K:ae)(h:Heap)(A:.ao):Hp:=fun b=>if b∈A then(if(K.lookup b).isNone=true then(h.get? b).bind agh else none)else none
def O0(H:Hp):Prop:=∀b,.bx\/∃o u,H b=.rm
theorem Qk(vs:.ar):agh {cls:=.type "list",data:=.seq vs.toArray}=some (.AK):=by show(if(.mD==.mD)=true then some (HO.lu {cls:=.type "list",data:=.seq vs.toArray} (.bJ .pU))else some (HO.lu {cls:=.type "list",data:=.seq vs.toArray} (.fL .pU)))=_;rw[if_pos (beq_self_eq_true _)]
theorem Ql(vs:.ar):agh {cls:=.type "tuple",data:=.seq vs.toArray}=some (.AL):=by show(if(.kp==.mD)=true then some (HO.lu {cls:=.type "tuple",data:=.seq vs.toArray} (.bJ .pU))else some (HO.lu {cls:=.type "tuple",data:=.seq vs.toArray} (.fL .pU)))=_;rw[.aE]
section
variable{P:Program}{w:World}{K:ae}{h:Heap}{A:List Addr}
theorem FV{b:Addr}{o:Obj}(hb:b∈A)(hk:.rB)(e:.ka):tP K h A b=agh o:=by unfold tP;rw[if_pos hb,hk,if_pos (show(none:Option Obj).isNone=true from rfl),e]<;>rfl
theorem ah3{b:Addr}{u:HO}(q:tP K h A b=.aP):b∈A/\.rB:=by unfold tP at q;by_cases hb:b∈A;{rw[if_pos hb]at q;cases hk:K.lookup b with|none=>exact⟨hb,rfl⟩|some o=>rw[hk,.ha]at q;cases q};{rw[if_neg hb]at q;cases q}
theorem Bc(ar:.mE){b:Addr}{u:HO}(q:tP K h A b=.aP):.rB/\∃vs:.ar,.qN/\.mC/\((h.get? b=.oN/\u=.AK)\/(h.get? b=.oO/\u=.AL)):=by obtain⟨hb,hk⟩:=ah3 q;obtain⟨vs,h1,h2,h3⟩:=ar b hb;refine⟨hk,vs,h1,h2,? _⟩;rcases h3 with e|e;{rw[FV hb hk e,Qk]at q;exact .inl ⟨e,(aB q).symm⟩};{rw[FV hb hk e,Ql]at q;exact .inr ⟨e,(aB q).symm⟩}
theorem W3(ar:.mE):O0 (tP K h A):=fun b=>by cases q:tP K h A b with|none=>exact .fu|some u=>obtain⟨_,vs,_,_,⟨_,e⟩|⟨_,e⟩⟩:=Bc ar q;{exact .inr ⟨_,_,by rw[e]⟩};{exact .inr ⟨_,_,by rw[e]⟩}
theorem aff(ar:.mE):tG P w (tP K h A) h:=fun b u q=>by obtain⟨_,vs,h1,h2,⟨e,rfl⟩|⟨e,rfl⟩⟩:=Bc ar q;{exact⟨e,by rw[aa];exact h1,vs,_,uX h2,e⟩};{exact⟨e,by rw[aa];exact h1,vs,uX h2,_,e,rfl,_,rfl⟩}
theorem Gb{c c':Value}{vs us:.ar}(e:(some {cls:=c,data:=.seq vs.toArray}:Option Obj)=some {cls:=c',data:=.seq us.toArray}):c=c'/\vs=us:=by have e1:=aB e;have e2:c=c':=congrArg Obj.cls e1;have e3:Data.seq vs.toArray=Data.seq us.toArray:=congrArg Obj.data e1;injection e3 with e4;refine⟨e2,? _⟩;have e5:=congrArg aky e4;simpa using e5
theorem azr(KX:K.In h)(ar:.mE){a:Addr}{vs:.ar}(ha:a∈A)(e:.bw=.oN):.mC/\cM K (tP K h A) a .og:=by obtain⟨us,h1,h2,h3⟩:=ar a ha;(have hu:us=vs:=by rcases h3 with q|q;{rw[e]at q;exact(Gb q).2.symm};rw[341]);subst hu;refine⟨h2,? _⟩;cases hk:K.lookup a with|none=>exact .inl (.inr ⟨_,by rw[FV ha hk e,Qk]⟩)|some o=>have e2:=KX a o hk;rw[e]at e2;obtain rfl:=aB e2;exact .inr ⟨_,us.toArray,_,hk,rfl,rfl,rfl,by rw[bo];exact h1,by simpa using uX h2⟩
theorem azs(KX:K.In h)(ar:.mE){a:Addr}{vs:.ar}(ha:a∈A)(e:.bw=.oO):.mC/\ig K (tP K h A) a .og:=by obtain⟨us,h1,h2,h3⟩:=ar a ha;(have hu:us=vs:=by rcases h3 with q|q;rw[341];{rw[e]at q;exact(Gb q).2.symm});subst hu;refine⟨h2,? _⟩;cases hk:K.lookup a with|none=>exact .inl (.inr ⟨_,by rw[FV ha hk e,Ql]⟩)|some o=>have e2:=KX a o hk;rw[e]at e2;obtain rfl:=aB e2;exact .inr ⟨_,us.toArray,_,hk,rfl,rfl,by rw[bo];exact h1,by simpa using uX h2⟩
mutual
theorem am2{Pm:Params}(KX:K.In h)(ar:∀a∈A,vS h A a):∀(d:WData)(v:Value),Well Pm h v d->Wd d=true->WS A v->Dw K (tP K h A) (RH v) d|.none,_,x,_,_=>by cases x;exact .jD|.bool b,_,x,_,_=>by cases x;exact .bl b|.int i,_,x,_,_=>by cases x;exact .int i|.str s,_,x,_,_=>by cases x;exact .str s|.bytes b,_,x,_,_=>by cases x;have z:=Dw.rC (K:=K) (H:=tP K h A) b.toArray;exact z|.list ds,_,x,p,hu=>by obtain⟨a,vs,rfl,ho,uk⟩:=Mh x;obtain⟨h2,hs⟩:=azr KX ar hu ho;exact .bJ hs (MM KX ar ds _ uk p h2)|.tuple ds,_,x,p,hu=>by obtain⟨a,vs,rfl,ho,uk⟩:=Jp x;obtain⟨h2,hs⟩:=azs KX ar hu ho;exact .fL hs (MM KX ar ds _ uk p h2)|.float _,_,_,p,_=>dR (show false=true from p)|.dict _,_,_,p,_=>dR (show false=true from p)|.bytearray _,_,_,p,_=>dR (show false=true from p)|.set _,_,_,p,_=>dR (show false=true from p)|.frozenset _,_,_,p,_=>dR (show false=true from p)|.obj _ _,_,_,p,_=>dR (show false=true from p)
theorem MM{Pm:Params}(KX:K.In h)(ar:∀a∈A,vS h A a):∀(ds:List WData)(vs:List Value),WellAll Pm h vs ds->Fy ds=true->(∀u∈vs,WS A u)->vV K (tP K h A) (vs.map RH) ds|[],_,x,_,_=>by cases x;exact .nil|d::ds,_,x,p,hu=>by obtain⟨v,vs,rfl,x1,x2⟩:=Mg x;have q:Wd d=true/\Fy ds=true:=zu.mp p;exact .cons (am2 KX ar d v x1 q.1 (hu _ (au ..))) (MM KX ar ds vs x2 q.2 fun u m=>hu u (ak _ m))
end
end
theorem ad5{h:Heap}{H:Hp}(nsK:∀{b:Addr}{m:.aV},h.Ns b m->(Ht h H).Ns b m)(noM:∀{b:Addr}{o:Obj},.ka->o.cls=.type "module"->.bx)(x:h.NoSeer):(Ht h H).NoSeer where statics:=let⟨mc,a,b⟩:=x.statics;⟨mc,nsK a,b⟩;mods:=let⟨mc,a,b⟩:=x.mods;⟨mc,nsK a,b⟩;imp:=let⟨mc,a,b⟩:=x.imp;⟨mc,nsK a,b⟩;main:=let⟨mg,bm,ob,a,b,c,d,e⟩:=x.main;⟨mg,bm,ob,nsK a,b,Qe c (noM c d),d,e⟩
theorem Yz{P:Program}{w:World}{K:ae}{mg mb:.aV}{CX:OK}{k:Nat}{fa:Addr}{fd:FuncData}{ps:.a0}{sp:Sp}{s₁:Shared}{vals:.ar}{ds:.i6}{R:WT}{cl:Str->.bE}{d0:WData}(KX:K.In s₁.heap)(Xw:s₁.heap.Ns mainGlobals mg)(hb:s₁.heap.Ns builtinsNs mb)(hbb:∀x:Str,.rr->mb x=.rq)(aBd:s₁.heap.NoLimit)(aC7:s₁.heap.NoSeer)(hg:s₁.gens=#[])(M3:WellAll w.params s₁.heap vals ds)(tZ:Fy ds=true)(hwt:∀d∈ds,d.weight<=1048576)(hr:kJ k callerA)(F:∀base:Heap,K.In base->.pV->wB P w K mg base CX k fa fd ps sp)(aad:.sW)(hlen:ds.length=ps.length)(Ft:∀(H:Hp)(xs:.aj),O0 H->vV K H xs ds->sp xs H (fun v H'=>Dw K H' v d0) .iO)(hCX:∀H e s',CX [] H s₁ (.iO) e s'->False):codeAny .aQ callerA (.call (.ref fa) ⟨vals,[]⟩) (fun r s'=>∃u as,r=.ok (.ret u)/\ReadsW R cl s'.heap u d0 as/\OldK s₁.heap s'.heap/\s'.os=s₁.os/\.ro) s₁:=by obtain⟨A,ho,ar⟩:=Bb ds vals M3 tZ hwt;have hO:O0 (tP K s₁.heap A):=W3 ar;have fb:tG P w (tP K s₁.heap A) s₁.heap:=aff ar;have hS:=MM KX ar ds vals M3 tZ ho;have hV:=uX ho;have hK:∀b u,.yf=.aP->.rB:=fun b u q=>(Bc ar q).1;(have noA:∀{b:Addr}{o:Obj}{es:.rz}{ep:Nat},.pW->.mo->.yf=none:=fun{b o es ep}e d=>by cases q:tP K s₁.heap A b with|none=>rfl|some u=>rw[279];rw[280];rw[280]);(have noM:∀{b:Addr}{o:Obj},.pW->o.cls=.type "module"->.yf=none:=fun{b o}e d=>by cases q:tP K s₁.heap A b with|none=>rfl|some u=>rw[279];rw[325];rw[325]);generalize tP K s₁.heap A=H at hO fb hS hK noA noM;have U8:∀{b:Addr}{o:Obj},.pW->.bx->(.nz).get? b=.ah:=fun e n=>Qe e n;have nsK:∀{b:Addr}{m:.aV},s₁.heap.Ns b m->(.nz).Ns b m:=fun{b m}⟨o,es,ep,e,d,r⟩=>⟨o,es,ep,U8 e (noA e d),d,r⟩;(have nK:∀b o,K.lookup b=.ah->.bx:=fun b o e=>by cases q:H b with|none=>rfl|some u=>rw[hK b u q]at e;cases e);have hKb:K.In (.nz):=fun b o e=>U8 (KX b o e) (nK b o e);have hM:Mod K mg (.nz):=⟨hKb,nsK Xw,⟨mb,nsK hb,hbb⟩,let⟨mc,h1,h2⟩:=aBd;⟨mc,nsK h1,h2⟩,ad5 nsK noM aC7⟩;have e0:So P w K mg (.nz) callerA [] s₁ H:=⟨rfl,hM,fun b o e=>ah4 e,lj (Xs _ _),trivial,fun b hb=>absurd (show b∈([]:.ao)from hb) .aC,fb,.of_eq hg⟩;(have hl:vals.length=ps.length:=by rw[tz M3];exact hlen);refine codeAny_mono ((F _ hKb (nsK Xw)).run callerA [] s₁ H ⟨vals,[]⟩ vals (vals.map RH) _ _ hr e0 (aad s₁ vals hl) hV (Ft H _ hO hS)) fun r s' x=>? _;cases r with|error e=>exact(hCX H e s' x).elim|ok fl=>cases fl with|next=>exact gD x|brk=>exact gD x|cont=>exact gD x|ret u=>obtain⟨v,H',os,lG,un,atm,r',q⟩:=x;(have ji:∀b o,.pW->.rk=.ah:=fun b o e=>by cases q2:H b with|none=>exact un.keep b o e q2 (by intro z;exact .Ek) .aC|some u2=>rcases hO b with z|⟨ob,u3,z⟩;{rw[q2]at z;cases z};{have z2:=un.zm b ob _ z;obtain⟨e1,_⟩:=fb b _ z;obtain⟨e2,_⟩:=atm b _ z2;rw[e]at e1;cases e1;exact e2});have KX':K.In s'.heap:=fun b o e=>ji b o (KX b o e);obtain⟨as,hrd⟩:=Dw.EY (R:=R) (cl:=cl) atm KX' d0 v u q r';exact⟨u,as,rfl,hrd,OldK.of_keep ji,os,lG⟩
theorem HC{ds:.i6}(h:WData.layableAll ds=true):∀d∈ds,d.weight<=1048576:=fun d hd=>(PySem.W.layableW_iff.mp (iO.mp h d hd)).2.2
theorem GZ:∀(cs:List Codec)(a:Codec.denoteAll cs),(Codec.encAll cs a).length=cs.length|[],_=>rfl|c::cs,a=>by show(Codec.encAll cs a.2).length+1=cs.length+1;rw[GZ cs a.2]
theorem YJ{r:OpenSpec}{k:Nat}{q:Program}{loose:.a0}{XP:(.aV)->.k5}{YP:World->.k5}{d:DefRec}{K:Params->ae}{CX:World->OK}{ps:.a0}{sp:World->Sp}(himp:importsNone q=true)(aat:r.wellSaid=true)(hdf:d.params.defaults=[])(hlen:r.args.length=ps.length)(hr:kJ k callerA)(hY:.CT)(F:∀(w:World)(mg:.aV)(fa:Addr)(h:Heap),YP w h->(.et).In h->.mF->mg d.name=some (.ref fa)->∃fd:FuncData,(.sW)/\∀base:Heap,(.et).In base->.pV->wB r.prog w (.et) mg base (CX w) k fa fd ps (sp w))(Ft:∀(w:World)(H:Hp)(xs:.aj)(a:Codec.denoteAll r.args),O0 H->Codec.withinAll r.args a=true->.FU->vV (.et) H xs (Codec.encAll r.args a)->sp w xs H (fun v H'=>Dw (.et) H' v (.um)) .iO)(hCX:∀(w:World)(H:Hp)(s:Shared)(e:Value)(s':Shared),CX w [] H s (.iO) e s'->False):.CU:=by intro w wx s₁ mg mb G Y fa o pm cd doc dV kV ho hd Vy hD hmg hg args vals as aBx aBc hrd M3 hlo;obtain⟨a,e1,e2⟩:=PySem.W.os_pre_some aBx;obtain⟨e3,hwi⟩:=Codec.encAll_of_decAll r.args args a e1;subst e3;have KX:=hY w _ Y;obtain⟨fd,hb,hF⟩:=F w mg fa _ Y KX G.T.g hmg;refine PySem.W.enter_call (codeAny_mono (Yz (R:=[]) (cl:=classAt wx.heap) (d0:=.um) KX G.T.g G.T.b G.T.builtins G.T.nolimit (G.T.seer himp) hg M3 (LS _ _) (HC aBc) hr hF hb (by rw[GZ];exact hlen) (fun H xs hO hS=>Ft w H xs a hO hwi e2 hS) fun H e s'=>hCX w H s₁ e s') fun r' s' hq=>? _);obtain⟨u,as',rfl,h1,h2,h3,h4⟩:=hq;exact⟨.inl ⟨u,_,as',rfl,.bQ,h1,(OpenSpec.post_iff aat hwi _ _).mpr rfl,fun z=>dR (show false=true from z)⟩,h2,h3,h4⟩
theorem UH{r:OpenSpec}{k:Nat}{q:Program}{loose:.a0}{XP:(.aV)->.k5}{YP:World->.k5}{d:DefRec}{K:Params->ae}{CX:OK}{ps:.a0}{sp:ae->Sp}(himp:importsNone q=true)(aat:r.wellSaid=true)(hdf:d.params.defaults=[])(hlen:r.args.length=ps.length)(hr:kJ k callerA)(hY:.CT)(F:∀(w:World)(mg:.aV)(fa:Addr)(h:Heap),YP w h->(.et).In h->.mF->mg d.name=some (.ref fa)->∃fd:FuncData,(.sW)/\∀base:Heap,(.et).In base->.pV->wB r.prog w (.et) mg base CX k fa fd ps (sp (.et)))(Ft:∀(K:ae)(H:Hp)(xs:.aj)(a:Codec.denoteAll r.args),O0 H->Codec.withinAll r.args a=true->.FU->vV K H xs (Codec.encAll r.args a)->sp K xs H (fun v H'=>Dw K H' v (.um)) .iO)(hCX:∀(H:Hp)(s:Shared)(e:Value)(s':Shared),CX [] H s (.iO) e s'->False):.CU:=YJ (K:=K) (CX:=fun _=>CX) (sp:=fun w=>sp (.et)) himp aat hdf hlen hr hY F (fun w H xs a h1 h2 h3 h4=>Ft (.et) H xs a h1 h2 h3 h4) fun _ H s e s'=>hCX H s e s'
def i9(s:Stmt)(j:Nat):Stmt:=match s with|.ClassDef _ _ _ body _ _ _ _ _ _ _=>body.getD j (.yg)|_=>.yg
def pN(s:Stmt):Arguments:=match s with|.FunctionDef _ a _ _ _ _ _ _ _ _=>a|_=>{posonlyargs:=[],args:=[],vararg:=none,kwonlyargs:=[],kw_defaults:=[],kwarg:=none,defaults:=[]}
def lA(s:Stmt):.hK:=match s with|.FunctionDef _ _ b _ _ _ _ _ _ _=>b|_=>[]
def aL(s:Stmt):Scope:=match s with|.FunctionDef _ _ _ _ _ _ sc _ _ _=>sc|_=>{kind:=.function,names:=[],isGenerator:=false,isCoroutine:=false}
abbrev dD:OK:=fun _ _ _ _ _ _=>False
abbrev E0:XK:=.iO
theorem bQ{X:Cx}:m_ dD X E0:=fun _ _ _ _ _ _ _ h=>h.elim
structure YS(K:ae)(x qual:Str)(st:Stmt)(f:Addr)(fd:FuncData):Prop where
ex:∃(oc:Value)(od:Option Addr)(kV doc pm:Value)(an:Option Addr)(eQ ct:Value)(LN:Array (Option Value)),fd=gS x qual (pN st) (lA st) (aL st) .none kV doc pm an eQ ct/\K.lookup f=some ⟨oc,od,.func fd,LN⟩/\kg K eQ qual=true
kp:gk K (.ref f)=true
section
variable{P:Program}{w:World}{K:ae}{mg:Str->Option Value}{base:Heap}
theorem YS.ok{x qual:Str}{st:Stmt}{f:Addr}{fd:FuncData}{N ps:.a0}{k:Nat}{sp:Sp}(F:.yh)(S:.hp)(j9:.fN)(aae:∀(eQ:Value)(A:Around)(aY:.dw)(s:Shared)(H:Hp)(vs:.aj)(Q:VK)(E:XK),.zI):wB P w K mg base dD .bb f fd ps sp:=by rw[97];refine ajy lk Vy S j9 fun A aY s H vs Q E hr Ft=>? _;obtain⟨t,h,q⟩:=aae eQ A aY s H vs Q E hr Ft;exact⟨t,h.nox,q⟩
theorem YS.vZ{x qual:Str}{st:Stmt}{f:Addr}{fd:FuncData}{ps:.a0}(F:.yh)(h:.zJ):.nr:=by rw[97];exact .all (h kV doc pm an eQ ct)
theorem Td{x qual:Str}{st:Stmt}{f:Addr}{oc:Value}{od an:.bE}{LN:Array (.dR)}{kV doc pm eQ ct:Value}(l:.ll=some ⟨oc,od,.func .uo,LN⟩)(c:.qH)(k:.mG):YS K x qual st f .uo:=⟨⟨oc,od,kV,doc,pm,an,eQ,ct,LN,rfl,l,c⟩,k⟩
end
theorem mw{A:Around}{k:Nat}(hr:kJ k A):.ko:=nZ (Nat.add_le_add_left (.aW:1<=64) _) hr.units
section
variable{X:Cx}
theorem pv(i:Nat){x:Str}{pos:Pos}(hN:.iF:=by rfl)(hv:Vis X.bA.scope x:=by first|exact aZ rfl|exact JA .ai|exact JA (JA rfl))(hd:.bX:=by decide)(Vy:.Fo:=by decide):PE X .hh (Kq i):=ao8 hN hv hd Vy
theorem CW:mr X .kl (fun xs H Q=>∃a kvs,xs=[V.ref a]/\H a=.ei/\Q (.int kvs.length) H):=by rw[91];obtain⟨a,kvs,rfl,ha,q⟩:=h;obtain⟨u,rfl,ru⟩:=Mf r;cases ru;exact as3 I (.inl ha) fun t s' I'=>⟨.int kvs.length,H,I',.gb,q⟩
end
theorem fj{c A B:Prop} [Decidable c](h1:c->A)(h2:¬c->B):if c then A else B:=by by_cases h:c;{rw[.cn];exact h1 h};{rw[.cp];exact h2 h}
def aT(H H':Hp):Prop:=∀b o,.fR
theorem aT.refl(H:Hp):aT H H:=fun _ _ h=>h
theorem aT.trans{H H1 H2:Hp}(a:aT H H1)(b:aT H1 H2):aT H H2:=fun c o h=>b c o (a c o h)
theorem aT.free{H H':Hp}(e:.aq){l:Addr}(h:H' l=al7):H l=al7:=by cases q:H l with|none=>rfl|some o=>rw[e l o q]at h;cases h
theorem aT.seq{K:ae}{H H':Hp}{a:Addr}{xs:.aj}(e:.aq)(h:.bZ):cM K H' a xs:=.zK
theorem abd{α:Type}{l:.aT}(hN:l.Nodup){i j:Nat}{x:α}(a:l[i]?=.bu)(b:l[j]?=.bu):i=j:=.y9
open PySem.W(Looks looks_findIn looks_clsIn looks_mroIn InstAt)
abbrev yJ:.ar:=[.type "Exception",.w5,.type "object"]
structure Ab(K:ae)(C N fI:Addr)(na nb:Str):Prop where
obj:∃nm q bs sn sub ab col dd k0 k1 k2 k3 k5,K.lookup C=some (excClassObj nm q C N bs yJ true sn sub ab col dd k0 k1 k2 k3 k5 "Exception.__new__")
ns:∃oc od es ep sl,K.lookup N=some ⟨oc,od,.dict es ep,sl⟩/\(es.toList.all fun e=>match e.key with|.str _ _=>true|_=>false)=true
init:qP K N "__init__"=some (some (.ref fI))
set:aR K (.ref C) "__setattr__"=some (some (.builtin "object.__setattr__"))
ga:aR K (.ref C) "__getattribute__"=some (some (.builtin "BaseException.__getattribute__"))
gt:aR K (.ref C) "__getattr__"=some none
n1:aR K (.ref C) na=some none
n2:aR K (.ref C) nb=some none
ne:¬nb=na
kp:gk K (.ref C)=true
section
variable{P:Program}{w:World}{A:Around}{E:Value->Shared->Prop}{s:Shared}{K:ae}{C N fI x:Addr}{na nb name:Str}{v:Value}{vs:Array Value}
theorem Ab.cls(XC:.fS):.AM:=.zL
theorem Ab.sub(XC:.fS){T:Value}(h:.FV){M:Model}{h0:Heap}(KX:K.In h0):.FW:=.zM
theorem ae4{ox:Obj}{od:Option Obj}{Q:.bW}(XC:.fS)(KX:.dV)(I:InstAt s.heap x ox C od)(hn:.lD)(h:wpAny .aQ A.in1 (Builtin.ObjectAttr.storeInOwnDict .aR .be (.str name s.toks) name v false) (fun fin s'=>match fin with|.done (.ret _)=>Q () s'|_=>False) (fun e s'=>E e s') {s with toks:=s.toks+1}):.sX:=by refine U0 KX I XC.set ? _;have SF:=PySem.F.store_object;rw[76];have T:Looks .aQ s.heap (typeOf .aR) .be:=I.type;have sub:Looks .aQ s.heap (isInstance .aR (.type "object")) true:=T.andThen (XC.sub .aC KX);refine codeAny_call_builtin SF.slot.plain SF.entry (@SD .aQ _ _ _ "object.__setattr__" "object" "__setattr__" .aR [.str name s.toks,v] [] _ SF.kind SF.split sub (SF.args .aR (.str name s.toks) v) ? _);have hm:Looks .aQ s.heap (mroOf .be) cd.mro:=(looks_clsIn KX e1).andThen .now;rw[PySem.W.osa_eq,refuse_eq];refine wpAny_bind (wpAny_bind (T.at (wpAny_bind (hm.at ? _))));rw[e3,refuseLoop_ref,PySem.F.store_Exception.passes];refine wpAny_pure (wpAny_bind (T.at (wpAny_bind ((looks_findIn KX hn).at (wpAny_bind (Looks.now.at ? _))))));refine wpAny_mono h (fun fin s' q=>? _) .hI;rcases fin with(_|_|_|_)|_<;>first|exact q|exact q.elim
theorem UL{Q:.bW}(XC:.fS)(KX:.dV)(hx:.fh=.Er)(hn:.lD)(h:∀h' tk,(∀b o,b≠x->.gL)->h'.get? x=.AN->h'.Ns1 s.heap.objs.size (fun y=>if y=name then .a4 else none)->Q () {s with heap:=h',toks:=tk}):.sX:=by have J:InstAt s.heap x {cls:=.ref C,data:=.fields vs} C none:=⟨hx,rfl,rfl,trivial⟩;refine ae4 XC KX J hn ? _;rw[76];have hxs:x≠s.heap.objs.size:=bS (Heap.lt_size hx);refine wpAny_bind (wpAny_pure (wpAny_bind (wpAny_bind (wpAny_loadPart hx (wpAny_bind (Looks.here (s:={s with toks:=s.toks+1}) (looks_clsIn KX e1) ? _))))));rw[e2];have hx1:(.h2).get? x=.Er:=Heap.get?_push_of_some _ hx;refine wpAny_bind (wpAny_alloc (wpAny_bind (wpAny_update hx1 (wpAny_pure (a:=some s.heap.objs.size) ? _))));have VG:(.sY).get? x=.AN:=Heap.get?_update_self _ hx1 rfl;have hd2:(.sY).get? s.heap.objs.size=some {cls:=.type "dict",data:=.dict #[]}:=(Heap.get?_update_other _ _ hxs).trans (Heap.get?_push_at rfl rfl);have hN:(.sY).Ns s.heap.objs.size (.gu):=⟨_,#[],_,hd2,rfl,fun e he=>absurd he .aC,.bQ⟩;refine wpAny_bind (wpAny_pure (wpAny_bind (wpAny_nsSet1 (Heap.Ns1.of_empty hN) fun h' Tp hs=>? _)));obtain⟨oD,esD,epD,hoD,hdD,hcD⟩:=Tp.count (Within.cons name v Within.nil);refine wpAny_bind (wpAny_lookBehind hoD (by rw[hdD];exact pastItsLine_dict (br hcD (by rw[aw,cg,sizeLine_eq];omega))) .cC);refine h h' _ (.dO) ((hs.2 x hxs).trans VG) Tp;exact(hs.2 b (.gM)).trans ((.mH).trans (.es))
theorem UM{dx:Addr}{mA:.aV}{ns:.a0}{Q:.bW}(XC:.fS)(KX:.dV)(hx:.fh=some {cls:=.ref C,dict:=some dx,data:=.fields vs})(mi:dx≠x)(hd:s.heap.Ns1 dx mA)(hn:.lD)(hw:Within mA ns)(hsz:ns.length<=1000)(h:∀h' tk,Heap.SameBut dx s.heap h'->h'.Ns1 dx .Fx->Q () {s with heap:=h',toks:=tk}):.sX:=by obtain⟨od,ho,_⟩:=De hd;have J:InstAt s.heap x {cls:=.ref C,dict:=some dx,data:=.fields vs} C (some od):=⟨hx,rfl,rfl,ho⟩;refine ae4 XC KX J hn ? _;rw[76];refine wpAny_bind (wpAny_pure (wpAny_bind (wpAny_bind (wpAny_loadPart hx (wpAny_bind (Looks.here (s:={s with toks:=s.toks+1}) (looks_clsIn KX e1) ? _))))));rw[e2];refine wpAny_pure (a:=.d3) (wpAny_bind (wpAny_pure (wpAny_bind (wpAny_nsSet1 (s:={s with toks:=s.toks+1}) hd fun h' Tp hs=>? _))));obtain⟨oD,esD,epD,hoD,hdD,hcD⟩:=Tp.count (Within.cons name v hw);refine wpAny_bind (wpAny_lookBehind hoD (by rw[hdD];exact pastItsLine_dict (br hcD (by rw[aw,sizeLine_eq];omega))) .cC);exact h h' _ hs Tp
end
def ae1(ps pa pb na nb:Str)(p:Nat->Pos):.hK:=[.Assign [.Attribute (.Name ps (p 0)) na (p 1)] (.Name pa (p 2)) (p 3),.Assign [.Attribute (.Name ps (p 4)) nb (p 5)] (.Name pb (p 6)) (p 7)]
def aj2(na nb:Str)(c p:Value):.aV:=fun y=>if y=nb then some p else if y=na then .br else none
abbrev aj3(C dx t:Addr):Obj:={cls:=.ref C,dict:=some dx,data:=.fields #[.ref t,.none,.none,.none,.bool false,.none]}
structure O7(K:ae)(fI:Addr)(na nb:Str):Prop where
ex:∃(qual:Str)(params:Arguments)(scope:Scope)(dV kV doc pm eQ ct oc:Value)(an od:Option Addr)(LN:Array (Option Value))(ps pa pb:Str)(pp:Nat->Pos),K.lookup fI=some ⟨oc,od,.func (gS "__init__" qual params (ae1 ps pa pb na nb pp) scope dV kV doc pm an eQ ct),LN⟩/\oc=.type "function"/\kg K eQ qual=true/\(∀a b c:Value,bindArgs (gS "__init__" qual params (ae1 ps pa pb na nb pp) scope dV kV doc pm an eQ ct) ⟨[a,b,c],[]⟩=pure [(ps,a),(pa,b),(pb,c)])/\scope.isCoroutine=false/\scope.isGenerator=false/\scope.kind=.function/\scope.names.lookup ps=some .local/\scope.names.lookup pa=some .local/\scope.names.lookup pb=some .local/\¬ps=pa/\¬ps=pb/\¬pa=pb/\(ps==("__debug__":Str))=false/\(pa==("__debug__":Str))=false/\(pb==("__debug__":Str))=false/\∀L,swapsWith (.Name pa (pp 2)) (some (.Attribute (.Name ps (pp 0)) na (pp 1))) (pp 3).line (envOfC qual scope L fI eQ)=pure false/\swapsWith (.Name pb (pp 6)) (some (.Attribute (.Name ps (pp 4)) nb (pp 5))) (pp 7).line (envOfC qual scope L fI eQ)=pure false
theorem auu{h h':Heap}{a:Addr}{m:.aV}(x:h.Ns a m)(hk:∀o,.jj->.ji=.ah):h'.Ns a m:=let⟨o,es,ep,e,r⟩:=x;⟨o,es,ep,hk _ e,r⟩
section
variable{P:Program}{w:World}{A:Around}{K:ae}{C N fI:Addr}{na nb:Str}
theorem aw6{R:Result->.bK}{x t:Addr}{c p:Value}{s:Shared}(XC:.fS)(XI:O7 K fI na nb)(KX:.dV)(lim:s.heap.NoLimit)(aar:A.depth<recursionLimit)(hx:.fh=some {cls:=.ref C,data:=.fields #[.ref t,.none,.none,.none,.bool false,.none]})(hxK:K.lookup x=none)(h:∀h' tk dx,(∀b o,b≠x->.gL)->s.heap.objs.size<=dx->h'.get? x=.qS->h'.Ns1 dx (aj2 na nb c p)->R (.ok (.ret .none)) {s with heap:=h',toks:=tk}):codeAny .aQ A (.call (.ref fI) ⟨[.dE,c,p],[]⟩) R s:=by obtain⟨qual,params,scope,dV,kV,doc,pm,eQ,ct,oc,an,od,LN,ps,pa,pb,pp,lk,-,Vy,aad,hco,amm,hk,l0,l1,l2,d01,d02,d12,b0,b1,b2,hs⟩:=XI.ex;refine codeAny_call_function aar (KX _ _ lk) rfl hco amm rfl (SE KX Vy) ? _;rw[aad];refine wpAny_pure (wpAny_newFunctionEnv_cells hk (.cg) fun bA he s1 X1=>? _);{simp only[aJ,List.mem_nil_iff,or_false]at hy;rcases hy with rfl|rfl|rfl;{exact .inl l0};{exact .inl l1};{exact .inl l2}};subst he;refine⟨lim.keeps X1.toInCall.keep,codeAny_func ? _⟩;have kf:∀y,(.oP).kindOf y=.gN:=.bQ;have Xw:=X1.toInCall.ns;obtain⟨h1,tk1,rfl,VE⟩:=X1.done;(have m0:bindL (.oP).kindOf .vJ (.gu) ps=some .aR:=by simp only[bindL,kf,l0,l1,l2,if_true,if_pos,if_neg d01,if_neg d02]);(have m1:bindL (.oP).kindOf .vJ (.gu) pa=.br:=by simp only[bindL,kf,l0,l1,l2,if_true,if_pos,if_neg d12]);(have m2:bindL (.oP).kindOf .vJ (.gu) pb=some p:=by simp only[bindL,kf,l0,l1,l2,if_true,if_pos]);have hx1:=VE _ _ hx;have hxL:x≠s.heap.objs.size:=bS (Heap.lt_size hx);have K1:K.In h1:=KX.keeps VE;(have sz1:s.heap.objs.size<h1.objs.size:=by obtain⟨o,_,_,e,_⟩:=Xw;rw[22]);refine wpAny_execs_cons (plainObj_wpAny_Assign_Attribute (wpAny_Name (wpAny_loadName_local hk l1 Xw m1 (wpAny_Name (wpAny_loadName_local hk l0 Xw m0 ? _) b0)) b1) (hs _).1);refine UL XC K1 hx1 XC.n1 fun h2 tk2 kp2 VG MZ=>? _;have K2:K.In h2:=fun b o e=>kp2 b o (fun z=>by rw[z,hxK]at e;cases e) (K1 b o e);have ath:=auu Xw fun o e=>kp2 _ o (cW hxL) e;have mi:h1.objs.size≠x:=ia (Heap.lt_size hx1);refine wpAny_execs_cons (plainObj_wpAny_Assign_Attribute (wpAny_Name (wpAny_loadName_local hk l2 ath m2 (wpAny_Name (wpAny_loadName_local hk l0 ath m0 ? _) b0)) b2) (hs _).2);refine UM (ns:=[na]) XC K2 VG mi MZ XC.n2 (Within.cons na c Within.nil) .aC fun h3 tk3 hs3 hn3=>? _;refine wpAny_execs_nil (h h3 tk3 h1.objs.size (.dO) (mJ sz1) ((hs3.2 x (cW mi)).trans VG) hn3);exact(hs3.2 b (bS (Heap.lt_size (VE b o e)))).trans (kp2 b o hb (VE b o e))
theorem V3{K:ae}{h:Heap}{N:Addr}(KX:K.In h)(e:∃oc od es ep sl,K.lookup N=some ⟨oc,od,.dict es ep,sl⟩/\(es.toList.all fun e=>match e.key with|.str _ _=>true|_=>false)=true):∃mN,h.Ns N mN/\∀x r,qP K N x=some r->mN x=r:=by obtain⟨oc,od,es,ep,sl,l,hk⟩:=e;refine⟨fun x=>nsFind es x,⟨_,es,ep,KX _ _ l,rfl,fun e he=>? _,.bQ⟩,fun x r hr=>? _⟩;{have q:=iO.mp hk e (zd.mpr he);cases k:e.key with|str n t=>exact⟨n,t,rfl⟩|_=>rw[k]at q;cases q};{unfold qP at hr;rw[l]at hr;dsimp only at hr;show nsFind es x=r;unfold nsFind findBy;rw[<-WK];split at hr;{rename_i en he;rw[he];exact aB hr};{rename_i he;rw[he];split at hr;{cases hr};{exact aB hr}}}
theorem aw7{E:.ax}{c p:Value}{s:Shared}{Q:.ax}(XC:.fS)(XI:O7 K fI na nb)(KX:.dV)(lim:s.heap.NoLimit)(aar:A.depth+1<recursionLimit)(h:∀h' tk x dx t,.fO->.fh=none->s.heap.get? dx=none->dx≠x->h'.get? x=.qS->h'.Ns1 dx (aj2 na nb c p)->Q .aR {s with heap:=h',toks:=tk}):wpAny .aQ A (call .be [c,p]) Q E s:=by rw[112];rw[281];obtain⟨qual,params,scope,dV,kV,doc,pm,eQ,ct,oc,an,od,LN,ps,pa,pb,pp,lk,hoc,-⟩:=XI.ex;refine wpAny_call_exc_init F.excBase_Exception (KX _ _ lC) hN (hmN _ _ XC.init) (KX _ _ lk) hoc (fun h1 e hm=>? _) (.pR);obtain⟨t,ht,-,-⟩:=hm.there;(have eK:K.lookup e=none:=by cases q:K.lookup e with|none=>rfl|some o=>have:=KX _ _ q;rw[hm.new]at this;cases this);refine wpAny_call (aw6 XC XI (KX.keeps hm.keeps) (lim.keeps hm.keeps) (by rw[HG];exact aar) ht eK fun h2 tk2 dx kp hd hx Xw=>? _);have dn:h1.get? dx=none:=Heap.get?_none_of_le hd;refine⟨rfl,h h2 tk2 e dx t (fun b o e1=>kp b o (fun z=>by rw[z,hm.new]at e1;cases e1) (hm.keeps b o e1)) hm.new ? _ .f7 hx Xw⟩;{cases q:hh.get? dx with|none=>rfl|some o=>rw[hm.keeps _ _ q]at dn;cases dn};{rw[z,ht]at dn;cases dn}
end
open PySem.W(Looks looks_findIn looks_clsIn looks_mroIn InstAt)
section
variable{P:Program}{w:World}{A:Around}{E:Value->Shared->Prop}{s:Shared}{K:ae}{C N fI:Addr}{na nb:Str}{bA:Env}
theorem UK{xs:.hJ}{Q:Flow->.bK}(XC:.fS)(hh:.f6)(h:wpAny .aQ A xs (fun v s1=>∃x dx t,v=.dE/\K.In s1.heap/\s1.heap.get? x=.qS/\E .aR s1) E s):.AO:=by unfold raiseStmt;refine wpAny_bind (wpAny_mono h (fun v s1 h1=>? _) fun _ _ z=>z);obtain⟨x,dx,t,rfl,KX,hx,hE⟩:=h1;rw[221];rw[hh];exact wpAny_throw hE
end
open PySem.W(Looks looks_findIn looks_clsIn looks_mroIn InstAt)
def CU(h:Heap)(C x:Addr)(dx:.bE)(T:.bE)(fl:Value):Prop:=∃vs sl,h.get? x=.pX/\1<vs.size/\match T with|none=>vs[1]?=some .none|some T=>vs[1]?=some (.ref T)/\T≠x/\∃oT ts,h.get? T=some oT/\oT.data=.fields ts/\ts[3]?=some fl
theorem CU.new{h:Heap}{C x dx t:Addr}(e:h.get? x=.qS)(fl:Value):CU h C x (.d3) none fl:=⟨_,_,e,.aN,rfl⟩
structure GG(fs:List Addr)(x:Addr)(T:Option Addr)(h h':Heap):Prop where
keep:∀b o,h.get? b=some o->b∉fs->b≠x->T≠some b->h'.get? b=some o
slot:∀b o,h.get? b=some o->b∈fs->∃sl,h'.get? b=some {o with slots:=sl}
section
variable{M:Model}{A:Around}{E:Value->Shared->Prop}{s:Shared}{base:Heap}{bA:Env}{aY:List Env}{L C x:Addr}{dx:Option Addr}
theorem ae3{vs:.er}{sl:Array (.dR)}{head:Value}{ag6:Bool}{Q:.bW}(hfr:.pY)(hl:.pZ)(hf:.kq)(he:.fh=.pX)(hsz:1<vs.size)(h:∀h' T,GG (Ak (bA::aY)) x none s.heap h'->s.heap.get? T=none->.FX->.fH):wpAny M A (do let a<-frameOf bA;let pl<-entryPlaceOf L ag6;let b<-EntryCells.newEntry head a .none (rawInt L) .none pl;setField (.ref x) 1 b) Q E s:=by(have nx:x∉Ak (bA::aY):=fun hm=>by obtain⟨_,o,ho,hn⟩:=hl.mem hm;rw[he]at ho;cases ho;exact hn vs rfl);refine wpAny_bind (wpAny_frameOf_fun hfr hl hf fun h1 Xy=>wpAny_bind (wpAny_entryPlaceOf fun pl tZ=>? _));unfold EntryCells.newEntry newFields;refine wpAny_bind (wpAny_newObj_type ? _ (tZ.sizeOk5 _ _ _ _ _));generalize Ls:({cls:=.type "traceback",dict:=none,data:=.fields ([head,.ref L,.none,rawInt L,.none]++(if pl.isEmpty then eY 6 Value.none else pl)).toArray}:Obj)=ob;have hx1:h1.get? x=.pX:=(Xy.2.1 x nx).trans he;have VG:(h1.push ob).get? x=.pX:=Heap.get?_push_of_some ob hx1;have hxT:h1.objs.size≠x:=ia (Heap.lt_size hx1);refine wpAny_setField VG rfl hsz (h _ h1.objs.size ⟨fun b o e hb hbx _=>? _,fun b o e hb=>? _⟩ (Heap.get?_none_of_le (lj Xy.1.symm)) ? _);{rw[Heap.get?_update_other _ _ (cW hbx)];exact Heap.get?_push_of_some _ ((Xy.2.1 b hb).trans e)};{obtain⟨sl',e'⟩:=Xy.2.2 b o e;refine⟨sl',? _⟩;rw[Heap.get?_update_other _ _ (show x≠b from fun z=>nx (z▸hb))];exact Heap.get?_push_of_some _ e'};{refine⟨vs.setIfInBounds 1 (.ref h1.objs.size),sl,? _,by simpa using hsz,? _,hxT,ob,? _⟩;{rw[Heap.get?_update_self _ VG (by rfl)];rfl};{rw[lM hsz]};{subst Ls;refine⟨_,? _,rfl,? _⟩;{rw[Heap.get?_update_other _ _ (cW hxT)];exact Heap.get?_push_at rfl rfl};{simp}}}
theorem akx{T:.bE}{Q:.bW}(hfr:.pY)(hl:.pZ)(hf:.kq)(hx:CU s.heap C x dx T .none)(h:∀h' T',.uq->.yi->.CV):.Es:=by obtain⟨vs,sl,he,hsz,hT⟩:=hx;unfold noteFrame;simp only[hf];cases T with|none=>refine wpAny_bind (wpAny_field he rfl hT ? _);rw[.aE];exact ae3 hfr hl hf he hsz fun h' T' k n a=>h h' T' ⟨k.keep,k.slot⟩ n a|some T=>obtain⟨h1,Vw,oT,ts,Lr,F3,h3⟩:=hT;rw[137];refine .Et;rw[if_neg (show¬(Value.none==rawInt L)=true by simp[rawInt])];refine wpAny_bind (wpAny_setField Lr F3 (jP.mp h3).1 ? _);have oth:∀b,b≠T->(.oQ).get? b=.gq:=fun b hb=>.mH;(have nT:∀b∈Ak (bA::aY),b≠T:=fun b hb z=>by obtain⟨_,o,ho,hn⟩:=hl.mem hb;rw[z,Lr]at ho;cases ho;exact hn ts F3);have TT:∃o,(.oQ).get? T=.ah:=⟨_,Heap.get?_update_self _ Lr .sZ⟩;refine ae3 (hfr:=hfr) (hl:=hl.of_keeps fun b o hb hn=>⟨o,(oth b fun z=>? _).trans hb,rfl⟩) hf ((oth x (cW Vw)).trans he) hsz fun h' T' k n a=>h h' T' .Eu ? _ a;{rw[z,Lr]at hb;cases hb;exact hn ts F3};{exact k.keep b o ((oth b fun z=>hbT .rD).trans e) hb hbx .bt};{exact k.slot b o ((oth b (nT b hb)).trans e) hb};{cases q:s.heap.get? T' with|none=>rfl|some o=>by_cases z:T'=T;{obtain⟨o2,e2⟩:=TT;rw[z,e2]at n;cases n};{have n':(.oQ).get? T'=none:=n;rw[oth T' z,q]at n';cases n'}}
theorem Cv{T:Addr}{fl:Value}{Q:.bW}(hx:.vK)(h:∀h',.s6->.CW->CU h' C x dx .jt .none->.fH):wpAny M A (setFlight .aR none) Q E s:=by rw[355];have TT:=Heap.get?_update_self .CX Lr .sZ;refine wpAny_setField Lr F3 h3' (h _ (fun b o hb e=>(.mH).trans e) (fun b n=>? _) ⟨vs,sl,(Heap.get?_update_other _ _ Vw).trans he,hsz,h1,Vw,_,_,TT,Obj.data_mapFields F3 _,? _⟩);{by_cases z:b=T;{rw[z]at n;have n':(.oQ).get? T=none:=n;rw[TT]at n';cases n'};{exact .CY}};{rw[lM h3']}
def al3(bA:Env)(T:.bE)(fl:Value):Prop:=fl=.none\/∃L,.kq/\fl=rawInt L/\T≠none
theorem UJ{T:.bE}{fl:Value}{Q:.bW}(hfr:.pY)(hl:.pZ)(hf:.kq)(hx:.w6)(ho:al3 bA T fl)(h:∀h' T',.uq->(.yi\/(T=some T'/\h'=s.heap))->.CV):.Es:=by rcases ho with rfl|⟨L',hL,rfl,hT⟩;{exact akx hfr hl hf hx fun h' T' k n a=>h h' T' k (.inl n) a};{rw[hf]at hL;cases hL;cases T with|none=>exact absurd rfl hT|some T=>have Y5:=hx;rw[138];unfold noteFrame;simp only[hf];rw[137];refine .Et;rw[if_pos (show(rawInt L==rawInt L)=true by simp)];exact wpAny_pure (h s.heap T ⟨fun b o e _ _ _=>e,fun b o e _=>⟨o.slots,e⟩⟩ (.inr .ea) Y5)}
theorem YO{T:Addr}{fl:Value}{f:Addr}{Q:.bW}(hx:.vK)(h:∀h',.s6->.CW->CU h' C x dx .jt (rawInt f)->.fH):wpAny M A (setFlight .aR (some f)) Q E s:=by rw[355];have TT:=Heap.get?_update_self .CZ Lr .sZ;refine wpAny_setField Lr F3 h3' (h _ (fun b o hb e=>(.mH).trans e) (fun b n=>? _) ⟨vs,sl,(Heap.get?_update_other _ _ Vw).trans he,hsz,h1,Vw,_,_,TT,Obj.data_mapFields F3 _,? _⟩);{by_cases z:b=T;{rw[z]at n;have n':(s.heap.update T .CZ).get? T=none:=n;rw[TT]at n';cases n'};{exact .CY}};{rw[lM h3']}
theorem ap5{T:.bE}{fl:Value}{Q:.bW}(hfr:.pY)(hl:.pZ)(hf:.kq)(hx:.w6)(ho:al3 bA T fl)(h:∀h' T',.uq->(.yi\/T=some T')->CU h' C x dx (some T') .none->.fH):wpAny M A (leaving bA .aR) Q E s:=by unfold leaving;refine wpAny_bind (UJ hfr hl hf hx ho .yj);refine Cv (s:={s with heap:=h1}) a1 fun h2 k2 _ a2=>h h2 T1 .Eu (n1.imp id And.left) a2;{refine k2 b o .f7 (k1.keep b o e hb hbx hbT);rcases n1 with n1|⟨n1,_⟩;{rw[z,n1]at e;cases e};{exact hbT (by rw[n1,z])}};{obtain⟨sl,e'⟩:=k1.slot b o e hb;refine⟨sl,k2 b _ .f7 e'⟩;rcases n1 with n1|⟨n1,n2⟩;{rw[z,n1]at e;cases e};{subst z;obtain⟨vs,sl',he,hsz,h1',Vw,oT,ts,Lr,F3,h3⟩:=a1;obtain⟨_,o,Qj,hn⟩:=hl.mem hb;rw[n2]at Lr;rw[Lr]at Qj;cases Qj;exact hn ts F3}}
end
open PySem.W(Looks looks_findIn looks_clsIn looks_mroIn InstAt)
theorem i5.there{P:Program}{w:World}{H:Hp}{h:Heap}{a:Addr}{o:HO}(x:.rl):∃ob,.bw=some ob:=by cases o with|bJ xs=>obtain⟨_,_,_,_,e⟩:=x;rw[26]|fL xs=>obtain⟨_,_,_,_,e,_⟩:=x;rw[26]|dK kvs=>rw[59];rw[26]|dT kvs=>rw[59];rw[26]|set S n=>obtain⟨o,_,_,_,e,_⟩:=x;rw[26]|cH C dx fs=>obtain⟨_,_,_,e,_⟩:=x;rw[26]|own y=>exact x|xd fs=>obtain⟨_,⟨_,_,_,e,_⟩,_⟩:=x;rw[26]|rng lo hi=>obtain⟨_,_,_,e⟩:=x;rw[26]|lu ob u=>obtain⟨e,_⟩:=x;rw[26]|tbl ps=>exact⟨_,x⟩|met f y=>exact⟨_,x⟩|ext φ=>obtain⟨_,e,_⟩:=x;exact e
theorem tG.free{P:Program}{w:World}{H:Hp}{h:Heap}{a:Addr}(x:.cj)(e:.bw=none):.fs:=by cases q:H a with|none=>rfl|some u=>obtain⟨o,ho⟩:=(x a u q).there;rw[e]at ho;cases ho
def j3(P:Program)(w:World)(C:Addr):OK:=fun aY H s E e s'=>∃(x:Addr)(dx:.bE)(T:Addr)(H':Hp),e=.dE/\s'.os=s.os/\.ro/\.Fz/\tG P w H' s'.heap/\CU s'.heap C x dx .jt .none/\.fh=none/\s.heap.get? T=none/\H' x=none/\H' T=none/\E .be dx H'
def Gv(X:Cx)(C:Addr)(E:XK):Prop:=∀(pins:.aA)(σ:St)(H:Hp)(s:Shared)(x:Addr)(dx:.bE)(T:.bE)(fl:Value),.aa->.w6->al3 X.bA T fl->.w7->.hR->(.C0)->(.FY)->E .be dx H->X.xe .aR s
section
variable{X:Cx}{pins:List (Addr×Obj)}{σ:St}{H:Hp}{s:Shared}{C:Addr}{E:XK}
theorem Inv.si(I:.aa){a:Addr}(h:.hc=none)(hx:a∉X.ex):.w8:=by cases q:X.wx.heap.get? a with|none=>rfl|some o=>obtain⟨o',e⟩:=I.base.there a o q hx;rw[h]at e;cases e
theorem Gv.passes(h:Gv X C E)(hex:X.ex=[]):m_ (j3 X.prog X.w C) X E:=by rintro pins σ H s e s' I⟨x,dx,T,H',rfl,os,lG,un,fb,hx,nx,nT,fx,fT,hE⟩;rw[60];have I':.ec:=I.U' (ch:=[]) os un fb lG (fun b z=>nomatch z);refine h pins σ H' s' x dx .jt .none I' hx .bB (I.si nx (sh x)) fx (fun t e=>? _) (.eS) hE;{cases e;exact⟨I.si nT (sh T),fT⟩};{have e:=(I.AY p hp).1;exact⟨fun z=>(by rw[z,nx]at e;cases e),fun z=>(by rw[<-aB z,nT]at e;cases e)⟩}
theorem GG.fb{P:Program}{w:World}{fs:.ao}{x:Addr}{T:.bE}{h h':Heap}(k:GG fs x T h h')(fb:.cj)(hf:∀b∈fs,.bx)(hx:.hR)(hT:∀t,T=some t->H t=none):tG P w H h':=by have kk:∀b u,H b≠none->.ly:=fun b u hb e=>k.keep b u e (fun z=>hb (hf b z)) (fun z=>hb (by rw[z];exact hx)) (fun z=>hb (hT b z));intro a o e;refine(fb a o e).B0 (fun b u hb q=>kk b u ? _ q) .n8 .hI;rcases hb with rfl|hb;{rw[e];exact .qT};{rw[hb];exact .qT}
end
theorem bU{P:Program}{w:World}{K:ae}{mg:.aV}{base:Heap}{N:.a0}{qual:Str}{scope:Scope}{f:Addr}{cd:Value}{A:Around}{aY:.dw}{s0:Shared}{H0:Hp}{C:Addr}{E:XK}:Gv (JV (j3 P w C) P w K mg base N qual scope f cd A aY s0 H0 E) C E:=by intro pins σ H s x dx T fl I hx ho n0 fx hT hp hE;have hfr:(A.deeper (.zN)).frames=some .lN:=I.ok.frames;have hl:s.heap.FunFrames base .lN:=I.stack;refine ap5 hfr hl rfl hx ho fun h' T' k nT' a=>? _;(have nT2:s0.heap.get? T'=none/\H T'=none:=by rcases nT' with z|z;{exact⟨I.si z .bt,I.fb.free z⟩};{exact hT T' z});have hu:=I.base;have hF:∀b∈Ak .lN,.bx:=I.yW;have neL:∀b o,s0.heap.get? b=.ah->b≠s0.heap.objs.size:=fun b o e=>.gM;(have nfs:∀b o,s0.heap.get? b=.ah->b∉Ak aY->b∉Ak .lN:=fun b o e hb z=>by rcases aJ.mp (show b∈s0.heap.objs.size::Ak aY from z)with z|z;{exact neL b o e z};{exact hb z});have nex:∀b o,s0.heap.get? b=.ah->b≠x/\T≠some b:=fun b o e=>⟨fun z=>(by rw[z,show s0.heap.get? x=none from n0]at e;cases e),fun z=>(by rw[show s0.heap.get? b=none from(hT b z).1]at e;cases e)⟩;(have un:Un (Ak aY) [] H0 H s0.heap h':=by refine⟨fun b o e n hb Y5=>k.keep b o (hu.keep b o e n hb Y5) (nfs b o e hb) (.hF).1 (.hF).2,fun b o e n hb Y5=>? _,hu.free,fun b o e Y5=>? _,hu.Cr,hu.zm,hu.Cq⟩;{obtain⟨sl,e1⟩:=hu.slot b o e n hb Y5;obtain⟨sl2,e2⟩:=k.slot b _ e1 (ak _ hb);exact⟨sl2,e2⟩};{obtain⟨o1,e1⟩:=hu.there b o e Y5;by_cases hb:b∈Ak .lN;{obtain⟨sl2,e2⟩:=k.slot b _ e1 hb;exact⟨_,e2⟩};{exact⟨_,k.keep b o1 e1 hb (.hF).1 (.hF).2⟩}});refine⟨x,dx,T',H,rfl,I.os,I.lG,un,k.fb I.fb hF fx fun t e=>(hT t e).2,a,n0,nT2.1,fx,nT2.2,hE⟩
open PySem.W(Looks looks_findIn looks_clsIn looks_mroIn InstAt)
theorem Un.Qr{fs ex:.ao}{H:Hp}{h h':Heap}{a:Addr}{o:HO}(k:.jx)(hp:.bw=none)(hn:.fs):Un fs ex H .dv h h' where keep:=fun b u q _ _ _=>k b u q;slot:=.Fk;free:=(fun b u q n _=>by rw[ai (fun z=>by rw[z,hp]at q;cases q)];exact n);there:=fun b u q _=>⟨u,k b u q⟩;Cr:=fun b xs q=>.eK;zm:=fun b u xs q=>.eK;Cq:=.Cu
theorem tG.Qr{P:Program}{w:World}{H:Hp}{h h':Heap}{a:Addr}{o:HO}(x:.cj)(k:.jx)(hp:.bw=none)(new:i5 P w .dv h' a o):tG P w .dv h':=fun b u e=>by have hn:=x.free hp;by_cases hb:b=a;rw[201]
theorem Inv.Qr{X:Cx}{pins:.aA}{σ:St}{H:Hp}{s:Shared}{h':Heap}{a:Addr}{o:HO}{t':Nat}(I:.aa)(k:.oz)(hp:.hc=none)(new:i5 X.prog X.w .dv h' a o):.Cx:=I.un (Un.Qr k hp (I.fb.free hp)) (I.fb.Qr k hp new)
abbrev UI(na nb:Str)(c p:V):.a7:=[(na,c),(nb,p)]
theorem aj1{na nb:Str}(ne:¬nb=na){c p:V}{c' p':Value}(rc:e_ c c')(rp:e_ p p')(f:Str):t9 ((UI na nb c p).lookup f) (aj2 na nb c' p' f):=by unfold aj2;by_cases h1:f=nb;{subst h1;(have e:(UI na f c p).lookup f=some p:=by show(match f==na with|true=>.br|false=>[(f,p)].lookup f)=some p;rw[beq_eq_false_iff_ne.mpr ne];show(match f==f with|true=>some p|false=>([]:.a7).lookup f)=some p;rw[beq_self_eq_true]);rw[e,.aJ];exact rp};{rw[.ep];by_cases h2:f=na;{subst h2;(have e:(UI f nb c p).lookup f=.br:=by show(match f==f with|true=>.br|false=>[(nb,p)].lookup f)=.br;rw[beq_self_eq_true]);rw[e,.aJ];exact rc};{(have e:(UI na nb c p).lookup f=none:=by show(match f==na with|true=>.br|false=>[(nb,p)].lookup f)=none;rw[beq_eq_false_iff_ne.mpr h2];show(match f==nb with|true=>some p|false=>([]:.a7).lookup f)=none;rw[beq_eq_false_iff_ne.mpr h1];rfl);rw[e,.dt];exact jR}}
section
variable{X:Cx}{C N fI:Addr}{na nb x:Str}{E:XK}{e:Expr}{es:List Expr}{t:TA}{p mQ pos:Pos}
def tX(C:Addr)(na nb:Str)(E:XK)(t:TA):TS:=fun _ σ H=>t σ H fun vs H1=>∃c p,vs=[c,p]/\∀dx,H1 dx=none->E .be (.d3) (aN H1 dx (.xd (UI na nb c p)))
theorem mX{k:Nat}(XC:.yk)(XI:O7 X.K fI na nb)(L:Gv X C E)(hex:X.ex=[])(hr:.fw)(hg:.cq)(hm:.cO=.eh)(ha:.eM)(Hs:.bX:=by decide)(he:.eg:=by rfl)(tZ:.ud=false:=by rfl):PS X (.Raise (some (.Call .iP .eA [] mQ)) none pos) (tX C na nb E t):=by rw[14];rw[arm_exec_Raise];refine wpAny_bind (wpAny_standAt (UK XC hr.hd (wpAny_bind (.oF))));refine nc (h₀:=X.base) I.ok.ET.kin XC.kp (iu (ha mQ pins s σ H _ I h) .t7) he tZ;obtain⟨c,pl,rfl,q⟩:=q;obtain⟨c',p',rfl,rc,rp⟩:=aw2 r;refine aw7 XC XI I1.C9 I1.nolimit (by have:=hr.dp;omega) fun h' tk xx dx t0 kp nx nd ne hx Xw=>? _;refine wpAny_bind (wpAny_standAt (wpAny_pure ⟨xx,dx,t0,rfl,I1.C9.keeps kp,hx,? _⟩));have I2:Inv X pins σ (aN H1 dx (.xd (UI na nb c pl))) {s1 with heap:=h',toks:=tk}:=I1.Qr kp nd ⟨_,Xw,fun f=>aj1 XC.ne rc rp f⟩;rw[60];refine L pins σ _ _ xx (.d3) none .none I2 (CU.new hx _) .bB (I1.si nx (sh xx)) ? _ (fun t z=>nomatch z) .C1 (q dx (I1.fb.free nd));{rw[ai (cW ne)];exact I1.fb.free nx};{have e0:=(I1.AY p0 hp).1;rw[z,nx]at e0;cases e0}
end
open PySem.W(Looks looks_findIn looks_clsIn looks_mroIn InstAt)
def XO(C x dx:Addr):HO:=.ext fun h=>∃vs sl,h.get? x=some .ur
abbrev Cx.uq(X:Cx)(e:Value):Cx:={X with A:=X.A.mark (some e),tQ:=false,xe:=fun _ _=>False}
abbrev Cx.under(X:Cx)(xe:.ax)(pn:.aA):Cx:={X with xe:=xe,pn:=pn}
section
variable{X:Cx}{pins:List (Addr×Obj)}{σ:St}{H:Hp}{s:Shared}
theorem Inv.uq(I:.aa)(e:Value):Inv (X.uq e) pins σ H s:=⟨⟨I.ok.ET,I.ok.kind,I.ok.C7,I.ok.blt,I.ok.above,I.ok.inj,I.ok.has,I.ok.cab,fun z=>dR z,I.ok.frames,I.ok.stk,I.ok.exf,I.ok.bs,I.ok.W7,I.ok.sh,I.ok.MP,I.ok.Al,I.ok.frf⟩,I.os,I.lG,I.base,I.CL,I.cell,I.free,I.mT,I.AY,I.fb,I.j9⟩
theorem Inv.H_{e:Value}(I:Inv (X.uq e) pins σ H s)(ok:X.Ok):.aa:=⟨ok,I.os,I.lG,I.base,I.CL,I.cell,I.free,I.mT,I.AY,I.fb,I.j9⟩
theorem Inv.under(I:.aa)(xe:.ax):Inv (X.under xe (.dy)) [] σ H s:=⟨⟨I.ok.ET,I.ok.kind,I.ok.C7,I.ok.blt,I.ok.above,I.ok.inj,I.ok.has,I.ok.cab,I.ok.hd,I.ok.frames,I.ok.stk,I.ok.exf,I.ok.bs,I.ok.W7,I.ok.sh,I.ok.MP,I.ok.Al,I.ok.frf⟩,I.os,I.lG,I.base,I.CL,I.cell,I.free,I.mT,fun p hp=>I.AY p (by simpa using hp),I.fb,I.j9⟩
theorem Inv.mV{xe:.ax}{xZ:.aA}(I:Inv (X.under xe (.dy)) xZ σ H s)(ok:X.Ok):.aa:=⟨ok,I.os,I.lG,I.base,I.CL,I.cell,I.free,I.mT,fun p hp=>I.AY p (bR _ hp),I.fb,I.j9⟩
theorem Inv.aw1(I:.aa){a:Addr}{o:HO}{ob:Obj}(h0:.w8)(hn:.fs)(Ls:.hc=some ob){vs:.er}(hd:ob.data=.fields vs)(hp:∀p∈.dy,p.1≠a)(ok:i5 X.prog X.w .dv s.heap a o):Inv X pins σ .dv s:=by(have hL:X.bA.locals≠a:=fun z=>by obtain⟨m,⟨oL,es,ep,e,ed,_⟩,_⟩:=I.CL;rw[z,Ls]at e;cases e;rw[hd]at ed;cases ed);(have hC:∀x c,.mq->c≠a:=fun x c e z=>by obtain⟨v,oc,e1,e2⟩:=.kP;rw[z,Ls]at e1;cases e1;rw[hd]at e2;cases e2);refine⟨I.ok,I.os,I.lG,⟨I.base.keep,I.base.slot,fun b o' e n hx=>? _,I.base.there,fun b xs e=>? _,fun b o' u e=>? _,fun b ps e=>? _⟩,I.CL,I.cell,? _,fun x c e=>? _,fun p hp'=>? _,fun b u e=>? _,I.j9⟩;{rw[ai (fun z=>by rw[z,h0]at e;cases e)];exact I.base.free b o' e n hx};{have q:=I.base.Cr b xs e;rw[ai (aq q hn)];exact q};{have q:=I.base.zm b o' u e;rw[ai (aq q hn)];exact q};{obtain⟨m,q⟩:=I.base.Cq b ps e;exact⟨m,.eK⟩};{rw[ai hL];exact I.free};{rw[ai (hC x c e)];exact .k4};{obtain⟨e,n,r⟩:=I.AY p hp';exact⟨e,by rw[ai (hp p hp')];exact n,r⟩};{by_cases hb:b=a;{subst hb;rw[54];exact ok};{rw[ai hb]at e;exact(I.fb b u e).B0 (fun c v _ q=>q) (fun c q=>.eK) fun c xs q=>.eK}}
theorem Inv.Hk(I:.aa){h':Heap}{m':.aV}{t':Nat}(hn:h'.Ns X.bA.locals m')(hs:Heap.SameBut X.bA.locals s.heap h'):Inv X pins (eY X.N.length none) H {s with heap:=h',toks:=t'}:=by rw[128];refine⟨I.ok,I.os,I.lG,⟨fun b o e n hb hx=>(hs.2 b .kR).trans .lz,.kQ,I.base.free,fun b o e hx=>? _,I.base.Cr,I.base.zm,I.base.Cq⟩,⟨m',hn,fun i x v _ e _=>? _⟩,fun x c e=>? _,I.free,I.mT,.eS,fun b u e=>? _,.aN⟩;{rw[71];exact⟨sl,(hs.2 b .kR).trans e1⟩};{rw[72];exact⟨o',(hs.2 b .kR).trans e1⟩};{rw[OZ]at e;split at e<;>cases e};{obtain⟨v,z⟩:=.kP;exact⟨v,z.sameBut hs (I.cne x c e)⟩};{obtain⟨e,n,ne,r⟩:=I.AY p hp;exact⟨(hs.2 p.1 ne).trans e,n,ne,r⟩};{refine(I.fb b u e).B0 (fun c v hc q=>(hs.2 c ? _).trans q) .n8 .hI;rw[2];rcases hc with z|z;{rw[<-z,I.free]at e;cases e};{rw[I.free]at z;cases z}}
end
open PySem.W(Looks looks_findIn looks_clsIn looks_mroIn InstAt)
section
variable{X:Cx}{pins:List (Addr×Obj)}{σ:St}{H:Hp}{s:Shared}
theorem Inv.Mj(I:.aa){h':Heap}{x:Addr}{T:.bE}(k:GG (.gr) x T s.heap h')(n0:.w7)(fx:.hR)(hT:.C0)(hp:.FY)(hxd:∃o vs,.fh=.ah/\.ke)(hTd:∀t,T=some t->∃o vs,s.heap.get? t=.ah/\.ke):.pD:=by have nex:∀b o,.wQ->b≠x/\T≠some b:=fun b o e=>⟨fun z=>(by rw[z,n0]at e;cases e),fun z=>(by rw[(hT b z).1]at e;cases e)⟩;rw[128];have nfs:∀b,.kc->b∉X.fs->b∉.gr:=fun b h1 h2 z=>(aJ.mp (I.Jb b z)).elim h1 h2;(have kd:∀b o,.dx->(∀vs,o.data≠.fields vs)->.tX:=fun b o e hn=>by by_cases hb:b∈.gr;{exact k.slot b o e hb};{refine⟨o.slots,k.keep b o e hb .f7 fun z=>? _⟩;{obtain⟨o',vs,e',d'⟩:=hxd;rw[<-z,e]at e';cases e';exact hn vs d'};{obtain⟨o',vs,e',d'⟩:=hTd b z;rw[e]at e';cases e';exact hn vs d'}});(have kc:∀c v,.Fl:=fun c v⟨o,e,d⟩=>by obtain⟨sl,e'⟩:=kd c o e (fun vs z=>by rw[d]at z;cases z);exact⟨_,e',d⟩);(have any:∀b o,.dx->b≠x->T≠some b->.tX:=fun b o e h1 h2=>by by_cases hb:b∈.gr;{exact k.slot b o e hb};{exact⟨o.slots,k.keep b o e hb h1 h2⟩});refine⟨I.ok,I.os,I.lG,⟨fun b o e n hb hx=>k.keep b o .lz (nfs b .kR hb) (.hF).1 (.hF).2,.kQ,I.base.free,fun b o e hx=>? _,I.base.Cr,I.base.zm,I.base.Cq⟩,? _,fun y c e=>? _,I.free,I.mT,fun p hp'=>? _,? _,I.j9⟩;{rw[71];rw[326];exact⟨sl2,e2⟩};{obtain⟨o1,e1⟩:=I.base.there b o e hx;rw[326];exact⟨_,e2⟩};{obtain⟨m,⟨oL,es,ep,e,ed,r⟩,hl⟩:=I.CL;obtain⟨sl,e'⟩:=kd _ oL e (fun vs z=>by rw[ed]at z;cases z);refine⟨m,⟨_,es,ep,e',ed,r⟩,fun j y v e1 e2 e3=>? _⟩;obtain⟨u,ru,q⟩:=hl j y v e1 e2 e3;refine⟨u,ru,? _⟩;rcases q with q|⟨kk,c,e4,z⟩;{exact .inl q};{exact .inr ⟨kk,c,e4,kc c _ z⟩}};{obtain⟨v,z⟩:=I.cell y c e;exact⟨v,kc c v z⟩};{obtain⟨e,n,ne,nf,d⟩:=I.AY p hp';exact⟨k.keep p.1 p.2 e (nfs p.1 ne nf) (hp p hp').1 (hp p hp').2,n,ne,nf,d⟩};{exact k.fb I.fb (fun b hb=>I.yW b hb) fx fun t e=>(hT t e).2}
theorem CU.data{h:Heap}{C x:Addr}{dx:.bE}{T:.bE}{fl:Value}(a:CU h C x dx T fl):(∃o vs,h.get? x=.ah/\.ke)/\∀t,T=some t->∃o vs,h.get? t=.ah/\.ke:=by obtain⟨vs,sl,e,_,r⟩:=a;refine⟨⟨_,vs,e,rfl⟩,fun t z=>? _⟩;subst z;obtain⟨_,_,oT,ts,e2,d2,_⟩:=r;exact⟨oT,ts,e2,d2⟩
end
def CN.Hk(D:CN)(n:Nat):CN:={nx:=fun _ H=>D.nx (eY n none) H,rt:=D.rt,bk:=fun _ H=>D.bk (eY n none) H,ct:=fun _ H=>D.ct (eY n none) H}
def avv(n i:Nat)(C:Addr)(tb:XK->TS)(th:TS):TS:=fun D σ H=>tb (fun _ d H'=>∃dx,d=.d3/\∀(σ':St)(x:Addr),σ'.length=n->H' x=none->th (D.Hk n) (σ'.set i (some .aR)) (aN H' x (XO C x dx))) D σ H
section
variable{X:Cx}{C N fI:Addr}{na nb x n:Str}{i:Nat}{body Jc:List Stmt}{b0:Stmt}{tb:XK->TS}{th:TS}{p Hv pos:Pos}
theorem aoa(XC:.yk)(wU:.mI)(hfr:.p1)(hex:X.ex=[])(hN:X.N.Nodup)(hi:X.N[i]?=some n)(hl:X.bA.scope.names.lookup n=.dS)(hg:.cq)(hm:.cO=.eh)(hb:.zO)(hs:∀e,Mm (X.uq e) (b0::Jc) th)(Hs:.bX:=by decide):PS X (.Try body .AP [] [] pos) (avv X.N.length i C tb th):=by rw[14];rw[60];refine wpAny_Try_except ? _;generalize hE:(fun(e:Value)(s₁:Shared)=>wpAny .av X.A (noteFrame e X.bA) (fun _ s₂=>wpAny .av X.A (setFlight e none) (fun _ s₃=>wpAny .av X.A (handleBy e X.bA .AP) .rX X.xe s₃) X.xe s₂) X.xe s₁)=E';(have lets:Gv (X.under E' (.dy)) C (fun _ d H'=>∃dx,d=.d3/\∀(σ':St)(y:Addr),σ'.length=X.N.length->H' y=none->th (D.Hk X.N.length) (σ'.set i (some .ew)) (aN H' y (XO C y dx))):=by intro xZ σ' H' s' y dx T fl I' hx ho n0 fx hT hp hw;obtain⟨dx,rfl,hw⟩:=hw;show E' .ew s';subst hE;rw[222];have turn:∀{h2 h3:Heap}{fl:Value},.uu->CU h2 C y (.d3) (some T1) fl->.AQ:=.zP;rw[223];refine codeAny_handlers_suite_as ? _;rw[282];obtain⟨vs4,sl4,he4,-⟩:=id a4;have I5:Inv X pins σ' (aN H' y (XO C y dx)) ⟨h4,gg,dr,tk,os⟩:=I4.aw1 n0 fx he4 rfl (fun q hq=>(p1 q hq).1) ⟨⟨_,_,he4⟩,⟨_,he4⟩,fun h1 h2⟨v1,s1,e1⟩k=>⟨v1,s1,k _ e1⟩⟩;refine B_ (X:=X.uq .ew) (I5.uq .ew) hN hi (.inl hl) (v:=.ref y) rfl (fun s6 I6=>? _) (.inr hl);refine wpAny_mono (hs .ew pins s6 _ _ (D.Hk X.N.length) I6 (hw σ' y I4.j9 fx)) (fun f s7 q7=>? _) (fun _ _ z=>z.elim);(have fin:∀{σ7:St}{H7:Hp},Inv (X.uq .ew) pins σ7 H7 s7->∀{Q:.bK},(∀s8,Inv X pins (eY X.N.length none) H7 s8->Q s8)->wpAny .av X.A (do bindName X.bA n .none;unbindBehindTheSuite X.bA n Hv) (fun _ s8=>Q s8) X.xe s7:=fun{σ7 H7}J{Q}hQ=>by obtain⟨m,hm7,_⟩:=J.CL;exact wpAny_nameGoes hl hm7 (by rw[I.ok.kind];rfl) fun h' m' Tp Fs=>hQ _ ((J.H_ I.ok).Hk Tp Fs));cases f with|next=>rw[166]|brk=>rw[166]|cont=>rw[166]|ret v=>obtain⟨v7,σ7,H7,J,r,q⟩:=q7;exact fin J fun s8 I8=>⟨v7,_,H7,I8,r,q⟩);rw[224]
end
open PySem.W(Looks looks_findIn looks_clsIn looks_mroIn InstAt)
structure A_(K:ae)(C N:Addr):Prop where
obj:∃nm q bs sn sub ab col dd k0 k1 k2 k3 k5,K.lookup C=some (excClassObj nm q C N bs yJ true sn sub ab col dd k0 k1 k2 k3 k5 "Exception.__new__")
ns:∃oc od es ep sl,K.lookup N=some ⟨oc,od,.dict es ep,sl⟩/\(es.toList.all fun e=>match e.key with|.str _ _=>true|_=>false)=true
init:qP K N "__init__"=some none
kp:gk K (.ref C)=true
abbrev ae2(C t:Addr):Obj:={cls:=.ref C,data:=.fields #[.ref t,.none,.none,.none,.bool false,.none]}
theorem CU.ah1{h:Heap}{C x t:Addr}(e:h.get? x=some (ae2 C t))(fl:Value):CU h C x none none fl:=⟨_,_,e,.aN,rfl⟩
section
variable{P:Program}{w:World}{A:Around}{E:Value->Shared->Prop}{s:Shared}{K:ae}{C N:Addr}{bA:Env}
theorem A_.cls(XC:A_ K C N):.AM:=.zL
theorem A_.sub(XC:A_ K C N){T:Value}(h:.FV){M:Model}{h0:Heap}(KX:K.In h0):.FW:=.zM
theorem RT{xs:.hJ}{Q:Flow->.bK}(XC:A_ K C N)(hh:.f6)(h:wpAny .aQ A xs (fun v s1=>∃x t,v=.dE/\K.In s1.heap/\s1.heap.get? x=some (ae2 C t)/\E .aR s1) E s):.AO:=by unfold raiseStmt;refine wpAny_bind (wpAny_mono h (fun v s1 h1=>? _) fun _ _ z=>z);obtain⟨x,t,rfl,KX,hx,hE⟩:=h1;rw[221];rw[hh];exact wpAny_throw hE
theorem ap6{Q:.ax}(XC:A_ K C N)(KX:.dV)(h:∀h' x t,.fO->.fh=none->h'.get? x=some (ae2 C t)->Q .aR {s with heap:=h'}):wpAny .aQ A (call .be []) Q E s:=by rw[112];rw[281];refine wpAny_call_exc_sub F.excBase_Exception (KX _ _ lC) hN (hmN _ _ XC.init) (fun h1 e hm=>? _) .uh;obtain⟨t,ht,-,-⟩:=hm.there;exact h h1 e t hm.keeps hm.new ht
end
section
variable{X:Cx}{C N:Addr}{x:Str}{E:XK}{p mQ pos:Pos}
theorem Inv.aud{pins:.aA}{σ:St}{H:Hp}{s:Shared}{h':Heap}{t':Nat}(I:.aa)(k:.oz):.oy:=I.un (Un.ji k) (I.fb.ji k)
def ait(C:Addr)(E:XK):TS:=fun _ _ H=>E .be none H
theorem LV{k:Nat}(XC:A_ X.K C N)(L:Gv X C E)(hex:X.ex=[])(hr:.fw)(hg:.cq)(hm:.cO=.eh)(Hs:.bX:=by decide):PS X (.Raise (some (.Call .iP [] [] mQ)) none pos) (ait C E):=by rw[14];rw[arm_exec_Raise];refine wpAny_bind (wpAny_standAt (RT XC hr.hd (wpAny_bind (.oF))));refine Se I.C9 XC.kp ? _;refine ap6 XC I.C9 fun h' xx t0 kp nx hx=>? _;refine wpAny_bind (wpAny_standAt (wpAny_pure ⟨xx,t0,rfl,I.C9.keeps kp,hx,? _⟩));have I2:.pD:=I.aud (t':=s.toks) kp;rw[60];refine L pins σ _ _ xx none none .none I2 (CU.ah1 hx _) .bB (I.si nx (sh xx)) (I.fb.free nx) (fun t z=>nomatch z) .C1 h;have e0:=(I.AY p0 hp).1;rw[z,nx]at e0;cases e0
end
def akr(n:Nat)(tb:XK->TS)(th:TS):TS:=fun D σ H=>tb (fun _ _ H'=>∀σ':St,σ'.length=n->th D σ' H') D σ H
section
variable{X:Cx}{C N:Addr}{x:Str}{body Jc:List Stmt}{b0:Stmt}{tb:XK->TS}{th:TS}{p Hv pos:Pos}
theorem ahv(XC:A_ X.K C N)(wU:.mI)(hfr:.p1)(hex:X.ex=[])(hg:.cq)(hm:.cO=.eh)(hb:.zO)(hs:∀e,Mm (X.uq e) (b0::Jc) th)(Hs:.bX:=by decide):PS X (.Try body .C2 [] [] pos) (akr X.N.length tb th):=by rw[14];rw[60];refine wpAny_Try_except ? _;generalize hE:(fun(e:Value)(s₁:Shared)=>wpAny .av X.A (noteFrame e X.bA) (fun _ s₂=>wpAny .av X.A (setFlight e none) (fun _ s₃=>wpAny .av X.A (handleBy e X.bA .C2) .rX X.xe s₃) X.xe s₂) X.xe s₁)=E';(have lets:Gv (X.under E' (.dy)) C (fun _ _ H'=>∀σ':St,σ'.length=X.N.length->th D σ' H'):=by intro xZ σ' H' s' y dx T fl I' hx ho n0 fx hT hp hw;show E' .ew s';subst hE;rw[222];have turn:∀{h2 h3:Heap}{fl:Value},.uu->CU h2 C y dx (some T1) fl->.AQ:=.zP;rw[223];refine codeAny_handlers_suite ? _;rw[282];refine wpAny_mono (hs .ew pins _ _ _ D (I4.uq .ew) (hw σ' I4.j9)) (fun f s7 q7=>? _) (fun _ _ z=>z.elim);cases f with|next=>rw[183]|brk=>rw[183]|cont=>rw[183]|ret v=>obtain⟨v7,σ7,H7,J,r,q⟩:=q7;exact⟨v7,_,H7,J.H_ I.ok,r,q⟩);rw[224]
end
theorem Fv{e:Value}{bA as8:Env}(h:bA.frame=as8.frame):noteFrame e bA=noteFrame e as8:=by unfold noteFrame PySem.frameOf;rw[h]
def ud(M:Model)(A:Around)(E:.ax)(use:.pQ)(Q:.ax)(acc:Value)(C:Addr)(fr:.bE)(r:Result)(s':Shared):Prop:=match r,use with|.ok _,none=>∃m,.r5/\∀h',Heap.SameBut C s'.heap h'->Q acc {s' with heap:=h'}|.ok _,some u=>wpAny M A (u acc) (fun _ s''=>∃m,s''.heap.Ns C m/\∀h',Heap.SameBut C s''.heap h'->Q .none {s'' with heap:=h'}) E s'|.error x,_=>∃m,.r5/\∀h',Heap.SameBut C s'.heap h'->∀cenv:Env,cenv.locals=C->cenv.frame=fr->wpAny M A (passOn "comprehension.variables-let-go" x cenv:.hJ) .hk E {s' with heap:=h'}
section
variable{M:Model}{A:Around}{E:Value->Shared->Prop}{s:Shared}{bA:Env}
theorem zk{e:Expr}{scope:Scope}{pos:Pos}{abg first:.hJ}{g:Comprehension}{gs:List Comprehension}{cl:.bD}{use:.pQ}{Q:.ax}(Tj:clausesOf e=g::gs)(hs:∀x,foldedSetIterable g.iter bA x=pure x)(asu:closureFor scope bA=pure cl)(Qh:scope.kind=.function)(amq:∀x∈scope.names,x.2=.local->scope.names.lookup x.1=.dS)(h:wpAny M A first (fun x s₁=>wpAny M A (pyIter x) (fun it s₂=>wpAny M A abg (fun acc s₃=>wpAny M A (newFunctionEnv scope bA.globals cl [] bA.qual none .none (some bA)) (fun cenv s₄=>cenv.frame=bA.frame/\codeAny M A (.compStart e 0 it acc {cenv with scope:=relabel scope bA}) (ud M A E use Q acc cenv.locals bA.frame) s₄) E s₃) E s₂) E s₁) E s):wpAny M A (comprehension e scope bA pos abg false first use) Q E s:=by unfold comprehension;rw[asu,Tj];refine wpAny_bind (wpAny_mono h (fun x s₁ h₁=>wpAny_bind (wpAny_standAt (wpAny_bind (wpAny_of_eq (hs x) (wpAny_bind (wpAny_holding (wpAny_mono h₁ (fun it s₂ h₂=>wpAny_standIf (wpAny_bind (wpAny_mono h₂ (fun acc s₃ h₃=>wpAny_bind (wpAny_pure (wpAny_bind (wpAny_mono h₃ (fun cenv s₄ h₄=>? _) .eV)))) .eV))) .eV))))))) .eV);obtain⟨hfr,h₄⟩:=h₄;rw[9];have hv:∀x∈(.s7).reverse,.AR:=fun x hx hl=>lookup_relabel_local (amq x (nI.mp (fN.mp hx)).1 hl);(have hv':∀x∈(.s7).reverse.drop 1++(.s7).reverse.take 1,.AR:=fun x hx hl=>by rcases aW.mp hx with h1|h1;{exact hv x (UT h1) hl};{exact hv x (gN h1) hl});refine wpAny_holding (wpAny_bind (wpAny_attempt (wpAny_holding (wpAny_run (codeAny_mono h₄ fun r s' hr=>? _)))));cases r with|ok f=>(cases use with|none=>obtain⟨m,hn,hr⟩:=hr;exact wpAny_bind (wpAny_holding (wpAny_comp_letGo (cenv:={cenv with scope:=relabel scope bA}) Qh _ s' m hv hn fun h' m' _ Fs=>wpAny_pure (hr h' Fs)))|some u=>refine wpAny_bind (wpAny_rule (wpAny_bind (wpAny_holding (wpAny_mono hr (fun _ s'' hr'=>? _) .eV))));obtain⟨m,hn,hr'⟩:=hr';exact wpAny_bind (wpAny_comp_letGo (cenv:={cenv with scope:=relabel scope bA}) Qh _ s'' m hv' hn fun h' m' _ Fs=>wpAny_pure (hr' h' Fs)))|error x=>(have hr':∃m,s'.heap.Ns cenv.locals m/\∀h',Heap.SameBut cenv.locals s'.heap h'->∀ZM:Env,ZM.locals=cenv.locals->ZM.frame=bA.frame->wpAny M A (passOn "comprehension.variables-let-go" x ZM:.hJ) .hk E {s' with heap:=h'}:=by cases use<;>exact hr);obtain⟨m,hn,hr⟩:=hr';exact wpAny_bind (wpAny_holding (wpAny_comp_letGo (cenv:={cenv with scope:=relabel scope bA}) Qh _ s' m hv hn fun h' m' _ Fs=>wpAny_mono (hr h' Fs _ rfl hfr) (fun _ _ f=>f.elim) fun _ _ y=>y))
end
theorem aj4{M:Model}{A:Around}{E:.ax}{s:Shared}{α:Type}{aEf:String}{C x T L:Addr}{dx:.bE}{fl:Value}{bA:Env}{Q:α->.bK}(hx:.vK)(hf:.kq)(h:∀h',.s6->.FX->E .aR {s with heap:=h'}):wpAny M A (passOn aEf .aR bA:Sem α) Q E s:=by have Y5:=hx;rw[138];unfold PySem.passOn;refine .Ew;rw[if_neg (show¬(Value.ref T==Value.none)=true by simp),hf];refine wpAny_bind (YO Y5 fun h' k _ a=>? _);exact wpAny_throw (h h' k a)
section
variable{X:Cx}{CC:Addr}{E:XK}
theorem aaz{pins:.aA}{s:Shared}{σ:St}{H:Hp}{Q:VK}{elt tg iter:Expr}{ifs:.bF}{scope:Scope}{own:.hj}{pos pos':Pos}{wi:TI}{g:TG}{tt:TT}{te:TE}{use:.pQ}{Qf:.ax}(hc:.cJ)(hN:X.N.Nodup)(hex:X.ex=[])(wU:.mI)(aah:.p1)(L:Gv X CC E)(I:.aa)(hi:.kf)(ok:.jG)(hg:.zQ)(ht:.zR)(he:.zS)(hs:.jC)(h:tLc wi g tt te .eU σ H Q)(hRR:∀D C s' m H',.ec->Q .dW H'->.r5->ze X pins H' C->ud .av X.A X.xe use Qf .dW C X.bA.frame (.ok .next) s'):.zu:=by rw[134];refine zk (use:=use) rfl hs (GQ EH) ok.kind .En .AF;obtain⟨it,fp,tn,J,H2,e,I2,T,st2,f2,q⟩:=h2;subst e;refine wpAny_newObj_type (EU ⟨rfl,? _⟩) .uh;rw[212];rw[213];show codeAny _ _ .zv .AS {s3 with heap:=pushCells (s3.heap.push {cls:=.type "dict",data:=.dict #[]}) scope.names};rw[354];have frm:(.oK).frame=X.bA.frame:=rfl;generalize hce:.oK=ce at I4 pg pt pe frm|-;rw[214];rw[60];generalize hxb:(fun(e:Value)(s':Shared)=>∃(x:Addr)(dx:.bE)(T:Addr)(H':Hp)(m:.aV),e=.dE/\.ec/\CU s'.heap CC x dx .jt .none/\.w7/\H' x=none/\X.wx.heap.get? T=none/\H' T=none/\(∀p∈.dy,p.1≠x/\some T≠some p.1)/\.FZ/\ze X pins H' s3.heap.objs.size/\E (.ref CC) dx H')=xb;have I4':Inv {X.vo s3 H3 scope ce fp with xe:=xb} [] (fU σ .eU) H3 s4:=⟨⟨I4.ok.ET,I4.ok.kind,I4.ok.C7,I4.ok.blt,I4.ok.above,I4.ok.inj,I4.ok.has,I4.ok.cab,I4.ok.hd,I4.ok.frames,I4.ok.stk,I4.ok.exf,I4.ok.bs,I4.ok.W7,I4.ok.sh,I4.ok.MP,I4.ok.Al,I4.ok.frf⟩,I4.os,I4.lG,I4.base,I4.CL,I4.cell,I4.free,I4.mT,I4.AY,I4.fb,I4.j9⟩;(have aY:∀{xZ:.aA}{σ':St}{H':Hp}{s':Shared},.C3->.ec/\H' s3.heap.objs.size=none/\∃m,.FZ:=fun{xZ σ' H' s'}I6=>by refine⟨.zx,? _,? _⟩;{have z:H' ce.locals=none:=I6.free;rw[cL]at z;exact z};{obtain⟨m,hn,_⟩:=I6.CL;have hn:s'.heap.Ns ce.locals m:=hn;rw[cL]at hn;exact⟨m,hn⟩});(have pass:m_ (j3 X.prog X.w CC) {X.vo s3 H3 scope ce fp with xe:=xb} E:=by rintro xZ σ' H0 s0 e s' I0⟨x,dx,T0,H',rfl,os,lG,un,fb,hx,nx,nT,fx,fT,hE⟩;have I':.C3:=I0.U' (ch:=[]) os un fb lG (fun b z=>nomatch z);obtain⟨J',nC,m,hn⟩:=aY I';(have ah1:∀a,s0.heap.get? a=none->.w8:=fun a na=>by cases q:X.wx.heap.get? a with|none=>rfl|some o=>obtain⟨o',e'⟩:=I3.base.there a o q (sh a);(have naf:a∉fp:=fun hm=>by rcases(f3 a hm).1.2.2.2.1 with z|z;{exact sh a z};{exact absurd (bW (Heap.lt_size q) z) (g_ _)});obtain⟨o2,e2⟩:=I0.base.there a o' e' naf;rw[na]at e2;cases e2);(have pn0:∀p∈.dy,∃o,s0.heap.get? p.1=.ah:=fun p hp=>by have e1:=(I3.AY p hp).1;exact I0.base.there p.1 p.2 e1 (fun hm=>(f3 p.1 hm).1.2.2.2.2.2 p hp rfl));show xb .aR s';rw[<-hxb];refine⟨x,dx,T0,H',m,rfl,J',hx,ah1 x nx,fx,ah1 T0 nT,fT,.eS,hn,I3.P6 .aS nC,hE⟩;obtain⟨o,eo⟩:=pn0 p hp;exact⟨fun z=>(by rw[z,nx]at eo;cases eo),fun z=>(by rw[<-aB z,nT]at eo;cases eo)⟩);have pg:=pg xb;have pt:=pt xb;have pe:=pe xb pass;have Ja:∀{σ':St}{H':Hp}{s':Shared},Inv {X.vo s3 H3 scope ce fp with xe:=xb} [] σ' H' s'->.fJ->∀b∈fp,ze {X.vo s3 H3 scope ce fp with xe:=xb} [] H' b:=.zw;(have amc:∀e s',xb e s'->notedBy .av X.A ce (fun e s'=>ud .av X.A X.xe use Qf .dW s3.heap.objs.size X.bA.frame (.error e) s') e s':=by intro e s' hb;rw[<-hxb]at hb;obtain⟨x,dx,T0,H',m,rfl,J',hx,n0,fx,nT,fT,hp,hn,fpo,hE⟩:=hb;unfold notedBy;rw[Fv frm];(have aai:.vL:=by rw[<-wU];exact J'.ok.frames);(have aaj:.F0:=by rw[<-wU];exact J'.stack);refine akx aai aaj aah hx .yj;(have hT:∀t,some T0=some t->X.wx.heap.get? t=none/\H' t=none:=fun t z=>by cases z;exact⟨nT,fT⟩);have I2:Inv X pins σ H' {s' with heap:=h1}:=J'.Mj (by rw[wU];exact k1) n0 fx hT hp hx.data.1 hx.data.2;have n1':X.wx.heap.get? T1=none:=J'.si n1 (sh T1);have f1:H' T1=none:=J'.fb.free n1;have p1:∀q∈.dy,q.1≠x/\some T1≠some q.1:=fun q hq=>⟨(hp q hq).1,fun z=>by have e0:=(J'.AY q hq).1;rw[<-aB z,n1]at e0;cases e0⟩;(have Cn:∃oC esC epC,s'.heap.get? s3.heap.objs.size=some oC/\oC.data=.dict esC epC:=by obtain⟨oC,esC,epC,e,d,_⟩:=hn;exact⟨oC,esC,epC,e,d⟩);(have hn1:h1.Ns s3.heap.objs.size m:=by obtain⟨oC,esC,epC,e,d,r⟩:=hn;refine⟨oC,esC,epC,k1.keep _ oC e .f7 .f7 .f7,d,r⟩;{(have z':s3.heap.objs.size∈.gr:=by rw[wU];exact z);rcases aJ.mp (J'.Jb _ z')with z2|z2;{exact fpo.2.1 z2};{exact fpo.2.2.1 z2}};{obtain⟨o',vs,e',d'⟩:=hx.data.1;rw[<-z,e]at e';cases e';rw[d]at d';cases d'};{obtain⟨o',vs,e',d'⟩:=hx.data.2 _ z;rw[e]at e';cases e';rw[d]at d';cases d'});(have post:∃m,h1.Ns s3.heap.objs.size m/\∀h',Heap.SameBut s3.heap.objs.size h1 h'->∀cenv:Env,cenv.locals=s3.heap.objs.size->cenv.frame=X.bA.frame->wpAny .av X.A (passOn "comprehension.variables-let-go" .aR cenv:.hJ) .hk X.xe {s' with heap:=h'}:=by refine⟨m,hn1,fun h' sb cenv Tj hcf=>? _⟩;(have neC:∀b o vs,h1.get? b=.ah->.ke->b≠s3.heap.objs.size:=fun b o vs e d z=>by obtain⟨oC,esC,epC,e',d',_⟩:=hn1;rw[z,e']at e;cases e;rw[d']at d;cases d);(have a2:CU h' CC x dx (some T1) (rawInt X.bA.locals):=by obtain⟨vs,sl,he,hsz,h1',Vw,oT,ts,Lr,F3,h3'⟩:=a1;exact⟨vs,sl,(sb.2 x (neC x _ vs he rfl)).trans he,hsz,h1',Vw,oT,ts,(sb.2 T1 (neC T1 _ ts Lr F3)).trans Lr,F3,h3'⟩);have I5:Inv X pins σ H' {s' with heap:=h'}:=I2.nq (t':=s'.toks) .ui fpo.1 fpo.2.1 fpo.2.2.2.1 fpo.2.2.2.2.1 fpo.2.2.2.2.2;refine aj4 (s:={s' with heap:=h'}) a2 (hcf.trans aah) fun h6 k6 a6=>? _;have I6:Inv X pins σ H' {s' with heap:=h6}:=I5.Mj (x:=x) (T:=some T1) ⟨fun b o e _ _ hb=>k6 b o (fun z=>hb .rD) e,fun b o e hb=>⟨o.slots,k6 b o (fun z=>by obtain⟨_,o2,e2,d2⟩:=I5.stack.mem hb;obtain⟨o3,vs3,e3,d3⟩:=a2.data.2 T1 rfl;rw[z]at e2;have e3':h'.get? T1=some o3:=e3;have e2':h'.get? T1=some o2:=e2;rw[e3']at e2';cases e2';exact d2 vs3 d3) e⟩⟩ n0 fx .uv p1 a2.data.1 a2.data.2;exact L pins σ H' _ x dx (some T1) _ I6 a6 (.inr ⟨_,aah,rfl,.aN⟩) n0 fx .uv p1 hE);cases use<;>exact post);(have loop:codeAny .av X.A .FH .AS s4:=by refine Bj (fun n s'=>∃i H',.AU/\.nR/\.fJ/\W i n H') ? _ m0 ⟨0,H3,I4',st4,nfp,w0⟩;rw[215];{have td:=T.done {X.vo s3 H3 scope ce fp with xe:=xb} rfl rfl rfl hc i [] s5 _ H5 .hk I5 (Ja I5 n5) YA stop;refine OA td fun r s6⟨hr,I6⟩=>? _;subst hr;obtain⟨I7,nC,m,hn⟩:=aY I6;exact .AH};{have ti:=T.item {X.vo s3 H3 scope ce fp with xe:=xb} rfl rfl rfl hc i [] s5 _ H5 .hk I5 (Ja I5 n5) YA go;rw[216];refine wpAny_mono .CM (.FI) amc;refine wpAny_mono (pt _ s8 σ8 H8 _ I8 q8) (fun b s9⟨H9,I9,q9⟩=>? _) amc;have fin:∀{s':Shared}{H':Hp},Inv {X.vo s3 H3 scope ce fp with xe:=xb} ([]++Dy fp s7.heap) σ8 H' s'->Nx H'->∃m,m<n/\∃i H',.AU/\.nR/\.fJ/\W i m H':=.zy;cases b with|false=>simp only[bV,if_false]at q9|-;exact fin I9 q9|true=>simp only[if_true]at q9|-;refine wpAny_mono (pe _ s9 σ8 H9 _ I9 q9) (.CN) amc;exact Zx (X:={X.vo s3 H3 scope ce fp with xe:=xb}) I10 amf an2 r10 fun s11 I11=>fin I11 nx});exact .AI
theorem Yf{i:Nat}{y:Str}{py:Pos}{elt tg iter:Expr}{ifs:.bF}{scope:Scope}{own:.hj}{pos Od:Pos}{wi:TI}{g:TG}{tt:TT}{te:TE}(L:Gv X CC E)(hc:.cJ)(hN:X.N.Nodup)(hex:X.ex=[])(wU:.mI)(aah:.p1)(hy:X.N[i]?=some y)(hyl:.ug)(hsw:.zz)(hi:.kf)(ok:.jG)(hg:.zQ)(ht:.zR)(he:.zS)(hs:.jC:=by intro _;rfl):.zA:=by rw[217];refine wpAny_bind (iu (aaz (Qf:=fun _ s'=>SP X pins D .next s') hc hN hex wU aah L I hi ok hg ht he hs h fun L C s' m H' I' q hn f=>? _) .Eo);rw[218]
end
open PySem.W(Looks looks_findIn looks_clsIn looks_mroIn InstAt)
section
variable{P:Program}{w:World}{A:Around}{E:Value->Shared->Prop}{s:Shared}{K:ae}{C N fI x dx:Addr}{na nb name:Str}{v:Value}{vs:Array Value}{sl:Array (Option Value)}
theorem aEj{mA:.aV}{expr:Bool}{Q:.ax}(XC:.fS)(KX:.dV)(hx:.fh=some .ur)(hd:s.heap.Ns1 dx mA)(hn:.lD)(hv:mA name=.a4)(hh:CQ v=true)(h:Q v {s with toks:=s.toks+1}):wpAny .aQ A (getAttr .aR name expr) Q E s:=by obtain⟨od,ho,Xu⟩:=De hd;have J:InstAt s.heap x .ur C (some od):=⟨hx,rfl,rfl,ho⟩;rw[76];(have hdi:n_ K C=true:=by unfold n_;rw[e1];exact e2);have hf:PySem.W.findObj K C (some od) name=some (.value v):=Sf hdi hn rfl (by rw[Xu,hv]);obtain⟨hh0,g,d,t,os⟩:=s;have T:Looks .aQ hh0 (typeOf .aR) .be:=J.type;have G:=looks_findIn (M:=model P w) KX XC.ga;have G2:=looks_findIn (M:=model P w) KX XC.gt;have FD:=PySem.W.looks_find (M:=model P w) KX J hf;have sub:Looks .aQ hh0 (isInstance .aR (.w5)) true:=T.andThen (XC.sub .aC KX);have bnd:=F.attr_Exception.ga.bind .aR;unfold getAttr getAttrBy;refine wpAny_bind (wpAny_mkText (wpAny_holding (wpAny_bind (T.at (wpAny_bind (G.at ? _))))));show wpAny _ _ (getAttrByItsOwn .aR .r8 .be .uw true expr) _ _ _;unfold getAttrByItsOwn;refine wpAny_bind (G2.at (wpAny_bind (wpAny_attempt (wpAny_holding ? _))));(have e0:callGetattribute .aR .r8 .uw expr=boundAndCalled .uw .aR .r8:=by unfold callGetattribute;cases expr<;>rfl);rw[e0];unfold boundAndCalled;rw[bnd];refine wpAny_bind (wpAny_pure (wpAny_call ? _));have kd:builtinKind "BaseException.__getattribute__"=some .slot:=.aF;have spl:splitId "BaseException.__getattribute__"=some ("BaseException","__getattribute__"):=.aF;refine codeAny_call_builtin F.attr_Exception.ga.plain F.entry_bexc_ga (@SD .aQ _ _ _ "BaseException.__getattribute__" "BaseException" "__getattribute__" .aR [.str name t] [] _ kd spl sub (F.args_bexc_ga .aR .r8) ? _);unfold Builtin.«object.__getattribute__»;refine wpAny_bind (wpAny_pure (wpAny_bind (wpAny_pure (wpAny_bind (T.at (wpAny_bind (FD.at ? _)))))));refine .gJ;show wpAny _ _ (handedOut v) _ _ _;rw[PySem.W.handedOut_of hh];exact .hb
end
def ado(K:ae)(C:Addr)(ta:TE)(f:Str):TE:=fun σ H Q=>ta σ H fun x H1=>∃a dx fs v,.dA/\H1 a=some (XO C a dx)/\H1 dx=some (.xd fs)/\.qF/\Q v H1
section
variable{X:Cx}{C N fI:Addr}{na nb f:Str}{e:Expr}{ta:TE}{pos:Pos}
theorem V'(XC:.yk)(hn:aR X.K .be f=some none)(he:PE X e ta)(hb:.Fy):PE X .wY (ado X.K C ta f):=by rw[3];refine U5 hb (iu .cD fun u s1⟨x,H1,I1,rx,a,dx,fs,v,ex,ea,ed,l,q⟩=>? _);rw[39];obtain⟨⟨vs,sl,ho⟩,_⟩:=I1.fb a _ ea;obtain⟨mA,Xw,r⟩:=I1.fb dx _ ed;obtain⟨u',hu,ru⟩:=.CC;exact aEj XC I1.C9 ho Xw hn hu (Lq ru) ⟨v,H1,I1.tok _,ru,q⟩
end
section
variable{X:Cx}
theorem su(ht:X.prog.given.tree=none)(wU:.mI)(amm:X.bA.scope.isGenerator=false)(hco:X.bA.scope.isCoroutine=false)(hr:kJ 32 X.A):A2 X (binaryOp .FloorDiv) (rI (fun _ j=>0<j) fun i j=>.int (i/j)):=by intro pins s σ H x y v u Q I r1 r2 h;obtain⟨i,j,e1,e2,hj,q⟩:=h;rw[130];(have hfr:.vL:=by rw[<-wU];exact I.ok.frames);have hs:SeerAt .av X.A s.heap:=SeerAt.of (I.ok.ET.seer.keeps I.bk) ht hfr amm hco I.ok.blt I.ok.C7;refine floordiv_int .C ⟨.int (i/j),H,.bz,⟨s.toks,? _⟩,q⟩ (.inr (PylongRoom.of I.nolimit (by have:=hr.dp;show X.A.depth+100<recursionLimit;omega) hs));rw[Int.fdiv_eq_ediv_of_nonneg _ .C]
theorem gI:A2 X (binaryOp .Mult) (rI (fun i j=>IntMulOk i j) fun i j=>.int (i*j)):=opI fun _ _ _ _ _ _ _ hc q=>mul_int q hc
end
def Dn(P:Program)(w:World)(K:ae)(mg:.aV)(base:Heap)(CX:OK)(x:Str)(k:Nat)(ps:.a0)(sp:Sp):Prop:=∃f fd,.ux/\mg x=some .cW/\.mG/\.nr
def Dm(P:Program)(w:World)(K:ae)(mg:.aV)(base:Heap)(CX:OK)(C:Addr)(m:Str)(k:Nat)(ps:.a0)(sp:Sp):Prop:=∃f fd,.ux/\Zg K C m f/\.nr
def Dc(P:Program)(w:World)(K:ae)(mg:.aV)(base:Heap)(CX:OK)(C:Addr)(x:Str)(k:Nat)(ps:.a0)(sp:Sp):Prop:=∃f fd,.ux/\Mk K C f/\mg x=.eh/\.nr
section
variable{X:Cx}{CX:OK}{k:Nat}{C:Addr}{ps:List Str}{sp:Sp}{E:XK}{x m:Str}{p pos apos:Pos}{e o:Expr}{es:List Expr}{ta:TE}{t:TA}
theorem bx(d:Dn X.prog X.w X.K X.mg X.base CX x k ps sp)(hr:.fw)(hx:.fx)(ha:.eM)(hg:.cq:=by rfl)(Hs:.bX:=by decide)(he:.eg:=by rfl)(tZ:.fM:=by rfl):PE X .jF (zX sp [] E t):=by obtain⟨f,fd,F,hm,hk,hb⟩:=d;exact ahn F hr hg hm hk hb .nil hx ha Hs he tZ
theorem fC(he:PE X o ta)(c:Kx X.K C)(d:.C4)(hr:.fw)(hx:.fx)(ha:.eM)(hst:.eg:=by rfl)(tZ:.fM:=by rfl){pl:Sem Bool}(ht:.zl:=by rfl):PE X .t8 (wy C m sp [] E ta t):=by obtain⟨f,fd,F,hm,hb⟩:=d;exact ahq he c hm F hr hb .nil hx ha hst tZ ht
theorem eG(he:PE X o ta)(c:Kx X.K C)(d:.C4)(hr:.fw)(hx:.fx){pl:Sem Bool}(ht:.zm:=by rfl):PE X .t9 (wy C m sp [] E ta Jg):=by obtain⟨f,fd,F,hm,hb⟩:=d;exact ac8 he c hm F hr hb .nil hx ht
theorem jj(d:Dc X.prog X.w X.K X.mg X.base CX C x k ps sp)(hr:kJ .bb X.A)(hx:.fx)(ha:.eM)(hg:.cq:=by rfl)(Hs:.bX:=by decide)(he:.eg:=by rfl)(tZ:.fM:=by rfl):PE X .jF (zY C sp [] E t):=by obtain⟨f,fd,F,hM,hm,hb⟩:=d;exact ahp hM F hr hg hm hb .nil hx ha Hs he tZ
end
def kq(K:ae)(mg:.aV)(x:Str)(st:Stmt):Prop:=∃f fd,YS K x x st f fd/\mg x=some .cW
def zh(K:ae)(C:Addr)(m qual:Str)(st:Stmt):Prop:=∃f fd,YS K m qual st f fd/\Zg K C m f
def CT(K:ae)(mg:.aV)(C:Addr)(x qual:Str)(st:Stmt):Prop:=∃f fd,YS K "__init__" qual st f fd/\Mk K C f/\mg x=.eh
abbrev yt(x qual:Str)(st:Stmt)(ps:.a0):Prop:=.zJ
section
variable{P:Program}{w:World}{K:ae}{mg:Str->Option Value}{base:Heap}{x qual:Str}{st:Stmt}{N ps:List Str}{k:Nat}{sp:Sp}{C:Addr}
abbrev Za(P:Program)(w:World)(K:ae)(mg:.aV)(base:Heap)(qual:Str)(st:Stmt)(N:.a0)(k:Nat)(sp:Sp):Prop:=∀(f:Addr)(eQ:Value)(A:Around)(aY:.dw)(s:Shared)(H:Hp)(vs:.aj)(Q:VK)(E:XK),.zI
abbrev UN(Ce:Addr)(P:Program)(w:World)(K:ae)(mg:.aV)(base:Heap)(qual:Str)(st:Stmt)(N:.a0)(k:Nat)(sp:Sp):Prop:=∀(f:Addr)(eQ:Value)(A:Around)(aY:.dw)(s:Shared)(H:Hp)(vs:.aj)(Q:VK)(E:XK),.AV->sp vs H Q E->∃t,Mm (JV .oh P w K mg base N qual (aL st) f eQ A aY s H E) (lA st) t/\.ub
theorem YS.okX{Ce:Addr}{f:Addr}{fd:FuncData}(F:.yh)(S:.hp)(j9:.fN)(hb:.uy):wB P w K mg base .oh .bb f fd ps sp:=by rw[97];exact ajy lk Vy S j9 fun A aY s H vs Q E hr Ft=>hb f eQ A aY s H vs Q E hr Ft
theorem kq.dn(S:kq K mg x st)(B:yt x x st ps)(sc:.hp)(j9:.fN)(hb:Za P w K mg base x st N k sp):Dn P w K mg base dD x .bb ps sp:=by rw[113];exact⟨f,fd,.s8,hm,F.kp,F.vZ B⟩
theorem kq.JG{Ce:Addr}(S:kq K mg x st)(B:yt x x st ps)(sc:.hp)(j9:.fN)(hb:UN Ce P w K mg base x st N k sp):Dn P w K mg base .oh x .bb ps sp:=by rw[113];exact⟨f,fd,F.okX sc j9 hb,hm,F.kp,F.vZ B⟩
theorem zh.dm{m:Str}(S:zh K C m qual st)(B:yt m qual st ps)(sc:.hp)(j9:.fN)(hb:.F1):Dm P w K mg base dD C m .bb ps sp:=by rw[113];exact⟨f,fd,.s8,hm,F.vZ B⟩
theorem zh.dmX{Ce:Addr}{m:Str}(S:zh K C m qual st)(B:yt m qual st ps)(sc:.hp)(j9:.fN)(hb:.uy):Dm P w K mg base .oh C m .bb ps sp:=by rw[113];exact⟨f,fd,F.okX sc j9 hb,hm,F.vZ B⟩
theorem CT.dc(S:.yl)(B:yt "__init__" qual st ps)(sc:.hp)(j9:.fN)(hb:.F1):Dc P w K mg base dD C x .bb ps sp:=by obtain⟨f,fd,F,hM,hm⟩:=S;exact⟨f,fd,.s8,hM,hm,F.vZ B⟩
theorem CT.dcX{Ce:Addr}(S:.yl)(B:yt "__init__" qual st ps)(sc:.hp)(j9:.fN)(hb:.uy):Dc P w K mg base .oh C x .bb ps sp:=by obtain⟨f,fd,F,hM,hm⟩:=S;exact⟨f,fd,F.okX sc j9 hb,hM,hm,F.vZ B⟩
end
section
variable{X:Cx}{x:Str}{pos:Pos}
theorem fF{c:Str}(h:∃t,.cO=some (.str c t))(hg:.cq:=by rfl)(hd:.bX:=by decide):PE X .hh (tC (.str c)):=.AW
theorem dI{c:Int}(h:∃t,.cO=some (.int c t))(hg:.cq:=by rfl)(hd:.bX:=by decide):PE X .hh (tC (.int c)):=.AW
theorem vG{a:Addr}(h:.cO=.ed)(hg:.cq:=by rfl)(hd:.bX:=by decide):PE X .hh (tC .bY):=NG hg h rfl hd
end
theorem fg:bootBuiltins "len"=some .kl:=.aF
theorem alj:bootBuiltins "ord"=some (.builtin "ord"):=.aF
theorem alh:bootBuiltins "abs"=some (.builtin "abs"):=.aF
theorem SN:bootBuiltins "all"=some (.builtin "all"):=.aF
theorem CV:bootBuiltins "sorted"=some .w9:=.aF
theorem ali:bootBuiltins "min"=some .x5:=.aF
theorem SO:bootBuiltins "max"=some .qJ:=.aF
theorem GL:bootBuiltins "sum"=some .qI:=.aF
theorem My:bootBuiltins "int"=some (.type "int"):=.aF
theorem yE:bootBuiltins "list"=some (.nQ):=.aF
section
variable{X:Cx}{e:Expr}{te:TE}{pos:Pos}
def Cg(te:TE):TE:=fun σ H Q=>te σ H fun v H1=>∃x,v=.str x/\x.length<=sizeLine/\Q (.str x) H1
def Cf(te:TE):TE:=fun σ H Q=>te σ H fun v H1=>∃i:Int,v=.bp/\i.natAbs.log2<1920/\Q (.str (toString i)) H1
theorem Ga(he:.cI):PE X .Ex (Cg te):=by rw[3];refine FormattedValue_plain (iu .cD fun u s1⟨v,H1,I1,r,x,e1,hz,q⟩=>? _);subst e1;rw[23];exact formatField_str (fun t' tk=>⟨.str x,H1,I1.tok tk,⟨t',rfl⟩,q⟩) hz
theorem NF(he:.cI):PE X .Ex (Cf te):=by rw[3];refine FormattedValue_plain (iu .cD fun u s1⟨v,H1,I1,r,i,e1,hz,q⟩=>? _);subst e1;rw[23];exact formatField_int_small hz ⟨.str (toString i),H1,I1.tok _,.aU,q⟩
theorem ao6(he:.cI):PE X (.JoinedStr [e] pos) te:=fun pins s σ H Q I h=>JoinedStr_one (he pins s σ H Q I h)
abbrev TJ:=St->Hp->Str->VK->Prop
def PJ(X:Cx)(es:.bF)(t:TJ):Prop:=∀(pins:.aA)(s:Shared)(σ:St)(H:Hp)(acc:Str)(Q:VK),acc.length<=sizeLine->.aa->t σ H acc Q->wpAny .av X.A (joinParts acc (evalEach es X.bA)) .dz X.xe s
def tJn:TJ:=fun _ H acc Q=>Q (.str acc) H
def tJc(te:TE)(tr:TJ):TJ:=fun σ H acc Q=>te σ H fun v H1=>∃y,v=.str y/\(acc++y).length<=sizeLine/\tr σ H1 (acc++y) Q
def tJ(t:TJ):TE:=fun σ H Q=>t σ H Str.empty Q
theorem Ug:PJ X [] tJn:=fun _ _ _ H acc _ hz I h=>joinParts_nil ⟨.str acc,H,.bz,.aU,h⟩ hz
theorem ot{es:.bF}{tr:TJ}(he:.cI)(hr:PJ X es tr):PJ X .eA (tJc te tr):=by intro pins s σ H acc Q hz I h;refine joinParts_cons (iu .cD fun u s1⟨v,H1,I1,r,y,e1,hz1,q⟩=>? _);subst e1;rw[23];exact⟨hz1,hr pins s1 σ H1 (acc++y) Q hz1 I1 q⟩
theorem ac6{e1 e2:Expr}{es:.bF}{t:TJ}(h:PJ X (e1::e2::es) t):PE X (.JoinedStr (e1::e2::es) pos) (tJ t):=fun pins s σ H Q I hw=>JoinedStr_many (h pins s σ H Str.empty Q (bw _) I hw)
end
def Zc(mg:.aV):List DictEntry->.gf->Prop|[],[]=>True|e::es,p::l=>(∃t,e.key=.int p.1 t)/\e.hash=hashInt p.1/\mg p.2=some e.val/\Zc mg es l|_,_=>False
def A0(K:ae)(mg:.aV)(a:Addr)(l:.gf):Prop:=∃es ep,.C5/\.iE/\Zc mg es.toList l/\.mJ
def qD(mg:.aV)(l:.gf):.nu:=l.filterMap fun p=>(mg p.2).map fun v=>(dH p.1,v)
theorem Qp{P:Program}{w:World}{mg:.aV}:∀{es:List DictEntry}{l:.gf},Zc mg es l->Pairs .js es (qD mg l)/\(∀e∈es,∃k,(fk P w).is k e.key=true/\e.hash=(fk P w).hash k)/\(qD mg l).map .aX=l.map fun p=>dH p.1|[],[],_=>⟨.nil,(.iz),rfl⟩|e::es,p::l,h=>by obtain⟨⟨t,hk⟩,hh,hv,hr⟩:=h;obtain⟨i1,i2,i3⟩:=Qp (P:=P) (w:=w) hr;rw[283];rw[ev];refine⟨.cons (.F2) rfl i1,.fk,by rw[aO,aO,i3]⟩;rw[190];{exact⟨dH p.1,.F2,hh⟩};{exact i2 x hx}|[],_::_,h=>h.elim|_::_,[],h=>h.elim
theorem A0.dict{P:Program}{w:World}{K:ae}{mg:.aV}{a:Addr}{l:.gf}{h:Heap}(d:A0 K mg a l)(KX:K.In h):h.DictOf .js a (qD mg l):=by obtain⟨es,ep,lk,_,ok,nd⟩:=d;obtain⟨i1,i2,i3⟩:=Qp (P:=P) (w:=w) ok;refine⟨_,es,ep,KX _ _ lk,.xO,rfl,fun e he=>i2 e (zd.mpr he),i1,? _⟩;rw[i3];have:(l.map fun p=>(dH p.1:gx))=(.ho).map dH:=.qU;rw[this];exact w_ _ (fun a b h e=>h (sR e)) nd
theorem VN{mg:.aV}:∀{es:List DictEntry}{l:.gf}(k:Int),Zc mg es l->valueAt (qD mg l) (dH k)=(l.lookup k).bind mg/\((l.lookup k).bind mg).isSome=(.ho).contains k|[],[],k,_=>.ea|e::es,p::l,k,h=>by obtain⟨_,_,hv,hr⟩:=h;obtain⟨i1,i2⟩:=VN k hr;rw[283];(have va:valueAt (qD mg (p::l)) (dH k)=if p.1=k then some e.val else valueAt (qD mg l) (dH k):=by rw[ev];unfold valueAt;rw[gC];by_cases hk:p.1=k;{subst hk;simp};{have:¬(dH p.1:gx)=dH k:=fun z=>hk (sR z);simp only[decide_eq_false this,.bV]});rw[va,gM,aO,List.contains_cons];by_cases hk:p.1=k;{subst hk;simp only[if_true,beq_self_eq_true,u_,hv,ap9];exact⟨trivial,rfl⟩};{have h1:(k==p.1)=false:=beq_eq_false_iff_ne.mpr (cW hk);simp only[.bV,h1,al0];exact⟨i1,i2⟩}|[],_::_,_,h=>h.elim|_::_,[],_,h=>h.elim
def aoz(l:.gf)(ty:TE):TE:=fun σ H Q=>ty σ H fun y H1=>∃k:Int,y=.int k/\Q (.bl ((.ho).contains k)) H1
section
variable{X:Cx}{i e:Expr}{es:List Expr}{x:Str}{a:Addr}{l:List (Int×Str)}{ty:TE}{t:TA}{p Od pos:Pos}
theorem Dx(d:A0 X.K X.mg a l)(hm:.cO=.ed)(hi:PE X i ty)(hg:.cq:=by rfl)(Hs:.bX:=by decide):PC X .In i .iP (aoz l ty):=by rw[3];refine iu .kg fun iv s1⟨y,H1,I1,ry,k,ey,q1⟩=>? _;subst ey;refine qW I1 hg hm ? _ Hs;have dd:=.F3;obtain⟨es,ep,lk,hs,ok,nd⟩:=d;refine wpAny_in_of (Bx (k:=dH k) ry) hs dd.mapOf ? _;rw[(VN k ok).1,(VN k ok).2];exact⟨.bl _,H1,I1.tok _,rfl,q1⟩
def aqs(X:Cx)(x:Str)(sp:Sp):Prop:=∃k ps,Dn X.prog X.w X.K X.mg X.base dD x k ps sp/\.fw
def Jf(N:Str->Sp->Prop)(l:.gf)(ty:TE)(t:TA):TE:=fun σ H Q=>ty σ H fun y H1=>∃(k:Int)(x:Str)(sp:Sp),y=.int k/\l.lookup k=.bu/\N x sp/\t σ H1 fun vs H2=>sp vs H2 Q E0
theorem BM(d:A0 X.K X.mg a l)(hm:.cO=.ed)(hi:PE X i ty)(hs:al6 i)(ha:.eM)(hg:.cq:=by rfl)(Hs:.bX:=by decide)(he:.eg:=by rfl)(tZ:.fM:=by rfl)(hw:eval .AX X.bA=(do callWith pos (<-eval (.Subscript (.Name x p) i Od) X.bA) [] (backTo pos (starEach (e::es) X.bA)) (backToKw pos (keywordEach [] X.bA))):=by rfl):PE X .AX (Jf (aqs X) l ty t):=by rw[3];rw[hw];rw[16];refine Wz JB.lookup hs (qW I hg hm ? _ Hs);refine iu .kg fun iv s1⟨y,H1,I1,ry,k,nm,sp,ey,hl,⟨kk,ps,⟨f,fd,F,hmf,hkf,hb⟩,hr⟩,q1⟩=>? _;subst ey;have dd:=.F3;obtain⟨jL,ep,lk,VF,ok,nd⟩:=d;refine⟨⟨_,I1.C9 _ _ lk,rfl⟩,? _⟩;refine wpAny_getItem_of (Bx (k:=dH k) ry) dd.mapOf (v:=.ref f) (by rw[(VN k ok).1,hl,u_,hmf]) ? _;refine nc (h₀:=X.base) I1.ok.ET.kin hkf (iu (ha pos pins _ σ H1 _ (I1.tok _) q1) fun us s2⟨vs,H2,I2,r,q⟩=>⟨I2.C9,? _⟩) he tZ;exact NR F hr hb .nil bQ I2 r (by rw[bM];exact q)
end
end L2
namespace Lc
open PySem L2
def iN(i:Nat):Stmt:=al9.main.body.getD i (.yg)
abbrev rQ:Stmt:=iN 3
abbrev sV:Stmt:=iN 4
abbrev PU:Stmt:=iN 5
abbrev Z':Stmt:=iN 6
abbrev Vp:Stmt:=iN 7
abbrev Lb:Stmt:=iN 8
abbrev Li:Stmt:=iN 9
abbrev ES:Stmt:=i9 (iN 15) 0
abbrev v9:Stmt:=iN 16
abbrev xO:Stmt:=i9 (iN 18) 0
abbrev xP:Stmt:=i9 (iN 19) 0
abbrev sU:Stmt:=iN 20
abbrev Ld:Stmt:=iN 21
abbrev Bt:Stmt:=iN 22
abbrev Bp:Stmt:=iN 23
abbrev rS:Stmt:=iN 24
abbrev Hj:Stmt:=iN 25
abbrev uf:Stmt:=iN 26
abbrev ED:Stmt:=iN 27
abbrev Ew:Stmt:=iN 28
abbrev zJ:Stmt:=iN 29
abbrev Hf:Stmt:=iN 30
abbrev kP:Stmt:=i9 (iN 42) 0
abbrev EF:Stmt:=iN 44
abbrev xB:Stmt:=iN 45
abbrev Hg:Stmt:=iN 46
abbrev BD:Stmt:=i9 (iN 60) 0
abbrev Le:Stmt:=iN 61
abbrev Lf:Stmt:=iN 62
abbrev He:Stmt:=iN 63
abbrev v8:Stmt:=iN 64
abbrev Lh:Stmt:=iN 65
abbrev Ez:Stmt:=iN 66
abbrev Ex:Stmt:=iN 67
abbrev Hi:Stmt:=iN 68
abbrev EE:Stmt:=iN 69
abbrev zP:Stmt:=i9 .gI 0
abbrev xQ:Stmt:=i9 .gI 1
abbrev wg:Stmt:=i9 .gI 2
abbrev uz:Stmt:=i9 .gI 3
abbrev zQ:Stmt:=i9 .gI 4
abbrev rY:Stmt:=i9 .gI 5
abbrev p9:Stmt:=i9 .gI 6
abbrev sY:Stmt:=i9 .gI 7
abbrev ux:Stmt:=i9 .gI 8
abbrev zH:Stmt:=iN 76
abbrev v_:Stmt:=iN 77
abbrev Bq:Stmt:=iN 78
abbrev Br:Stmt:=iN 79
abbrev Aj:Stmt:=iN 80
abbrev xA:Stmt:=iN 81
abbrev rR:Stmt:=iN 82
abbrev EC:Stmt:=iN 83
abbrev o9:Stmt:=iN 84
abbrev pE:Stmt:=iN 89
abbrev og:Stmt:=iN 90
abbrev Bo:Stmt:=iN 91
abbrev Eu:Stmt:=iN 92
abbrev zI:Stmt:=iN 93
abbrev mD:Stmt:=iN 94
abbrev o_:Stmt:=iN 95
abbrev xR:Stmt:=i9 (iN 98) 0
abbrev pW:Stmt:=iN 99
abbrev EA:Stmt:=iN 100
abbrev sW:Stmt:=iN 101
abbrev xy:Stmt:=iN 102
abbrev Ey:Stmt:=iN 103
abbrev EB:Stmt:=iN 104
abbrev ER:Stmt:=i9 (iN 114) 0
abbrev BC:Stmt:=i9 (iN 114) 1
abbrev rX:Stmt:=i9 (iN 114) 2
abbrev we:Stmt:=i9 (iN 114) 3
abbrev EO:Stmt:=i9 (iN 115) 0
abbrev La:Stmt:=iN 116
abbrev Z_:Stmt:=iN 117
abbrev Vn:Stmt:=iN 118
abbrev Vo:Stmt:=iN 119
abbrev Lg:Stmt:=iN 120
abbrev Vr:Stmt:=iN 121
abbrev PR:Stmt:=iN 122
abbrev Hh:Stmt:=iN 123
abbrev PX:Stmt:=iN 124
abbrev nB:Stmt:=iN 125
abbrev pX:Stmt:=iN 126
abbrev ue:Stmt:=iN 127
abbrev Z8:Stmt:=iN 128
abbrev Vq:Stmt:=iN 129
abbrev Z9:Stmt:=iN 130
abbrev aa0:Stmt:=iN 131
abbrev Vl:Stmt:=iN 132
abbrev PV:Stmt:=iN 133
abbrev Vm:Stmt:=iN 138
abbrev C3:Stmt:=iN 139
abbrev tR:Stmt:=iN 140
abbrev G':Stmt:=iN 141
abbrev yK:Stmt:=iN 142
structure Ad where
iE:Addr
RE:Addr
cn:Addr
iw:Addr
cA:Addr
bO:Addr
af3:Addr
Vk:Addr
Jh:Addr
j_:Addr
Ck:Addr
bK:Addr
dU:Addr
Sv:Addr
gi:Addr
cX:Addr
dh:Addr
K0:Addr
Em:Addr
En:Addr
zF:Addr
structure Txt(K:ae)(mg:Str->Option Value)(ad:Ad):Prop where
arj:mg "abs"=none
ZE:mg "all"=none
Ei:mg "enumerate"=none
U7:mg "int"=none
gU:mg "len"=none
Ae:mg "list"=none
ZF:mg "max"=none
ark:mg "min"=none
arl:mg "ord"=none
afg:mg "range"=none
px:mg "reversed"=none
ajq:mg "set"=none
GK:mg "sorted"=none
Pd:mg "sum"=none
Pe:mg "zip"=none
C6:mg "NOTHING"=some (.ref ad.iE)
Yg:∀H:Hp,ig K H ad.iE [V.int 0,V.int 1]
ak2:mg "ONE"=some (.ref ad.RE)
av8:∀H:Hp,ig K H ad.RE [V.int 1,V.int 1]
AE:kq K mg "greatest_divisor" rQ
BR:kq K mg "common_multiple" sV
ad1:kq K mg "lowest" PU
aoo:kq K mg "plus" Z'
ai8:kq K mg "times" Vp
Yn:kq K mg "divided" Lb
Yu:kq K mg "written" Li
Bv:∃t,mg "WORTH"=some (.str "worth" t)
ak0:∃t,mg "ADD"=some (.str "add" t)
Te:∃t,mg "LOTS"=some (.str "lots" t)
ui:∃t,mg "STATION"=some (.str "station" t)
cZ:Kx K ad.cn
fS:eE K ad.cn "kind"
dX:eE K ad.cn "ways"
gP:eE K ad.cn "amount"
gu:eE K ad.cn "shares"
jY:eE K ad.cn "name"
jq:eE K ad.cn "place"
gQ:eE K ad.cn "labels"
gf:eE K ad.cn "label_places"
gY:eE K ad.cn "station"
iJ:eE K ad.cn "steps"
jv:eE K ad.cn "weight"
jZ:eE K ad.cn "total"
aok:CT K mg ad.cn "Tree" "Tree.__init__" ES
FH:kq K mg "in_text_order" v9
i6:Kx K ad.iw
jK:eE K ad.iw "tree"
jA:eE K ad.iw "amount"
iC:eE K ad.iw "chance"
Yi:CT K mg ad.iw "Arrival" "Arrival.__init__" xO
d9:Kx K ad.cA
ki:eE K ad.cA "tree"
iU:eE K ad.cA "unit"
gw:eE K ad.cA "parts"
jB:eE K ad.cA "worths"
gW:eE K ad.cA "chances"
Yj:CT K mg ad.cA "Courses" "Courses.__init__" xP
BQ:kq K mg "chances_of_ways" sU
Yo:kq K mg "ends_of" Ld
NY:kq K mg "ways_taken" Bt
NV:kq K mg "ends_under" Bp
AF:kq K mg "weights_by_steps" rS
Us:kq K mg "total_of" Hj
DI:kq K mg "worth_of_total" uf
Ra:kq K mg "spread_of" ED
Q4:kq K mg "chance_of" Ew
Kn:kq K mg "outcomes_of" zJ
Uo:kq K mg "is_above" Hf
Fp:∃t,mg "TEXT_TOO_LONG"=some (.int 1 t)
Tg:∃t,mg "NO_TOKEN"=some (.int 2 t)
J6:∃t,mg "NOT_ALLOWED"=some (.int 3 t)
Am:∃t,mg "TOO_MANY"=some (.int 4 t)
J3:∃t,mg "LABEL_TWICE"=some (.int 5 t)
rU:∃t,mg "NUMBER_TOO_SMALL"=some (.int 7 t)
Fl:∃t,mg "FORM_TOO_LONG"=some (.int 10 t)
P9:∃t,mg "NO_CHANCE"=some (.int 11 t)
Hn:∃t,mg "OTHER_LABELS"=some (.int 14 t)
zo:∃t,mg "TOO_MANY_STATIONS"=some (.int 15 t)
oh:mg "Fault"=some (.ref ad.bO)
XC:Ab K ad.bO ad.af3 ad.Vk "code" "place"
XI:O7 K ad.Vk "code" "place"
Rf:kq K mg "ways_form" EF
E1:kq K mg "tree_form" xB
Up:kq K mg "one_form" Hg
aa8:∃t,mg "WORD"=some (.str "word" t)
Hm:∃t,mg "NUMBER"=some (.str "number" t)
aa7:∃t,mg "SIGN"=some (.str "sign" t)
ak1:∃t,mg "END"=some (.str "end" t)
Hl:∃t,mg "LONGEST_WORD"=some (.int 16 t)
Bu:∃t,mg "GREATEST_NUMBER"=some (.int 1000000000 t)
J4:∃t,mg "MOST_DIGITS"=some (.int 10 t)
MR:∃t,mg "ARROW"=some (.str "->" t)
ag1:∃t,mg "SIGNS"=some (.str "={}()[],;:/|" t)
Lm:∃t,mg "PRINTED"=some (.str "&'()*+,-./0123456789:;<=>?@ABCDEFGHIJKLMNOPQRSTUVWXYZ[\\]^_`abcdefghijklmnopqrstuvwxyz{|}~" t)
qC:∃t,mg "FIRST_PRINTED"=some (.int 38 t)
Tf:mg "NO_NAMES"=some (.ref ad.Jh)
Uk:∀H:Hp,ig K H ad.Jh [V.str "chance",V.str "budget",V.str "def",V.str "let",V.str "observe",V.str "tell",V.str "table",V.str "net",V.str "flag",V.str "num",V.str "if",V.str "flip",V.str "pick",V.str "uniform",V.str "given",V.str "weigh",V.str "true",V.str "false"]
i7:Kx K ad.j_
oq:eE K ad.j_ "kind"
f':eE K ad.j_ "text"
ju:eE K ad.j_ "place"
ai3:CT K mg ad.j_ "Token" "Token.__init__" BD
Yp:kq K mg "is_name" Le
Yr:kq K mg "sign_of" Lf
Um:kq K mg "bytes_of" He
FG:kq K mg "behind_blanks" v8
Yt:kq K mg "word_at" Lh
Q7:kq K mg "number_at" Ez
Q5:kq K mg "is_number" Ex
Ur:kq K mg "token_at" Hi
Rc:kq K mg "tokens_of" EE
Xo:∃t,mg "DEEPEST"=some (.int 24 t)
J2:∃t,mg "FEWEST_WAYS"=some (.int 2 t)
EG:∃t,mg "MOST_WAYS"=some (.int 8 t)
MT:mg "TREE_WORDS"=some (.ref ad.Ck)
NL:∀H:Hp,ig K H ad.Ck [V.str "add",V.str "pick",V.str "if"]
cu:Kx K ad.bK
qF:eE K ad.bK "tokens"
xU:eE K ad.bK "at"
acy:CT K mg ad.bK "Reader" "Reader.__init__" zP
Ir:zh K ad.bK "ahead" "Reader.ahead" xQ
FF:zh K ad.bK "refuse" "Reader.refuse" wg
DG:zh K ad.bK "take_if" "Reader.take_if" uz
Kj:zh K ad.bK "take" "Reader.take" zQ
AD:zh K ad.bK "take_name" "Reader.take_name" rY
yd:zh K ad.bK "take_number" "Reader.take_number" p9
BP:zh K ad.bK "take_end" "Reader.take_end" sY
DF:zh K ad.bK "goes_on" "Reader.goes_on" ux
Kk:kq K mg "begins_tree" zH
FI:kq K mg "read_fraction" v_
NW:kq K mg "read_share" Bq
NX:kq K mg "read_worth" Br
Iv:kq K mg "read_add" Aj
EZ:kq K mg "read_lots" xA
ye:kq K mg "read_station" rR
Q_:kq K mg "read_tree" EC
wW:kq K mg "read_title_and_tree" o9
J5:∃t,mg "MOST_WORTHS"=some (.int 512 t)
MS:∃t,mg "MOST_PAIRS"=some (.int 512 t)
An:mg "TooLarge"=some (.ref ad.dU)
XC0:A_ K ad.dU ad.Sv
uJ:kq K mg "greatest_total" pE
vI:kq K mg "worth_knowing_places" og
NU:kq K mg "drawn_from" Bo
Q3:kq K mg "better_of" Eu
Kl:kq K mg "chosen_from" zI
qM:kq K mg "list_knowing_lots" mD
wX:kq K mg "worths_knowing_lots" o_
Fo:∃t,mg "MOST_STATIONS"=some (.int 12 t)
jV:Kx K ad.gi
r_:eE K ad.gi "name"
gG:eE K ad.gi "labels"
ml:eE K ad.gi "places"
Yk:CT K mg ad.gi "Station" "Station.__init__" xR
yf:kq K mg "refuse_label_twice" pW
Q8:kq K mg "number_of" EA
BS:kq K mg "number_stations" sW
Iu:kq K mg "policy_count" xy
Q6:kq K mg "is_policy" Ey
Q9:kq K mg "policy_at" EB
rT:∃t,mg "LONGEST_TEXT"=some (.int 4096 t)
Fn:∃t,mg "MOST_POLICIES"=some (.int 2048 t)
aa6:∃t,mg "LOAD"=some (.int 0 t)
Xp:∃t,mg "NO_GAME"=some (.int (-1) t)
uh:∃t,mg "NO_SUCH_NUMBER"=some (.int (-2) t)
P_:∃t,mg "NO_POLICY"=some (.int (-5) t)
P':∃t,mg "TOO_LARGE"=some (.int (-8) t)
mE:∃t,mg "TOO_MANY_POLICIES"=some (.int (-9) t)
jo:Kx K ad.cX
oo:eE K ad.cX "calls"
uA:eE K ad.cX "at"
jt:eE K ad.cX "game"
aoj:CT K mg ad.cX "Line" "Line.__init__" ER
NT:zh K ad.cX "ended" "Line.ended" BC
AB:zh K ad.cX "take_number" "Line.take_number" rX
FE:zh K ad.cX "take_row" "Line.take_row" we
gL:Kx K ad.dh
qc:eE K ad.dh "tree"
fW:eE K ad.dh "stations"
xT:eE K ad.dh "form"
gX:eE K ad.dh "courses"
sZ:eE K ad.dh "kept"
aoi:CT K mg ad.dh "Game" "Game.__init__" EO
Ym:kq K mg "counted" La
aon:kq K mg "load" Z_
ai6:kq K mg "shown" Vn
ai7:kq K mg "sizes" Vo
Ys:kq K mg "station" Lg
aia:kq K mg "worth" Vr
ad0:kq K mg "listed" PR
Uq:kq K mg "outcomes" Hh
ad3:kq K mg "spread" PX
uK:kq K mg "has_too_many_policies" nB
yg:kq K mg "totals_of_policies" pX
DH:kq K mg "those_of_total" ue
aol:kq K mg "best" Z8
ai9:kq K mg "worst" Vq
aom:kq K mg "free" Z9
aop:kq K mg "seen" aa0
ai4:kq K mg "above" Vl
ad2:kq K mg "policy" PV
Ll:mg "OF_GAME"=some (.ref ad.K0)
Lw:A0 K mg ad.K0 [(1,"shown"),(2,"sizes"),(7,"best"),(8,"worst"),(9,"free"),(10,"seen")]
xD:mg "OF_NUMBER"=some (.ref ad.Em)
xG:A0 K mg ad.Em [(3,"station"),(12,"policy")]
xE:mg "OF_POLICY"=some (.ref ad.En)
xH:A0 K mg ad.En [(4,"worth"),(5,"outcomes"),(6,"spread")]
zK:mg "OF_POLICIES"=some (.ref ad.zF)
zM:A0 K mg ad.zF [(11,"above")]
ai5:kq K mg "given" Vm
Yq:kq K mg "of_game" C3
Km:kq K mg "of_policies" tR
acz:kq K mg "answer" G'
Yl:kq K mg "answers" yK
end Lc
namespace L2
open PySem
theorem xq{CX:OK}{P:Program}{w:World}{K:ae}{mg:.aV}{base:Heap}{N:.a0}{qual:Str}{scope:Scope}{f:Addr}{cd:Value}{A:Around}{aY:.dw}{s:Shared}{H:Hp}{E:XK}:(.ua).K=K:=rfl
end L2
namespace Lc
open PySem PySem.Spec PyProof.Rows L2
def tx(l:.ab):Str:=⟨l.toArray⟩
theorem oH{a b:.ab}:tx a=tx b↔a=b:=by unfold tx;rw[12];{intro h;have:=congrArg (fun s:Str=>s.cps.toList) h;rw[68]};{intro h;rw[h]}
theorem bX(l:.ab):(tx l).length=l.length:=by unfold tx;exact bo ..
theorem qJ(l:.ab):(tx l).cps.toList=l:=.ym
theorem agm{c:Prop} [Decidable c]{α:Type}(F:α->Prop){a b:α}(h:∀x,x=(if c then a else b)->F x):if c then F a else F b:=by by_cases hc:c;{rw[.dQ]at h|-;exact h a rfl};{rw[.fq]at h|-;exact h b rfl}
theorem Va{c d:Nat}{s:Str}(h:s=⟨#[d]⟩):((.f9:Str)=s)=(c=d):=by subst h;simp
theorem afk{c:Nat}:((.f9:Str)="#")=(c=35):=Va rfl
theorem arv{c:Nat}:((.f9:Str)="\n")=(c=10):=Va rfl
theorem arw{c:Nat}:((.f9:Str)=" ")=(c=32):=Va rfl
theorem Pl{c:Nat}:((.f9:Str)="-")=(c=45):=Va rfl
def A8(kind text:Str)(place:Int):.a7:=[("kind",.ju),("text",.str text),("place",.int place)]
def Nj:.a0:=["chance","budget","def","let","observe","tell","table","net","flag","num","if","flip","pick","uniform","given","weigh","true","false"]
section
variable{P:Program}{w:World}{K:ae}{mg:Str->Option Value}{base:Heap}{ad:Ad}
def Wu(ad:Ad):Sp:=fun vs H Q _=>∃p dx kind text place,vs=[.bO,.ju,.str text,.int place]/\H p=some (.cH ad.j_ dx [])/\Q .jD (aN H p (.cH ad.j_ dx (.qV)))
theorem abm(T:.U):.s9:=by have sc:a9 .uz .uz (aL BD):=.af;refine T.ai3.dc .C6 sc .ae .ag;rw[327];{obtain⟨p,dx,kind,text,place,rfl,hp,q⟩:=h;refine⟨_,(aj .h8 (aj (dW .au .ay rfl) (aD .yn))),? _⟩;ktd_call vc [hp,ah,gJ,T.i7,T.oq,T.f',T.ju];exact⟨.aW,.gQ,.gR,q⟩}
def yj(ad:Ad):Sp:=fun vs H Q _=>∃a dx kind text place,.gd/\H a=some (.cH ad.j_ dx (.qV))/\Q (.bl (decide (kind="word")&&! inV (.str text) (Nj.map V.str))) H
theorem T5(T:.U):.uA:=by have sc:a9 ["token"] ["token"] (aL Le):=.af;refine T.Yp.dn .aO sc .ae .ag;rw[327];{obtain⟨a,dx,kind,text,place,rfl,ha,q⟩:=h;refine⟨_,(aD (ba (ao4 (m7 gH .aG (fF T.aa8) .aB) (ac9 (m7 NC .aG (vG T.Tf) rfl))))),? _⟩;have l1:(.qV).lookup ("kind":Str)=some (.ju):=rfl;have l2:(.qV).lookup ("text":Str)=some (.str text):=rfl;ktd_call vc [ha,l1,l2,T.i7,T.oq,T.f'];by_cases hk:kind="word";{rw[if_pos (.xU)];exact⟨_,.inr (T.Uk H),.aW,by rw[.xU]at q;exact q⟩};{rw[if_neg (by rw[.xV];exact a7)];rw[.xV]at q;exact q}}
def IV:Sp:=fun vs H Q _=>∃n:Nat,vs=[.int n]/\n<256/\Q (.str (tx [Wm.sg n])) H
abbrev Wj:Str:="&'()*+,-./0123456789:;<=>?@ABCDEFGHIJKLMNOPQRSTUVWXYZ[\\]^_`abcdefghijklmnopqrstuvwxyz{|}~"
theorem qd:Wj.length=89:=.aF
theorem Ui:∀k<89,Wj.cps.toList[k]?=some (k+38):=.aF
theorem ad8{n:Nat}(h1:¬n=32)(h2:¬n=9)(h3:¬n=10)(h4:¬n=35)(h5:¬(38<=n/\n<127)):Wm.sg n=63:=by unfold Wm.sg;rw[.cf,.hC,if_neg h4,if_neg h5]
theorem avl{n:Nat}(h5:38<=n/\n<127):Wm.sg n=n:=by unfold Wm.sg;rw[.cf,.cf,.cf,if_pos h5]
theorem T7(T:.U):.C7:=by have sc:a9 ["byte"] ["byte"] (aL Lf):=.af;refine T.Yr.dn .aO sc .ae .ag;{obtain⟨n,rfl,_⟩:=h;rfl};{obtain⟨n,rfl,hn,q⟩:=h;refine⟨_,(aj (dG (PW.pt (QV .p2 (Im .p2))) .sD bZ) (aj (dG .p2 .sD bZ) (aj (dG .p2 .sD bZ) (aj (dG (Ik LM wj (dI T.qC) .au (de sj (dI T.qC) (bT iH rfl T.gU fg (af (fF T.Lm) ao)))) (aD (ba (eZ C8 (fF T.Lm) (de Dv .au (dI T.qC)) .a5))) bZ) .sD)))),? _⟩;rw[1];refine fj (.ey) fun h1=>fj .kS fun h2=>fj (fun h3=>? _) fun h3=>fj (fun h4=>? _) fun h4=>fj (fun h5=>⟨by rw[qd];decide,? _⟩) fun h5=>? _;(all_goals simp only[decide_eq_true_eq]at*);{obtain rfl:n=32:=.o;exact q};{obtain rfl:n=9:=.o;exact q};{obtain rfl:n=10:=.o;exact q};{obtain rfl:n=35:=.o;exact q};{refine fj (fun h6=>⟨by rw[qd];decide,n,? _,? _⟩) fun h6=>? _;{rw[qd]at h6;have e:.cN-38=((n-38:Nat):Int):=.o;rw[e];refine gT ? _;rw[Ui (n-38) .C];congr 1;omega};{rw[qd]at h6;rw[avl .C]at q;exact q};{rw[qd]at h6;rw[ad8 .C .C .C .C .C]at q;exact q}};{rw[ad8 .C .C .C .C .C]at q;exact q}}
def Rq:Sp:=fun vs H Q _=>∃(l:.ab)(p:Nat),.p3/\p<=l.length/\.kr/\Q (.int ((.lO:Nat))) H
theorem jO{l:.ab}(h:.kr):(tx l).length<=sizeLine:=by rw[bX,sizeLine_eq];omega
theorem RO{l:.ab}{j:Nat}{c:Nat}(h:l[j]?=.br):W4 (tx l).cps.toList .eB=.br:=by rw[qJ];exact gT h
theorem Dr(T:.U):.C8:=by have sc:a9 ["signs","place","in_remark","sign"] .gS (aL v8):=.af;refine T.FG.dn .aM sc .ae .ag;rw[77];{obtain⟨l,p,rfl,hp,hl,q⟩:=h;refine⟨_,(aj .uB (aj (lW PassesOwn.never (cb wj .ak .AY .aB) (aj (bP (i:=3) sc.nd rfl .ai .vM) (aj (dG (cb gH .bq dN .aB) (aD .uB) (aD (dG (cb gH .bq dN .aB) (aD .uB) (aD (dG (PW.pt (Il (cb QM .bq dN .aB) (BO (DC (km .ay))))) .fT bZ))))) (aD (ya (i:=1) sc.nd rfl .ai bH Ap))))) .fT)),? _⟩;rw[1];refine⟨fun m σ H'=>∃(j:Nat)(r:Bool)(y:.bL),m=l.length-j/\σ=[some (.str (tx l)),some (.int j),some (.bl r),y]/\H'=H/\j<=l.length/\j+Wm.lH r (l.drop j)=.lO,⟨_,p,false,none,rfl,rfl,rfl,hp,rfl⟩,? _⟩;rintro m σ H'⟨j,r,y,rfl,rfl,rfl,hj,inv⟩;rw[1];refine⟨jO hl,.lP⟩;{rw[114];have Tn:j<l.length:=.o;have hd:l.drop j=l[j]::l.drop (j+1):=fz Tn;refine .gg;ktd_call vc [afk,arv,arw];refine⟨jO hl,l[j],RO (aV Tn),? _⟩;rw[hd,Wm.rF]at inv;have step:∀r',j+1+Wm.lH r' (l.drop (j+1))=.lO->∃m',m'<l.length-j/\∃j1:Nat,m'=l.length-j1/\.eB+1=(j1:Int)/\j1<=l.length/\j1+Wm.lH r' (l.drop j1)=.lO:=fun r' h=>⟨l.length-(j+1),.o,j+1,rfl,.o,.o,h⟩;refine fj (fun h2=>step true ? _) fun h2=>fj (fun h3=>step false ? _) fun h3=>fj (fun h4=>fj (fun h5=>? _) fun h5=>step r ? _) fun h4=>step r ? _;(all_goals simp only[decide_eq_true_eq,lN,decide_eq_false_iff_not,vU]at*);{rw[.jg]at inv;omega};{rw[.dt,if_pos h3]at inv;omega};{rw[.dt,.hC,if_pos ⟨h4,h5⟩]at inv;rw[328]};{rw[.dt,.hC,if_neg (by intro z;exact h5 z.2)]at inv;omega};{rw[.dt,.hC,if_neg (by intro z;exact h4 z.1)]at inv;omega}};{rw[114];have e:l.drop j=[]:=kZ .C;rw[e]at inv;rw[328]}}
theorem WX:∀c<128,Txt.isalnum .f9=Wm.isA c:=.aF
theorem WY:∀c<128,Txt.isalpha .f9=Wm.isL c:=.aF
theorem K5:∀c<128,Txt.isdigit .f9=Wm.AX c:=.aF
theorem SV{l:.ab}{a b:Nat}(ha:a<=b)(hb:b<=l.length):Fk (tx l) (some (a:Int)) (some (b:Int))=tx ((l.drop a).take (b-a)):=by unfold Fk;rw[qJ,bX,HT.vH,HT.vH,lE (show a<=l.length by omega),lE hb];rfl
theorem AM{p:Nat->Bool}:∀(l:.ab)(n:Nat),(∀i,i<n->∃c,l[i]?=.br/\p c=true)->(l[n]?=none\/∃c,l[n]?=.br/\p c=false)->l.take n=.rT|l,0,_,h=>by rcases h with h|⟨c,h,hc⟩;{cases l with|nil=>rfl|cons x r=>simp at h};{cases l with|nil=>simp at h|cons x r=>obtain rfl:x=c:=aB h;rw[dg,hc];rfl}|[],n+1,h,_=>by obtain⟨c,h,_⟩:=h 0 .C;simp at h|x::r,n+1,h,h2=>by obtain⟨c,e,hc⟩:=h 0 .C;obtain rfl:x=c:=aB e;rw[dg,.dQ,WL,AM r n (fun i hi=>h .aH .C) h2]
def IZ:Sp:=fun vs H Q _=>∃(l:.ab)(p:Nat),.p3/\p<=l.length/\.kr/\.yV/\Q (.str (tx ((.e3).takeWhile Wm.isA))) H
theorem T_(T:.U):.Ey:=by have sc:a9 ["signs","place","end"] .gS (aL Lh):=.af;refine T.Yt.dn .aM sc .ae .ag;rw[77];{rw[167];refine⟨_,(aj .F4 (aj (lW PassesOwn.never (PW.pt (Il .AZ (BO (km (V_ PySem.F.slot_str_isalnum PySem.F.type_str_isalnum TB (eZ C8 .au .ay .a5)))))) .uC) .C9)),? _⟩;rw[1];refine⟨fun m σ H'=>∃(j:Nat),m=l.length-j/\.Dc/\H'=H/\p<=j/\j<=l.length/\∀i,i<j-p->∃c,(.e3)[i]?=.br/\Wm.isA c=true,⟨_,p,rfl,rfl,rfl,aF _,hp,fun i hi=>.o⟩,? _⟩;rintro m σ H'⟨j,rfl,rfl,rfl,hj,hj2,inv⟩;(have fin:(¬j<l.length\/∃c,l[j]?=.br/\Wm.isA c=false)->Q .uD H':=fun h=>by rw[SV hj hj2,AM _ _ inv];{exact q};{rw[jQ,show p+(j-p)=j by omega];rw[92];{exact .inl (eO .C)};rw[29]});rw[1];rw[225];rw[WX _ (hc _ (FJ Tn))];rw[226];by_cases hi2:i<j-p;{exact inv i hi2};{refine⟨l[j],? _,h2⟩;rw[jQ,show p+i=j by omega];exact aV Tn}}
def AI:Sp:=fun vs H Q _=>∃(l:.ab)(p:Nat),.p3/\p<l.length/\.kr/\.yV/\Q (.str (tx (Wm.qY (.e3)))) H
theorem vD{l:.ab}{c:Nat}{r:.ab}(h:l=c::r):Wm.qY l=if c=45 then 45::r.takeWhile Wm.AX else l.takeWhile Wm.AX:=by subst h;by_cases hc:c=45;{subst hc;rw[.aJ];rfl};{rw[.fq];show(match c::r with|45::r=>45::r.takeWhile Wm.AX|l=>l.takeWhile Wm.AX)=_;split;{rename_i e;exact absurd .gy hc};{rfl}}
theorem Np(T:.U):.Dd:=by have sc:a9 ["signs","place","end"] .gS (aL Ez):=.af;refine T.Q7.dn .aM sc .ae .ag;rw[77];{rw[167];refine⟨_,(aj .F4 (aj (dG (cb gH .vM dN .aB) .uC bZ) (aj (lW PassesOwn.never (PW.pt (Il .AZ (BO (km (V_ JP JQ HM (eZ C8 .au .ay .a5)))))) .uC) .C9))),? _⟩;ktd_call vc [Pl];refine⟨jO hl,l[p],RO (aV hp),? _⟩;have hd:.e3=l[p]::l.drop (p+1):=fz hp;rw[vD hd]at q;refine agm (fun e:Int=>adn _ _ _ [some (V.str (tx l)),some (V.int (p:Int)),some (V.int e)] H) fun e he=>? _;(obtain⟨p0,rfl,hp0,OT,aA9⟩:∃p0:Nat,e=(p0:Int)/\p<=p0/\p0<=l.length/\∀j,p0<=j->j<=l.length->(l.drop p0).take (j-p0)=(l.drop p0).takeWhile Wm.AX->Q .uD H:=by by_cases h:l[p]=45;{rw[.nA,.aJ]at he;refine⟨p+1,.o,.o,.o,fun j h1 h2 h3=>? _⟩;rw[.cn]at q;rw[SV .C h2,hd,show j-p=(j-(p+1))+1 by omega,WL,h3,h];exact q};{rw[.iC,.dC]at he;refine⟨p,he,aF _,.o,fun j h1 h2 h3=>? _⟩;rw[.cp]at q;rw[SV h1 h2,h3];exact q});refine⟨fun m σ H'=>∃(j:Nat),m=l.length-j/\.Dc/\H'=H/\p0<=j/\j<=l.length/\∀i,i<j-p0->∃c,(l.drop p0)[i]?=.br/\.nT,⟨_,p0,rfl,rfl,rfl,aF _,OT,fun i hi=>.o⟩,? _⟩;rintro m σ H'⟨j,rfl,rfl,rfl,hj,hj2,inv⟩;(have fin:(¬j<l.length\/∃c,l[j]?=.br/\Wm.AX c=false)->Q .uD H':=fun h=>by refine aA9 j hj hj2 (AM _ _ inv ? _);rw[jQ,show p0+(j-p0)=j by omega];rw[92];{exact .inl (eO .C)};rw[29]);rw[1];rw[225];rw[K5 _ (hc _ (FJ Tn))];rw[226];by_cases hi2:i<j-p0;{exact inv i hi2};{refine⟨l[j],? _,h2⟩;rw[jQ,show p0+i=j by omega];exact aV Tn}}
end
section
variable{P:Program}{w:World}{K:ae}{mg:Str->Option Value}{base:Heap}{ad:Ad}
theorem I_(l:.ab)(d:Nat):Txt.startswith (tx l) ⟨#[d]⟩=decide (l.head?=some d):=by unfold Txt.startswith;cases l with|nil=>rfl|cons c r=>unfold Builtin.Str.subAt;have e1:(⟨#[d]⟩:Str).length=1:=rfl;have e2:(tx (c::r)).cps.extract 0 (0+1)=#[c]:=.ym;rw[e1,e2,bX];simp only[xc,dj];rw[fG];simp
theorem ZV(l:.ab):Fk (tx l) (some 1) none=tx (l.drop 1):=by unfold Fk;rw[qJ,bX,HT.acx,show(1:Int)=((1:Nat):Int)from rfl,HT.vH];cases l with|nil=>rfl|cons c r=>have e:min 1 (c::r).length=1:=lE .aC;rw[e,k_ .aC];rfl
theorem MG(l:.ab):NumText.digitsVal l=Wm.OP l:=by unfold NumText.digitsVal Wm.OP;congr 1;funext n c;rw[h_]
theorem adw{l:.ab}:(tx l="")=(l=[]):=by have e:("":Str)=tx []:=rfl;rw[e,oH]
theorem aj0{l:.ab}:(tx l="0")=(l=[48]):=by have e:("0":Str)=tx [48]:=rfl;rw[e,oH]
def AH:Sp:=fun vs H Q _=>∃(t:.ab),vs=[.str (tx t)]/\t.length<=8192/\(∀c∈.eC,.nT)/\Q (.bl (Wm.xF t)) H
theorem xw(t:.ab):.eC=if decide (t.head?=some 45)=true then t.drop 1 else t:=by cases t with|nil=>rfl|cons c r=>by_cases h:c=45;{subst h;rfl};{rw[.jL];show(match c::r with|45::r=>r|t=>t)=_;split;{rename_i e;exact absurd .gy h};{rfl}}
theorem Nm(T:.U):.De:=by have sc:a9 ["text","digits"] ["text"] (aL Ex):=.af;refine T.Q5.dn .aO sc .ae .ag;{obtain⟨t,rfl,_⟩:=h;rfl};{obtain⟨t,rfl,ht,hd,q⟩:=h;refine⟨_,(aj (bP (i:=1) sc.nd rfl .ai (Ib (km (ac7 FN FO zS .au dN)) (uI N4 .au (pQ bH) We) .au)) (aj (dG (PW.pt (QV (cb gH .ak dN .aB) (Im (cb xW .vN (dI T.J4) .aB)))) .la bZ) (aj (dG (km (ac7 FN FO zS .ak dN)) (aD (ba (m7 gH .au dN .aB))) bZ) (aD (ba (m7 LM (kj qS rfl T.U7 My .a9) (dI T.Bu) .aB)))))),? _⟩;have s1:Txt.startswith (tx t) "-"=decide (t.head?=some 45):=I_ t 45;have s0:∀l,Txt.startswith (tx l) "0"=decide (l.head?=some 48):=fun l=>I_ l 48;ktd_call vc [s1,ZV];(have rest:∀d:.ab,.eC=d->d.length<=8192->(if decide (tx d="")=true then Q (.bl false) H else(tx d).length<=sizeLine/\if decide (10<((tx d).length:Int))=true then Q (.bl false) H else(∃a,tx d=a)/\if Txt.startswith (tx d) "0"=true then Q (.bl (decide (tx t="0"))) H else∃x,intText? (tx d)=.bu/\(tx d).length<=640/\Q (.bl (decide (x<=1000000000))) H):=by intro d ed hl;subst ed;unfold Wm.xF at q;simp only[adw,aj0,bX,s0,decide_eq_true_eq]at q|-;refine fj (.ey) fun h1=>⟨.cQ,fj .kS fun h2=>⟨.aU,fj (fun h3=>? _) fun h3=>⟨_,intText_digits (x:=tx (.eC)) ? _ (by rw[qJ];exact h1) (.xa),.o,? _⟩⟩⟩;{rw[if_pos (.inl h1)]at q;exact q};{rw[if_pos (.inr .C)]at q;exact q};{rw[.Df,if_pos h3]at q;exact q};{rw[qJ];intro c hc;have:=hd c hc;unfold Wm.AX at this;rw[68]};{rw[.Df,.hC]at q;rw[qJ,MG];(have e:decide (((Wm.OP (.eC):Nat):Int)<=1000000000)=decide (Wm.OP (.eC)<=1000000000):=by rw[decide_eq_decide];omega);rw[e];exact q});have ed:=xw t;refine⟨.aU,fj (fun h=>⟨jO ht,? _⟩) fun h=>? _⟩;{rw[.cn]at ed;exact rest _ ed .p4};{rw[.cp]at ed;exact rest _ ed ht}}
def zN:Wm.Kd->Str|.word=>"word"|.Dl=>"number"|.sign=>"sign"|.stop=>"end"
def lQ(ad:Ad)(H:Hp)(a:Addr)(t:Wm.PT):Prop:=∃dx,H a=some (.cH ad.j_ dx (A8 (zN t.kind) (tx t.text) t.place))
def Gs(ad:Ad)(E:XK)(H:Hp)(c p:Nat):Prop:=∀(H':Hp)(dx:Addr),.aq->H' dx=some (.xd (UI "code" "place" (.int c) (.int p)))->E (.ref ad.bO) (.d3) H'
theorem aT.aN{H:Hp}{a:Addr}{o:HO}(h:.fs):aT H .dv:=fun b u e=>by rw[ai (aq e h)];exact e
theorem xk:("->":Str)=tx [45,62]:=rfl
theorem Rl:Wm.E3=("={}()[],;:/|":Str).cps.toList:=.aF
theorem Bk(l:.ab)(p:Nat):Fk (tx l) (some (p:Int)) (some ((p:Int)+2))=tx ((.e3).take 2):=by unfold Fk;rw[qJ,bX,HT.vH,show(p:Int)+2=((p+2:Nat):Int)by omega,HT.vH];by_cases h:p<=l.length;{rw[lE h];by_cases h2:p+2<=l.length;{rw[lE h2,show p+2-p=2 by omega];rfl};{rw[Gy .C,k_ .p4,k_ (i:=2) (l:=.e3) .p4];rfl}};{rw[Gy .C,Gy .C,kZ (show l.length<=p by omega),kZ .aS];simp[tx]}
theorem EW(l:.ab)(p:Nat)(hl:.kr):(Wm.qY (.e3)).length<=8192:=by refine br ? _ hl;cases h:l.drop p with|nil=>exact bw _|cons c r=>(have e:(c::r).length<=l.length:=by rw[<-h,d_];omega);refine br ? _ e;rw[vD rfl];split;{rw[aw,aw];exact qt (Wm.kS _)};{exact Wm.kS _}
theorem xV(l:.ab)(p:Nat):∀c∈Wm.eI (Wm.qY (.e3)),.nT:=by cases h:l.drop p with|nil=>intro c hc;simp[Wm.qY,Wm.eI]at hc|cons c r=>rw[vD rfl];split;{exact Wm.iM _};{rename_i mi;intro x hx;(have e:Wm.eI ((c::r).takeWhile Wm.AX)=(c::r).takeWhile Wm.AX:=by rw[xw,if_neg];rw[decide_eq_true_eq,dg];split;{intro z;exact mi (aB z)};{rw[11]});rw[e]at hx;exact Wm.iM _ x hx}
def Mb(ad:Ad):Sp:=fun vs H Q E=>∃(l:.ab)(p:Nat),.p3/\p<l.length/\.kr/\.yV/\match Wm.wz (.e3)with|none=>Gs ad E H 2 p|some (k,t)=>.A0
theorem QK(T:.U)(yH:.s9)(Xi:.Ey)(Pz:.Dd)(Px:.De):.Dg:=by have sc:a9 ["signs","place","sign","word","number"] .gS (aL Hi):=.af;refine T.Ur.JG .aM sc .ae .ag;rw[77];{rw[167];refine⟨_,(aj (bP (i:=2) sc.nd rfl .ai .vM) (aj (dG (km (V_ PySem.F.slot_str_isalpha PySem.F.type_str_isalpha TF .ay)) (aj (bP (i:=3) sc.nd rfl .ai (bx Xi .I bQ .fU)) (aD (dG (cb LM (bT iH rfl T.gU fg .fV) (dI T.Hl) .aB) (aD (ba (jj yH .I bQ (af (fF T.aa8) (af .bq .a9))))) bZ))) (aD (dG (cb gH (uI N4 .au (pQ .ak) (pQ (de sj .ak (bT iH rfl T.gU fg (af (fF T.MR) ao))))) (fF T.MR) .aB) (aD (ba (jj yH .I bQ (af (fF T.aa7) (af (fF T.MR) .a9))))) (aD (dG (PW.pt (QV .p5 (Im (km (V_ JP JQ HM .ay))))) (aj (bP (i:=4) sc.nd rfl .ai (bx Pz .I bQ .fU)) (aD (dG (km (bx Px .I bQ .kT)) (aD (ba (jj yH .I bQ (af (fF T.Hm) (af .d9 .a9))))) bZ))) (aD (dG (cb Ub .ay (fF T.ag1) rfl) (aD (ba (jj yH .I bQ (af (fF T.aa7) (af .ay .a9))))) bZ))))))) (aD (mX T.XC T.XI bU rfl hr rfl T.oh (af (dI T.Tg) .a9))))),? _⟩;have hd:.e3=l[p]::l.drop (p+1):=fz hp;have hlp:l[p]<128:=hc _ (FJ hp);have la:(("->":Str).length:Int)=2:=rfl;ktd_call vc [Pl,IZ,AI,AH,Wu,tX,oH,Int.ofNat_inj,ah,gJ,la];have mk:∀k t,(.A0)->∀(x dx:Addr),.hR->H dx=none->dx≠x->Q .aR (aN .kj x (.cH ad.j_ dx (A8 (zN k) (tx t) p))):=fun k t h x dx nx nd ne=>h _ x (.ta) ⟨dx,ah⟩;have flt:Gs ad E H 2 p->∀dx,H dx=none->E (.ref ad.bO) (.d3) (aN H dx (.xd (UI "code" "place" (.int 2) (.int p)))):=fun h dx n=>h _ dx (aT.aN n) ah;rw[hd]at q;unfold Wm.wz at q;rw[20];rw[<-hd]at q;refine⟨jO hl,l[p],RO (aV hp),.aU,? _⟩;rw[WY _ hlp,K5 _ hlp];refine fj (fun h1=>⟨mJ hp,hl,hc,jO (br (Wm.kS _) .p4),.h9⟩) fun h1=>⟨.aW,jO hl,fj .kS fun h2=>fj (fun h3=>? _) fun h3=>⟨.aU,fj (fun h4=>? _) fun h4=>⟨_,rfl,.mK⟩⟩⟩;(all_goals simp only[decide_eq_true_eq,bX]at h2);{rw[.jr,.ml]at q;exact mk _ _ q};{rw[.jr,.cf]at q;exact flt q};{rw[84];rw[.ep,.jg]at q;exact mk _ _ q};{rw[84];rw[decide_eq_true_eq]at h3;rw[.ep,.dt,if_pos (.inl h3)]at q;rw[227]};{rw[84];rw[.ep,.dt,if_pos (.inr h4)]at q;rw[227]};{rw[84];rw[decide_eq_true_eq]at h3 h5;rw[.ep,.dt,.Dh,if_pos (by rw[Rl];exact h5)]at q;exact mk .sign [l[p]] q};{rw[84];rw[decide_eq_true_eq]at h3 h5;rw[.ep,.dt,.Dh,if_neg (by rw[Rl];exact h5)]at q;exact flt q}}
end
end Lc
namespace L2
open PySem
def arn(N:.a0)(sc scope:Scope)(own:.hj):Bool:=decide (scope.kind=.function)&&(scope.names.all fun y=>decide (.vA=some y.2))&&(own.all fun p=>decide (N[p.2]?=some p.1))&&(scope.names.all fun y=>! decide (y.2=.free)||(decide (sc.names.lookup y.1=.e1)||decide (sc.names.lookup y.1=.hD)))&&(scope.names.all fun y=>!(decide (y.2=.local)||decide (y.2=.cell))||(decide (y.1∈own.map .aX)||decide (y.1∉N)))
theorem lr{N:.a0}{sc scope:Scope}{own:.hj}(h:arn N sc scope own=true):Gn N sc scope own:=by unfold arn at h;simp only[dQ,decide_eq_true_eq,iO,rn,lN,decide_eq_false_iff_not,UO]at h;obtain⟨⟨⟨⟨h1,h2⟩,h3⟩,h4⟩,h5⟩:=h;refine⟨h1,h2,h3,fun y hy e=>? _,fun y hy e=>? _⟩;{rcases h4 y hy with z|z;{exact absurd e z};{exact z}};{rcases h5 y hy with z|z;{rcases e with e|e;{exact absurd e z.1};{exact absurd e z.2}};{exact z}}
end L2
namespace Lc
open PySem PySem.Spec PyProof.Rows L2
section
variable{P:Program}{w:World}{K:ae}{mg:Str->Option Value}{base:Heap}{ad:Ad}
theorem ic(a b:.ab):tx a++tx b=tx (a++b):=by show(⟨(tx a).cps++(tx b).cps⟩:Str)=_;unfold tx;simp
def wQ(sp:.ab):.k9->.ab|[]=>[]|[x]=>x|x::y::r=>x++sp++wQ sp (y::r)
theorem VM(sp:.ab):∀ls:.k9,Txt.join (tx sp) (ls.map tx)=tx (wQ sp ls):=by intro ls;rw[TL.agp];induction ls with|nil=>rfl|cons x r ih=>cases r with|nil=>rfl|cons y r=>show tx x++tx sp++Str.join (tx sp) ((y::r).map tx)=_;rw[ih,ic,ic];rfl
theorem Lp(f:Nat->Nat):∀l:.ab,wQ [] (l.map fun b=>[f b])=l.map f|[]=>rfl|[x]=>rfl|x::y::r=>by have:=Lp f (y::r);show[f x]++[]++wQ [] ((y::r).map fun b=>[f b])=_;rw[this];rfl
theorem RB(f:Nat->Str)(h:∀x,(f x).length=1):∀l:.ab,(((l.map f).map fun x=>x.length)).sum=l.length|[]=>rfl|x::r=>by rw[aO,aO,cS,RB f h r,h x,aw];omega
theorem lQ.same{ad:Ad}{H H':Hp}{a:Addr}{t:Wm.PT}(s:.aq)(h:lQ ad H a t):lQ ad H' a t:=by obtain⟨dx,e⟩:=h;exact⟨dx,s _ _ e⟩
theorem lQ.aN{ad:Ad}{H:Hp}{a p:Addr}{o:HO}{xs:.aj}{t:Wm.PT}(hp:H p=.ff)(h:lQ ad H a t):lQ ad (aN H p o) a t:=by obtain⟨dx,e⟩:=h;exact⟨dx,by rw[ai (cv e hp .aw)];exact e⟩
theorem Paired.snoc{α β:Type}{F:.eI}:∀{l:.aT}{l':.dD}{a:α}{b:β},.iQ->F a b->Paired F (l++[a]) (l'++[b])|_,_,_,_,.nil,h=>.cons h .nil|_,_,_,_,.cons h1 h2,h=>.cons h1 (Paired.snoc h2 h)
theorem Gc:∀(r:Bool)(l:.ab),Wm.lH r l<=l.length|_,[]=>aF _|r,c::l=>by have h1:=Gc true l;have h2:=Gc false l;have h3:=Gc r l;rw[Wm.rF,aw];split;{omega};{split;{omega};{rw[32]}}
theorem avm(n:Nat):Wm.sg n<128:=by unfold Wm.sg;rw[195]
theorem YF{l:.ab}{k:Wm.Kd}{t:.ab}(h:Wm.wz l=some (k,t)):1<=t.length/\t.length<=l.length:=by cases l with|nil=>cases h|cons c r=>unfold Wm.wz at h;rw[21];rw[4];{rw[4];{cases h;rename_i h1 _;refine⟨? _,Wm.kS _⟩;rw[dg,if_pos (by unfold Wm.isA;rw[h1];rfl)];simp};{cases h}};{rw[4];{cases h;rename_i h1;have e:=congrArg jF h1;rw[be]at e;simp at e;exact⟨.aW,.iG⟩};{rw[4];{rw[4];{cases h;rename_i h1 _;rw[vD rfl];split;{rename_i h2;refine⟨.aN,? _⟩;rw[aw,aw];exact qt (Wm.kS _)};{rename_i h2;refine⟨? _,Wm.kS _⟩;rw[dg,if_pos (h1.resolve_left h2)];simp}};{cases h}};{rw[4];{cases h;simp};{cases h}}}}
def O6(ad:Ad)(H:Hp)(l:Addr)(ts:List Wm.PT):Prop:=∃as:.ao,H l=.di/\Paired (lQ ad H) as ts
def IW(K:ae)(ad:Ad):Sp:=fun vs H Q E=>∃(a:Addr)(bs:.ab),.gd/\cM K H a (bs.map fun b:Nat=>V.int (b:Int))/\(.nB)/\bs.length<=8192/\match .Ez with|.error p=>Gs ad E H 2 p|.ok ts=>∀(H':Hp)(l:Addr),.aq->O6 ad H' l ts->Q (.cA) H'
theorem Ny(T:.U)(yH:.s9)(Xg:.C7)(v5:.C8)(S8:.Dg):.A1:=by have sc:a9 ["text","signs","tokens","place","token","byte"] ["text"] (aL EE):=.af;refine T.Rc.JG .aO sc .ae .ag;rw[77];{obtain⟨a,bs,rfl,hS,hb,hl,q⟩:=h;refine⟨_,(aj (bP (i:=1) sc.nd rfl .ai (V8 dN (wu rfl sc.nd (iL .au) (own:=[("byte",5)]) .ck .yW .cu (fun _ _ _ _ _=>(bx Xg .I bQ .rE))))) (aj .oR (aj (bP (i:=3) sc.nd rfl .ai (bx v5 .I bQ (af .ak .gh))) (aj (lW PassesOwn.leaving (cb wj .bq .vN .aB) (aj (bP (i:=4) sc.nd rfl .ai (bx S8 .I .a8 (af .ak .fV))) (aj .uE (aD (bP (i:=3) sc.nd rfl .ai (bx v5 .I bQ (af .ak (af (de sj .bq (bT iH rfl T.gU fg (af (aP .d9 rfl) ao))) ao)))))))) (aj (dO (mW bj b6 b7 iB .ay (af (jj yH .I bQ (af (fF T.ak1) (af dN (af .vN ao)))) ao))) .fb))))),? _⟩;rw[1];refine⟨.aU,? _⟩;refine⟨_,rfl,a,rfl,⟨_,hS⟩,fun D nD=>oj (K:=K) (a:=a) (fun i H'=>H' D=some (.bJ ((bs.take i).map fun b=>V.str (tx [Wm.sg b])))/\.aq) .fW (fun i H' _ h=>h.2.seq hS) (fun i x H' hx h=>? _) .dX⟩;{rw[122];rw[aS]at hx;cases YZ:bs[i]? with|none=>rw[YZ]at hx;cases hx|some b=>rw[YZ]at hx;obtain rfl:V.int (b:Int)=x:=aB hx;have hbm:b∈bs:=aE YZ;ktd_call vc [fU,vQ,IV];refine⟨b,rfl,hb b hbm,_,h1,? _,? _⟩;{rw[aa,be,sizeLine_eq];omega};{refine⟨? _,fun c o e=>by rw[35];exact h2 c o e⟩;rw[ah,a8,YZ,aG];rfl}};{rw[122];rw[1];(have eS:Txt.join ("":Str) (bs.map fun b=>tx [Wm.sg b])=tx (bs.map Wm.sg):=by have e:=VM [] (bs.map fun b=>[Wm.sg b]);rw[Lp,aQ]at e;exact e);refine⟨bs.map fun b=>tx [Wm.sg b],.inl ? _,? _,bw _,.i7⟩;{rw[aa,bf]at h1;rw[aQ];exact cM.of h1};{rw[RB _ (fun x=>bX _),show("":Str).length=0 from rfl];omega};rw[eS];generalize hSd:bs.map Wm.sg=S at*;(have hSl:S.length=bs.length:=by rw[<-hSd,aa]);(have hSc:∀c∈S,c<128:=fun c hc=>by rw[<-hSd]at hc;obtain⟨b,_,rfl⟩:=aX.mp hc;exact avm b);rw[<-hSl]at q hl;have npH:.bM:=h2.free np;refine⟨S,0,rfl,bw _,hl,? _⟩;rw[aqu,ku];refine⟨fun m σ Hc=>∃(j0 n:Nat)(done:List Wm.PT)(as:.ao)(y:.bL),m=S.length-j0/\σ=[.ed,some (.str (tx S)),some .b6,some (.int ((.vO:Nat))),y,none]/\aT H Hc/\Hc p=.di/\Paired (lQ ad Hc) as done/\Wm.toks (S.length+1) 0 S=(Wm.toks (n+1) j0 (S.drop j0)).map (done++·)/\done.length+n=S.length/\done.length<=j0/\j0<=S.length,⟨_,0,S.length,[],[],none,rfl,? _,? _,ah,.nil,? _,.aN,aF _,bw _⟩,? _⟩;{rw[ku,aqu]};{exact fun b o e=>by rw[ai (aq e npH)];exact h2 b o e};{rw[ku];cases Wm.toks (S.length+1) 0 S<;>rfl};rintro m σ Hc⟨j0,n,done,as,y,rfl,rfl,sm,hp,pr,eq,hn,hd0,hj0⟩;(have hj:.vO<=S.length:=by have:=Gc false (S.drop j0);rw[d_]at this;omega);generalize hJ:.vO=j at*;rw[Wm.y_ n j0 (S.drop j0),sM,hJ]at eq;rw[1];refine⟨jO hl,fj (fun h3=>? _) fun h3=>? _⟩;{rw[decide_eq_true_eq,bX]at h3;have Tn:j<S.length:=.o;have hd:S.drop j=S[j]::S.drop (j+1):=fz Tn;rw[hd]at eq;refine .gg;rw[1];refine⟨S,j,rfl,Tn,hl,hSc,? _⟩;rw[hd];rw[36];cases ht:Wm.wz (S[j]::S.drop (j+1))with|none=>rw[ht]at eq;rw[eq]at q;exact fun H3 dx s3 hx=>q H3 dx (sm.trans s3) hx|some kt=>obtain⟨k,tt⟩:=kt;rw[ht]at eq;intro H3 b s3 hb3;have hlen:=YF ht;rw[<-hd,d_]at hlen;obtain⟨dx,e3⟩:=hb3;have hp3:H3 p=.di:=s3 _ _ hp;have l2:(A8 (zN k) (tx tt) j).lookup ("text":Str)=some (.str (tx tt)):=rfl;have mi:b≠p:=cv e3 hp3 .aw;have aAq:as.length=done.length:=pr.length;rw[352];refine⟨.inl ⟨rfl,_,cM.of hp3⟩,_,hp3,.e9,b,rfl,_,_,_,by rw[ai mi];exact e3,T.i7,T.f',_,l2,_,rfl,jO .C,S,j+tt.length,? _,.o,hl,? _⟩;{rw[bX];rfl};refine⟨S.length-(j+tt.length),.o,j+tt.length,rfl,rfl,fun c o e=>? _,n,done++[⟨k,tt,j⟩],as++[b],? _,? _,? _,? _,? _,.o⟩;rw[329];{refine Paired.snoc (Paired.pZ (fun c t h=>(h.same s3).aN hp3) pr) ⟨dx,? _⟩;rw[ai mi];exact e3};{rw[eq,<-hd];show apa _ (apa (fun ts=>(⟨k,tt,j⟩:Wm.PT)::ts) (Wm.toks (n+1) (j+tt.length) ((S.drop j).drop tt.length)))=_;rw[sM];cases Wm.toks (n+1) (j+tt.length) (S.drop (j+tt.length))with|error e=>rfl|ok l=>show uZ _=uZ _;congr 1;simp};{rw[ag];simp;omega};{rw[ag];simp;omega}};{rw[decide_eq_true_eq,bX]at h3;have ej:j=S.length:=.o;have hd:S.drop j=[]:=kZ .C;rw[hd]at eq;have eq:Wm.toks (S.length+1) 0 S=.ok (done++[⟨.stop,[],j⟩]):=eq;rw[eq]at q;have aAq:as.length=done.length:=pr.length;refine⟨.inl ⟨rfl,_,cM.of hp⟩,jO hl,fun b dx nb nd ne=>⟨b,dx,_,_,_,rfl,ah,rfl,.cE,? _,.e9,? _⟩⟩;{rw[gJ,ai (aq hp nb),ai (aq hp nd)];exact hp};{rw[gJ];have hbp:b≠p:=cW (aq hp nb);(have s3:aT Hc (aN (aN Hc dx (.own b)) b (.cH ad.j_ dx (A8 "end" "" (tx S).length))):=fun c o e=>by rw[ai (aq e nb),.nU];exact e);refine q _ p (fun c o e=>? _) ⟨as++[b],? _,? _⟩;rw[329];{refine Paired.snoc (Paired.pZ (fun c t h=>(h.same s3).aN (s3 _ _ hp)) pr) ⟨dx,? _⟩;rw[ai hbp,ah,bX,ej];rfl}}}}}
end
section
variable{P:Program}{w:World}{K:ae}{mg:Str->Option Value}{base:Heap}{ad:Ad}
def ade:Sp:=fun vs H Q _=>∃a b:Nat,vs=[.int a,.int b]/\Q (.int (kE a b)) H
theorem mF(T:.U):.tc:=by have sc:a9 ["first","second","rest"] .cU (aL rQ):=.af;refine T.AE.dn .aM sc .ae .ag;rw[168];{obtain⟨a,b,rfl,q⟩:=h;refine⟨_,(aj (lW PassesOwn.never (cb QM .ak bH .aB) (aj (bP (i:=2) sc.nd rfl .ai (de abz .au .ak)) (aj (bP (i:=0) sc.nd rfl .ai .ak) (aD (bP (i:=1) sc.nd rfl .ai .ay))))) (aD (ba .au))),? _⟩;rw[1];refine⟨fun m σ H'=>∃(x y:Nat)(z:.bL),m=y/\σ=[some .gC,some (.int y),z]/\H'=H/\kE x y=kE a b,⟨_,a,b,none,rfl,rfl,rfl,rfl⟩,? _⟩;rintro m σ H'⟨x,y,z,rfl,rfl,rfl,inv⟩;rw[1];refine fj (fun h1=>.gg) .ey;{(have hy:m≠0:=by intro e;subst e;simp at h1);rw[1];refine⟨.o,x %m,n9 _ .C,m,rfl,.o,? _⟩;rw[<-inv,sG x m,WO m x,sG]};{(have hy:m=0:=by simp at h1;omega);subst hy;rw[Nat.gcd_zero_right]at inv;rw[inv];exact q}}
def adf:Sp:=fun vs H Q _=>∃a b:Nat,vs=[.int a,.int b]/\0<a/\0<b/\IntMulOk .xb b/\Q (.int (AU a b)) H
theorem Aw(T:.U)(ht:.hq)(nh:.tc):.td:=by have sc:a9 .cU .cU (aL sV):=.af;refine T.BR.dn .aM sc .ae .ag;rw[168];{obtain⟨a,b,rfl,ha,hb,hm,q⟩:=h;refine⟨_,(aD (ba (de gI (de .jM .au (bx nh .I bQ .fU)) .ak))),? _⟩;rw[1];refine⟨a,b,rfl,_,rfl,? _,? _,? _⟩;{have:=Nat.gcd_pos_of_pos_left b ha;omega};{exact hm};{(have e:(a:Int)/(kE a b:Nat)*b=((AU a b:Nat):Int):=by rw[show((a:Int)/(kE a b:Nat))=.xb from rfl,<-dJ];congr 1;unfold AU;rw[Nat.div_mul_right_comm (af5 a b)]);rw[e];exact q}}
def gO(K:ae)(H:Hp)(a:Addr)(f:Rat):Prop:=ig K H a [.int f.num,.int f.den]
abbrev sJ(f:Rat):HO:=.fL [.int f.num,.int f.den]
theorem gO.of{K:ae}{H:Hp}{a:Addr}{f:Rat}(h:H a=.lb):.i8:=ig.of h
theorem _root_.L2.aT.fL{K:ae}{H H':Hp}{a:Addr}{xs:.aj}(e:.aq)(h:.fg):ig K H' a xs:=.zK
def mZ:Sp:=fun vs H Q _=>∃(n:Int)(d:Nat),vs=[.int n,.int d]/\0<d/\∀p,.bM->Q .b6 (aN H p (sJ (.gm)))
theorem LL(T:.U)(ht:.hq)(nh:.tc):.gT:=by have sc:a9 ["over","under","shared"] ["over","under"] (aL PU):=.af;refine T.ad1.dn .aM sc .ae .ag;rw[168];{obtain⟨n,d,rfl,hd,q⟩:=h;refine⟨_,(aj (bP (i:=2) sc.nd rfl .ai (bx nh .I bQ (af (bT ZH rfl T.arj alh .cb) .a9))) (aD (ba (AA (af (de .jM .au .ay) (af (de .jM .ak .ay) ao)))))),? _⟩;(have ea:(if n<0 then-n else n)=((n.natAbs:Nat):Int):=by rw[32]);ktd_call vc [ea];have hg:0<kE n.natAbs d:=Nat.gcd_pos_of_pos_right _ hd;refine⟨n.natAbs,d,rfl,_,rfl,.o,_,rfl,.o,.aW,.eS⟩;have q':=q p hp;unfold sJ at q';rw[vj,CG,.cf,.cf,sG]at q';exact q'}
def N_(K:ae):Sp:=fun vs H Q _=>∃(a b:Addr)(f g:Rat),vs=.hn/\.i8/\gO K H b g/\IntMulOk f.num g.den/\IntMulOk g.num f.den/\IntMulOk f.den g.den/\∀p,.bM->Q .b6 (aN H p (sJ (f+g)))
theorem ahe(T:.U)(ip:.gT):.te:=by have sc:a9 .cU .cU (aL Z'):=.af;refine T.aoo.dn .aM sc .ae .ag;rw[169];{obtain⟨a,b,x,y,rfl,hx,hy,m1,m2,m3,q⟩:=h;refine⟨_,(aD (ba (bx ip .I bQ (af (de sj (de gI .ia .ib) (de gI .ib .ia)) (af (de gI .ia .ib) ao))))),? _⟩;ktd_call vc [mZ];(have e:x+y=mkRat (x.num*y.den+y.num*x.den) (x.den*y.den):=by rw[<-A7 _ _ x.den_nz y.den_nz,dY,dY]);rw[e]at q;exact⟨_,hx,_,rfl,_,hy,_,rfl,_,rfl,_,rfl,m1,_,hy,_,rfl,_,hx,_,rfl,_,rfl,_,rfl,m2,_,hx,_,rfl,_,hy,_,rfl,_,rfl,_,rfl,m3,x.den*y.den,by rw[dJ],dq x.den_pos y.den_pos,q⟩}
abbrev bt(x:Int):Nat:=Builtin.Int.intBits x
theorem KW{x y:Int}(h:x.natAbs<=y.natAbs):bt x<=bt y:=intBits_le_of_natAbs h .aS
def Ob(K:ae):Sp:=fun vs H Q _=>∃(a b:Addr)(f g:Rat),vs=.hn/\.i8/\gO K H b g/\bt f.num+bt g.num<=134217728/\bt f.den+bt g.den<=134217728/\∀(H':Hp)p,.aq->H' p=some (sJ (f*g))->.ej
theorem V1(n:Int){d:Nat}(hd:0<d):bt (.gm).num<=bt n/\bt (.gm).den<=bt d:=by obtain⟨h1,h2⟩:=Fm.vB n hd;rw[12];{by_cases hz:n=0;{subst hz;(have:(mkRat 0 d).num=0:=by rw[vj];simp);rw[this];rw[13]};{exact KW (vh .C h1)}};{refine KW ? _;rw[gK,gK];exact vh hd h2}
theorem abw(T:.U)(ip:.gT):.tf:=by have sc:a9 ["first","second","falling","rising"] .cU (aL Vp):=.af;refine T.ai8.dn .aM sc .ae .ag;rw[169];{obtain⟨a,b,x,y,rfl,hx,hy,m1,m2,q⟩:=h;refine⟨_,(aj (bP (i:=2) sc.nd rfl .ai (bx ip .I bQ (af .ia (af .ib ao)))) (aj (bP (i:=3) sc.nd rfl .ai (bx ip .I bQ (af .ib (af .ia ao)))) (aD (ba (AA (af .EA (af .EA ao))))))),? _⟩;ktd_call vc [mZ];refine⟨_,hx,_,rfl,_,hy,_,rfl,_,rfl,y.den,rfl,y.den_pos,fun u nu=>? _⟩;have s1:aT H .uF:=aT.aN nu;refine⟨_,s1.fL hy,_,rfl,_,s1.fL hx,_,rfl,_,rfl,x.den,rfl,x.den_pos,fun v nv=>? _⟩;have s2:aT .uF .tg:=aT.aN nv;obtain⟨b1,b2⟩:=V1 x.num y.den_pos;obtain⟨b3,b4⟩:=V1 y.num x.den_pos;have hu:ig K .tg u [.int (.yX).num,.int (.yX).den]:=ig.of (s2 _ _ ah);have hv:ig K .tg v [.int (.yY).num,.int (.yY).den]:=ig.of ah;refine⟨_,hu,_,rfl,_,hv,_,rfl,_,rfl,_,rfl,mulOk_of_bits b1 b3 m1,_,hu,_,rfl,_,hv,_,rfl,_,rfl,_,rfl,mulOk_of_bits b2 b4 .C,.aW,.i7⟩;refine q _ p ((.eu).trans (aT.aN np)) ? _;obtain⟨c1,c2⟩:=Fm.as0 x y;rw[ah,sJ,c1,c2,dJ]}
def DQ(K:ae):Sp:=fun vs H Q _=>∃(a b:Addr)(f g:Rat),vs=.hn/\.i8/\gO K H b g/\0<g/\bt f.num+bt g.den<=134217728/\bt f.den+bt g.num<=134217728/\∀(H':Hp)p,.aq->H' p=some (sJ (f/g))->.ej
theorem TZ(T:.U)(MD:.tf):.Di:=by have sc:a9 .cU .cU (aL Lb):=.af;refine T.Yn.dn .aM sc .ae .ag;rw[169];{obtain⟨a,b,x,y,rfl,hx,hy,Hv,m1,m2,q⟩:=h;refine⟨_,(aD (ba (bx MD .I bQ (af .au (af (AA (af .ib (af .ib ao))) ao))))),? _⟩;rw[1];(have hn:0<y.num:=by have h0:=(azi 0 y).mp Hv;simpa using h0);obtain⟨i1,i2⟩:=Fm.VL hn;refine⟨_,hy,_,rfl,_,hy,_,rfl,.aW,.i7⟩;have s1:=aT.aN (H:=H) (a:=p) (o:=.fL [.int (y.den:Int),.int y.num]) np;refine⟨a,p,x,y⁻¹,rfl,s1.fL hx,ig.of ? _,by rw[i1];exact m1,? _,fun H' r s2 hr=>q H' r (.eu) (by rw[cR];exact hr)⟩;{rw[ah,i1,i2];have:.GY:=.o;rw[this]};{rw[i2];have:.GY:=.o;rw[this];exact m2}}
end
def cd(b:aK):.ab:=.j6
theorem dw(a b:aK):cd (a++b)=cd a++cd b:=by unfold cd;rw[aG]
theorem Tr{c:Char}(h:c.isDigit=true):c.toNat<256:=by unfold Char.isDigit at h;simp only[dQ,decide_eq_true_eq]at h;have h2:c.val<=57:=h.2;have:c.val.toNat<=57:=h2;show c.val.toNat<256;omega
theorem ZL(n:Nat):cd (fK n)=(aqt 10 n).map Kw:=by unfold cd fK;rw[aQ];refine bY fun c hc=>? _;have h:=Tr (Nat.isDigit_of_mem_toDigits .aD .aD hc);show(zi c.toNat).toNat=c.toNat;rw[A9];omega
theorem Wx(n:Nat):(toString n:Str)=tx (cd (fK n)):=by rw[ZL,Str.ofString_eq_toList];show(⟨((Nat.repr n).toList.map Kw).toArray⟩:Str)=_;rw[ajg];rfl
theorem str_int(i:Int):(toString i:Str)=tx (cd (fJ i)):=by cases i with|ofNat n=>(have e:fJ (Int.ofNat n)=fK n:=by unfold fJ;rw[.ha];rfl);rw[e];exact Wx n|negSucc n=>(have e:fJ (Int.negSucc n)=45::fK (n+1):=by unfold fJ;rw[if_pos (Int.negSucc_lt_zero n)];rfl);rw[e,Str.ofString_eq_toList];show(⟨(("-"++Nat.repr (n+1)).toList.map Kw).toArray⟩:Str)=_;rw[String.toList_append,ajg];show(⟨((['-']++aqt 10 (n+1)).map Kw).toArray⟩:Str)=tx (45::cd (fK (n+1)));rw[ZL];rfl
section
variable{P:Program}{w:World}{K:ae}{mg:Str->Option Value}{base:Heap}{ad:Ad}
theorem LA{x:Int}{B:Nat}(h:x.natAbs<=1000000000):x.natAbs.log2<1920:=by by_cases hz:x.natAbs=0;{rw[hz];decide};{have:x.natAbs.log2<30:=(awe hz).mpr .C;omega}
theorem yh{n:Nat}(hn:n<=1000000000):(fK n).length<=10:=by unfold fK;rw[aa];exact(Nat.length_toDigits_le_iff .aD .aD).mpr .C
theorem E2{n:Int}(hn:n.natAbs<=1000000000):(fJ n).length<=11:=by have:=yh hn;unfold fJ;split;{rw[aw];omega};{omega}
theorem ib(b:aK):(cd b).length=b.length:=by unfold cd;rw[aa]
def pS(f:Rat):Prop:=f.num.natAbs<=1000000000/\f.den<=1000000000
theorem rg{f:Rat}(h:pS f):(cO (.bc)).length<=22:=by have h1:=E2 h.1;have h2:=yh h.2;unfold cO;split;{show(fJ f.num).length<=22;omega};{show(fJ f.num++[47]++fK f.den).length<=22;rw[ag,ag,aw,cg];omega}
def Mc(K:ae):Sp:=fun vs H Q _=>∃(a:Addr)(f:Rat),.gd/\.i8/\pS f/\Q (.str (tx (cd (cO (.bc))))) H
theorem Ua(T:.U):.Dj:=by have sc:a9 ["fraction","over","under"] ["fraction"] (aL Li):=.af;refine T.Yu.dn .aO sc .ae .ag;{obtain⟨a,_,rfl,_⟩:=h;rfl};{obtain⟨a,x,rfl,hx,hs,q⟩:=h;refine⟨_,(aj (bP (i:=1) sc.nd rfl .ai .ia) (aj (bP (i:=2) sc.nd rfl .ai .ia) (aD (ba (Ib (cb gH .ay bH .aB) (ao6 (NF .ak)) (ac6 (ot (NF .ak) (ot dN (ot (NF .ay) Ug))))))))),? _⟩;have l1:x.num.natAbs.log2<1920:=LA (B:=0) hs.1;have l2:(x.den:Int).natAbs.log2<1920:=LA (B:=0) (by rw[gK];exact hs.2);(have e0:∀y:Str,Str.empty++y=y:=fun y=>by show(⟨#[]++y.cps⟩:Str)=y;rw[Array.empty_append]);rw[1];refine⟨_,hx,_,rfl,_,hx,_,rfl,rfl,fj (fun h=>⟨_,rfl,l1,? _⟩) fun h=>? _⟩;{rw[decide_eq_true_eq,V.int.injEq]at h;have hd:x.den=1:=.o;rw[str_int];(have e:cO (Fm.of x)=fJ x.num:=by unfold cO;exact if_pos hd);rw[e]at q;exact q};{rw[decide_eq_true_eq,V.int.injEq]at h;have hd:¬x.den=1:=.o;(have e:cO (Fm.of x)=fJ x.num++[47]++fK x.den:=by unfold cO;exact if_neg hd);have en:(toString (x.den:Int):Str)=tx (cd (fK x.den)):=Wx x.den;have b1:=E2 hs.1;have b2:=yh hs.2;refine⟨_,rfl,l1,? _,? _,_,rfl,l2,? _,? _⟩;{rw[e0,str_int,bX,ib,sizeLine_eq];omega};{rw[e0,str_int,.vP,ic,bX,ag,ib,aw,cg,sizeLine_eq];omega};{rw[e0,str_int,en,.vP,ic,ic,bX,ag,ag,ib,ib,aw,cg,sizeLine_eq];omega};{rw[e0,str_int,en,.vP,ic,ic];rw[e,dw,dw]at q;exact q}}}
end
def mH(M:.ao)(H H':Hp):Prop:=(∀b o,b∉M->.fR)/\∀b,.jk->.bx
theorem mH.trans{M:.ao}{H H1 H2:Hp}(a:mH M H H1)(b:mH M H1 H2):mH M H H2:=⟨fun c o n h=>b.1 c o n (a.1 c o n h),fun c h=>a.2 c (b.2 c h)⟩
theorem aT.ext{M:.ao}{H H':Hp}(s:.aq):mH M H H':=⟨fun b o _ h=>s b o h,fun _ h=>s.free h⟩
theorem mH.aN{M:.ao}{H:Hp}{a:Addr}{o:HO}(h:a∈M\/.fs):mH M H .dv:=by rw[12];{intro b u n e;rw[ai];{exact e};{rw[2];rw[92];{exact n h};{rw[h]at e;cases e}}};{intro b e;by_cases hb:b=a;rw[61]}
section
variable{P:Program}{w:World}{K:ae}{mg:Str->Option Value}{base:Heap}{ad:Ad}
def f7(l:Addr)(i:Nat):.a7:=[("tokens",.cA),("at",.bp)]
theorem Lz{l:Addr}{i:Nat}:(f7 l i).lookup ("tokens":Str)=some (.cA):=rfl
theorem ake{l:Addr}{i:Nat}:(f7 l i).lookup ("at":Str)=some (.bp):=rfl
theorem Nd{k t:Str}{p:Int}:(A8 k t p).lookup ("kind":Str)=some (.str k):=rfl
theorem pO{k t:Str}{p:Int}:(A8 k t p).lookup ("text":Str)=some (.str t):=rfl
theorem rV{k t:Str}{p:Int}:(A8 k t p).lookup ("place":Str)=.r9:=rfl
def jG(ad:Ad)(H:Hp)(r l:Addr)(tl:bE):Prop:=∃(dx:Addr)(as:.ao)(ts:List Wm.PT)(i:Nat),.lQ/\H l=.di/\Paired (lQ ad H) as ts/\Wm.GB (ts.drop i) tl/\Gm.Fin tl
def lO(ad:Ad)(r:Addr)(E:XK)(H:Hp)(f:gq):Prop:=∀(H':Hp)(dx:Addr),.cY->.th
theorem lO.aI{r:Addr}{E:XK}{H H1:Hp}{f:gq}(h:.fl)(x:mH [r] H H1):lO ad r E H1 f:=fun H' dx e hx=>h H' dx (x.trans e) hx
theorem aog{H:Hp}{a r dx:Addr}{l:Addr}{i:Nat}{t:Wm.PT}(hr:.lQ)(h:lQ ad H a t):a≠r:=by obtain⟨d,e⟩:=h;rw[2];rw[hr]at e;have:=(HO.cH.inj (aB e)).2.2;simp[A8,f7]at this
theorem lQ.ext{H H':Hp}{a r dx:Addr}{l:Addr}{i:Nat}{t:Wm.PT}(hr:.lQ)(s:.cY)(h:lQ ad H a t):lQ ad H' a t:=by have n:=aog hr h;obtain⟨d,e⟩:=h;exact⟨d,s.1 _ _ (by simpa using n) e⟩
theorem Paired.get{α β:Type}{F:.eI}:∀{l:.aT}{l':.dD}{i:Nat}{b:β},.iQ->.sa->∃a,l[i]?=some a/\F a b|_,_,0,b,.cons h1 h2,e=>.F5|_,_,i+1,b,.cons h1 h2,e=>Paired.get (i:=i) h2 e
theorem GB.ZQ{ts:List Wm.PT}{i:Nat}{t:nM}{tl:bE}(h:Wm.GB (ts.drop i) .cZ):∃pt,ts[i]?=some pt/\.jm/\Wm.GB (ts.drop .aH) tl:=by cases hd:ts.drop i with|nil=>rw[hd]at h;cases h|cons x r=>rw[hd]at h;cases h with|cons h1 h2=>refine⟨x,? _,h1,? _⟩;{(have:(ts.drop i)[0]?=.bu:=by rw[hd];rfl);rwa[jQ,mI]at this};{rw[<-sM,hd];exact h2}
theorem jG.Zo{H:Hp}{r l:Addr}{t:nM}{tl:bE}(h:.rF):∃(dx:Addr)(as:.ao)(i:Nat)(a:Addr)(pt:Wm.PT),.lQ/\H l=.di/\W4 (.cE) .fF=.ed/\lQ ad H a pt/\.jm/\∀H':Hp,.cY->H' r=some (.cH ad.bK dx (f7 l .aH))->jG ad H' r l tl:=by rw[46];obtain⟨pt,e,rl,rs⟩:=GB.ZQ h4;obtain⟨a,ea,ta⟩:=Paired.get h3 e;refine⟨dx,as,i,a,pt,h1,h2,gT ? _,ta,rl,fun H' x hr'=>⟨dx,as,ts,i+1,hr',x.1 _ _ ? _ h2,Paired.pZ (fun c t h=>h.ext h1 x) h3,rs,h5.tail⟩⟩;{rw[aS,ea];rfl};{rw[aA];exact cv h2 h1 .aw}
theorem jG.same{H H':Hp}{r l:Addr}{tl:bE}(h:.cF)(s:.aq):jG ad H' r l tl:=by rw[46];exact⟨dx,as,ts,i,s _ _ h1,s _ _ h2,Paired.pZ (fun c t h=>h.same s) h3,h4,h5⟩
theorem jG.list{H:Hp}{r l:Addr}{tl:bE}(h:.cF):∃xs,.hi:=by rw[46];exact⟨_,h2⟩
theorem jG.rd{H:Hp}{r l:Addr}{tl:bE}(h:.cF):∃dx i,.lQ:=by rw[46];exact⟨_,_,h1⟩
theorem jG.fin{H:Hp}{r l:Addr}{tl:bE}(h:.cF):Gm.Fin tl:=by rw[46];exact h5
theorem jG.Jo{H:Hp}{r l p:Addr}{o:HO}{xs:.aj}{tl:bE}(h:.cF)(hp:H p=.ff)(hl:p≠l):jG ad (aN H p o) r l tl:=by rw[46];refine⟨dx,as,ts,i,? _,? _,Paired.pZ (fun c t h=>h.aN hp) h3,h4,h5⟩;{rw[ai (cv h1 hp .aw)];exact h1};{rw[ai (cW hl)];exact h2}
theorem jG.ap3{H:Hp}{r l p C dx:Addr}{o:HO}{fs:.a7}{tl:bE}(h:.cF)(hp:H p=.cS)(hl:3<fs.length):jG ad (aN H p o) r l tl:=by rw[46];(have ne:∀{c C' d Xn},H c=some (.cH C' d Xn)->Xn.length<=3->c≠p:=by rintro c C' d Xn e l rfl;rw[hp]at e;rw[(HO.cH.inj (aB e)).2.2]at hl;omega);refine⟨dx,as,ts,i,? _,? _,Paired.pZ (fun c t h=>? _) h3,h4,h5⟩;{rw[ai (ne h1 (show 2<=3 by decide))];exact h1};{rw[ai (cv h2 hp .aw)];exact h2};{obtain⟨d,e⟩:=h;exact⟨d,by rw[ai (ne e (show 3<=3 by decide))];exact e⟩}
def IU(ad:Ad):Sp:=fun vs H Q _=>∃p dx l,vs=[.bO,.cA]/\H p=some (.cH ad.bK dx [])/\Q .jD (aN H p .oS)
theorem XX(T:.U):Dc P w K mg base dD ad.bK "Reader" 1 .yZ (IU ad):=by have sc:a9 .yZ .yZ (aL zP):=.af;refine T.acy.dc .aM sc .ae .ag;{obtain⟨p,dx,l,rfl,_⟩:=h;rfl};{obtain⟨p,dx,l,rfl,hp,q⟩:=h;refine⟨_,(aj .h8 (aD .fc)),? _⟩;ktd_call vc [hp,ah,gJ,T.cu,T.qF,T.xU];exact⟨.aW,.gQ,q⟩}
def jN(ad:Ad):Sp:=fun vs H Q _=>∃r l t tl,.i9/\.rF/\∀a pt,lQ ad H a pt->.jm->Q .bY H
theorem abo(T:.U):.ek:=by have sc:a9 .b3 .b3 (aL xQ):=.af;refine T.Ir.dm .aO sc .ae .ag;{obtain⟨r,l,t,tl,rfl,_⟩:=h;rfl};{obtain⟨r,l,t,tl,rfl,hR,q⟩:=h;obtain⟨dx,as,i,a,pt,h1,h2,h3,h4,h5,-⟩:=hR.Zo;refine⟨_,(aD (ba (eZ j' .aG .aG .a5))),? _⟩;ktd_call vc [h1,Lz,ake,T.cu,T.qF,T.xU];exact⟨_,cM.of h2,_,h3,q a pt h4 h5⟩}
def uM(ad:Ad):Sp:=fun vs H _ E=>∃r l t tl,∃c:Nat,vs=[.ref r,.int c]/\.rF/\lO ad r E H ⟨c,t.place⟩
theorem X_(T:.U)(cE:.ek):.lR:=by have sc:a9 ["self","code"] ["self","code"] (aL wg):=.af;refine T.FF.dmX .aM sc .ae .ag;{obtain⟨r,l,t,tl,c,rfl,_⟩:=h;rfl};{obtain⟨r,l,t,tl,c,rfl,hR,q⟩:=h;obtain⟨dx,as,i,a,pt,h1,-⟩:=hR.Zo;refine⟨_,(aD (mX T.XC T.XI bU rfl hr rfl T.oh (af .ak (af .gU ao)))),? _⟩;ktd_call vc [tX,jN,h1];refine⟨rfl,l,t,tl,hR,fun a pt⟨d,e⟩rl=>? _⟩;ktd_call vc [e,rV,T.i7,T.ju];intro dx n;rw[rl.1];exact q _ dx (mH.aN (.inr n)) ah}
def oz(ad:Ad):Sp:=fun vs H Q E=>∃(r l:Addr)(t:nM)(tl:bE)(b:Bool),vs=[.ref r,.bl b]/\.rF/\if b=true then∀(H':Hp)(a:Addr)(pt:Wm.PT),.cY->jG ad H' r l tl->.sb->.jm->.jv else lO ad r E H ⟨3,t.place⟩
theorem T9(T:.U)(jb:.lR):.lS:=by have sc:a9 .yo .yo (aL uz):=.af;refine T.DG.dmX .aM sc .ae .ag;{obtain⟨r,l,t,tl,b,rfl,_⟩:=h;rfl};{obtain⟨r,l,t,tl,b,rfl,hR,q⟩:=h;obtain⟨dx,as,i,a,pt,h1,h2,h3,h4,h5,h6⟩:=hR.Zo;refine⟨_,(aj (dG (DC (km .ak)) (aD (dO (fC .au T.cu jb .I .a8 (af (dI T.J6) ao)))) bZ) .zT),? _⟩;have e1:kY ("at":Str) (V.int (.fF+1)) (f7 l i)=f7 l .aH:=rfl;ktd_call vc [h1,uM,Lz,ake,e1,ah,T.cu,T.qF,T.xU];cases b with|false=>rw[.dC]at q;rw[.fG];exact⟨rfl,l,t,tl,3,rfl,hR,q⟩|true=>rw[.aJ]at q;rw[.aE];have x:mH [r] H (aN H r (.cH ad.bK dx (f7 l .aH))):=.y0;refine⟨.gR,.cE,cM.of (x.1 _ _ ? _ h2),.b2,? _,q _ a pt x (h6 _ x ah) (h4.ext h1 x) h5⟩;{rw[aA];exact cv h2 h1 .aw};{rw[show .iM-1=.fF by omega];exact h3}}
theorem xM(m:Str){l:Addr}{i:Nat}(h1:m≠"tokens")(h2:m≠"at"):(f7 l i).lookup m=none:=by unfold f7;rw[gM,gM];rw[beq_eq_false_iff_ne.mpr h1,beq_eq_false_iff_ne.mpr h2];rfl
def yk(ad:Ad):Sp:=fun vs H Q E=>∃(r l:Addr)(tl:bE)(k:GC)(tt:.ab),vs=[.ref r,.str (tx tt)]/\Gm.zg k tt/\.cF/\.eD/\.zU
theorem ahg(T:.U)(cE:.ek)(iz:.lS):.jO:=by have sc:a9 .nC .nC (aL zQ):=.af;refine T.Kj.dmX .aM sc .ae .ag;{obtain⟨r,l,tl,k,tt,rfl,_⟩:=h;rfl};{obtain⟨r,l,tl,k,tt,rfl,hk,hR,hn,q⟩:=h;refine⟨_,(aD (ba (fC .au T.cu iz .I .a8 (af (m7 gH .gU .ak .aB) ao)))),? _⟩;cases tl with|nil=>rw[37]|cons t tl=>rw[139];ktd_call vc [e,pO,T.i7,T.f',oH,Gm.WB rl hk];refine .yp;unfold fA b_ at q;by_cases hh:t.tok=k;{rw[if_pos .p6];simp only[beq_iff_eq]at q;rw[if_pos hh]at q;exact fun H' a' pt' x hR' ht' rl'=>q H' a' pt' x hR' (hR.fin.next (by rw[hh];exact hk.ne)).1 ht' rl'.1};{rw[if_neg .p6];simp only[beq_iff_eq]at q;rw[if_neg hh]at q;exact q}}
end
section
variable{P:Program}{w:World}{K:ae}{mg:Str->Option Value}{base:Heap}{ad:Ad}
theorem M6(s:Str):∀l:.a0,inV (.str s) (l.map V.str)=decide (s∈l)|[]=>rfl|x::r=>by have ih:=M6 s r;unfold inV at ih|-;rw[aO,qr,ih];have e1:Z5 (.str x) (.str s)=(x==s):=rfl;rw[e1,fG,rn,beq_iff_eq,decide_eq_true_eq,decide_eq_true_eq,aJ];exact or_congr_left ⟨Eq.symm,Eq.symm⟩
theorem TM:Nj=qR.map fun b=>.fz:=.aF
theorem anj(b:aK)(l:.bS):.fz∈(l.map fun b=>.fz)↔b∈l:=by rw[aX];rw[12];{rintro⟨x,hx,e⟩;rw[oH]at e;rw[<-Gm.mU e];exact hx};{exact fun h=>⟨b,h,rfl⟩}
theorem Dh{pt:Wm.PT}{t:nM}{tl:bE}(h:.jm):(decide (zN pt.kind="word")&&! inV (.str (tx pt.text)) (Nj.map V.str))=mP .cZ:=by have hk:=Gm.XF h;rw[M6,TM];rw[45];obtain⟨h0,h⟩:=h;have kw:zN pt.kind="word"↔pt.kind=.word:=.p7;cases k with|name b=>obtain⟨h1,h2,_⟩:=h;rw[decide_eq_true (kw.mpr h1),al1];show _=! qR.contains b;congr 1;rw[fG,decide_eq_true_eq,h2];rw[show(b.map fun x=>x.toNat)=cd b from rfl,anj];simp|num n=>rw[decide_eq_false (fun z=>by have:=hk.mp (kw.mp z);simp at this)];rfl|sign n=>rw[decide_eq_false (fun z=>by have:=hk.mp (kw.mp z);simp at this)];rfl|halt_=>rw[decide_eq_false (fun z=>by have:=hk.mp (kw.mp z);simp at this)];rfl
def Gw(b:aK):Prop:=.nO/\∀c∈b,(VaprbBase.isLetter c||VaprbBase.isDigit c)=true
def AK(ad:Ad):Sp:=fun vs H Q E=>∃(r l:Addr)(tl:bE),.i9/\.cF/\.eD/\match fQ tl with|.ok (x,lI)=>∀(H':Hp)(a:Addr)(pt:Wm.PT),.cY->.gi->lI≠[]->.sb->pt.place=x.place->pt.text=cd x.name->Gw x.name->.jv|.error f=>.fl
theorem Nw(T:.U)(cE:.ek)(iz:.lS)(pC:.uA):.A2:=by have sc:a9 .b3 .b3 (aL rY):=.af;refine T.AD.dmX .aO sc .ae .ag;rw[62];{rw[63];refine⟨_,(aD (ba (fC .au T.cu iz .I .a8 (af (bx pC .I bQ (af .oT ao)) ao)))),? _⟩;cases tl with|nil=>rw[37]|cons t tl=>rw[85];ktd_call vc [h1,jN,oz,yj,.A3,.uG];refine .uH;refine⟨d,_,_,_,e,l,t,tl,hR,? _⟩;rw[Dh (tl:=tl) rl];rw[45];(have bad:mP (⟨p,k⟩::tl)=false->fQ (⟨p,k⟩::tl)=.error ⟨3,p⟩:=fun h=>by cases k with|name b=>have h:(! qR.contains b)=false:=h;show .yT;rw[if_pos (.e6)];rfl|_=>rfl);cases hh:mP (⟨p,k⟩::tl)with|false=>rw[.dC];rw[bad hh]at q;exact q|true=>rw[.aJ];cases k with|name b=>have h:(! qR.contains b)=true:=hh;(have e2:fQ (⟨p,.name b⟩::tl)=.ok (⟨p,b⟩,tl):=by show .yT;rw[.jL]);rw[e2]at q;exact fun H' a' pt' x hR' ht' rl'=>q H' a' pt' x hR' (hR.fin.next .aw).1 ht' rl'.1 rl'.2.2.1 ⟨rl'.2.2.2.2.1,rl'.2.2.2.2.2⟩|num n=>cases hh|sign n=>cases hh|halt_=>cases hh}
def BY(ad:Ad):Sp:=fun vs H Q E=>∃(r l:Addr)(tl:bE),.i9/\.cF/\.eD/\match nP tl with|.ok (x,lI)=>∀(H':Hp)(a:Addr)(pt:Wm.PT),.cY->.gi->lI≠[]->.sb->pt.place=x.1->Wm.xF pt.text=true->(∀c∈Wm.eI pt.text,.nT)->Wm.yq pt.text=x.2->.jv|.error f=>.fl
theorem HZ(T:.U)(cE:.ek)(iz:.lS):.A4:=by have sc:a9 .b3 .b3 (aL p9):=.af;refine T.yd.dmX .aO sc .ae .ag;rw[62];{rw[63];refine⟨_,(aD (ba (fC .au T.cu iz .I .a8 (af (m7 gH .gU (fF T.Hm) .aB) ao)))),? _⟩;cases tl with|nil=>rw[37]|cons t tl=>rw[139];have kw:.F6:=.p7;ktd_call vc [e,Nd,T.i7,T.oq];refine .yp;rw[45];cases k with|num n=>rw[if_pos (by rw[decide_eq_true_eq,kw,Gm.uu rl];exact⟨n,rfl⟩)];exact fun H' a' pt' x hR' ht' rl'=>q H' a' pt' x hR' (hR.fin.next .aw).1 ht' rl'.1 rl'.2.2.1 rl'.2.2.2.1 rl'.2.2.2.2|name b=>rw[if_neg (by rw[decide_eq_true_eq,kw,Gm.uu rl];rintro⟨n,z⟩;cases z)];exact q|sign n=>rw[if_neg (by rw[decide_eq_true_eq,kw,Gm.uu rl];rintro⟨n,z⟩;cases z)];exact q|halt_=>rw[if_neg (by rw[decide_eq_true_eq,kw,Gm.uu rl];rintro⟨n,z⟩;cases z)];exact q}
def Ma(ad:Ad):Sp:=fun vs H Q E=>∃(r l:Addr)(tl:bE),.i9/\.cF/\.eD/\if b_ .halt_ tl=true then∀(H':Hp)(a:Addr),.cY->.jv else lO ad r E H ⟨3,nN tl⟩
theorem QJ(T:.U)(cE:.ek)(iz:.lS):Dm P w K mg base .bj ad.bK "take_end" 4 .b3 (Ma ad):=by have sc:a9 .b3 .b3 (aL sY):=.af;refine T.BP.dmX .aO sc .ae .ag;rw[62];{rw[63];refine⟨_,(aD (ba (fC .au T.cu iz .I .a8 (af (m7 gH .gU (fF T.ak1) .aB) ao)))),? _⟩;cases tl with|nil=>rw[37]|cons t tl=>rw[139];have kw:zN pt.kind="end"↔pt.kind=.stop:=.p7;ktd_call vc [e,Nd,T.i7,T.oq];refine .yp;(have e2:b_ .halt_ .cZ=decide (t.tok=.halt_):=by show(t.tok==.halt_)=_;rw[fG];simp);rw[e2]at q;by_cases hh:t.tok=.halt_;{rw[if_pos .p6]at q;rw[if_pos .A5];exact fun H' a' pt' x _ _ _=>q H' a' x};{rw[if_neg .p6]at q;rw[if_neg .A5];exact q}}
theorem vJ:Gm.zg (.sign 44) [44]:=.mM
theorem Iy:Gm.zg (.sign 41) [41]:=.mM
theorem DJ:Gm.zg (.sign 40) [40]:=.mM
theorem Iz:Gm.zg (.sign 58) [58]:=.mM
theorem IA:Gm.zg (.sign 47) [47]:=.mM
theorem s_{pt:Wm.PT}{t:nM}{tl:bE}{k:GC}{tt:.ab}(h:.jm)(s:Gm.zg k tt):decide (tx pt.text=tx tt)=b_ k .cZ:=by show _=(t.tok==k);rw[fG];simp only[oH,decide_eq_true_eq,beq_iff_eq];exact Gm.WB h s
theorem ke{H:Hp}{Q:VK}{E:XK}{r l:Addr}{tl:bE}{k:GC}{tt:.ab}{s:Str}(hs:s=tx tt)(hk:Gm.zg k tt)(hR:.cF)(hn:.eD)(h:.zU):yk ad [.ref r,.str s] H Q E:=⟨r,l,tl,k,tt,by rw[hs],hk,hR,hn,h⟩
theorem kO{l:Addr}{i:Nat}:(f7 l i).lookup ("take":Str)=none:=.ic
theorem qX{l:Addr}{i:Nat}:(f7 l i).lookup ("take_name":Str)=none:=.ic
theorem rW{l:Addr}{i:Nat}:(f7 l i).lookup ("take_number":Str)=none:=.ic
theorem Qt{l:Addr}{i:Nat}:(f7 l i).lookup ("take_end":Str)=none:=.ic
theorem uv{l:Addr}{i:Nat}:(f7 l i).lookup ("ahead":Str)=none:=.ic
theorem uw{l:Addr}{i:Nat}:(f7 l i).lookup ("refuse":Str)=none:=.ic
theorem HE{l:Addr}{i:Nat}:(f7 l i).lookup ("goes_on":Str)=none:=.ic
def IJ(ad:Ad):Sp:=fun vs H Q E=>∃(r l:Addr)(tl:bE)(k:Nat),vs=[.ref r,.int ((k+1:Nat):Int)]/\.cF/\.eD/\if b_ (.sign 44) tl=true\/k=0 then match bL 44 tl with|.ok lI=>∀(H':Hp),.cY->.gi->lI≠[]->Q (.bl true) H'|.error f=>.fl else match bL 41 tl with|.ok lI=>∀(H':Hp),.cY->.gi->lI≠[]->Q (.bl false) H'|.error f=>.fl
theorem T3(T:.U)(cE:.ek)(cQ:.jO):.ti:=by have sc:a9 .rG .rG (aL ux):=.af;refine T.DF.dmX .aM sc .ae .ag;{obtain⟨r,l,tl,k,rfl,_⟩:=h;rfl};{obtain⟨r,l,tl,k,rfl,hR,hn,q⟩:=h;refine⟨_,(aj (dG (PW.pt (QV (cb wj .ak (dI T.J2) .aB) (Im (cb gH .gU dN .aB)))) (aj .el .la) bZ) (aj .el .la)),? _⟩;cases tl with|nil=>rw[37]|cons t tl=>rw[85];ktd_call vc [h1,jN,xM _ (show("take":Str)≠"tokens"by decide) .aD,.uG];refine fj .kS fun h2=>.uH;{rw[24];rw[if_pos (.inr .C)]at q;rw[228]};{rw[24];ktd_call vc [e,pO,T.i7,T.f'];have ec:decide (tx pt.text=",")=b_ (.sign 44) .cZ:=s_ rl vJ;rw[ec];refine fj (fun h3=>? _) fun h3=>? _;{rw[if_pos (.inl h3)]at q;rw[228]};{rw[if_neg (by rintro(z|z);exact h3 z;omega)]at q;refine ke (tt:=[41]) rfl Iy hR hn ? _;show match bL 41 .cZ with|.ok lI=>_|.error f=>_;cases hh:bL 41 (t::tl)with|ok lI=>rw[hh]at q;exact .GZ|error f=>rw[hh]at q;exact q}}}
def Rp(ad:Ad):Sp:=fun vs H Q _=>∃(a:Addr)(pt:Wm.PT)(t:nM)(tl:bE),.gd/\lQ ad H a pt/\.jm/\Q (.bl (FP .cZ)) H
theorem Iw:Gm.zg .iR [97,100,100]:=.lT
theorem DK:Gm.zg .ks [112,105,99,107]:=.lT
theorem NZ:Gm.zg .mN [105,102]:=.lT
theorem Rg:Gm.zg (.name (aH "chance")) [99,104,97,110,99,101]:=.lT
theorem Yv:Gm.zg (.name (aH "tell")) [116,101,108,108]:=.lT
theorem HU(T:.U):.Dk:=by have sc:a9 ["token"] ["token"] (aL zH):=.af;refine T.Kk.dn .aO sc .ae .ag;{obtain⟨a,pt,t,tl,rfl,_⟩:=h;rfl};{obtain⟨a,pt,t,tl,rfl,⟨d,e⟩,rl,q⟩:=h;refine⟨_,(aD (ba (av3 (m7 gH .aG (fF T.Hm) .aB) (ac9 (m7 Yb .aG (vG T.MT) rfl))))),? _⟩;have kw:.F6:=.p7;ktd_call vc [e,Nd,pO,T.i7,T.oq,T.f'];(have e3:inV (.str (tx pt.text)) .EB=(b_ .iR .cZ||(b_ .ks .cZ||b_ .mN .cZ)):=by rw[<-s_ rl Iw,<-s_ rl DK,<-s_ rl NZ,show .EB=(["add","pick","if"]:.a0).map V.str from rfl,M6,fG];simp only[rn,decide_eq_true_eq,aJ,mG,or_false];rfl);refine fj .kS fun h2=>⟨_,.inr (T.NL H),by rfl,? _⟩;{rw[decide_eq_true_eq,kw,Gm.uu rl]at h2;obtain⟨n,hn⟩:=h2;rw[45];cases hn;exact q};{rw[decide_eq_true_eq,kw,Gm.uu rl]at h2;rw[e3];rw[45];cases k with|num n=>exact absurd ⟨n,rfl⟩ h2|name b=>exact q|sign n=>exact q|halt_=>exact q}}
end
section
variable{P:Program}{w:World}{K:ae}{mg:Str->Option Value}{base:Heap}{ad:Ad}
theorem V6{t:.ab}(h:Wm.xF t=true)(hd:∀c∈.eC,.nT):intText? (tx t)=some (Wm.yq t)/\(tx t).length<=640/\(Wm.yq t).natAbs<=1000000000:=by unfold Wm.xF at h;rw[10];{rename_i h1;have h1a:.eC≠[]:=fun z=>h1 (.inl z);(have h1b:(.eC).length<=10:=by rcases hZ 10 (Wm.eI t).length with z|z;{exact absurd (.inr z) h1};{exact z});(have ad:NumText.AllDigits (.eC):=fun c hc=>by have:=hd c hc;unfold Wm.AX at this;rw[68]);(have hv:Wm.OP (.eC)<=1000000000:=by rw[4];{rw[decide_eq_true_eq]at h;subst h;decide};{rw[decide_eq_true_eq]at h;exact h});clear h h1 hd;by_cases hm:t.head?=some 45;{cases t with|nil=>cases hm|cons c r=>cases hm;have e1:Wm.eI (45::r)=r:=rfl;have e2:Wm.yq (45::r)=-(Wm.OP r:Int):=rfl;rw[e1]at h1a h1b ad hv;refine⟨? _,by rw[bX,aw];omega,by rw[e2];omega⟩;rw[intText_neg (x:=tx (45::r)) (cs:=r) (by rw[qJ]) ad h1a (by rw[bX,aw];omega),MG,e2]};{(have e1:.eC=t:=by rw[xw,if_neg (by simpa using hm)]);(have e2:Wm.yq t=(Wm.OP t:Int):=by cases t with|nil=>rfl|cons c r=>show(match c::r with|45::r=>-(Wm.OP r:Int)|t=>(Wm.OP t:Int))=_;split;{rename_i e;exact absurd (by rw[.gy];rfl) hm};{rfl});rw[e1]at h1a h1b ad hv;refine⟨? _,.xa,by rw[e2];omega⟩;rw[intText_digits (x:=tx t) (by rw[qJ];exact ad) (by rw[qJ];exact h1a) (.xa),qJ,MG,e2]}}
theorem Rm{n:Int}{d:Nat}(hd:0<d)(h1:n.natAbs<=1000000000)(h2:d<=1000000000):pS (.gm):=by obtain⟨e1,e2⟩:=Fm.vB n hd;refine⟨? _,br (vh hd e2) h2⟩;by_cases hn:n=0;{subst hn;rw[Rat.zero_mkRat];decide};{exact br (vh .C e1) h1}
theorem z0{tl lI:bE}{x:Nat×Int}(h:nP tl=.ok (x,lI)):x.1=nN tl:=by unfold nP at h;rw[4];{cases h;rfl};{cases h}
def oy(ad:Ad):Sp:=fun vs H Q E=>∃(r l:Addr)(tl:bE),.i9/\.cF/\.eD/\match jz tl with|.ok (x,lI)=>∀(H':Hp)(p:Addr)(f:Rat),.cY->.gi->lI≠[]->.bM->H' p=.lb->x=(nN tl,.bc)->pS f->.ej|.error f=>.fl
theorem Dt(T:.U)(cE:.ek)(cQ:.jO)(pU:.A4)(ip:.gT):.oU:=by have sc:a9 ["reader","over","under"] .lq (aL v_):=.af;refine T.FI.JG .aO sc .ae .ag;rw[62];{rw[63];refine⟨_,(aj (bP (i:=1) sc.nd rfl .ai (kj qS rfl T.U7 My (af (aP .zW rfl) ao))) (aj (dG (cb QM .gU dN .aB) (aD (ba (bx ip .I bQ (af .ak .gh)))) bZ) (aj .el (aj (bP (i:=2) sc.nd rfl .ai .zW) (aj (dG (cb wj (kj qS rfl T.U7 My .ku) bH .aB) (aD (mX T.XC T.XI bU rfl hr rfl T.oh (af (dI T.rU) .ku))) bZ) (aD (ba (bx ip .I bQ (af .ak (af (kj qS rfl T.U7 My .ku) ao)))))))))),? _⟩;rw[85];ktd_call vc [h1,tX,kO,uv,rW];refine⟨r,l,tl,rfl,hR,hn,? _⟩;unfold jz at q;cases hN:nP tl with|error f=>rw[hN]at q;exact q|ok x=>obtain⟨⟨np,nv⟩,WC⟩:=x;rw[hN]at q;intro H1 a pt x1 hR1 hn1⟨d1,e1⟩OT hm1 hd1 hv1;obtain⟨v1,v2,v3⟩:=V6 hm1 hd1;obtain⟨dx1,i1,h11⟩:=hR1.rd;ktd_call vc [e1,pO,T.i7,T.f',v1,v2,h11,kO,uv,rW];cases WC with|nil=>exact absurd rfl hn1|cons t WC=>refine⟨r,l,t,WC,rfl,hR1,fun a2 Y7⟨d2,e2⟩Y8=>? _⟩;ktd_call vc [e2,pO,T.i7,T.f'];have ec:decide (tx Y7.text="/")=b_ (.sign 47) (t::WC):=s_ Y8 IA;rw[ec];rw[86];cases hx:b_ (.sign 47) (t::WC)with|false=>rw[hx,.dC]at q;rw[.fG];refine⟨_,1,rfl,.aW,.i7⟩;have x2:mH [r] H1 (aN H1 p (sJ (mkRat (Wm.yq pt.text) 1))):=mH.aN (.inr np);refine q _ p _ (x1.trans x2) (hR1.same (aT.aN np)) hn1 (x1.2 _ np) ah ? _ (Rm .aD v3 .aD);rw[hv1,<-z0 hN,Rat.mkRat_one];rfl|true=>rw[hx,.aJ]at q;rw[.aE];ktd_call vc [h11,kO];refine ke (tt:=[47]) rfl IA hR1 hn1 ? _;(have e3:fA (.sign 47) (t::WC)=.ok WC:=by unfold fA;rw[if_pos hx];rfl);rw[e3];intro H2 a2 Y7 x2 hR2 MZ _ _;obtain⟨OQ,i2,CK⟩:=hR2.rd;ktd_call vc [CK,rW];refine⟨r,l,WC,rfl,hR2,MZ,? _⟩;simp only[AR,ku]at q;cases hM:nP WC with|error f=>rw[hM]at q;exact q.aI (x1.trans x2)|ok y=>obtain⟨⟨mp,mv⟩,tl2⟩:=y;rw[hM]at q;intro H3 a3 pt3 x3 hR3 hn3⟨d3,e3⟩hp3 hm3 hd3 hv3;obtain⟨u1,u2,u3⟩:=V6 hm3 hd3;ktd_call vc [e3,pO,rV,T.i7,T.f',T.ju,u1,u2];simp only[]at hp3 hv3 q;rw[hv3]at u3|-;refine .h9;{rw[24];rw[.jg]at q;intro dx nx;rw[hp3];exact q _ dx ((.xc).trans (mH.aN (.inr nx))) ah};{rw[24];rw[.dt]at q;refine⟨_,mv.toNat,by rw[AZ .C],.o,.i7⟩;have x4:=(.xc).trans (mH.aN (M:=[r]) (o:=sJ (mkRat (Wm.yq pt.text) mv.toNat)) (.inr np));refine q _ p _ x4 (hR3.same (aT.aN np)) hn3 ((.xc).2 _ np) ah ? _ (Rm .C v3 .C);rw[hv1,<-z0 hN,Fm.F1]}}
def E4(ad:Ad):Sp:=fun vs H Q E=>∃(r l:Addr)(tl:bE),.i9/\.cF/\.eD/\match wI tl with|.ok (x,lI)=>∀(H':Hp)(p:Addr)(f:Rat),.cY->.gi->lI≠[]->.bM->H' p=.lb->x=.bc->pS f->0<=f->.ej|.error f=>.fl
theorem Kc(T:.U)(cE:.ek)(kW:.oU):.A6:=by have sc:a9 ["reader","place","share"] .lq (aL Bq):=.af;refine T.NW.JG .aO sc .ae .ag;rw[62];{rw[63];refine⟨_,(aj (bP (i:=1) sc.nd rfl .ai .gU) (aj (bP (i:=2) sc.nd rfl .ai .tj) (aj (dG (cb wj .jN bH .aB) (aD (mX T.XC T.XI bU rfl hr rfl T.oh (af (dI T.rU) .a9))) bZ) .fb))),? _⟩;rw[85];cases tl with|nil=>rw[37]|cons t tl=>ktd_call vc [h1,tX,uv];refine .Dm;ktd_call vc [e2,rV,T.i7,T.ju];refine⟨r,l,t::tl,rfl,hR,hn,? _⟩;unfold wI at q;rw[86];cases hN:jz (t::tl)with|error f=>rw[hN]at q;exact q|ok x=>obtain⟨x,WC⟩:=x;rw[hN]at q;intro H1 p f x1 hR1 hn1 np e1 hx sm;subst hx;rw[20];have ix:W4 [V.int f.num,V.int f.den] 0=some (V.int f.num):=rfl;have lt:(.bc).num=f.num:=rfl;rw[lt]at q;rw[1];refine⟨_,ig.of e1,_,ix,? _⟩;rw[1];refine .h9;{rw[24];rw[.jg]at q;intro dx nx;rw[Y8.1];exact q _ dx (x1.trans (mH.aN (.inr nx))) ah};{rw[24];rw[.dt]at q;exact q H1 p f x1 hR1 hn1 np e1 rfl sm (z9.mp .C)}}
end
inductive GT where|worth(a:Addr)(f:Rat)|plus(a:Addr)(f:Rat)(t:GT)|lot(a:Addr)(ws:GT)|station(a:Addr)(place:Nat)(name:aK)(bs:GT)|nil|way(t:GT)(w:Rat)(rest:GT)|branch(place:Nat)(label:aK)(t rest:GT)
namespace GT
def er:GT->eg|worth _ f=>.worth (.bc)|plus _ f t=>.plus (.bc) t.er|lot _ ws=>.lot ws.er|station _ p n bs=>.station p n bs.er|nil=>.nil|way t w r=>.way t.er .c0 r.er|branch p l t r=>.branch p l t.er r.er
def bB:GT->Addr|worth a _=>a|plus a _ _=>a|lot a _=>a|station a _ _ _=>a|_=>0
def cU:GT->.ao|way t _ r=>t.bB::r.cU|branch _ _ t r=>t.bB::r.cU|_=>[]
def bq:GT->.bG|way _ w r=>w::r.bq|_=>[]
def labels:GT->.bS|branch _ l _ r=>l::r.labels|_=>[]
def lplaces:GT->.ab|branch p _ _ r=>p::r.lplaces|_=>[]
def bN:GT->.ao|worth a _=>[a]|plus a _ t=>a::t.bN|lot a ws=>a::ws.bN|station a _ _ bs=>a::bs.bN|nil=>[]|way t _ r=>t.bN++r.bN|branch _ _ t r=>t.bN++r.bN
def Ok:GT->Nat->Prop|worth _ f,0=>pS f|plus _ f t,0=>pS f/\t.Ok 0|lot _ ws,0=>ws.Ok 1/\(∃w∈ws.bq,w≠0)/\2<=ws.cU.length/\ws.cU.length<=8|station _ _ n bs,0=>Gw n/\.Dn|nil,1=>True|nil,2=>True|way t w r,1=>t.Ok 0/\pS w/\0<=w/\r.Ok 1|branch _ l t r,2=>Gw l/\t.Ok 0/\r.Ok 2|_,_=>False
end GT
def eP(kind:Str)(wl am sl:Addr)(name:Str)(place:Int)(ll pl:Addr)(st sp wt tt:Int):.a7:=[("kind",.ju),("ways",.ref wl),("amount",.ref am),("shares",.ref sl),("name",.str name),("place",.int place),("labels",.ref ll),("label_places",.ref pl),("station",.int st),("steps",.int sp),("weight",.int wt),("total",.int tt)]
section
variable{kind name:Str}{wl am sl ll pl:Addr}{place st sp wt tt:Int}
theorem pP:(.b1).lookup ("kind":Str)=some (.ju):=rfl
theorem kQ:(.b1).lookup ("ways":Str)=some (.ref wl):=rfl
theorem Dk:(.b1).lookup ("amount":Str)=some (.ref am):=rfl
theorem rE:(.b1).lookup ("shares":Str)=some (.ref sl):=rfl
theorem Nh:(.b1).lookup ("name":Str)=some (.str name):=rfl
theorem HQ:(.b1).lookup ("place":Str)=some (.int place):=rfl
theorem uC:(.b1).lookup ("labels":Str)=some (.ref ll):=rfl
theorem HP:(.b1).lookup ("label_places":Str)=some (.ref pl):=rfl
theorem Au:(.b1).lookup .hr=some (.int st):=rfl
theorem BG:(.b1).lookup ("steps":Str)=some (.int sp):=rfl
theorem LJ:(.b1).lookup ("weight":Str)=some (.int wt):=rfl
theorem LQ{x:Addr}:kY ("amount":Str) .aR (.b1)=eP kind wl x sl name place ll pl st sp wt tt:=rfl
theorem ahs{x:Str}:kY ("name":Str) (.str x) (.b1)=eP kind wl am sl x place ll pl st sp wt tt:=rfl
theorem QO{x:Int}:kY ("place":Str) .gC (.b1)=eP kind wl am sl name x ll pl st sp wt tt:=rfl
theorem Ie{x:Int}:kY .hr .gC (.b1)=eP kind wl am sl name place ll pl x sp wt tt:=rfl
theorem aca{x:Int}:kY ("steps":Str) .gC (.b1)=eP kind wl am sl name place ll pl st x wt tt:=rfl
theorem Yc{x:Int}:kY ("weight":Str) .gC (.b1)=eP kind wl am sl name place ll pl st sp x tt:=rfl
theorem Qz:(.b1).lookup ("total":Str)=some (.int tt):=rfl
theorem acb{x:Int}:kY ("total":Str) .gC (.b1)=eP kind wl am sl name place ll pl st sp wt x:=rfl
theorem yQ:(.b1).length=12:=rfl
end
structure jd where
st:Addr->Int
sp:Addr->Int
wt:Addr->Int
tt:Addr->Int
def afd:jd:=⟨fun _=>0,fun _=>0,fun _=>0,fun _=>0⟩
structure CP(K:ae)(ad:Ad)(H:Hp)(n:jd)(a:Addr)(kind:Str)(ways:List Addr)(nQ:Rat)(bq:List Rat)(name:aK)(place:Nat)(labels:List aK)(lplaces:List Nat)(dx wl am sl ll pl:Addr)(sas:List Addr):Prop where
obj:H a=some (.cH ad.cn dx (eP kind wl am sl (tx (cd name)) place ll pl (n.st a) (n.sp a) (n.wt a) (n.tt a)))
ways:H wl=some (.bJ (ways.map V.ref))
nQ:gO K H am nQ
AG:H sl=some (.bJ (sas.map V.ref))
Rj:Paired (gO K H) sas bq
nV:H ll=some (.bJ (labels.map fun b=>V.str (tx (cd b))))
tT:H pl=some (.bJ (lplaces.map fun p:Nat=>V.int p))
def m9(K:ae)(ad:Ad)(H:Hp)(n:jd)(a:Addr)(kind:Str)(ways:.ao)(nQ:Rat)(bq:.bG)(name:aK)(place:Nat)(labels:.bS)(lplaces:.ab):Prop:=∃(dx wl am sl ll pl:Addr)(sas:.ao),CP K ad H n a kind ways nQ bq name place labels lplaces dx wl am sl ll pl sas
def bF(K:ae)(ad:Ad)(H:Hp)(n:jd):GT->Prop|.worth a f=>m9 K ad H n a "worth" [] f [] [] 0 [] []|.plus a f t=>m9 K ad H n a "add" [t.bB] f [] [] 0 [] []/\.hs|.lot a ws=>m9 K ad H n a "lots" ws.cU 0 ws.bq [] 0 [] []/\bF K ad H n ws|.station a p x bs=>m9 K ad H n a "station" bs.cU 0 [] x p bs.labels bs.lplaces/\bF K ad H n bs|.nil=>True|.way t _ r=>.hs/\bF K ad H n r|.branch _ _ t r=>.hs/\bF K ad H n r
def CO(H H' u4:Hp):Prop:=∀b o,.bx->.gj->u4 b=.ah
structure Sq(K:ae)(ad:Ad)(H H':Hp)(g:GT)(k:Nat)(t:eg):Prop where
at_:∀u4,CO H H' u4->bF K ad u4 afd g
fresh:∀a∈g.bN,H a=none/\H' a≠none
nd:g.bN.Nodup
ok:g.Ok k
er:g.er=t
theorem Sq.aI{K:ae}{ad:Ad}{H0 H1 H2 H3:Hp}{g:GT}{k:Nat}{t:eg}(h:Sq K ad H1 H2 g k t)(h0:∀b,H1 b=none->H0 b=none)(h3:CO H1 H2 H3):Sq K ad H0 H3 g k t:=⟨fun u4 n=>h.at_ u4 fun b o e1 e2=>n b o (h0 b e1) (h3 b o e1 e2),fun a ha=>⟨h0 a (h.fresh a ha).1,by cases e:H2 a with|none=>exact absurd e (h.fresh a ha).2|some o=>rw[h3 a o (h.fresh a ha).1 e];rw[11]⟩,h.nd,h.ok,h.er⟩
section
variable{P:Program}{w:World}{K:ae}{mg:Str->Option Value}{base:Heap}{ad:Ad}
theorem Of{H1:Hp}{p q:Addr}{o o' u:HO}(h:H1 p=.ah)(n:aN H1 p o' q=none):mH [p] H1 (aN (aN H1 p o') q u)/\aN (aN H1 p o') q u p=some o'/\aN (aN H1 p o') q u q=.aP/\H1 q=none/\q≠p:=by(have ne:q≠p:=by rw[2];rw[ah]at n;cases n);refine⟨(.y0).trans (mH.aN (.inr n)),? _,ah,? _,ne⟩;{rw[ai (cW ne),ah]};{rw[ai ne]at n;exact n}
def DY(ad:Ad):Sp:=fun vs H Q _=>∃(p dx:Addr)(kind:Str),vs=[.bO,.ju]/\H p=some .yq/\∀(H':Hp)(wl sl ll pl:Addr),mH [p] H H'->H wl=none->H sl=none->H ll=none->H pl=none->.yr->H' p=.A7->H' wl=.en->H' sl=.en->H' ll=.en->H' pl=.en->Q .jD H'
theorem ah8(T:.U):.lU:=by have sc:a9 ["self","kind"] ["self","kind"] (aL ES):=.af;refine T.aok.dc .aM sc .ae .ag;{obtain⟨p,dx,kind,rfl,_⟩:=h;rfl};{obtain⟨p,dx,kind,rfl,hp,q⟩:=h;refine⟨_,(aj .h8 (aj .p8 (aj (dW .au (vG T.C6) rfl) (aj .p8 (aj (dW .au dN rfl) (aj .fc (aj .p8 (aj .p8 (aj .fc (aj .fc (aj .fc (aD .fc)))))))))))),? _⟩;ktd_call vc [hp,ah,gJ,T.cZ,T.fS,T.dX,T.gP,T.gu,T.jY,T.jq,T.gQ,T.gf,T.gY,T.iJ,T.jv,T.jZ];have cls:=cN T.cZ T.cZ;refine⟨.aW,bw _,fun wl n1=>? _⟩;obtain⟨x1,p1,w1,m1,d1⟩:=Of (u:=.bJ []) hp n1;generalize aN (aN H p _) wl _=H1 at*;ktd_call vc [p1,ah,gJ,T.cZ,T.fS,T.dX,T.gP,T.gu,T.jY,T.jq,T.gQ,T.gf,T.gY,T.iJ,T.jv,T.jZ];refine⟨.gQ,.gR,bw _,fun sl n2=>? _⟩;obtain⟨x2,p2,w2,m2,d2⟩:=Of (u:=.bJ []) p1 n2;have w12:=x2.1 _ _ .vQ w1;(have d12:wl≠sl:=by rw[2];rw[w1]at m2;cases m2);generalize aN (aN H1 p _) sl _=H2 at*;ktd_call vc [p2,ah,gJ,T.cZ,T.fS,T.dX,T.gP,T.gu,T.jY,T.jq,T.gQ,T.gf,T.gY,T.iJ,T.jv,T.jZ];refine⟨.gV,.vR,.vS,bw _,fun ll n3=>? _⟩;obtain⟨x3,p3,w3,m3,d3⟩:=Of (u:=.bJ []) p2 n3;have w13:=x3.1 _ _ .vQ w12;have w23:=x3.1 _ _ (by rw[aA];exact d2) w2;(have d13:wl≠ll:=by rw[2];rw[w12]at m3;cases m3);(have d23:sl≠ll:=by rw[2];rw[w2]at m3;cases m3);generalize aN (aN H2 p _) ll _=H3 at*;ktd_call vc [p3,ah,gJ,T.cZ,T.fS,T.dX,T.gP,T.gu,T.jY,T.jq,T.gQ,T.gf,T.gY,T.iJ,T.jv,T.jZ];refine⟨(show 6<1000 by decide),bw _,fun pl n4=>? _⟩;obtain⟨x4,p4,w4,m4,d4⟩:=Of (u:=.bJ []) p3 n4;have w14:=x4.1 _ _ .vQ w13;have w24:=x4.1 _ _ (by rw[aA];exact d2) w23;have w34:=x4.1 _ _ (by rw[aA];exact d3) w3;(have d14:wl≠pl:=by rw[2];rw[w13]at m4;cases m4);(have d24:sl≠pl:=by rw[2];rw[w23]at m4;cases m4);(have d34:ll≠pl:=by rw[2];rw[w3]at m4;cases m4);generalize aN (aN H3 p _) pl _=H4 at*;ktd_call vc [p4,ah,gJ,T.cZ,T.fS,T.dX,T.gP,T.gu,T.jY,T.jq,T.gQ,T.gf,T.gY,T.iJ,T.jv,T.jZ];refine⟨(show 7<1000 by decide),(show 8<1000 by decide),(show 9<1000 by decide),(show 10<1000 by decide),(show 11<1000 by decide),? _⟩;have xx:mH [p] H H4:=((x1.trans x2).trans x3).trans x4;refine q _ wl sl ll pl (xx.trans (.y0)) m1 (x1.2 _ m2) (x1.2 _ (x2.2 _ m3)) (x1.2 _ (x2.2 _ (x3.2 _ m4))) (by simp[d12,d13,d14,d23,d24,d34]) ah ? _ ? _ ? _ ? _;{rw[ai d1];exact w14};{rw[ai d2];exact w24};{rw[ai d3];exact w34};{rw[ai d4];exact w4}}
theorem Gh{H:Hp}{Q:.a3}{x dx:Addr}{kind:Str}(nx:.hR)(nd:H dx=none)(ne:dx≠x)(h:∀(H':Hp)(wl sl ll pl:Addr),.aq->H wl=none->H sl=none->H ll=none->H pl=none->.yr->H' x=.A7->H' wl=.en->H' sl=.en->H' ll=.en->H' pl=.en->Q H'):DY ad [.dE,.ju] (aN .kj x .yq) (fun v H2=>v=.jD/\Q H2) E0:=by(have fr:∀{b},aN .kj x .yq b=none->.bx:=fun{b}e=>by by_cases hb:b=x;{subst hb;exact nx};{rw[ai hb]at e;by_cases hd:b=dx;{subst hd;exact nd};{rw[ai hd]at e;exact e}});refine⟨x,dx,kind,rfl,ah,fun H' wl sl ll pl e n1 n2 n3 n4 nn hx h1 h2 h3 h4=>⟨rfl,h H' wl sl ll pl (fun b o eb=>? _) (fr n1) (fr n2) (fr n3) (fr n4) nn hx h1 h2 h3 h4⟩⟩;refine e.1 b o ? _ ? _;{rw[aA];exact aq eb nx};{rw[ai (aq eb nx),ai (aq eb nd)];exact eb}
end
section
variable{P:Program}{w:World}{K:ae}{mg:Str->Option Value}{base:Heap}{ad:Ad}
theorem fP{H:Hp}{a b:Addr}{o:HO}(ha:.fs)(hb:.hS):a≠b:=by rw[2];rw[ha]at hb;cases hb
theorem Dj{a r:Addr}(h:a≠r):a∉[r]:=.e6
theorem vx(T:.U)(H:Hp):gO K H ad.iE 0:=T.Yg H
def E5(K:ae)(ad:Ad):Sp:=fun vs H Q E=>∃(r l:Addr)(tl:bE),.i9/\.cF/\.eD/\match jz tl with|.ok (x,lI)=>∀(H':Hp)(g:GT),.cY->.gi->lI≠[]->Sq K ad H H' g 0 (.worth x.2)->Q (.dB) H'|.error f=>.fl
theorem Ke(T:.U)(qy:.lU)(kW:.oU):.A8:=by have sc:a9 ["reader","worth"] .lq (aL Br):=.af;refine T.NX.JG .aO sc .ae .ag;rw[62];{rw[63];refine⟨_,(aj (bP (i:=1) sc.nd rfl .ai (jj qy .I bQ (af (fF T.Bv) ao))) (aj (dW .ak .tj rfl) .fT)),? _⟩;rw[78];rw[1];refine .A9;refine⟨r,l,tl,rfl,hR.same s1,hn,? _⟩;cases hF:jz tl with|error f=>rw[hF]at q;exact q.aI (aT.ext s1)|ok x=>obtain⟨⟨pl0,fv⟩,WC⟩:=x;rw[hF]at q;intro H2 p f x2 hR2 MZ np e2 hx sm;cases hx;have ar:a≠r:=fP nx Qm;have ha2:=x2.1 _ _ (Dj ar) ha;ktd_call vc [ha2,T.cZ,T.gP,LQ];refine⟨.gW,? _⟩;(have fa:∀{b o},b≠r->b≠a->H1 b=.ah->aN H2 a .Ba b=.ah:=fun{b o}hbr hba h=>by rw[ai hba];exact x2.1 _ _ (Dj hbr) h);(have x3:mH [r] H (aN H2 a .Ba):=by refine⟨.dO,fun b e=>? _⟩;{rw[ai .jn];exact x2.1 _ _ hb (s1 _ _ e)};{by_cases hba:b=a;{subst hba;rw[54]};{rw[ai hba]at e;exact s1.free (x2.2 _ e)}});refine q _ (.worth a f) x3 (hR2.ap3 ha2 .vT) MZ ⟨fun u4 nw=>? _,.cG,by simp[GT.bN],sm,rfl⟩;{have pa:p≠a:=fP np ha;refine⟨dx,wl,p,sl,ll,pl,[],⟨nw a _ nx ah,nw wl _ n1 (fa (fP n1 Qm) (cv h1 ha .aw) h1),? _,nw sl _ n2 (fa (fP n2 Qm) (cv h2 ha .aw) h2),.nil,nw ll _ n3 (fa (fP n3 Qm) (cv h3 ha .aw) h3),nw pl _ n4 (fa (fP n4 Qm) (cv h4 ha .aw) h4)⟩⟩;exact gO.of (nw p _ (s1.free np) (by rw[ai pa];exact e2))};{simp only[GT.bN,aA]at hb;subst hb;exact⟨nx,by rw[ah];rw[11]⟩}}
def aij(K:ae)(ad:Ad)(n:Nat)(c:bE->Prop):Sp:=fun vs H Q E=>∃(r l:Addr)(tl:bE)(o:Int),vs=[.ref r,.int o]/\o+.cN=24/\c tl/\.cF/\.eD/\match b5 n tl with|.ok (t,lI)=>∀(H':Hp)(g:GT),.cY->.gi->lI≠[]->Sq K ad H H' g 0 t->Q (.dB) H'|.error f=>.fl
abbrev sC(K:ae)(ad:Ad)(n:Nat):Sp:=aij K ad n fun _=>True
abbrev DW(K:ae)(ad:Ad)(n:Nat):Sp:=aij K ad n fun tl=>0<n/\b_ .iR tl=true
abbrev AJ(K:ae)(ad:Ad)(n:Nat):Sp:=aij K ad n fun tl=>0<n/\b_ .ks tl=true
abbrev tV(K:ae)(ad:Ad)(n:Nat):Sp:=aij K ad n fun tl=>0<n/\b_ .mN tl=true
theorem BK(T:.U)(n:Nat)(cE:.ek)(jb:.lR)(MC:.A8)(S3:Dn P w K mg base .bj "read_add" (2*n+39) .dj (DW K ad n))(PD:Dn P w K mg base .bj "read_lots" (2*n+39) .dj (AJ K ad n))(GV:Dn P w K mg base .bj "read_station" (2*n+39) .dj (tV K ad n)):.oV:=by have sc:a9 ["reader","outside","first"] .dj (aL EC):=.af;refine T.Q_.JG .aM sc .ae .ag;rw[98];{obtain⟨r,l,tl,o,rfl,ho,-,hR,hn,q⟩:=h;refine⟨_,(aj (dG (cb gH .ak (dI T.Xo) .aB) .tk bZ) (aj (bP (i:=2) sc.nd rfl .ai .gU) (aj (dG .p5 (aD (ba (bx S3 .I .a8 .fU))) bZ) (aj (dG .p5 (aD (ba (bx PD .I .a8 .fU))) bZ) (aj (dG .p5 (aD (ba (bx GV .I .a8 .fU))) bZ) (aD (ba (bx MC .I .a8 .cb)))))))),? _⟩;rw[78];cases tl with|nil=>rw[37]|cons t tl=>ktd_call vc [Qm,uw,uv];refine .h9;{rw[24];obtain rfl:n=0:=.o;exact⟨r,l,t,tl,4,rfl,hR,q⟩};{rw[24];obtain⟨n,rfl⟩:∃m,n=m+1:=⟨n-1,.o⟩;refine .Dm;have c1:decide (tx Y7.text="add")=b_ .iR .cZ:=s_ Y8 Iw;have c2:decide (tx Y7.text="pick")=b_ .ks .cZ:=s_ Y8 DK;have c3:decide (tx Y7.text="if")=b_ .mN .cZ:=s_ Y8 NZ;ktd_call vc [e2,pO,T.i7,T.f'];rw[c1,c2,c3];refine fj (fun h3=>? _) fun h3=>fj (fun h4=>? _) fun h4=>.mK;{exact⟨r,l,t::tl,o,rfl,ho,⟨.o,h3⟩,hR,hn,q⟩};{exact⟨r,l,t::tl,o,rfl,ho,⟨.o,h4⟩,hR,hn,q⟩};{exact⟨r,l,t::tl,o,rfl,ho,⟨.o,h5⟩,hR,hn,q⟩};{refine⟨r,l,t::tl,rfl,hR,hn,? _⟩;unfold b5 at q;rw[.hC,if_neg h4,if_neg h5]at q;cases hF:jz (t::tl)with|error f=>rw[hF]at q;exact q|ok x=>rw[hF]at q;exact q}}}
end
section
variable{P:Program}{w:World}{K:ae}{mg:Str->Option Value}{base:Heap}{ad:Ad}
theorem mH.Jn{M:.ao}{H H':Hp}{a:Addr}{o:HO}(x:mH M H H')(n:.fs):mH M H (L2.aN H' a o):=by refine⟨fun b u hb e=>? _,fun b e=>? _⟩;{rw[ai (aq e n)];exact x.1 _ _ hb e};{by_cases hba:b=a;{subst hba;rw[54]};{rw[ai hba]at e;exact x.2 _ e}}
structure NB(ad:Ad)(r:Addr)(H:Hp)(a dx:Addr)(kind:Str)(wl am sl:Addr)(name:Str)(place:Int)(ll pl:Addr)(ws ss ls ps:List V):Prop where
obj:H a=some (.cH ad.cn dx (eP kind wl am sl name place ll pl 0 0 0 0))
ways:H wl=some (.bJ ws)
AG:H sl=some (.bJ ss)
nV:H ll=some (.bJ ls)
tT:H pl=some (.bJ ps)
nd:[wl,sl,ll,pl].Nodup
ner:r≠a/\r≠wl/\r≠sl/\r≠ll/\r≠pl
structure Fr(H:Hp)(a wl sl ll pl:Addr):Prop where
a:H a=none
wl:H wl=none
sl:H sl=none
ll:H ll=none
pl:H pl=none
section
variable{r:Addr}{H H':Hp}{a dx:Addr}{kind:Str}{wl am sl:Addr}{name:Str}{place:Int}{ll pl:Addr}{ws ss ls ps:List V}
theorem NB.of(fr:Fr H a wl sl ll pl){o:HO}(hr:H r=.ah)(ha:H' a=some (.cH ad.cn dx (eP kind wl am sl name place ll pl 0 0 0 0)))(h1:H' wl=some (.bJ ws))(h2:H' sl=some (.bJ ss))(h3:H' ll=some (.bJ ls))(h4:H' pl=some (.bJ ps))(nd:.yr):.Bb:=⟨ha,h1,h2,h3,h4,nd,⟨(fP fr.a hr).symm,(fP fr.wl hr).symm,(fP fr.sl hr).symm,(fP fr.ll hr).symm,(fP fr.pl hr).symm⟩⟩
theorem NB.ext(h:.jP)(x:.cY):.Bb:=⟨x.1 _ _ (Dj h.ner.1.symm) h.obj,x.1 _ _ (Dj h.ner.2.1.symm) h.ways,x.1 _ _ (Dj h.ner.2.2.1.symm) h.AG,x.1 _ _ (Dj h.ner.2.2.2.1.symm) h.nV,x.1 _ _ (Dj h.ner.2.2.2.2.symm) h.tT,h.nd,h.ner⟩
theorem NB.put{kind' name':Str}{am':Addr}{place':Int}(h:.jP):NB ad r (aN H a (.cH ad.cn dx (eP kind' wl am' sl name' place' ll pl 0 0 0 0))) a dx kind' wl am' sl name' place' ll pl ws ss ls ps:=by have ne:∀{b xs},H b=.ff->b≠a:=fun{b xs}e=>cv e h.obj .aw;exact⟨ah,.xe,.ys,.yt,.yu,h.nd,h.ner⟩
theorem NB.aci{vs:.aj}(h:.jP):NB ad r (aN H wl (.bJ vs)) a dx kind wl am sl name place ll pl vs ss ls ps:=by rw[99];have ne:a≠wl:=cv h.obj h.ways .aw;exact⟨.p9,ah,by rw[ai (cW n.1.1)];exact h.AG,by rw[ai (cW n.1.2.1)];exact h.nV,by rw[ai (cW n.1.2.2)];exact h.tT,h.nd,h.ner⟩
theorem NB.av7{vs:.aj}(h:.jP):NB ad r (aN H sl (.bJ vs)) a dx kind wl am sl name place ll pl ws vs ls ps:=by rw[99];have ne:a≠sl:=cv h.obj h.AG .aw;exact⟨.p9,by rw[ai n.1.1];exact h.ways,ah,by rw[ai (cW n.2.1.1)];exact h.nV,by rw[ai (cW n.2.1.2)];exact h.tT,h.nd,h.ner⟩
theorem NB.av5{vs:.aj}(h:.jP):NB ad r (aN H ll (.bJ vs)) a dx kind wl am sl name place ll pl ws ss vs ps:=by rw[99];have ne:a≠ll:=cv h.obj h.nV .aw;exact⟨.p9,by rw[ai n.1.2.1];exact h.ways,by rw[ai n.2.1.1];exact h.AG,ah,by rw[ai (cW n.2.2)];exact h.tT,h.nd,h.ner⟩
theorem NB.av6{vs:.aj}(h:.jP):NB ad r (aN H pl (.bJ vs)) a dx kind wl am sl name place ll pl ws ss ls vs:=by rw[99];have ne:a≠pl:=cv h.obj h.tT .aw;exact⟨.p9,by rw[ai n.1.2.2];exact h.ways,by rw[ai n.2.1.2];exact h.AG,by rw[ai n.2.2];exact h.nV,ah,h.nd,h.ner⟩
theorem NB.node{H0 u4:Hp}{ways:.ao}{nQ:Rat}{sas:.ao}{bq:.bG}{nm:aK}{pn:Nat}{labels:.bS}{lplaces:.ab}(h:NB ad r H a dx kind wl am sl .dY (pn:Int) ll pl (ways.map V.ref) (.fm) (labels.map .mO) (lplaces.map fun p:Nat=>V.int p))(fr:Fr H0 a wl sl ll pl)(nw:CO H0 H u4)(h1:gO K u4 am nQ)(h2:Paired (gO K u4) sas bq):m9 K ad u4 afd a kind ways nQ bq nm pn labels lplaces:=⟨dx,wl,am,sl,ll,pl,sas,⟨nw _ _ fr.a h.obj,nw _ _ fr.wl h.ways,h1,nw _ _ fr.sl h.AG,h2,nw _ _ fr.ll h.nV,nw _ _ fr.pl h.tT⟩⟩
end
theorem QI(T:.U)(n:Nat)(qy:.lU)(cQ:.jO)(kW:.oU)(lR:.oV):Dn P w K mg base .bj "read_add" (2*n+41) .dj (DW K ad (n+1)):=by rw[229];rw[98];{rw[140];refine⟨_,(aj (bP (i:=2) sc.nd rfl .ai (jj qy .I bQ (af (fF T.ak0) ao))) (aj .el (aj .el (aj (dW .ay .tj rfl) (aj .el (aj .tl (aj .el .fb))))))),? _⟩;rw[78];unfold b5 at q;rw[.bP]at q;rw[86];rw[1];rw[141];have B1:NB ad r H1 a dx "add" wl ad.iE sl "" 0 ll pl [] [] [] []:=.uI;rw[142];refine ke (tt:=[97,100,100]) .bk Iw R1 hn ? _;have e3:fA .iR tl=.ok (tl.drop 1):=.vU;rw[e3];intro H2 _ _ x2 R2 MZ _ _;rw[143];ktd_call vc [hr2,kO];rw[284];cases hh:bL 40 (tl.drop 1)with|error f=>rw[hh]at q;exact q.aI X2|ok OX=>rw[hh]at q;rw[184];have B3:=B2.ext x3;refine⟨r,l,OX,rfl,R3,hn3,? _⟩;cases hF:jz OX with|error f=>rw[hF]at q;exact q.aI X3|ok x=>obtain⟨⟨fp,fv⟩,tl4⟩:=x;rw[hF]at q;rw[20];intro H4 p f x4 R4 hn4 np e4 hx sm;cases hx;have X4:=X3.trans x4;have B4:=B3.ext x4;ktd_call vc [B4.obj,T.cZ,T.gP,LQ];refine⟨.gW,? _⟩;have B5:=B4.put (kind':="add") (am':=p) (name':="") (place':=0);have X5:mH [r] H (aN H4 a (.oW)):=X4.Jn nx;have R5:=R4.ap3 (o:=.oW) B4.obj .vT;(have e5:aN H4 a (.oW) p=.lb:=by rw[ai (fP np B3.obj)];exact e4);have np0:.bM:=X3.2 _ np;generalize aN H4 a (.oW)=H5 at*;obtain⟨rx5,ri5,hr5⟩:=R5.rd;ktd_call vc [hr5,kO];refine ke (tt:=[44]) .bk vJ R5 hn4 ? _;show match bL 44 tl4 with|.ok lI=>_|.error f=>_;cases hh6:bL 44 tl4 with|error f=>rw[hh6]at q;exact q.aI X5|ok tl6=>rw[hh6]at q;rw[20];intro H6 _ _ x6 R6 hn6 _ _;have X6:=X5.trans x6;have B6:=B5.ext x6;have e6:=x6.1 _ _ .y1 e5;ktd_call vc [B6.obj,T.cZ,T.dX,kQ];refine⟨.inl ⟨rfl,_,cM.of B6.ways⟩,r,l,tl6,o+1,rfl,.o,trivial,R6,hn6,? _⟩;cases hT:b5 n tl6 with|error f=>rw[hT]at q;exact q.aI X6|ok y=>obtain⟨t7,tl7⟩:=y;rw[hT]at q;rw[20];intro H7 g x7 R7 hn7 G7;have X7:=X6.trans x7;have B7:=B6.ext x7;have e7:=x7.1 _ _ .y1 e6;obtain⟨ty6,hl⟩:=hR.list;have M3:wl≠l:=fP n1 hl;have R8:=R7.Jo (o:=.bJ [.eX]) B7.ways M3;have B8:=B7.aci (vs:=[.eX]);have X8:mH [r] H (L2.aN H7 wl (.bJ [.eX])):=X7.Jn n1;(have e8:L2.aN H7 wl (.bJ [.eX]) p=.lb:=by rw[ai (cv e7 B7.ways .aw)];exact e7);refine⟨_,B7.ways,.bg,? _⟩;show∃x_2 x_3,L2.aN H7 wl (.bJ [.eX]) r=_/\_;rw[170];refine ke (tt:=[41]) .bk Iy R8 hn7 ? _;show match bL 41 tl7 with|.ok lI=>_|.error f=>_;cases hh9:bL 41 tl7 with|error f=>rw[hh9]at q;exact q.aI X8|ok tl9=>rw[hh9]at q;rw[20];intro H9 _ _ x9 R9 hn9 _ _;have B9:=B8.ext x9;have e9:=x9.1 _ _ .y1 e8;obtain⟨rx6,ri6,hr6⟩:=R6.rd;have G9:=G7.aI X6.2 (H3:=H9) fun b o e1 e2=>x9.1 _ _ (Dj (fP e1 hr6)) (by rw[ai (fP e1 B6.ways)];exact e2);refine q H9 (.plus a f g) (X8.trans x9) R9 hn9 ⟨fun u4 nw=>⟨? _,G9.at_ u4 nw⟩,.cG,? _,⟨sm,G9.ok⟩,by show azm _ _=_;rw[G9.er]⟩;{exact NB.node (nm:=[]) (pn:=0) (ways:=[g.bB]) (sas:=[]) (labels:=[]) (lplaces:=[]) B9 fr nw (gO.of (nw p _ np0 e9)) .nil};{rw[105];{exact⟨nx,by rw[B9.obj];rw[11]⟩};{exact G9.fresh b hb}};{refine cI.mpr ⟨fun hb=>? _,G9.nd⟩;have:=(G7.fresh a hb).1;rw[B6.obj]at this;cases this}}
end
namespace GT
def app:GT->GT->GT|way t w r,y=>way t w (r.app y)|branch p l t r,y=>branch p l t (r.app y)|_,y=>y
end GT
def qj:eg->eg->eg|.way t w r,y=>.way t w (qj r y)|.branch p l t r,y=>.branch p l t (qj r y)|_,y=>y
theorem G_(x y:GT):(x.app y).er=qj x.er y.er:=.zX
theorem Ji(x y z:eg):qj (qj x y) z=qj x (qj y z):=.zX
theorem Ok.L0{k:Nat}{x y:GT}(h:x.Ok .bb):(x.app y).cU=x.cU++y.cU:=by induction x with|way t w r _ ih=>(cases k with|zero=>show _::_=_;rw[ih .aZ];rfl|succ k=>rw[0])|branch p l t r _ ih=>(match k,h with|1,h=>show _::_=_;rw[.gD];rfl)|nil=>rfl|worth a f=>rw[0]|plus a f t _=>rw[0]|lot a ws _=>rw[0]|station a p n bs _=>rw[0]
theorem Ok.Ut{x y:GT}(h:x.Ok 1):(x.app y).bq=x.bq++y.bq:=by induction x with|way t w r _ ih=>show _::_=_;rw[ih .aZ];rfl|nil=>rfl|_=>rw[0]
theorem Ok.Tt{x y:GT}(h:x.Ok 2):(x.app y).labels=x.labels++y.labels:=.zY
theorem Ok.Qu{x y:GT}(h:x.Ok 2):(x.app y).lplaces=x.lplaces++y.lplaces:=.zY
theorem Ok.LK{k:Nat}{x y:GT}(h:x.Ok .bb):(x.app y).bN=x.bN++y.bN:=by induction x with|way t w r _ ih=>(cases k with|zero=>show _++_=_;rw[ih .aZ];simp[GT.bN]|succ k=>rw[0])|branch p l t r _ ih=>(match k,h with|1,h=>show _++_=_;rw[.gD];simp[GT.bN])|nil=>rfl|worth a f=>rw[0]|plus a f t _=>rw[0]|lot a ws _=>rw[0]|station a p n bs _=>rw[0]
theorem Ok.app{k:Nat}{x y:GT}(h:x.Ok .bb)(hy:y.Ok .bb):(x.app y).Ok .bb:=by induction x with|way t w r _ ih=>(cases k with|zero=>exact⟨h.1,.aI,h.2.2.1,ih .aZ⟩|succ k=>rw[0])|branch p l t r _ ih=>(match k,h with|1,h=>exact⟨h.1,.aI,.gD⟩)|nil=>exact hy|worth a f=>rw[0]|plus a f t _=>rw[0]|lot a ws _=>rw[0]|station a p n bs _=>rw[0]
theorem Ok.alg{K:ae}{ad:Ad}{H:Hp}{n:jd}{k:Nat}{x y:GT}(h:x.Ok .bb)(h1:bF K ad H n x)(h2:bF K ad H n y):bF K ad H n (x.app y):=by induction x with|way t w r _ ih=>(cases k with|zero=>exact⟨h1.1,ih .aZ h1.2⟩|succ k=>rw[0])|branch p l t r _ ih=>(match k,h with|1,h=>exact⟨h1.1,ih h.2.2 h1.2⟩)|nil=>exact h2|worth a f=>rw[0]|plus a f t _=>rw[0]|lot a ws _=>rw[0]|station a p n bs _=>rw[0]
theorem Sq.snoc{K:ae}{ad:Ad}{H H1 H2:Hp}{x y g:GT}{k:Nat}{t s:eg}(hx:Sq K ad H H1 x .bb t)(hg:Sq K ad H1 H2 g 0 s)(x0:∀b,H1 b=none->.bx)(x1:CO H H1 H2)(ok:y.Ok .bb)(bN:y.bN=g.bN)(at_:∀H n,.bo->bF K ad H n y):Sq K ad H H2 (x.app y) .bb (qj x.er y.er):=by have VG:=hx.aI (fun b h=>h) x1;have Y1:=hg.aI x0 (H3:=H2) fun b o _ h=>h;refine⟨fun u4 nw=>Ok.alg hx.ok (VG.at_ u4 nw) (at_ _ _ (Y1.at_ u4 nw)),fun a ha=>? _,? _,Ok.app hx.ok ok,G_ _ _⟩;{rw[Ok.LK hx.ok,bN]at ha;rcases aW.mp ha with ha|ha;{exact VG.fresh a ha};{exact Y1.fresh a ha}};{rw[Ok.LK hx.ok,bN];refine g9.mpr ⟨hx.nd,hg.nd,fun a ha b hb e=>? _⟩;subst e;exact(hx.fresh a ha).2 (hg.fresh a hb).1}
section
variable{P:Program}{w:World}{K:ae}{mg:Str->Option Value}{base:Heap}{ad:Ad}
structure UU(K:ae)(ad:Ad)(n:Nat)(r l:Addr)(H:Hp)(a dx wl sl ll pl:Addr)(Hb:Hp)(W:Except gq (eg×bE))(Hc:Hp)(b:Bool)(m:Nat)(x:GT)(sas:List Addr)(tl:bE):Prop where
ext:mH [r] H Hc
rd:jG ad Hc r l tl
ne:tl≠[]
nb:NB ad r Hc a dx "lots" wl ad.iE sl "" 0 ll pl (x.cU.map V.ref) (sas.map V.ref) [] []
zq:Sq K ad Hb Hc x 1 x.er
dom:∀b,Hc b=none->Hb b=none
Rj:∀u4,CO Hb Hc u4->Paired (gO K u4) sas x.bq
j9:x.cU.length<=8
eq:if b=true then m=tl.length/\∃F,tl.length<F/\W=(lh (b5 n) F x.cU.length tl).map fun z=>(qj x.er z.1,z.2)else m=0/\2<=x.cU.length/\W=.ok (x.er,tl)
theorem Ok.vK{x:GT}(h:x.Ok 1):x.bq.length=x.cU.length:=by induction x with|way t w r _ ih=>show _+1=_+1;rw[ih .aZ]|nil=>rfl|_=>rw[0]
theorem Ok.weights{x:GT}(h:x.Ok 1):x.er.weights=x.bq.map Fm.of:=by induction x with|way t w r _ ih=>show _::_=_::_;rw[ih .aZ]|nil=>rfl|_=>rw[0]
theorem Paired.uj{α β:Type}{F:.eI}:∀{l:.aT}{l':.dD}{i:Nat}{a:α},.iQ->l[i]?=some a->∃b,.sa/\F a b|_,_,0,b,.cons h1 h2,e=>.F5|_,_,i+1,b,.cons h1 h2,e=>Paired.uj (i:=i) h2 e
theorem Zp(l:.bG):((l.map Fm.of).all fun w=>w.num==0)=(l.map fun q=>decide (q.num=0)).all id:=by induction l with|nil=>rfl|cons q l ih=>rw[aO,aO,jE,jE,ih];congr 1
theorem Nu(T:.U)(n:Nat)(qy:.lU)(cQ:.jO)(cE:.ek)(jb:.lR)(pA:.ti)(JW:.Dk)(MB:.A6)(lR:.oV):Dn P w K mg base .bj "read_lots" (2*n+41) .dj (AJ K ad (n+1)):=by rw[230];rw[98];{rw[140];refine⟨_,(aj (bP (i:=2) sc.nd rfl .ai (jj qy .I bQ (af (fF T.Te) ao))) (aj (bP (i:=3) sc.nd rfl .ai (aP .zV rfl)) (aj .el (aj .F7 (aj (lW PassesOwn.leaving (km .d9) (aj (dG (PW.pt (Il .Bc (BO (km (bx JW .I bQ (af .oT ao)))))) .tk bZ) (aj .tl (aj .el (aj (dO (mW bj b6 b7 iB .eW (af (bx MB .I .a8 .cb) ao))) .zZ))))) (aj (dG (km (bT (SS rfl) rfl T.ZE SN (af (wu rfl sc.nd (iL .eW) (own:=[("share",5)]) .ck .yW .cu (fun _ _ _ _ _=>(m7 gH (eZ (show IxR _ (Fz K)from gr) .d7 bH .a5) bH .aB))) ao))) (aD (mX T.XC T.XI bU rfl hr rfl T.oh (af (dI T.P9) .fV))) bZ) .fb)))))),? _⟩;rw[78];obtain⟨tyl,hl⟩:=hR.list;(have ha0:b_ .iR tl=false:=by cases tl with|nil=>rfl|cons t tl=>have hk:(t.tok==JS .kU)=true:=hk;show(t.tok==_)=false;rw[beq_iff_eq]at hk;rw[hk];rw[17]);unfold b5 at q;rw[if_neg (by rw[ha0];decide),.bP]at q;rw[86];rw[1];rw[141];have B1:NB ad r H1 a dx "lots" wl ad.iE sl "" 0 ll pl [] [] [] []:=.uI;rw[142];refine ke (tt:=[112,105,99,107]) .bk DK R1 hn ? _;have e3:fA .ks tl=.ok (tl.drop 1):=.vU;rw[e3];intro H2 a2 Y7 x2 R2 MZ⟨d2,e2⟩ep;rw[143];ktd_call vc [e2,rV,T.i7,T.ju,hr2,kO];rw[ep];rw[284];cases hh:bL 40 (tl.drop 1)with|error f=>rw[hh]at q;exact q.aI X2|ok OX=>rw[hh]at q;rw[184];have B3:=B2.ext x3;obtain⟨rx3,ri3,hr3⟩:=R3.rd;generalize hW:lh (b5 n) (OX.length+1) 0 OX=W at q;refine⟨fun m σ Hc=>∃(b:Bool)(x:GT)(sas:.ao)(tlc:bE),σ=[some .e4,some (.int o),.ed,some (.int (nN tl)),some (.bl b),none]/\UU K ad n r l H a dx wl sl ll pl H3 W Hc b m x sas tlc,⟨OX.length,true,.nil,[],OX,rfl,X3,R3,hn3,B3,.Bd,fun _ h=>h,fun _ _=>.nil,.aW,? _⟩,? _⟩;{rw[.aJ];refine⟨rfl,OX.length+1,.o,? _⟩;rw[<-hW];show _=(lh (b5 n) (OX.length+1) 0 OX).map _;cases lh (b5 n) (OX.length+1) 0 OX<;>rfl};rintro m σ Hc⟨b,x,sas,tlc,rfl,L⟩;rw[1];refine fj (fun hb=>.gg) fun hb=>? _;{subst hb;rw[231];ktd_call vc [L.nb.obj,kQ,T.cZ,T.dX,hrc,uv,uw];rw[232];unfold lh at eq;rw[285];refine⟨_,.inl (cM.of L.nb.ways),fj (fun h8=>⟨r,l,t,lI,rfl,L.rd,fun a2 Y7 hT Y8=>⟨a2,Y7,t,lI,rfl,hT,Y8,_,rfl,fj (fun ht=>? _) fun ht=>? _⟩⟩) fun h8=>? _⟩;{ktd_call vc [hrc,uw];rw[330]};all_goals(try ktd_call vc [L.nb.obj,kQ,T.cZ,T.dX]);(have hm:¬(FP (t::lI)=true/\Fj<=x.cU.length):=by first|exact fun z=>ht z.1|exact .z0);rw[if_neg hm]at eq;refine⟨.inl ⟨rfl,_,cM.of L.nb.ways⟩,r,l,t::lI,o+1,rfl,.o,trivial,L.rd,L.ne,? _⟩;cases hT:b5 n (t::lI)with|error f=>rw[hT]at eq;rw[55];exact q.aI L.ext|ok y=>obtain⟨t7,tl7⟩:=y;rw[hT]at eq;rw[36];have l7:=Gm.rj n _ _ _ hT;(have k8:.sd:=by by_cases jc:.sd;{exact jc};{cases hN:FP (t::lI)with|true=>exact .EC|false=>obtain⟨f,hf⟩:=Gm.Ks hN n;rw[hf]at hT;cases hT});intro H7 g x7 R7 hn7 G7;have X7:=L.ext.trans x7;have B7:=L.nb.ext x7;have M3:wl≠l:=fP n1 hl;have R8:=R7.Jo (o:=.bJ (.dd)) B7.ways M3;have B8:=B7.aci (vs:=.dd);have X8:mH [r] H (L2.aN H7 wl (.bJ (.dd))):=X7.Jn n1;(have N8:CO Hc H7 (L2.aN H7 wl (.bJ (.dd))):=fun b o e1 e2=>by rw[ai (fP e1 L.nb.ways)];exact e2);have D8:∀b,L2.aN H7 wl (.bJ (.dd)) b=none->Hc b=none:=fun b e=>x7.2 b .G0;(have M8:CO H3 Hc (L2.aN H7 wl (.bJ (.dd))):=fun b o e1 e2=>by rw[ai (fP e1 B3.ways)];exact x7.1 _ _ .mP e2);refine⟨_,B7.ways,.F8,? _⟩;generalize L2.aN H7 wl (.bJ (.dd))=H8 at*;rw[170];refine ke (tt:=[58]) .bk Iz R8 hn7 ? _;show match bL 58 tl7 with|.ok lI=>_|.error f=>_;cases hh9:bL 58 tl7 with|error f=>rw[hh9]at eq;rw[55];exact q.aI X8|ok tl9=>rw[hh9]at eq;rw[36];rw[342];have N9:CO Hc H7 H9:=fun b o e1 e2=>x9.1 _ _ .y2 (N8 b o e1 e2);have M9:CO H3 Hc H9:=fun b o e1 e2=>x9.1 _ _ .mP (M8 b o e1 e2);rw[343];ktd_call vc [B9.obj,rE,T.cZ,T.gu];refine⟨.inl ⟨rfl,_,cM.of B9.AG⟩,r,l,tl9,rfl,R9,hn9,? _⟩;have l9:=Gm.eJ hh9;cases hS:wI tl9 with|error f=>rw[hS]at eq;rw[55];exact q.aI X9|ok y=>obtain⟨fw,OB⟩:=y;rw[hS]at eq;rw[36];have l10:=Gm.sD hS;intro Ec p f x10 R10 amo np e10 OS sm nn;subst OS;have X10:=X9.trans x10;have B10:=B9.ext x10;(have aif:sas.length=x.cU.length:=by rw[(L.Rj Hc fun _ _ _ h=>h).length,Ok.vK L.zq.ok]);have hsl:sl≠l:=fP n2 hl;have R11:=R10.Jo (o:=.bJ (.fm++[V.ref p])) B10.AG hsl;have B11:=B10.av7 (vs:=.fm++[V.ref p]);have X11:mH [r] H (.oX):=X10.Jn n2;(have N11:CO Hc H7 (.oX):=fun b o e1 e2=>by rw[ai (fP e1 L.nb.AG)];exact x10.1 _ _ .y2 (N9 b o e1 e2));(have M11:CO H3 Hc (.oX):=fun b o e1 e2=>by rw[ai (fP e1 B3.AG)];exact x10.1 _ _ .mP (M9 b o e1 e2));have D11:∀b,L2.aN Ec sl (.bJ (.fm++[V.ref p])) b=none->Hc b=none:=fun b e=>D9 b (x10.2 b (by by_cases hb:b=sl;rw[61]));(have e11:L2.aN Ec sl (.bJ (.fm++[V.ref p])) p=.lb:=by rw[ai (cv e10 B10.AG .aw)];exact e10);have np3:H3 p=none:=L.dom _ (D9 _ np);have pr:p≠r:=fP np3 hr3;refine⟨_,B10.AG,by rw[aa,aif,sizeLine_eq];omega,? _⟩;generalize .oX=H11 at*;rw[233];(have fin:∀(b:Bool)(oG:bE)(JL:Hp)(m':Nat),mH [r] H11 JL->jG ad JL r l oG->oG≠[]->(if b=true then m'=oG.length/\∃F,oG.length<F/\W=(lh (b5 n) F (.se) oG).map fun z=>(qj (.qb) z.1,z.2)else m'=0/\1<=x.cU.length/\W=.ok (.qb,oG))->∃x' aE3 lI,UU K ad n r l H a dx wl sl ll pl H3 W JL b m' x' aE3 lI:=by intro b oG JL m' Mi Zj Hu heq;have N12:CO Hc H7 JL:=fun b o e1 e2=>Mi.1 _ _ .y2 (N11 b o e1 e2);have M12:CO H3 Hc JL:=fun b o e1 e2=>Mi.1 _ _ .mP (M11 b o e1 e2);have e12:=Mi.1 _ _ (Dj pr) e11;(have er':(x.app (.nV)).er=.qb:=by rw[G_];show qj x.er (.way g.er (.bc) .nil)=_;rw[G7.er]);have ra:=Ok.L0 (y:=.nV) L.zq.ok;have G12:=Sq.snoc (y:=.nV) L.zq (G7.aI (fun _ h=>h) N12) L.dom M12 ⟨G7.ok,sm,nn,trivial⟩ (bM _) (fun _ _ h=>⟨h,trivial⟩);rw[<-G_]at G12;(have rl:(x.app (.nV)).cU.length=.se:=by rw[ra,ag];rfl);refine⟨x.app (.nV),sas++[p],oG,X11.trans Mi,Zj,Hu,? _,G12,.F9,fun u4 nw=>? _,.o,? _⟩;{have B12:=B11.ext Mi;rw[ra,aG,aG];exact B12};{rw[Ok.Ut L.zq.ok];exact Paired.snoc (L.Rj u4 fun b o e1 e2=>nw b o e1 (M12 b o e1 e2)) (gO.of (nw p _ np3 e12))};rw[286]);by_cases hc:.ED;{rw[.dQ]at eq|-;cases CK:bL 44 OB with|error f=>rw[185]|ok oG=>rw[356];simp only[aw]at l7 hF;rw[287];cases lh (b5 n) F (x.cU.length+1) oG with|error f=>rfl|ok z=>show uZ (qj x.er (.way t7 (.bc) z.1),z.2)=uZ (qj (.qb) z.1,z.2);rw[Ji];rfl};rw[234]};{rw[288];rw[Ok.weights L.zq.ok,Zp]at q;have prd:=L.Rj Hc fun _ _ _ h=>h;have aif:sas.length=x.bq.length:=prd.length;(have k8:x.bq.length<=8:=by rw[Ok.vK L.zq.ok];exact L.j9);refine⟨.b2,rfl,a,ad.cn,dx,_,_,rfl,L.nb.obj,T.cZ,T.gu,rE,sl,rfl,⟨_,cM.of L.nb.AG⟩,fun D nD=>oj (K:=K) (a:=sl) (xs:=.fm) (fun i H'=>H' D=some (.bJ ((x.bq.take i).map fun q=>V.bl (decide (q.num=0))))/\aT Hc H') .fW (fun i H' _ h=>h.2.seq (cM.of L.nb.AG)) .kv .dX⟩;{rw[15];rw[aS]at hy;cases hs:sas[i]? with|none=>rw[hs]at hy;cases hy|some sa=>rw[hs]at hy;obtain rfl:V.ref sa=y:=aB hy;obtain⟨qv,hq,fq⟩:=Paired.uj prd hs;ktd_call vc [fU,vQ];refine⟨_,g2.fL fq,_,rfl,? _⟩;rw[1];refine⟨_,g1,? _,? _,? _⟩;{rw[aa,be,sizeLine_eq];omega};{rw[ah,a8,hq,aG];rfl};{exact fun c o e=>by rw[35];exact g2 c o e}};{rw[15];rw[aa,aif,bf]at g1;refine⟨D,x.bq.map fun q=>decide (q.num=0),rfl,.uJ,_,rfl,? _⟩;cases hz:(x.bq.map fun q=>decide (q.num=0)).all id with|true=>rw[hz,.aJ]at q;rw[.aJ];ktd_call vc [tX];intro dx nd;exact q _ dx (L.ext.trans ((aT.ext g2).trans (mH.aN (.inr nd)))) ah|false=>rw[hz,.dC]at q;rw[.dC];have xg:mH [r] Hc H':=aT.ext g2;have B:=L.nb.ext xg;have G:=L.zq.aI (H3:=H') (fun b h=>X3.2 b h) fun b o _ e=>g2 _ _ e;refine q H' (.lot a x) (L.ext.trans xg) (L.rd.same g2) L.ne ⟨fun u4 nw=>⟨? _,G.at_ u4 nw⟩,.cG,? _,⟨L.zq.ok,? _,hk2,L.j9⟩,rfl⟩;{refine NB.node (nm:=[]) (pn:=0) (labels:=[]) (lplaces:=[]) B fr nw (vx T u4) (L.Rj u4 fun b o e1 e2=>nw b o (X3.2 b e1) (g2 _ _ e2))};{rw[105];{exact⟨nx,by rw[B.obj];rw[11]⟩};{exact G.fresh b hb}};{rw[344];rw[B3.obj]at this;cases this};{rw[List.all_eq_false]at hz;obtain⟨z,hz1,hz2⟩:=hz;obtain⟨v,hv,rfl⟩:=aX.mp hz1;refine⟨v,hv,fun e=>hz2 ? _⟩;subst e;rfl}}}}
end
section
variable{P:Program}{w:World}{K:ae}{mg:Str->Option Value}{base:Heap}{ad:Ad}
structure ajj(K:ae)(ad:Ad)(n:Nat)(r l:Addr)(H:Hp)(a dx wl sl ll pl:Addr)(nm:aK)(pn:Nat)(Hb:Hp)(W:Except gq (eg×bE))(Hc:Hp)(b:Bool)(m:Nat)(x:GT)(tl:bE):Prop where
ext:mH [r] H Hc
rd:jG ad Hc r l tl
ne:tl≠[]
nb:NB ad r Hc a dx "station" wl ad.iE sl (tx (cd nm)) (pn:Int) ll pl (x.cU.map V.ref) [] (x.labels.map fun b=>V.str (tx (cd b))) (x.lplaces.map fun p:Nat=>V.int p)
zq:Sq K ad Hb Hc x 2 x.er
dom:∀b,Hc b=none->Hb b=none
j9:x.cU.length<=8
eq:if b=true then m=tl.length/\∃F,tl.length<F/\W=(jm (b5 n) F x.cU.length tl).map fun z=>(qj x.er z.1,z.2)else m=0/\2<=x.cU.length/\W=.ok (x.er,tl)
theorem Ok.pG{x:GT}(h:x.Ok 2):x.labels.length=x.cU.length/\x.lplaces.length=x.cU.length:=by induction x with|branch p l t r _ ih=>exact⟨congrArg (·+1) (.gD).1,congrArg (·+1) (.gD).2⟩|nil=>exact .ea|_=>rw[0]
theorem Fx(T:.U)(n:Nat)(qy:.lU)(cQ:.jO)(cE:.ek)(jb:.lR)(kN:.A2)(pA:.ti)(pC:.uA)(lR:.oV):Dn P w K mg base .bj "read_station" (2*n+41) .dj (tV K ad (n+1)):=by rw[235];rw[98];{rw[140];refine⟨_,(aj (bP (i:=2) sc.nd rfl .ai (jj qy .I bQ (af (fF T.ui) ao))) (aj .el (aj (bP (i:=3) sc.nd rfl .ai .z1) (aj (dW .ay .cm rfl) (aj (dW .ay .cm rfl) (aj .el (aj .F7 (aj (lW PassesOwn.leaving (km .d9) (aj (dG (PW.pt (Il .Bc (BO (km (bx pC .I bQ (af .oT ao)))))) .tk bZ) (aj (bP (i:=5) sc.nd rfl .ai .z1) (aj .Be (aj .Be (aj .el (aj .tl .zZ))))))) .fb)))))))),? _⟩;rw[78];obtain⟨tyl,hl⟩:=hR.list;(have ha0:b_ .iR tl=false/\b_ .ks tl=false:=by cases tl with|nil=>exact .ea|cons t tl=>have hk:(t.tok==JS (aH "if"))=true:=hk;show(t.tok==_)=false/\(t.tok==_)=false;rw[beq_iff_eq]at hk;rw[hk];rw[17]);unfold b5 at q;rw[if_neg (by rw[ha0.1];decide),if_neg (by rw[ha0.2];decide),.bP]at q;rw[86];rw[1];rw[141];have B1:NB ad r H1 a dx "station" wl ad.iE sl "" 0 ll pl [] [] [] []:=.uI;rw[142];refine ke (tt:=[105,102]) .bk NZ R1 hn ? _;have e3:fA .mN tl=.ok (tl.drop 1):=.vU;rw[e3];intro H2 _ _ x2 R2 MZ _ _;rw[143];ktd_call vc [hr2,qX];refine⟨r,l,tl.drop 1,rfl,R2,MZ,? _⟩;cases hN:fQ (tl.drop 1)with|error f=>rw[hN]at q;exact q.aI X2|ok y=>obtain⟨⟨pn,nm⟩,OX⟩:=y;rw[hN]at q;rw[20];intro H3 a3 pt3 x3 R3 hn3⟨d3,e3⟩ep en XT;simp only[]at ep en XT;have X3:=X2.trans x3;have B3:=B2.ext x3;rw[ep,en]at e3;(have ne3:a3≠a:=by rw[2];rw[B3.obj]at e3;have:=congrArg jF (HO.cH.inj (aB e3)).2.2;rw[yQ]at this;cases this);ktd_call vc [e3,pO,rV,T.i7,T.f',T.ju,B3.obj,T.cZ,T.jY,T.jq,ahs,QO,ah,gJ];(have e4:aN H3 a (.cH ad.cn dx (eP "station" wl ad.iE sl .dY 0 ll pl 0 0 0 0)) a3=some (.cH ad.j_ d3 (A8 (zN pt3.kind) .dY pn)):=by rw[ai ne3];exact e3);refine⟨.gW,_,_,_,e4,T.i7,T.ju,_,rV,.gW,? _⟩;rw[QO];have B4:=B3.put (kind':="station") (am':=ad.iE) (name':=tx (cd nm)) (place':=(pn:Int));have X4:mH [r] H (L2.aN H3 a (.tm)):=X3.Jn nx;have R4:=R3.ap3 (o:=.tm) B3.obj .vT;generalize L2.aN H3 a (.tm)=H4 at*;obtain⟨rx4,ri4,hr4⟩:=R4.rd;ktd_call vc [hr4,kO];refine ke (tt:=[40]) .bk DJ R4 hn3 ? _;show match bL 40 OX with|.ok lI=>_|.error f=>_;cases hh:bL 40 OX with|error f=>rw[hh]at q;exact q.aI X4|ok tl5=>rw[hh]at q;rw[20];intro H5 _ _ x5 R5 hn5 _ _;have X5:=X4.trans x5;have B5:=B4.ext x5;obtain⟨rx5,ri5,hr5⟩:=R5.rd;generalize hW:jm (b5 n) (jF tl5+1) 0 tl5=W at q;refine⟨fun m σ Hc=>∃(b:Bool)(y:.bL)(x:GT)(tlc:bE),σ=[some .e4,some (.int o),.ed,some (.ref a3),some (.bl b),y]/\ajj K ad n r l H a dx wl sl ll pl nm pn H5 W Hc b m x tlc,⟨tl5.length,true,none,.nil,tl5,rfl,X5,R5,hn5,B5,.Bd,fun _ h=>h,.aW,? _⟩,? _⟩;{rw[.aJ];refine⟨rfl,tl5.length+1,.o,? _⟩;rw[<-hW];show _=(jm (b5 n) (tl5.length+1) 0 tl5).map _;cases jm (b5 n) (tl5.length+1) 0 tl5<;>rfl};rintro m σ Hc⟨b,y0,x,tlc,rfl,L⟩;rw[1];refine fj (fun hb=>.gg) fun hb=>? _;{subst hb;rw[231];ktd_call vc [L.nb.obj,kQ,T.cZ,T.dX,hrc,uv,uw,qX];rw[232];unfold jm at eq;rw[285];refine⟨_,.inl (cM.of L.nb.ways),fj (fun h8=>⟨r,l,t,lI,rfl,L.rd,fun a2 Y7⟨d2,e2⟩Y8=>⟨a2,d2,_,_,_,rfl,e2,_,rfl,fj (fun ht=>? _) fun ht=>? _⟩⟩) fun h8=>? _⟩;{ktd_call vc [hrc,uw];rw[Dh (tl:=lI) Y8]at ht;rw[330]};all_goals(try ktd_call vc [hrc,qX]);(have hm:¬(mP (t::lI)=true/\Fj<=x.cU.length):=by first|exact fun z=>ht (by rw[Dh (tl:=lI) Y8];exact z.1)|exact .z0);rw[if_neg hm]at eq;refine⟨r,l,t::lI,rfl,L.rd,L.ne,? _⟩;cases hB:fQ (t::lI)with|error f=>rw[hB]at eq;rw[55];exact q.aI L.ext|ok y=>obtain⟨⟨lp,lb⟩,tl6⟩:=y;rw[hB]at eq;rw[36];have l6:=Gm.mo hB;(have k8:.sd:=by by_cases jc:.sd;{exact jc};{cases hN:mP (t::lI)with|true=>exact .EC|false=>rw[Gm.Kr hN]at hB;cases hB});obtain⟨ln1,ln2⟩:=Ok.pG L.zq.ok;intro H6 a6 pt6 x6 R6 hn6⟨d6,e6⟩ep6 en6 aue;simp only[]at ep6 en6 aue;rw[ep6,en6]at e6;have X6:=L.ext.trans x6;have B6:=L.nb.ext x6;have hll:ll≠l:=fP n3 hl;have tZ:pl≠l:=fP n4 hl;have M3:wl≠l:=fP n1 hl;ktd_call vc [B6.obj,uC,T.cZ,T.gQ,e6,pO,T.i7,T.f'];refine⟨.inl ⟨rfl,_,cM.of B6.nV⟩,_,B6.nV,by rw[aa,ln1,sizeLine_eq];omega,? _⟩;(have e7:L2.aN H6 ll (.bJ (.lV)) a6=some (.cH ad.j_ d6 (A8 (zN pt6.kind) .ht lp)):=by rw[ai (cv e6 B6.nV .aw)];exact e6);have B7:=B6.av5 (vs:=.lV);have R7:=R6.Jo (o:=.bJ (.lV)) B6.nV hll;have X7:mH [r] H (.tn):=X6.Jn n3;(have M7:CO H5 Hc (.tn):=fun b o e1 e2=>by rw[ai (fP e1 B5.nV)];exact x6.1 _ _ .mQ e2);have D7:∀b,L2.aN H6 ll (.bJ (.lV)) b=none->Hc b=none:=fun b e=>x6.2 b (by by_cases hb:b=ll;rw[61]);generalize .tn=H7 at*;ktd_call vc [B7.obj,HP,T.cZ,T.gf,e7,rV,T.i7,T.ju];refine⟨.inl ⟨rfl,_,cM.of B7.tT⟩,_,B7.tT,by rw[aa,ln2,sizeLine_eq];omega,? _⟩;have B8:=B7.av6 (vs:=.oY);have R8:=R7.Jo (o:=.bJ (.oY)) B7.tT tZ;have X8:mH [r] H (.tp):=X7.Jn n4;(have M8:CO H5 Hc (.tp):=fun b o e1 e2=>by rw[ai (fP e1 B5.tT)];exact M7 b o e1 e2);have D8:∀b,L2.aN H7 pl (.bJ (.oY)) b=none->Hc b=none:=fun b e=>D7 b (by by_cases hb:b=pl;rw[61]);generalize .tp=H8 at*;rw[170];refine ke (tt:=[58]) .bk Iz R8 hn6 ? _;show match bL 58 tl6 with|.ok lI=>_|.error f=>_;cases hh9:bL 58 tl6 with|error f=>rw[hh9]at eq;rw[55];exact q.aI X8|ok tl9=>rw[hh9]at eq;rw[36];have l9:=Gm.eJ hh9;rw[342];have M9:CO H5 Hc H9:=fun b o e1 e2=>x9.1 _ _ .mQ (M8 b o e1 e2);rw[343];obtain⟨rx9,ri9,hr9⟩:=R9.rd;ktd_call vc [B9.obj,kQ,T.cZ,T.dX];refine⟨.inl ⟨rfl,_,cM.of B9.ways⟩,r,l,tl9,o+1,rfl,.o,trivial,R9,hn9,? _⟩;cases hT:b5 n tl9 with|error f=>rw[hT]at eq;rw[55];exact q.aI X9|ok y=>obtain⟨t10,OB⟩:=y;rw[hT]at eq;rw[36];have l10:=Gm.rj n _ _ _ hT;intro Ec g x10 R10 amo G10;have X10:=X9.trans x10;have B10:=B9.ext x10;have R11:=R10.Jo (o:=.bJ (.dd)) B10.ways M3;have B11:=B10.aci (vs:=.dd);have X11:mH [r] H (L2.aN Ec wl (.bJ (.dd))):=X10.Jn n1;(have N11:CO H9 Ec (L2.aN Ec wl (.bJ (.dd))):=fun b o e1 e2=>by rw[ai (fP e1 B9.ways)];exact e2);(have M11:CO H5 Hc (L2.aN Ec wl (.bJ (.dd))):=fun b o e1 e2=>by rw[ai (fP e1 B5.ways)];exact x10.1 _ _ .mQ (M9 b o e1 e2));(have O11:CO H5 H9 (L2.aN Ec wl (.bJ (.dd))):=fun b o e1 e2=>by rw[ai (fP e1 B5.ways)];exact x10.1 _ _ .mQ e2);have D11:∀b,L2.aN Ec wl (.bJ (.dd)) b=none->Hc b=none:=fun b e=>D9 b (x10.2 b .G0);refine⟨_,B10.ways,.F8,? _⟩;generalize L2.aN Ec wl (.bJ (.dd))=H11 at*;rw[233];(have fin:∀(b:Bool)(oG:bE)(JL:Hp)(m':Nat),mH [r] H11 JL->jG ad JL r l oG->oG≠[]->(if b=true then m'=oG.length/\∃F,oG.length<F/\W=(jm (b5 n) F (.se) oG).map fun z=>(qj (.qc) z.1,z.2)else m'=0/\1<=x.cU.length/\W=.ok (.qc,oG))->∃x' lI,ajj K ad n r l H a dx wl sl ll pl nm pn H5 W JL b m' x' lI:=by intro b oG JL m' Mi Zj Hu heq;have N12:CO H9 Ec JL:=fun b o e1 e2=>Mi.1 _ _ (Dj (fP e1 hr9)) (N11 b o e1 e2);have M12:CO H5 Hc JL:=fun b o e1 e2=>Mi.1 _ _ .mQ (M11 b o e1 e2);(have er':(x.app (.mR)).er=.qc:=by rw[G_];show qj x.er (.branch lp lb g.er .nil)=_;rw[G10.er]);have ra:=Ok.L0 (y:=.mR) L.zq.ok;have G12:=Sq.snoc (y:=.mR) L.zq (G10.aI D9 N12) L.dom M12 ⟨aue,G10.ok,trivial⟩ (bM _) (fun _ _ h=>⟨h,trivial⟩);rw[<-G_]at G12;(have rl:(x.app (.mR)).cU.length=.se:=by rw[ra,ag];rfl);refine⟨x.app (.mR),oG,X11.trans Mi,Zj,Hu,? _,G12,.F9,.o,? _⟩;{have B12:=B11.ext Mi;rw[ra,Ok.Tt L.zq.ok,Ok.Qu L.zq.ok,aG,aG,aG];exact B12};rw[286]);by_cases hc:.ED;{rw[.dQ]at eq|-;cases CK:bL 44 OB with|error f=>rw[185]|ok oG=>rw[356];simp only[aw]at l6 hF;rw[287];cases jm (b5 n) F (x.cU.length+1) oG with|error f=>rfl|ok z=>show uZ (qj x.er (.branch lp lb t10 z.1),z.2)=uZ (qj (.qc) z.1,z.2);rw[Ji];rfl};rw[234]};{rw[288];have G:=L.zq.aI (H3:=Hc) (fun b h=>X5.2 b h) fun b o _ e=>e;refine q Hc (.station a pn nm x) L.ext L.rd L.ne ⟨fun u4 nw=>⟨? _,G.at_ u4 nw⟩,.cG,? _,⟨XT,L.zq.ok,hk2,L.j9⟩,rfl⟩;{exact NB.node (sas:=[]) L.nb fr nw (vx T u4) .nil};{rw[105];{exact⟨nx,by rw[L.nb.obj];rw[11]⟩};{exact G.fresh b hb}};{rw[344];rw[B5.obj]at this;cases this}}}
end
section
variable{P:Program}{w:World}{K:ae}{mg:Str->Option Value}{base:Heap}{ad:Ad}
theorem Nt(T:.U):Dn P w K mg base .bj "read_add" 39 .dj (DW K ad 0):=by rw[229];rw[64];rw[64]
theorem Kb(T:.U):Dn P w K mg base .bj "read_lots" 39 .dj (AJ K ad 0):=by rw[230];rw[64];rw[64]
theorem Du(T:.U):Dn P w K mg base .bj "read_station" 39 .dj (tV K ad 0):=by rw[235];rw[64];rw[64]
structure Zk(P:Program)(w:World)(K:ae)(mg:Str->Option Value)(base:Heap)(ad:Ad):Prop where
ay7:Dn P w K mg base dD "is_name" 1 ["token"] (yj ad)
Reader:Dc P w K mg base dD ad.bK "Reader" 1 ["self","tokens"] (IU ad)
take:Dm P w K mg base (j3 P w ad.bO) ad.bK "take" 4 ["self","text"] (yk ad)
YE:Dm P w K mg base (j3 P w ad.bO) ad.bK "take_name" 4 ["self"] (AK ad)
adp:Dm P w K mg base (j3 P w ad.bO) ad.bK "take_end" 4 ["self"] (Ma ad)
Yh:∀n,Dn P w K mg base (j3 P w ad.bO) "read_tree" (2*n+40) ["reader","outside"] (sC K ad n)
theorem EY(T:.U)(ht:.hq):Zk P w K mg base ad:=by have as2:=mF (P:=P) (w:=w) (base:=base) T;have ip:=LL T ht as2;have pC:=T5 (P:=P) (w:=w) (base:=base) T;have m6:=abo (P:=P) (w:=w) (base:=base) T;have xr:=X_ T m6;have yI:=T9 T xr;have C1:=ahg T m6 yI;have Eo:=Nw T m6 yI pC;have JZ:=HZ T m6 yI;have S7:=QJ T m6 yI;have K4:=T3 T m6 C1;have ZY:=HU (P:=P) (w:=w) (base:=base) T;have Ag:=Dt T m6 C1 JZ ip;have afr:=Kc T m6 Ag;have qy:=ah8 (P:=P) (w:=w) (base:=base) T;have FY:=Ke T qy Ag;refine⟨pC,XX T,C1,Eo,S7,fun n=>? _⟩;induction n with|zero=>exact BK T 0 m6 xr FY (Nt T) (Kb T) (Du T)|succ n ih=>exact BK T (n+1) m6 xr FY (QI T n qy C1 Ag ih) (Nu T n qy C1 m6 xr K4 ZY afr ih) (Fx T n qy C1 m6 xr Eo K4 pC ih)
def qf (l : bE) : Except gq (aK × eg) := do
  let l ← gv "chance" l
  let (t, l) ← fQ l
  let l ← gv "tell" l
  let (x, l) ← b5 oM l
  if b_ .halt_ l = false then VaprbBase.wrong l
  .ok (t.name, x)
def L_(K:ae)(ad:Ad):Sp:=fun vs H Q E=>∃(l:Addr)(ts:List Wm.PT)(tl:bE),vs=[.cA]/\O6 ad H l ts/\Wm.GB ts tl/\.eD/\Gm.Fin tl/\match qf tl with|.ok (nm,t)=>∀(H':Hp)(p:Addr)(g:GT),.aq->.bM->H' p=some (.fL .uK)->Gw nm->Sq K ad H H' g 0 t->.ej|.error f=>.qd
theorem vE(T:.U)(D:Zk P w K mg base ad):.Bf:=by have sc:a9 ["tokens","reader","title","tree"] ["tokens"] (aL o9):=.af;have ZW:=D.Reader;have cQ:=D.take;have kN:=D.YE;have Bl:=D.adp;have lR:=D.Yh 24;refine T.wW.JG .aO sc .ae .ag;{obtain⟨l,ts,tl,rfl,_⟩:=h;rfl};{obtain⟨l,ts,tl,rfl,⟨as,hl,hp⟩,rl,hn,hf,q⟩:=h;refine⟨_,(aj (bP (i:=1) sc.nd rfl .ai (jj ZW .I bQ .cb)) (aj .z2 (aj (bP (i:=2) sc.nd rfl .ai (aP (eG .ak T.cu kN .I .a8) rfl)) (aj .z2 (aj (bP (i:=3) sc.nd rfl .ai (bx lR .I .a8 (af .ak .gh))) (aj (dO (eG .ak T.cu Bl .I .a8)) (aD (ba (AA (af .ay .fV)))))))))),? _⟩;ktd_call vc [IU,ah,gJ];intro r dx nr nd ne;(have s0:aT H (.vV):=fun b o e=>by rw[ai (aq e nr),.nU];exact e);have R0:jG ad (.vV) r l tl:=⟨dx,as,ts,0,ah,s0 _ _ hl,Paired.pZ (fun c t h=>h.same s0) hp,rl,hf⟩;have Qm:aN (aN H dx (.own r)) r .oS r=some .oS:=ah;refine⟨kO,? _⟩;generalize .vV=H0 at*;have up:∀{H'},mH [r] H0 H'->.aq:=fun{H'}x b o e=>x.1 _ _ (Dj (aq e nr)) (s0 _ _ e);have bad:∀f,.qd->lO ad r E H0 f:=fun f h H' dx x e=>h H' dx (up x) e;unfold qf at q;simp only[bind,l8,gv]at q;refine ke (tt:=[99,104,97,110,99,101]) .bk Rg R0 hn ? _;cases h1:fA (.name (aH "chance")) tl with|error f=>rw[h1]at q;exact bad f q|ok WC=>rw[h1]at q;rw[20];intro H1 _ _ x1 R1 hn1 _ _;obtain⟨rx1,ri1,hr1⟩:=R1.rd;ktd_call vc [hr1,qX];refine⟨r,l,WC,rfl,R1,hn1,? _⟩;cases h2:fQ WC with|error f=>rw[h2]at q;exact(bad f q).aI x1|ok y=>obtain⟨⟨np,nm⟩,tl2⟩:=y;rw[h2]at q;rw[20];intro H2 a2 Y7 x2 R2 MZ⟨d2,e2⟩ep en XT;simp only[]at ep en XT;rw[ep,en]at e2;have X2:=x1.trans x2;obtain⟨rx2,ri2,hr2⟩:=R2.rd;ktd_call vc [hr2,kO,e2,pO,T.i7,T.f'];refine ke (tt:=[116,101,108,108]) .bk Yv R2 MZ ? _;cases h3:fA (.name (aH "tell")) tl2 with|error f=>rw[h3]at q;exact(bad f q).aI X2|ok OX=>rw[h3]at q;rw[184];refine⟨r,l,OX,0,rfl,.aW,trivial,R3,hn3,? _⟩;cases h4:b5 24 OX with|error f=>rw[show oM=24 from rfl,h4]at q;exact(bad f q).aI X3|ok y=>obtain⟨t,tl4⟩:=y;rw[show oM=24 from rfl,h4]at q;rw[20];intro H4 g x4 R4 hn4 G4;have X4:=X3.trans x4;obtain⟨rx4,ri4,hr4⟩:=R4.rd;ktd_call vc [hr4,Qt];refine⟨r,l,tl4,rfl,R4,hn4,? _⟩;cases h5:b_ .halt_ tl4 with|false=>rw[.dC];rw[h5,.aJ]at q;exact(bad _ q).aI X4|true=>rw[.aJ];rw[h5,.aE]at q;intro H5 a5 x5;have X5:=X4.trans x5;refine⟨.bg,.i7⟩;obtain⟨rx3,ri3,hr3⟩:=R3.rd;(have G5:Sq K ad H (aN H5 p (.fL .uK)) g 0 t:=G4.aI (fun b h=>s0.free (X3.2 b h)) fun b o e1 e2=>by have e3:=x5.1 _ _ .mP e2;rw[ai (aq e3 np)];exact e3);refine q _ p g (.cM) (s0.free (X5.2 p np)) ah XT G5;have:=up X5 b o e;rw[ai (aq this np)];rw[5]}
end
end Lc
namespace L2
open PySem PySem.Spec PyProof.Rows
theorem MQ{K:ae}{a:Addr}{xs:.aj}{g:TG}{tb:TS}{D:CN}{σ:St}{H:Hp}(Pv:.hX)(h0:Pv 0 σ H)(hl:.t6)(hs:∀i x σ H,xs.reverse[i]?=.bu->.fv->g x σ H .lC)(hd:.oC):∃W:.jz,.mv/\∀i m σ H,.k6->((.iN).stop i H/\.gs)\/((.iN).go i H/\∃N:.dM,.jA/\∀x H',(.iN).WH i H x H'->.jB):=by rw[182];{rw[289];refine .inr ⟨⟨jc,xs,_,q,hg⟩,.e2,.oD,.fj⟩;rw[108];refine hs i x σ H' ? _ p;rw[lJ jc];exact y xs q};{rw[79];exact .inl ⟨aF _,hd σ H p⟩}
theorem P5{K:ae}{a:Addr}{xs:.aj}{g:TG}{tb:TS}{D:CN}{σ:St}{H:Hp}(Pv:.hX)(h0:Pv 0 σ H)(hl:.t6)(hs:∀i x σ H T,.e8->.fv->.gA->g (.ref T) σ (aN H T .pS) .lC)(hd:.oC):∃W:.jz,.mv/\∀i m σ H,.k6->((Ite K a).stop i H/\.gs)\/((Ite K a).go i H/\∃N:.dM,.jA/\∀x H',(Ite K a).WH i H x H'->.jB):=by rw[182];{refine .inr ⟨.x8,.e2,.oD,.fj⟩;obtain⟨T,z,rfl,nT,rfl,y⟩:=y;exact hs i z σ H T (y xs q) p nT};{rw[79];exact .Ej}
theorem Vt{K:ae}{a b:Addr}{xs ys:.aj}{g:TG}{tb:TS}{D:CN}{σ:St}{H:Hp}(he:ys.length=xs.length)(Pv:.hX)(h0:Pv 0 σ H)(hl:∀i σ H,.iI->.fv->.bZ/\.oe)(hs:∀i x y σ H T,.e8->.r7->.fv->.gA->g (.ref T) σ (aN H T .ny) .lC)(hd:.oC):∃W:.jz,.mv/\∀i m σ H,.k6->((.hM).stop i H/\.gs)\/((.hM).go i H/\∃N:.dM,.jA/\∀x H',(.hM).WH i H x H'->.jB):=by rw[205];obtain⟨q1,q2⟩:=hl i σ H hi p;rw[82];{refine .inr ⟨.Bg,.e2,.oD,.fj⟩;obtain⟨T,z,u,rfl,nT,rfl,y1,y2⟩:=y;exact hs i z u σ H T (y1 xs q1) (y2 ys q2) p nT};{rw[79];exact .inl ⟨⟨xs,ys,q1,q2,.inl .aS⟩,hd σ H p⟩}
end L2
namespace Lc
open PySem PySem.Spec PyProof.Rows L2
namespace GT
def df:GT->.da|way t _ r=>t::r.df|branch _ _ t r=>t::r.df|_=>[]
def fe:GT->.da|plus _ _ t=>[t]|lot _ ws=>ws.df|station _ _ _ bs=>bs.df|_=>[]
def kind:GT->Str|worth _ _=>"worth"|plus _ _ _=>"add"|lot _ _=>"lots"|_=>"station"
def nQ:GT->Rat|worth _ f=>f|plus _ f _=>f|_=>0
def Rj:GT->.bG|lot _ ws=>ws.bq|_=>[]
def nm:GT->aK|station _ _ n _=>n|_=>[]
def pl:GT->Nat|station _ p _ _=>p|_=>0
def nV:GT->.bS|station _ _ _ bs=>bs.labels|_=>[]
def LC:GT->.ab|station _ _ _ bs=>bs.lplaces|_=>[]
end GT
theorem hX(g:GT):g.cU=g.df.map GT.bB:=by induction g with|way t w r _ ih=>rw[56]|branch p l t r _ ih=>rw[56]|_=>rfl
theorem Ok.df{k:Nat}{g:GT}(h:g.Ok .bb):∀t∈g.df,t.Ok 0:=by induction g with|way t w r _ ih=>(cases k with|zero=>rw[191];{exact ih .aZ u hu}|succ k=>rw[0])|branch p l t r _ ih=>(match k,h with|1,h=>intro u hu;rw[19];{exact .aI};{exact ih h.2.2 u hu})|nil=>rw[41]|worth a f=>rw[0]|plus a f t _=>rw[0]|lot a ws _=>rw[0]|station a p n bs _=>rw[0]
theorem Pc{K:ae}{ad:Ad}{H:Hp}{n:jd}{g:GT}(h:.bo):∀t∈g.df,.hs:=by induction g with|way t w r _ ih=>rw[191];{exact ih h.2 u hu}|branch p l t r _ ih=>rw[191];{exact ih h.2 u hu}|_=>rw[41]
theorem Ok.EV{k:Nat}{g:GT}(h:g.Ok .bb):g.bN=g.df.flatMap GT.bN:=by induction g with|way t w r _ ih=>(cases k with|zero=>show _++_=_;rw[ih .aZ];rfl|succ k=>rw[0])|branch p l t r _ ih=>(match k,h with|1,h=>show _++_=_;rw[.gD];rfl)|nil=>rfl|worth a f=>rw[0]|plus a f t _=>rw[0]|lot a ws _=>rw[0]|station a p n bs _=>rw[0]
theorem Ok.fe{g:GT}(h:.aY):∀t∈g.fe,t.Ok 0:=by cases g with|worth a f=>rw[41]|plus a f t=>intro u hu;rw[aA.mp hu];exact h.2|lot a ws=>exact Ok.df h.1|station a p n bs=>exact Ok.df .aI|_=>rw[0]
theorem Ok.bN{g:GT}(h:.aY):g.bN=g.bB::.yv:=by cases g with|worth a f=>rfl|plus a f t=>show _::_=_::([t].flatMap GT.bN);simp[GT.bB]|lot a ws=>show _::_=_::_;rw[Ok.EV h.1];rfl|station a p n bs=>show _::_=_::_;rw[Ok.EV .aI];rfl|_=>rw[0]
theorem Ok.iN{K:ae}{ad:Ad}{H:Hp}{n:jd}{g:GT}(h:.aY)(t:.bo):m9 K ad H n g.bB g.kind (g.fe.map GT.bB) g.nQ g.Rj g.nm g.pl g.nV g.LC/\∀t∈g.fe,.hs:=by cases g with|worth a f=>exact⟨t,fun u hu=>by cases hu⟩|plus a f t'=>refine⟨t.1,fun u hu=>? _⟩;rw[aA.mp hu];exact t.2|lot a ws=>have t1:=t.1;rw[hX]at t1;exact⟨t1,Pc t.2⟩|station a p x bs=>have t1:=t.1;rw[hX]at t1;exact⟨t1,Pc t.2⟩|_=>rw[0]
theorem CO.node{K:ae}{ad:Ad}{H H':Hp}(s:.aq):∀{n:jd}{a:Addr}{kind:Str}{ways:.ao}{nQ:Rat}{bq:.bG}{name:aK}{place:Nat}{labels:.bS}{lplaces:.ab},m9 K ad H n a kind ways nQ bq name place labels lplaces->m9 K ad H' n a kind ways nQ bq name place labels lplaces:=by rintro n a kind ways nQ bq name place labels lplaces⟨dx,wl,am,sl,ll,pl,sas,h⟩;exact⟨dx,wl,am,sl,ll,pl,sas,⟨s _ _ h.obj,s _ _ h.ways,s.fL h.nQ,s _ _ h.AG,Paired.pZ (fun _ _ h=>s.fL h) h.Rj,s _ _ h.nV,s _ _ h.tT⟩⟩
theorem bF.same{K:ae}{ad:Ad}{H H':Hp}{n:jd}(s:.aq):.Ga|.worth _ _,h=>CO.node s h|.plus _ _ _,h=>.uL|.lot _ _,h=>.uL|.station _ _ _ _,h=>.uL|.nil,_=>trivial|.way _ _ _,h=>.Gb|.branch _ _ _ _,h=>.Gb
section
variable{P:Program}{w:World}{K:ae}{mg:Str->Option Value}{base:Heap}{ad:Ad}
def dy(l:.da):.ao:=l.flatMap GT.bN
theorem XU{g:GT}(h:.aY):1<=g.bN.length:=by rw[Ok.bN h];simp
theorem mj:∀{l:.da},(∀t∈l,t.Ok 0)->l.length<=(dy l).length|[],_=>aF _|t::l,h=>by have h1:=XU (h t .aK);have h2:=mj .xf;unfold dy at*;rw[cK,ag,aw];omega
def DS(K:ae)(ad:Ad):Sp:=fun vs H Q _=>∃(n:jd)(g:GT),.iS/\.aY/\.bo/\.iT/\∀(H':Hp)(p:Addr),.aq->.bM->H' p=some (.bJ (g.bN.map V.ref))->.ej
theorem Ds(T:.U):.tq:=by have sc:a9 ["tree","found","waiting","first","way"] .bT (aL v9):=.af;refine T.FH.dn .aO sc .ae .ag;rw[80];{obtain⟨n,g,rfl,hk,hT,hg,q⟩:=h;refine⟨_,(aj .oZ (aj (bP (i:=2) sc.nd rfl .ai (eU .cb)) (aj (lW PassesOwn.never (cb xW .vW bH .aB) (aj .Dp (aj .Gc (aD (j5 PassesOwn.never rfl (tf rfl T.px (af .cm ao)) .jQ (aD .uE)))))) .fT))),? _⟩;rw[1];rw[236];refine⟨fun m σ Hc=>∃(done:.ao)(pend:.da)(y3 y4:.bL),m=(dy pend).length/\σ=[.iU,.nD,.nE,y3,y4]/\aT H Hc/\Hc fp=.vX/\Hc wp=some (.bJ (.ie))/\done++dy pend=g.bN/\∀t∈pend,t.Ok 0/\.hs,⟨_,[],[g],none,none,rfl,rfl,? _,? _,ah,? _,? _⟩,? _⟩;rw[290];{simp[dy]};{intro t ht;rw[aA.mp ht];exact⟨hk,hT⟩};rintro m σ Hc⟨done,pend,y3,y4,rfl,rfl,sm,Qc,F6,MX,Sk⟩;rw[1];refine⟨_,.inl (cM.of F6),fj (fun h1=>.gg) .ey⟩;{cases pend with|nil=>simp at h1|cons t pend=>obtain⟨tok,tat⟩:=Sk t .aK;rw[237];(have hl2:done.length+(dy (t::pend)).length<=8192:=by rw[<-ag,MX];exact hg);rw[238];refine⟨.vY,_,Qi,.vZ,_,hf1,.e9,? _⟩;(have sm1:aT H (aN (aN Hc wp .e5) fp .jR):=fun b o e=>by rw[.sf,.kV];exact sm _ _ e);have hf2:aN (aN Hc wp .e5) fp .jR fp=some .jR:=ah;(have hw2:aN (aN Hc wp .e5) fp .jR wp=some .e5:=by rw[ai OS,ah]);generalize aN (aN Hc wp .e5) fp .jR=H2 at*;(have M3:wl≠wp:=by rw[2];rw[N.ways]at Y6;cases Y6);(have hk1:=mj (l:=t.fe++pend) fun u hu=>by rw[47];{exact Ok.fe tok u hu};{exact(.sg).1});rw[hn,aw]at hl2;rw[ag]at hk1;refine⟨_,rfl,_,_,_,_,_,rfl,sm1 _ _ N.obj,T.cZ,T.dX,kQ,wl,.jS,rfl,cM.of (sm1 _ _ N.ways),MQ (K:=K) (a:=wl) (xs:=.jS) (fun i σ H'=>(∃y,σ=[.iU,.nD,.nE,some (.ref t.bB),y])/\.aq/\H' fp=some .jR/\H' wp=some (.bJ (.ie++(.jS).reverse.take i))) ⟨⟨y4,rfl⟩,sm1,hf2,by rw[hw2,kD,bM]⟩ (fun i σ H' _ h=>cM.of (h.2.1 _ _ N.ways)) .kx .cv⟩;{obtain⟨⟨y,rfl⟩,s2,f2,w2⟩:=h;(have hi:i<(.jS).reverse.length:=by rcases hZ i ((t.fe.map GT.bB).map V.ref).reverse.length with z|z;{exact z};{rw[eO z]at hx;cases hx});simp only[cj,aa]at hi;ktd_call vc [w2];refine⟨.inl ⟨rfl,_,cM.of w2⟩,? _,.aU,? _,? _,? _⟩;{rw[ag,cj,aa,be,cj,aa,aa,sizeLine_eq];omega};{exact fun b o e=>by rw[.kV];exact s2 _ _ e};{rw[ai (cW OS)];exact f2};{rw[ah,a8,hx,eC];rfl}};{obtain⟨⟨y,rfl⟩,s2,f2,w2⟩:=h;refine⟨(dy (t.fe++pend)).length,by rw[hn,aw];omega,done++[t.bB],t.fe++pend,rfl,_,_,rfl,s2,by rw[aG];exact f2,? _,? _,fun u hu=>? _⟩;{rw[w2,k_ .aC,aG,rK,aQ];rfl};{rw[eC,<-MX,hn];rfl};{rw[47];{exact⟨Ok.fe tok u hu,tw u hu⟩};{exact .sg}}}};{rw[144];rw[dy,vW,bM]at MX;rw[MX]at Qc;exact q Hc fp sm nf0 Qc}}
end
section
variable{P:Program}{w:World}{K:ae}{mg:Str->Option Value}{base:Heap}{ad:Ad}
def SG(name:Str)(ll:Addr)(places:Int):.a7:=[("name",.str name),("labels",.ref ll),("places",.int places)]
theorem Wl{name:Str}{ll:Addr}{p:Int}:(SG name ll p).lookup ("name":Str)=some (.str name):=rfl
theorem pI{name:Str}{ll:Addr}{p:Int}:(SG name ll p).lookup ("labels":Str)=some (.ref ll):=rfl
theorem DL{name:Str}{ll:Addr}{p:Int}:(SG name ll p).lookup ("places":Str)=.r9:=rfl
def DX(ad:Ad):Sp:=fun vs H Q _=>∃(p dx:Addr)(name:Str)(ll:Addr),vs=[.bO,.str name,.ref ll]/\H p=some (.cH ad.gi dx [])/\Q .jD (aN H p (.cH ad.gi dx (SG name ll 0)))
theorem TV(T:.U):.Bh:=by have sc:a9 .v3 .v3 (aL xR):=.af;refine T.Yk.dc .lW sc .ae .ag;{obtain⟨p,dx,name,ll,rfl,_⟩:=h;rfl};{obtain⟨p,dx,name,ll,rfl,hp,q⟩:=h;refine⟨_,(aj .h8 (aj (dW .au .ay rfl) (aD .fc))),? _⟩;ktd_call vc [hp,ah,gJ,T.jV,T.r_,T.gG,T.ml];exact⟨.aW,.gQ,.gR,q⟩}
def Bz:.bS->List (aK×Nat)->Except gq Unit|_,[]=>.ok ()|before,(l,p)::r=>if .xg then .error ⟨5,p⟩else Bz (before++[l]) r
theorem VS:∀{x:GT},x.Ok 2->∀before,AW before x.er=Bz before (x.labels.zip x.lplaces)|.nil,_,_=>rfl|.branch p l t r,h,before=>by show(if .xg then _ else AW (before++[l]) r.er)=(if .xg then _ else Bz (before++[l]) (r.labels.zip r.lplaces));rw[VS h.2.2]|.worth _ _,h,_=>h.elim|.plus _ _ _,h,_=>h.elim|.lot _ _,h,_=>h.elim|.station _ _ _ _,h,_=>h.elim|.way _ _ _,h,_=>h.elim
def Wv(K:ae)(ad:Ad):Sp:=fun vs H Q E=>∃(n:jd)(a:Addr)(kind:Str)(ways:.ao)(nQ:Rat)(bq:.bG)(nm:aK)(pl:Nat)(labels:.bS)(LC:.ab),.gd/\.Dq/\LC.length=labels.length/\labels.length<=8/\match Bz [] (.hu)with|.ok _=>∀H',.aq->Q .jD H'|.error f=>.qd
theorem wV(T:.U):.Bi:=by have sc:a9 ["tree","earlier","label","place"] .bT (aL pW):=.af;refine T.yf.JG .aO sc .ae .ag;{obtain⟨n,a,kind,ways,nQ,bq,nm,pl,labels,LC,rfl,_⟩:=h;rfl};{obtain⟨n,a,kind,ways,nQ,bq,nm,pl,labels,LC,rfl,⟨dx,wl,am,sl,ll,plA,sas,N⟩,hlen,h8,q⟩:=h;refine⟨_,(aj (bP (i:=1) sc.nd rfl .ai sv) (aD (j5 PassesOwn.leaving rfl (Ig rfl T.Pe (af .aG .cw)) (.o1) (aj (dG (tU (ao2 .b4 .ay .ak)) (aD (mX T.XC T.XI bU rfl hr rfl T.oh (af (dI T.J3) .fV))) bZ) (aD (tq .b4 .ak .ay wo rfl)))))),? _⟩;ktd_call vc [UB];intro d nd;have s1:aT H (aN H d .cX):=aT.aN nd;refine⟨_,rfl,_,_,_,_,_,rfl,s1 _ _ N.obj,T.cZ,T.gQ,uC,_,rfl,_,_,_,_,_,rfl,s1 _ _ N.obj,T.cZ,T.gf,HP,ll,plA,_,_,rfl,cM.of (s1 _ _ N.nV),cM.of (s1 _ _ N.tT),Vt (K:=K) (a:=ll) (b:=plA) (by rw[aa,aa,hlen]) (fun i σ H'=>(∃y z,σ=[.ed,some .dZ,y,z])/\.aq/\H' d=some (.dK .o2)/\Bz [] (.hu)=Bz (.iV) ((.hu).drop i)) ⟨⟨none,none,rfl⟩,s1,ah,rfl⟩ (fun i σ H' _ h=>⟨cM.of (h.2.1 _ _ N.nV),cM.of (h.2.1 _ _ N.tT)⟩) (fun i x y σ H' TT hx hy h nT=>? _) .cv⟩;{obtain⟨⟨y1,z1,rfl⟩,s2,hd,eq⟩:=h;rw[aS]at hx hy;cases Fu:labels[i]? with|none=>rw[87]|some lb=>cases Sl:LC[i]? with|none=>rw[88]|some lp=>rw[145];rw[25];ktd_call vc [jS,wO,avs,Iq,tX];(have F3:aN H' TT .EE d=some (.dK .o2):=by rw[ai (aq hd nT)];exact hd);have s3:aT H (aN H' TT .EE):=.Bj;(have hz:(.hu).drop i=(lb,lp)::(.hu).drop .aH:=by(have:(.hu)[i]?=some (lb,lp):=by rw[iy];exact⟨Fu,Sl⟩);obtain⟨jc,e⟩:=ay.mp this;rw[fz jc,e]);rw[hz]at eq;(have hi:i<labels.length:=by rcases hZ i labels.length with z|z;{exact z};{rw[eO z]at Fu;cases Fu});(have hv:(j6 .o2 (lq .ht)).isSome=(.iV).contains lb:=by rw[<-uV,ape,fG,List.any_eq_true,List.contains_iff_mem];rw[12];{rintro⟨b,hb,e⟩;have e:(lq (.fz):gx)=lq .ht:=.qW;have e2:=oH.mp (ajm e);rw[<-Gm.mU e2];exact hb};{exact fun hb=>⟨lb,hb,.aN⟩});refine⟨_,pf.k (k:=.inr .ht) F3,? _⟩;rw[hv];have eq':Bz (.iV) ((lb,lp)::(.hu).drop .aH)=if(.iV).contains lb=true then .error ⟨5,lp⟩else Bz (.iV++[lb]) ((.hu).drop .aH):=rfl;rw[eq']at eq;refine fj (fun hc=>? _) fun hc=>? _;{rw[.dQ]at eq;rw[eq]at q;intro OQ nx2;exact .Gd};{rw[.fq]at eq;(have nv:j6 .o2 (lq .ht)=none:=by cases hvv:j6 ((labels.take i).map fun b=>((lq (tx (cd b)):gx),V.bl true)) (lq (tx (cd lb)))with|none=>rfl|some v=>rw[hvv]at hv;rw[<-hv]at hc;exact absurd rfl hc);(have tk:labels.take .aH=.iV++[lb]:=by rw[a8,Fu];rfl);refine⟨_,Gq.k (k:=.inr .ht) F3 (.gY),.aU,? _,? _,? _⟩;{exact fun b o e=>by rw[.nU];exact s3 _ _ e};{rw[ah,acj _ nv,tk,aG];rfl};{rw[eq,tk]}}};{obtain⟨⟨y1,z1,rfl⟩,s2,hd,eq⟩:=h;rw[aa,List.drop_of_length_le (by rw[nH,hlen];simp)]at eq;rw[eq]at q;exact q H' s2}}
end
section
variable{P:Program}{w:World}{K:ae}{mg:Str->Option Value}{base:Heap}{ad:Ad}
def Zl(ad:Ad)(H:Hp)(a:Addr)(s:aM)(c:Nat):Prop:=∃dx ll,H a=some (.cH ad.gi dx (SG (tx (cd s.name)) ll c))/\H ll=some (.bJ (.uM))
def dS(l:.bS):PyData:=.list (l.map fun b=>.str (.fz))
theorem MJ(K:ae)(H:Hp):∀l:.bS,Gr K H (l.map .mO) .lX|[]=>.nil|b::l=>.cons (.str _) (MJ K H l)
theorem PN:∀l m:.bS,PyData.eqvAll .lX (m.map fun b=>PyData.str (.fz))=decide (l=m)|[],[]=>rfl|[],_::_=>rfl|_::_,[]=>rfl|x::l,y::m=>by show((tx (cd x)==tx (cd y))&&PyData.eqvAll _ _)=_;rw[PN l m,fG];simp only[dQ,beq_iff_eq,decide_eq_true_eq,iX,oH];exact and_congr_left fun _=>⟨fun h=>Gm.mU h,fun h=>by rw[h]⟩
theorem am6(l m:.bS):PyData.eqv (dS l) (dS m)=decide (l=m):=PN l m
theorem aox(b:aK):.Dr=true:=by rw[<-Array.all_toList,qJ,iO];intro c hc;obtain⟨x,_,rfl⟩:=aX.mp hc;have:x.toNat<256:=x.toNat_lt;exact decide_eq_true .C
theorem BA:∀l:.bS,PyData.canLayAll0 .lX=true/\PyData.depthAll .lX=0|[]=>.ea|b::l=>⟨by show(.Dr&&PyData.canLayAll0 .lX)=true;rw[(BA l).1,aox];rfl,by show max 0 _=0;rw[(BA l).2];rfl⟩
theorem L5(l:.bS):SeqAt.shaped (dS l)=true:=by show(PyData.canLayAll0 _&&decide (PyData.depthAll _+1<=64))=true;rw[(BA l).1,(BA l).2];rfl
def HS(ss:.aL)(n:aK)(labels:.bS)(p:Nat):Except gq Nat:=match ss.findIdx? fun s=>s.name==n with|some i=>if(ss[i]?.map fun s=>s.labels)=some labels then .ok i else .error ⟨14,p⟩|none=>if 12<=ss.length then .error ⟨15,p⟩else .ok ss.length
def IQ(K:ae)(ad:Ad):Sp:=fun vs H Q E=>∃(n:jd)(a:Addr)(kind:Str)(ways:.ao)(nQ:Rat)(bq:.bG)(nm:aK)(pl:Nat)(labels:.bS)(LC:.ab)(SL:Addr)(as:.ao)(ss:List (aM×Nat)),vs=[.b2,.ref SL]/\.Dq/\labels.length<=8/\H SL=.di/\Paired (fun b s=>Zl ad H b s.1 s.2) as ss/\.sh/\match HS (.lg) nm labels pl with|.ok i=>∀H',.aq->Q (.bp) H'|.error f=>.qd
theorem Nq(T:.U):.Bk:=by have sc:a9 ["tree","stations","number","station"] ["tree","stations"] (aL EA):=.af;refine T.Q8.JG .aM sc .ae .ag;{obtain⟨n,a,kind,ways,nQ,bq,nm,pl,labels,LC,SL,as,ss,rfl,_⟩:=h;rfl};{obtain⟨n,a,kind,ways,nQ,bq,nm,pl,labels,LC,SL,as,ss,rfl,⟨dx,wl,am,sl,ll,plA,sas,N⟩,h8,hS,hP,CK,q⟩:=h;refine⟨_,(aj (j5 PassesOwn.leaving rfl (Wa rfl T.Ei .a9) (.o1) (aD (dG (cb gH .cm .aG .aB) (aj (dG (cb (anz hr.units) .cm .aG .aB) (aD (mX T.XC T.XI bU rfl hr rfl T.oh (af (dI T.Hn) .cw))) bZ) .fb) bZ))) (aj (dG (cb gH .jT (dI T.Fo) .aB) (aD (mX T.XC T.XI bU rfl hr rfl T.oh (af (dI T.zo) .cw))) bZ) (aD (ba .jT)))),? _⟩;rw[115];unfold HS at q;refine⟨_,rfl,SL,.cE,rfl,cM.of hS,P5 (K:=K) (a:=SL) (xs:=.cE) (fun i σ H'=>(∃y z,σ=[.ed,.nF,y,z])/\.aq/\∀j s,j<i->(.lg)[j]?=some s->s.name≠nm) ⟨⟨none,none,rfl⟩,aT.refl H,fun j s hj=>.o⟩ (fun i σ H' _ h=>cM.of (h.2.1 _ _ hS)) (fun i x σ H' TT hx h nT=>? _) .cv⟩;{obtain⟨⟨y1,z1,rfl⟩,s2,inv⟩:=h;rw[aS]at hx;cases Fu:as[i]? with|none=>rw[87]|some sa=>rw[Fu]at hx;obtain rfl:=aB hx;obtain⟨⟨st,ct⟩,hs,dxs,lls,e1,e2⟩:=Paired.uj hP Fu;(have Xy:(.lg)[i]?=some st:=by rw[aS,hs];rfl);have s3:aT H (.EF):=.Bj;rw[25];generalize .EF=H3 at*;ktd_call vc [jS,wO,tX,s3 _ _ e1,Wl,pI,T.jV,T.r_,T.gG,s3 _ _ N.obj,Nh,uC,HQ,T.cZ,T.jY,T.gQ,T.jq,oH];refine fj (.ey) fun h1=>⟨.aU,s3,fun j t hj ht=>? _⟩;{rw[6];have h1:st.name=nm:=Gm.mU h1;(have agc:(.lg).findIdx? .ih=some i:=by rw[List.findIdx?_eq_some_iff_getElem];have jc:i<(.lg).length:=(ay.mp Xy).1;refine⟨jc,? _,fun j hj=>? _⟩;{rw[(ay.mp Xy).2];exact beq_iff_eq.mpr h1};{rw[vU];exact beq_eq_false_iff_ne.mpr (inv j _ hj (aV .C))});rw[agc]at q;simp only[Xy,je,dj]at q;refine⟨dS st.labels,dS labels,.bJ (cM.of (s3 _ _ e2)) (MJ K _ _),.bJ (cM.of (s3 _ _ N.nV)) (MJ K _ _),L5 _,L5 _,_,rfl,? _⟩;rw[am6];by_cases hl:st.labels=labels;{rw[if_pos hl]at q;rw[if_neg (by rw[decide_eq_true hl];decide)];exact q H3 s3};{rw[if_neg hl]at q;rw[if_pos (by rw[decide_eq_false hl];rfl)];ktd_call vc [s3 _ _ N.obj,HQ,T.cZ,T.jq];intro OQ nx2;exact .Gd}};{rw[6];rcases hZ j i with z|z;{exact inv j t z ht};{obtain rfl:j=i:=.o;rw[Xy]at ht;obtain rfl:=aB ht;exact fun e=>h1 (by rw[e])}}};{obtain⟨⟨y1,z1,rfl⟩,s2,inv⟩:=h;(have EJ:(.lg).findIdx? .ih=none:=by rw[Ml];intro s hs;obtain⟨j,hj⟩:=fu hs;(have jc:j<(.cE).length:=by have:=(ay.mp hj).1;rw[aa]at this|-;omega);exact beq_eq_false_iff_ne.mpr (inv j s jc hj));rw[EJ]at q;simp only[aa]at q;ktd_call vc [tX,s2 _ _ N.obj,HQ,T.cZ,T.jq];refine .EG;rw[aa,zj];refine fj (.ey) fun h1=>.EG;{rw[6];rw[.ml]at q;intro OQ nx2;exact q _ OQ (s2.trans (aT.aN nx2)) ah};{rw[6];rw[.cf]at q;rw[aa,zj];exact q H' s2}}}
end
namespace GT
def iD:GT->.da|worth a f=>[worth a f]|plus a f t=>plus a f t::t.iD|lot a ws=>lot a ws::ws.iD|station a p n bs=>station a p n bs::bs.iD|nil=>[]|way t _ r=>t.iD++r.iD|branch _ _ t r=>t.iD++r.iD
end GT
theorem ni(g:GT):g.bN=g.iD.map GT.bB:=by induction g with|worth a f=>rfl|plus a f t ih=>rw[56];rfl|lot a t ih=>rw[56];rfl|station a p n t ih=>rw[56];rfl|nil=>rfl|way t w r M4 M5=>show _++_=UR GT.bB (_++_);rw[M4,M5,aG]|branch p l t r M4 M5=>show _++_=UR GT.bB (_++_);rw[M4,M5,aG]
theorem Ca{g:GT}:∀{k:Nat},g.Ok k->∀t∈g.iD,t.Ok 0:=by induction g with|worth a f=>(intro k h t ht;cases k with|zero=>rw[aA.mp ht];exact h|succ k=>rw[0])|plus a f t ih=>(intro k h u hu;cases k with|zero=>rw[19];rw[116]|succ k=>rw[0])|lot a t ih=>(intro k h u hu;cases k with|zero=>rw[19];{exact h};{exact ih h.1 u hu}|succ k=>rw[0])|station a p n t ih=>(intro k h u hu;cases k with|zero=>rw[19];{exact h};{exact ih .aI u hu}|succ k=>rw[0])|nil=>intro k h u hu;cases hu|way t w r M4 M5=>(intro k h u hu;match k,h with|1,h=>rw[47];{exact M4 h.1 u hu};{exact M5 .aZ u hu})|branch p l t r M4 M5=>intro k h u hu;match k,h with|2,h=>rw[47];{exact M4 .aI u hu};{exact M5 h.2.2 u hu}
theorem Og{K:ae}{ad:Ad}{H:Hp}{n:jd}{g:GT}:.bo->∀t∈g.iD,.hs:=by induction g with|worth a f=>intro h t ht;rw[aA.mp ht];exact h|plus a f t ih=>intro h u hu;rw[19];rw[116]|lot a t ih=>intro h u hu;rw[19];rw[116]|station a p n t ih=>intro h u hu;rw[19];rw[116]|nil=>intro h u hu;cases hu|way t w r M4 M5=>rw[345]|branch p l t r M4 M5=>rw[345]
def my(ss:.aL):GT->Except gq (.aL)|.station _ p n bs=>do Bz [] (bs.labels.zip bs.lplaces);let i<-HS ss n bs.labels p;.ok (if i=ss.length then ss++[⟨n,bs.labels⟩]else ss)|_=>.ok ss
theorem K_{x:GT}:x.er.labels=x.labels:=by induction x with|branch p l t r _ ih=>rw[56]|_=>rfl
theorem xC{α:Type}(p:α->Bool):∀l:.aT,(match l.findIdx? p with|some i=>∃s,l[i]?=some s/\l.find? p=some s/\i<l.length|none=>l.find? p=none)|[]=>rfl|x::l=>by have ih:=xC p l;rw[YV,gC];cases hp:p x with|true=>exact⟨x,rfl,rfl,.aN⟩|false=>simp only[bV,if_false];cases hi:l.findIdx? p with|none=>rw[hi]at ih;exact ih|some i=>rw[hi]at ih;obtain⟨s,h1,h2,h3⟩:=ih;exact⟨s,h1,h2,.iG⟩
theorem qI{g:GT}:∀{k:Nat}(ss:.aL),g.Ok k->eh ss g.er=g.iD.foldlM my ss:=by induction g with|worth a f=>intro k ss h;rfl|plus a f t ih=>(intro k ss h;cases k with|zero=>exact ih ss h.2|succ k=>rw[0])|lot a t ih=>(intro k ss h;cases k with|zero=>exact ih ss h.1|succ k=>rw[0])|station a p n bs ih=>(intro k ss h;cases k with|succ k=>rw[0]|zero=>show(do AW [] bs.er;match ss.find? fun s=>s.name==n with|some s=>_|none=>_)=(my ss (.station a p n bs)>>=fun s=>bs.iD.foldlM my s);rw[VS .aI];show _=((do Bz [] (bs.labels.zip bs.lplaces);let i<-HS ss n bs.labels p;uZ (if i=ss.length then ss++[⟨n,bs.labels⟩]else ss))>>=fun s=>bs.iD.foldlM my s);cases Bz [] (bs.labels.zip bs.lplaces)with|error f=>rfl|ok u=>simp only[bind,l8];have fi:=xC (fun s:aM=>s.name==n) ss;unfold HS;cases hi:ss.findIdx? fun s=>s.name==n with|none=>rw[hi]at fi;simp only[]at fi;rw[fi];simp only[K_,Vaprbo.STATIONS];by_cases CK:12<=ss.length;{rw[if_pos CK,if_pos CK]};{rw[if_neg CK,if_neg CK];simp only[if_true];exact ih _ .aI}|some i=>rw[hi]at fi;obtain⟨s,h1,h2,h3⟩:=fi;rw[h2];simp only[K_,h1,je,dj];by_cases hl:s.labels=bs.labels;{rw[if_pos hl,if_pos hl];simp only[];rw[.cf];exact ih _ .aI};{rw[if_neg hl,if_neg hl]})|nil=>intro k ss h;rfl|way t w r M4 M5=>(intro k ss h;match k,h with|1,h=>show .Bl;rw[sO,M4 ss h.1];congr 1;funext us;exact M5 us .aZ)|branch p l t r M4 M5=>intro k ss h;match k,h with|2,h=>show .Bl;rw[sO,M4 ss .aI];congr 1;funext us;exact M5 us h.2.2
def times(n:aK)(l:.da):Nat:=(l.filter fun t=>match t with|.station _ _ m _=>decide (m=n)|_=>false).length
theorem oE(n:aK)(l m:.da):times n (l++m)=times n l+times n m:=by unfold times;rw[Cw,ag]
theorem Oe(n:aK)(g:GT):dF n g.er=times n g.iD:=by induction g with|worth a f=>rfl|plus a f t ih=>exact ih|lot a t ih=>exact ih|station a p m t ih=>show(if m=n then 1 else 0)+dF n t.er=times n ([.station a p m t]++t.iD);rw[oE,ih];congr 1;unfold times;by_cases h:m=n;rw[331]|nil=>rfl|way t w r M4 M5=>show dF n t.er+dF n r.er=times n (t.iD++r.iD);rw[M4,M5,oE]|branch p l t r M4 M5=>show dF n t.er+dF n r.er=times n (t.iD++r.iD);rw[M4,M5,oE]
def jd.lB(n:jd)(a:Addr)(k:Int):jd:={n with st:=fun b=>if b=a then k else n.st b}
theorem m9.lB{K:ae}{ad:Ad}{H:Hp}{n:jd}{a dx:Addr}{fs:.a7}{k:Int}(ha:.jU):∀{b:Addr}{kind:Str}{ways:.ao}{nQ:Rat}{bq:.bG}{name:aK}{place:Nat}{labels:.bS}{lplaces:.ab},.tr->m9 K ad .o3 (n.lB a k) b kind ways nQ bq name place labels lplaces:=by rw[239];(have tp:∀{c q},gO K H c q->gO K .o3 c q:=fun{c q}e=>by rcases e with(e|⟨o,e⟩)|e;{exact .inl (.inl (.EH))};{exact .inl (.inr ⟨o,.EH⟩)};{exact .inr e});refine⟨GY,wl,am,sl,ll,pl,sas,⟨? _,.xe,tp h.nQ,.ys,Paired.pZ (fun _ _ e=>tp e) h.Rj,.yt,.yu⟩⟩;by_cases hb:b=a;{rw[291];rw[ah,Ie];simp only[jd.lB,if_true]};{rw[ai hb];simp only[jd.lB,if_neg hb];exact h.obj}
theorem bF.lB{K:ae}{ad:Ad}{H:Hp}{n:jd}{a dx:Addr}{fs:.a7}{k:Int}(ha:.jU):∀{g:GT},.bo->bF K ad .o3 (n.lB a k) g|.worth _ _,h=>m9.lB ha h|.plus _ _ _,h=>.uN|.lot _ _,h=>.uN|.station _ _ _ _,h=>.uN|.nil,_=>trivial|.way _ _ _,h=>.Ge|.branch _ _ _ _,h=>.Ge
section
variable{P:Program}{w:World}{K:ae}{mg:Str->Option Value}{base:Heap}{ad:Ad}
def kK(K:ae)(ad:Ad)(Hd:.hG)(H:Hp)(n:jd)(g:GT):Prop:=∀u4,(∀b o,Hd b->.hS->u4 b=.ah)->bF K ad u4 n g
theorem kK.now{Hd:.hG}{H:Hp}{n:jd}{g:GT}(h:.ky):.bo:=h H fun _ _ _ e=>e
theorem kK.Dq{Hd:.hG}{H H':Hp}{n:jd}{g:GT}(h:.ky)(s:∀b o,Hd b->.fR):kK K ad Hd H' n g:=fun u4 s'=>h u4 fun b o d e=>s' b o d (s b o d e)
theorem RP{H:Hp}{a:Addr}{o:HO}(h:H a=.ah):aN H a o=H:=by funext b;by_cases hb:b=a;{subst hb;rw[ah,h]};{rw[ai hb]}
theorem kK.lB{Hd:.hG}{H:Hp}{n:jd}{g:GT}{a dx:Addr}{fs:.a7}{k:Int}(h:.ky)(ha:.jU)(hd:Hd a):kK K ad Hd .o3 (n.lB a k) g:=fun u4 s=>by rw[240];have t2:=bF.lB (k:=k) (ah) t;rw[gJ,RP e1]at t2;exact t2
theorem Paired.alm{α β:Type}{F:.eI}{l:.aT}{l':.dD}{i:Nat}{a:α}{b:β}(h:.iQ)(ha:l[i]?=some a)(hb:.sa):F a b:=by obtain⟨b',e,f⟩:=Paired.uj h ha;rw[hb]at e;cases e;exact f
theorem Paired.Qv{α β:Type}{F:.eI}:∀{l:.aT}{l':.dD},.yw->(∀(i:Nat)(a:α)(b:β),l[i]?=some a->.sa->F a b)->.iQ|[],[],_,_=>.nil|a::l,b::l',e,h=>.cons (h 0 a b rfl rfl) (Paired.Qv (KC e) fun i x y hx hy=>h .aH x y hx hy)
theorem y9(m:aK)(l:.da)(a:Addr)(p:Nat)(nm:aK)(bs:GT):times m (l++[.eN])=times m l+if nm=m then 1 else 0:=by rw[oE];congr 1;unfold times;by_cases h:nm=m;rw[331]
theorem UD{m:aK}:∀{l:.da},(∀t∈l,∀a p nm bs,t=.eN->nm≠m)->times m l=0:=by intro l h;unfold times;rw[jg,RX];intro t ht;cases t with|station a p nm bs=>simpa using h _ ht a p nm bs rfl|_=>simp
theorem Wy{l:.bS}{as:.ao}(h:l≠[]):(l.map .mO)≠.cE:=by cases l with|nil=>exact .kW|cons x l=>cases as with|nil=>rw[11]|cons y as=>rw[11]
def al2(ad:Ad)(M:.ao)(E:XK)(H:Hp)(f:gq):Prop:=∀(H':Hp)(dx:Addr),mH M H H'->.th
def A1(ss:.aL)(n:jd)(l:.da):Prop:=∀t∈l,∀a p nm bs,t=.eN->∃j:Nat,ss.findIdx? .ih=.dF/\n.st a=.eB
structure arc(K:ae)(ad:Ad)(Hd:Addr->Prop)(H:Hp)(n:jd)(g:GT)(OL SL:Addr)(H':Hp)(l:List GT)(ss:List aM)(as:List Addr)(n':jd):Prop where
ol:H' OL=some (.bJ (g.bN.map V.ref))
sl:H' SL=some (.bJ (as.map V.ref))
eq:l.foldlM my []=.ok ss
nd:as.Nodup
D0:Paired (fun a s=>Zl ad H' a s (times s.name l)) as ss
tree:kK K ad Hd H' n' g
ext:mH g.bN H H'
fresh:∀a∈as,H a=none
j9:ss.length<=12
num:A1 ss n' l
names:(ss.map fun s=>s.name).Nodup
VT:∀s∈ss,s.labels≠[]
sp:n'.sp=n.sp
wt:n'.wt=n.wt
tt:n'.tt=n.tt
def aqv(K:ae)(ad:Ad)(Hd:.hG)(H:Hp)(n:jd)(g:GT)(OL SL:Addr)(i:Nat)(σ:L2.St)(H':Hp):Prop:=∃(y:.bL)(ss:.aL)(as:.ao)(n':jd),σ=[.iU,.nF,y]/\arc K ad Hd H n g OL SL H' .si ss as n'
def IP(K:ae)(ad:Ad):Sp:=fun vs H Q E=>∃(n:jd)(g:GT)(Hd:.hG),.iS/\.aY/\.ky/\(∀b,Hd b->H b≠none)/\(∀a∈g.bN,Hd a)/\g.bN.Nodup/\.iT/\match eh [] g.er with|.ok ss=>∀(H':Hp)(OL SL:Addr)(as:.ao)(n':jd),H SL=none->arc K ad Hd H n g OL SL H' g.iD ss as n'->Q (.ref SL) H'|.error f=>al2 ad g.bN E H f
theorem qV{t:GT}(h:t.Ok 0):t.kind="station"↔∃a p nm bs,t=.eN:=by cases t with|station a p nm bs=>exact⟨fun _=>⟨a,p,nm,bs,rfl⟩,.bQ⟩|worth a f=>exact⟨fun z=>absurd z (by show .nW≠"station";decide),.v5⟩|plus a f t=>exact⟨fun z=>absurd z (by show .oi≠"station";decide),.v5⟩|lot a t=>exact⟨fun z=>absurd z (by show .nX≠"station";decide),.v5⟩|nil=>rw[0]|way t w r=>rw[0]|branch p l t r=>rw[0]
theorem Ay(T:.U)(qA:.tq)(xt:.Bi)(PB:.Bk)(Xa:.Bh):.Bm:=by have sc:a9 ["whole","stations","tree"] ["whole"] (aL sW):=.af;refine T.BS.JG .aO sc .ae .ag;{obtain⟨n,g,Hd,rfl,_⟩:=h;rfl};{obtain⟨n,g,Hd,rfl,hk,hTo,hHd,hnH,M0,hg,q⟩:=h;have hT:=hTo.now;refine⟨_,(aj .oZ (aj (j5 PassesOwn.leaving rfl (iL (bx qA .I bQ .cb)) .ig (aD (dG (cb gH .eW (fF T.ui) .aB) (aj (dO (bx xt .I .a8 .dk)) (aj (dW .ay (bx PB .I .a8 (af .ay .a9)) rfl) (aj (dG (cb gH .eW .jT .aB) (aD (dO (mW bj b6 b7 iB .ak (af (jj Xa .I bQ (af .eW .ku)) ao)))) bZ) (aD (yT (eZ j' .ak .eW .a5) bH M_))))) bZ))) .fT)),? _⟩;rw[1];refine⟨bw _,fun SL nS=>? _⟩;have s0:aT H (aN H SL .bN):=aT.aN nS;refine⟨_,rfl,n,g,rfl,hk,bF.same s0 hT,hg,fun H1 OL s1 nO hO=>? _⟩;have s01:=s0.trans s1;have hSL:H1 SL=.en:=s1 _ _ ah;have nO0:H OL=none:=s0.free nO;(have hOS:OL≠SL:=by rw[2];rw[ah]at nO;cases nO);rw[qI [] hk]at q;refine⟨OL,rfl,⟨_,cM.of hO⟩,mS (K:=K) (a:=OL) (xs:=g.bN.map V.ref) (aqv K ad Hd H n g OL SL) ⟨none,[],[],n,rfl,hO,hSL,rfl,iZ,.nil,hTo.Dq fun b o _ e=>s01 _ _ e,aT.ext s01,(by intro a ha;cases ha),.aD,(by intro t ht;simp at ht),iZ,(by intro s hs;cases hs),rfl,rfl,rfl⟩ .y3 .kx .cv⟩;{rw[171];exact cM.of S.ol};{rw[171];rw[ni,aQ,aS]at hx;cases ht:g.iD[i]? with|none=>rw[ht]at hx;cases hx|some t=>rw[ht]at hx;obtain rfl:=aB hx;have J8:t∈g.iD:=aE ht;have tok:=Ca hk t J8;have tat:=Og S.tree.now t J8;obtain⟨⟨dx,wl,am,sl,ll,pl,sas,N⟩,-⟩:=Ok.iN tok tat;(have tk:.nG=g.iD.take i++[t]:=by rw[a8,ht];rfl);(have dr:g.iD.drop i=t::g.iD.drop .aH:=by obtain⟨jc,e⟩:=ay.mp ht;rw[fz jc,e]);(have whole:g.iD.foldlM my []=(my ss t>>=fun s=>(g.iD.drop .aH).foldlM my s):=by(conv=>lhs;rw[<-lK i g.iD,sO,S.eq,dr]);rfl);(have part:(.nG).foldlM my []=my ss t:=by rw[tk,sO,S.eq];show(my ss t>>=fun s=>[].foldlM my s)=_;cases my ss t<;>rfl);show gy 2 (.d0) _ _ _;ktd_call vc [N.obj,pP,T.cZ,T.fS];rw[28];{rw[decide_eq_true_eq,qV tok]at h1;obtain⟨a,p,nm,bs,rfl⟩:=h1;have N:CP K ad H' n' a "station" (bs.df.map GT.bB) 0 [] nm p bs.labels bs.lplaces dx wl am sl ll pl sas:=N;obtain⟨XT,azv,b2,b8⟩:=tok;obtain⟨ln1,ln2⟩:=Ok.pG azv;have zj:as.length=ss.length:=S.D0.length;have stp:my ss (.eN)=.z3:=rfl;rw[stp]at whole part;(have nal:g.bN.length=g.iD.length:=by rw[ni,aa]);(have han:a∈g.bN:=by rw[ni];exact aX.mpr ⟨_,J8,rfl⟩);(have Vx:H a≠none:=by have:=(Ok.iN (K:=K) (ad:=ad) (Ca hk _ J8) (Og hT _ J8)).1;obtain⟨_,_,_,_,_,_,_,N0⟩:=this;rw[show a=(.xh).bB from rfl,N0.obj];rw[11]);refine⟨n',a,_,_,_,_,nm,p,bs.labels,bs.lplaces,rfl,⟨dx,wl,am,sl,ll,pl,sas,N⟩,.o,.o,? _⟩;cases hL:Bz [] (bs.labels.zip bs.lplaces)with|error f=>rw[hL]at whole;rw[346];exact fun H2 OQ s2 e2=>q H2 OQ (S.ext.trans (aT.ext s2)) e2|ok u=>rw[hL]at whole part;intro H2 s2;(have stm:(.Ds).map .aX=ss:=by rw[aQ];exact List.map_id' _);refine⟨n',a,_,_,_,_,nm,p,bs.labels,bs.lplaces,SL,as,.Ds,rfl,CO.node s2 ⟨dx,wl,am,sl,ll,pl,sas,N⟩,.o,s2 _ _ S.sl,? _,by rw[aa];exact S.j9,? _⟩;{refine Paired.Qv (by rw[aa];exact zj) fun k x y hx hy=>? _;rw[aS]at hy;cases Sl:ss[k]? with|none=>rw[88]|some s'=>rw[88];obtain⟨d1,l1,f1,f2⟩:=Paired.alm S.D0 hx Sl;exact⟨d1,l1,s2 _ _ f1,s2 _ _ f2⟩};rw[stm];cases hN:HS ss nm bs.labels p with|error f=>rw[hN]at whole;rw[346];exact fun H3 OQ s3 e3=>q H3 OQ (S.ext.trans ((aT.ext s2).trans (aT.ext s3))) e3|ok j=>rw[hN]at part;have part:(.nG).foldlM my []=.ok (if j=ss.length then ss++[.kz]else ss):=part;intro H3 s3;have s23:=s2.trans s3;have N3:=s23 _ _ N.obj;have aAk:=s23 _ _ S.sl;simp only[show(.xh).bB=a from rfl];have aSL:a≠SL:=cv N3 aAk .aw;have aOL:a≠OL:=cv N3 (s23 _ _ S.ol) .aw;refine⟨_,_,_,N3,T.cZ,T.gY,.gW,? _⟩;have T4:=(S.tree.Dq (H':=H3) fun b o _ e=>s23 _ _ e).lB (k:=.eB) N3 (hnH a han);rw[Ie]at T4|-;have X4:mH g.bN H (L2.aN H3 a .lY):=(S.ext.trans (aT.ext s23)).trans (mH.aN (.inl han));(have keep:∀b o,b≠a->.gj->L2.aN H3 a .lY b=.ah:=fun b o hb e=>by rw[ai hb];exact s23 _ _ e);have A4:L2.aN H3 a .lY a=some .lY:=ah;generalize L2.aN H3 a .lY=H4 at*;have S4:=keep _ _ aSL.symm S.sl;have O4:=keep _ _ aOL.symm S.ol;have L4:=keep _ _ (cv N.nV N.obj .aw) N.nV;ktd_call vc [A4,Au,Nh,uC,T.cZ,T.gY,T.jY,T.gQ,DX,ah,gJ];refine⟨_,.inl (cM.of S4),? _⟩;rw[aa,zj];have fi:=.v7;(have lne:bs.labels≠[]:=fun z=>by rw[z]at ln1;simp at ln1;omega);(have aCz:ll≠SL:=by rw[2];have:=N.nV;rw[S.sl]at this;exact Wy lne (HO.bJ.inj (aB this)).symm);(have aCy:∀s∈ss,∀l1,H' l1=some (.bJ (.uM))->l1≠SL:=by rintro s hs l1 e rfl;rw[S.sl]at e;exact Wy (S.VT s hs) (HO.bJ.inj (aB e)).symm);(have auw:∀(Rx:.aL),(∀m k,ss.findIdx? (fun s=>s.name==m)=.dG->Rx.findIdx? (fun s=>s.name==m)=.dG)->Rx.findIdx? .ih=.dF->A1 Rx (n'.lB a j) (.nG):=by intro Rx aI aBk u hu a' p' nm' bs' e;rw[tk]at hu;rcases aW.mp hu with hu1|hu;{obtain⟨k,h1,h2⟩:=S.num u hu1 a' p' nm' bs' e;refine⟨k,aI _ _ h1,? _⟩;(have mi:a'≠a:=by rw[2];obtain⟨k',Fq⟩:=fu hu1;(have jc:k'<i:=by have:=(ay.mp Fq).1;rw[be]at this;omega);rw[u5 jc]at Fq;(have e1:g.bN[k']?=some a':=by rw[ni,aS,Fq,e];rfl);(have e2:g.bN[i]?=some a':=by rw[ni,aS,ht];rfl);have:=abd M0 e1 e2;omega);show(if a'=a then .eB else n'.st a')=_;rw[if_neg mi];exact h2};{rw[aA.mp hu]at e;cases e;refine⟨j,aBk,? _⟩;show(if a=a then .eB else n'.st a)=_;rw[.aJ]});refine fj (fun h1=>⟨.inl ⟨rfl,_,cM.of S4⟩,fun x d5 nx nd ne=>? _⟩) .ey;{rw[6];obtain rfl:j=ss.length:=.o;rw[.aJ]at part;(have EJ:ss.findIdx? .ih=none/\ss.length<12:=by unfold HS at hN;cases hi:ss.findIdx? fun s=>s.name==nm with|some k=>rw[hi]at fi hN;obtain⟨_,_,_,jc⟩:=fi;simp only[]at hN;split at hN;{cases hN;omega};{cases hN}|none=>rw[172];{cases hN};{exact⟨rfl,.o⟩});obtain⟨EJ,CK⟩:=EJ;(have aki:∀s∈ss,s.name≠nm:=by rw[Ml]at EJ;exact fun s hs=>beq_eq_false_iff_ne.mp (EJ s hs));have s45:aT H4 (aN (aN H4 d5 .ft) x .lZ):=.ta;have x5:aN (aN H4 d5 .ft) x .lZ x=some .lZ:=ah;generalize aN (aN H4 d5 .ft) x .lZ=H5 at*;have S5:=s45 _ _ S4;(have A6:aN H5 SL .ij a=some (.cH ad.cn dx (eP "station" wl am sl .dY p ll pl (ss.length:Nat) (n'.sp a) (n'.wt a) (n'.tt a))):=by rw[ai aSL];exact s45 _ _ A4);have xSL:x≠SL:=fP nx S4;(have x6:aN H5 SL .ij x=some .lZ:=by rw[ai xSL];exact x5);have S6:aN H5 SL .ij SL=some .ij:=ah;(have k6:∀b o,b≠SL->.hN->aN H5 SL .ij b=.ah:=fun b o hb e=>by rw[ai hb];exact s45 _ _ e);have X6:mH g.bN H (L2.aN H5 SL .ij):=(X4.trans (aT.ext s45)).Jn nS;refine⟨_,S5,by rw[aa,zj,sizeLine_eq];omega,_,_,_,A6,T.cZ,T.gY,_,Au,_,_,rfl,cM.of S6,V.ref x,? _,_,rfl,_,_,_,x6,T.jV,T.ml,_,DL,_,rfl,_,_,x6,.gV,? _⟩;{refine gT ? _;rw[<-zj,fY (by rw[aa];rw[13]),aa,sI];rfl};{have nx0:.hR:=X4.2 _ nx;generalize L2.aN H5 SL .ij=H6 at*;have pfp:kY ("places":Str) (V.int (0+1)) (SG .dY ll 0)=SG .dY ll 1:=rfl;rw[pfp];(have k7:∀b o,b≠SL->b≠x->.hN->L2.aN H6 x (.cH ad.gi d5 (SG .dY ll 1)) b=.ah:=fun b o h1 h2 e=>by rw[ai h2];exact k6 b o h1 e);refine⟨_,ss++[.kz],as++[x],n'.lB a ss.length,rfl,k7 _ _ hOS (aq O4 nx) O4,? _,part,? _,? _,T4.Dq fun b o hd e=>k7 b o ? _ .jn e,X6.Jn nx0,? _,? _,auw _ ? _ ? _,? _,? _,S.sp,S.wt,S.tt⟩;{rw[ai xSL.symm,S6,aG];rfl};{refine g9.mpr ⟨S.nd,.aN,fun y hy z hz e=>? _⟩;rw[aA.mp hz]at e;subst e;obtain⟨k,Fq⟩:=fu hy;obtain⟨_,_,d1,l1,f1,f2⟩:=Paired.uj S.D0 Fq;(have hya:y≠a:=by rw[2];exact Vx (S.fresh _ hy));rw[keep _ _ hya f1]at nx;cases nx};{refine Paired.snoc (Paired.Qv zj fun k y s' hy Fs=>? _) ⟨d5,ll,? _,? _⟩;{obtain⟨d1,l1,f1,f2⟩:=Paired.alm S.D0 hy Fs;have tS:y∈as:=aE hy;(have hya:y≠a:=by rw[2];exact Vx .rH);have e1:=keep _ _ hya f1;rw[357];have aC4:s'.name≠nm:=aki s' (aE Fs);rw[tk,y9,if_neg (cW aC4),mI];refine⟨d1,l1,k7 _ _ (cv e1 S4 .aw) (aq e1 nx) e1,k7 _ _ ? _ (aq e2 nx) e2⟩;exact aCy s' (aE Fs) l1 f2};{rw[ah,tk,y9,.aJ,UD];{rfl};{intro u hu a' p' nm' bs' e;obtain⟨k,h1,h2⟩:=S.num u hu a' p' nm' bs' e;rw[2];rw[EJ]at h1;cases h1}};{exact k7 _ _ aCz (aq L4 nx) L4}};{rw[2];exact hHd _ hd nS};{intro y hy;rw[48];{exact S.fresh y hy};{rw[aA.mp hy];exact nx0}};{rw[ag];simp;omega};{intro m k hm;rw[UQ,hm];rfl};{rw[UQ,EJ];simp};{rw[aG];refine g9.mpr ⟨S.names,.aN,fun y hy z hz e=>? _⟩;obtain⟨s',Fs,rfl⟩:=aX.mp hy;rw[aA.mp hz]at e;exact aki s' Fs e};{intro s' Fs;rcases aW.mp Fs with Fs|Fs;{exact S.VT s' Fs};{rw[aA.mp Fs];exact lne}}}};{rw[6];have hj0:j≠ss.length:=fun z=>h1 .rD;rw[if_neg hj0]at part;(have agc:ss.findIdx? .ih=.dF:=by unfold HS at hN;cases hi:ss.findIdx? fun s=>s.name==nm with|some k=>rw[172];{cases hN;rfl};{cases hN}|none=>rw[172];{cases hN};{cases hN;exact absurd rfl hj0});rw[agc]at fi;obtain⟨s0',g1,g2,g3⟩:=fi;(have gn:s0'.name=nm:=by simpa using af1 g2);obtain⟨sa,Y4,d1,l1,f1,f2⟩:=Paired.get S.D0 g1;have tS:sa∈as:=aE Y4;(have aC6:sa≠a:=by rw[2];exact Vx .rH);have e1:=keep _ _ aC6 f1;rw[357];(have k7:∀b o,b≠sa->.hN->L2.aN H4 sa .Bn b=.ah:=fun b o h e=>by rw[ai h];exact e);refine⟨_,cM.of S4,V.ref sa,gT (by rw[aS,Y4];rfl),sa,rfl,_,_,_,e1,T.jV,T.ml,_,DL,_,rfl,_,_,e1,.gV,? _⟩;show aqv K ad Hd H n g OL SL .aH _ (L2.aN H4 sa .Bn);refine⟨_,ss,as,n'.lB a j,rfl,k7 _ _ (cv O4 e1 .aw) O4,k7 _ _ (cv S4 e1 .aw) S4,part,S.nd,? _,T4.Dq fun b o hd e=>k7 b o ? _ e,X4.Jn .rH,S.fresh,S.j9,auw _ (fun m k h=>h) agc,S.names,S.VT,S.sp,S.wt,S.tt⟩;{refine Paired.Qv zj fun k y s' hy Fs=>? _;by_cases hkj:k=j;{subst hkj;rw[Y4]at hy;cases hy;rw[g1]at Fs;cases Fs;refine⟨d1,l1,? _,k7 _ _ (cv e2 e1 .aw) e2⟩;rw[ah,tk,y9,if_pos gn.symm];rfl};{obtain⟨d2,l2,f3,f4⟩:=Paired.alm S.D0 hy Fs;have au4:y∈as:=aE hy;(have hya:y≠a:=by rw[2];exact Vx (S.fresh _ au4));(have hys:y≠sa:=by rw[2];exact hkj (abd S.nd hy Y4));(have hnm:s'.name≠nm:=fun z=>by refine hkj (abd S.names (x:=nm) ? _ ? _);{rw[aS,Fs,<-z];rfl};{rw[aS,g1,<-gn];rfl});have e3:=keep _ _ hya f3;have e4:=keep _ _ (cv f4 N.obj .aw) f4;rw[tk,y9,if_neg (cW hnm),mI];exact⟨d2,l2,k7 _ _ hys e3,k7 _ _ (cv e4 e1 .aw) e4⟩}};{rw[2];exact hHd _ hd .rH}}};{rw[decide_eq_true_eq,qV tok]at h1;have st:my ss t=.ok ss:=.Bo;(have tm:∀m,times m (.nG)=times m .si:=fun m=>by rw[tk,oE];have:times m [t]=0:=.Bo;omega);refine⟨_,ss,as,n',rfl,S.ol,S.sl,by rw[part,st],S.nd,? _,S.tree,S.ext,S.fresh,S.j9,? _,S.names,S.VT,S.sp,S.wt,S.tt⟩;{exact Paired.pZ (fun a s h=>by rw[tm];exact h) S.D0};{intro u hu a p nm bs e;rw[tk]at hu;rw[47];{exact S.num u hu a p nm bs e};{rw[aA.mp hu]at e;exact absurd ⟨a,p,nm,bs,e⟩ h1}}}};{rw[171];rw[aa,ni,aa,bf]at S;rw[S.eq]at q;exact⟨_,rfl,q H' OL SL as n' nS S⟩}}
end
end Lc
namespace L2
open PySem PySem.Spec PyProof.Rows
theorem aax{X:Cx}:PIp X .Mult (fun x y H Q=>∃i j,x=.bp/\y=.int j/\IntMulOk i j/\Q (.int (i*j)) H):=by intro pins s σ H x y v u Q I r1 r2 h;obtain⟨i,j,e1,e2,hm,q⟩:=h;rw[130];exact imul_int .t4 hm
end L2
namespace Lc
open PySem PySem.Spec PyProof.Rows L2
section
variable{P:Program}{w:World}{K:ae}{mg:Str->Option Value}{base:Heap}{ad:Ad}
def O5(ad:Ad)(H:Hp)(SL:Addr)(ss:.aL):Prop:=∃as,H SL=.di/\Paired (fun a s=>∃c,Zl ad H a s c) as ss
def BV(ad:Ad):Sp:=fun vs H Q _=>∃(SL:Addr)(ss:.aL),vs=[.ref SL]/\O5 ad H SL ss/\.sh/\(∀s∈ss,.mS)/\Q (.int (bb ss:Nat)) H
theorem GR(l:.aL)(s:aM):bb (l++[s])=bb l*s.labels.length:=by unfold bb;rw[Ze];rfl
theorem P1:∀(l:.aL)(k:Nat),(∀s∈l,.mS)->.EI<=k*8^l.length|[],k,_=>.aN|s::l,k,h=>by have h1:=h s .aK;have ih:=P1 l (k*s.labels.length) .kA;rw[ie,aw,iY];refine br ih ? _;rw[CA,h_ (8^l.length) 8];exact Nat.mul_le_mul_left _ (z7 _ h1)
theorem ZR{l:.aL}(h:∀s∈l,.mS)(CK:l.length<=12):bb l<=8^12:=by have:=P1 l 1 h;rw[u9]at this;exact br this (qO .aD CK)
theorem Fw(T:.U):.l0:=by have sc:a9 ["stations","many","station"] ["stations"] (aL xy):=.af;refine T.Iu.dn .aO sc .ae .ag;{obtain⟨SL,ss,rfl,_⟩:=h;rfl};{obtain⟨SL,ss,rfl,⟨as,hS,hP⟩,CK,h8,q⟩:=h;refine⟨_,(aj (bP (i:=1) sc.nd rfl .ai bH) (aj (j5 PassesOwn.never rfl (iL .au) .ig (aD (ya (i:=1) sc.nd rfl .ai .qa aax))) .fT)),? _⟩;rw[115];rw[1];refine⟨_,rfl,SL,rfl,⟨_,cM.of hS⟩,mS (K:=K) (a:=SL) (xs:=.cE) (fun i σ H'=>H'=H/\∃y,σ=[.nF,some (.int (bb (ss.take i):Nat)),y]) ⟨rfl,none,rfl⟩ (fun i σ H' _ h=>by rw[h.1];exact cM.of hS) .kx .cv⟩;{obtain⟨rfl,y,rfl⟩:=h;rw[aS]at hx;cases Fu:as[i]? with|none=>rw[87]|some sa=>rw[Fu]at hx;obtain rfl:=aB hx;obtain⟨st,hs,c,d1,l1,f1,f2⟩:=Paired.uj hP Fu;have hle:=h8 st (aE hs);have htk:∀s∈ss.take i,.mS:=fun s hs=>h8 s (gN hs);have Tj:=ZR htk (by rw[be];omega);ktd_call vc [f1,pI,T.jV,T.gG];refine⟨_,.inl (cM.of f2),? _,? _,_,rfl⟩;{rw[aa];have b1:bt ((bb (ss.take i):Nat):Int)<=bt ((8^12:Nat):Int):=KW (by rw[gK,gK];exact Tj);exact IntMulOk.of_left (br b1 .bk)};{rw[aa,a8,hs];show _=((bb (ss.take i++[st]):Nat):Int);rw[GR,dJ]}};{obtain⟨rfl,y,rfl⟩:=h;refine .nH;rw[aa,zj,bf];exact q}}
def Uh:.aL->.J->Bool|[],[]=>true|s::r,n::l=>(.l1)&&Uh r l|_,_=>false
theorem acf:∀(ss:.aL)(l:.J),(bI ss l).isSome=Uh ss l|[],[]=>rfl|[],_::_=>rfl|_::_,[]=>rfl|s::r,n::l=>by have ih:=acf r l;show((gZ n s.labels.length).bind fun k=>(bI r l).map fun p=>k::p).isSome=((.l1)&&Uh r l);rw[<-ih];unfold gZ;by_cases h:0<=n/\n<.xi;{rw[.cn,decide_eq_true h.1,decide_eq_true h.2];cases bI r l<;>rfl};{rw[.cp];(have:(.l1)=false:=by rw[Bool.and_eq_false_iff,decide_eq_false_iff_not,decide_eq_false_iff_not];by_cases h0:0<=n;{exact .inr fun z=>h ⟨h0,z⟩};{exact .inl h0});rw[this];rfl}
theorem Wg:∀{ss:.aL}{l:.J},l.length≠ss.length->Uh ss l=false|[],[],h=>.kW|[],_::_,_=>rfl|_::_,[],_=>rfl|s::r,n::l,h=>by show(_&&Uh r l)=false;rw[Wg (fun z=>h (by rw[aw,aw,z])),zw]
def IK(K:ae)(ad:Ad):Sp:=fun vs H Q _=>∃(c SL:Addr)(l:.J)(ss:.aL),vs=[.ref c,.ref SL]/\cM K H c (l.map V.int)/\O5 ad H SL ss/\.sh/\∀H',.aq->Q (.bl (bI ss l).isSome) H'
end
end Lc
namespace L2
open PySem PySem.Spec PyProof.Rows
theorem Tu{K:ae}{a b:Addr}{xs ys:.aj}{g:TG}{tt:TT}{te:TE}{vs:.ab}{σ:St}{H1:Hp}{D:Addr}{Qd:.a3}(he:ys.length=xs.length)(Pv:.h3)(h0:.jK)(hl:∀i H,.iI->Pv i H->.bZ/\.oe)(hs:∀i x y H T,.e8->.r7->Pv i H->.gA->g (.ref T) (.d4) (aN H T .ny) .lI)(hd:.vG):∃W:.h4,.h5/\∀i m H,W i m H->((.hM).stop i H/\Qd H)\/((.hM).go i H/\∃Nx:.a3,.h6/\∀x H',(.hM).WH i H x H'->.jI):=by rw[135];obtain⟨q1,q2⟩:=hl i H hi p;rw[82];{refine .inr ⟨.Bg,.e2,.sV,.fj⟩;obtain⟨T,z,u,rfl,nT,rfl,y1,y2⟩:=y;exact hs i z u H T (y1 xs q1) (y2 ys q2) p nT};{rw[79];exact .inl ⟨⟨xs,ys,q1,q2,.inl .aS⟩,hd H p⟩}
end L2
namespace Lc
open PySem PySem.Spec PyProof.Rows L2
section
variable{P:Program}{w:World}{K:ae}{mg:Str->Option Value}{base:Heap}{ad:Ad}
def J9(ss:.aL)(l:.J)(i:Nat):Bool:=match l[i]?,ss[i]? with|some n,some s=>.l1|_,_=>false
theorem QQ:∀{ss:.aL}{l:.J},l.length=ss.length->Uh ss l=((bD l.length).map (J9 ss l)).all id|[],[],_=>rfl|s::r,n::l,h=>by have ih:=QQ (ss:=r) (l:=l) (KC h);show((.l1)&&Uh r l)=_;rw[ih,aw,oZ,aO,jE,aQ];rfl
theorem Nn(T:.U):.Bp:=by have sc:a9 ["choices","stations","choice","station"] ["choices","stations"] (aL Ey):=.af;refine T.Q6.dn .aM sc .ae .ag;{obtain⟨c,SL,l,ss,rfl,_⟩:=h;rfl};{obtain⟨c,SL,l,ss,rfl,hC,⟨as,hS,hP⟩,CK,q⟩:=h;refine⟨_,(aj (dG (cb QM (bT cC rfl T.gU fg .cb) .jT .aB) .la bZ) (aD (ba (bT (SS rfl) rfl T.ZE SN (af (wu rfl sc.nd .yx (own:=[("choice",2),("station",3)]) .ck (fun _ _ _ _ _=>(show PG _ _ (aa5 K 2 (jS (gy 2) (jS (gy 3) wO)))from .o1)) .cu (fun _ _ _ _ _=>(ac5 LM wj bH .ay (bT (show mr _ .kl (fun xs H Q=>∃p ys,xs=[.bO]/\(cM K H p ys\/ig K H p ys)/\Q (.int ys.length) H)from cC) rfl T.gU fg (af (show .y4 from aP .bq rfl) ao))))) ao))))),? _⟩;rw[115];rw[acf]at q;rw[1];refine⟨_,.inl hC,_,.inl (cM.of hS),? _⟩;rw[aa,aa,zj];rw[28];{rw[Wg (fun z=>by simp[z]at h1)]at q;exact q H .kX};{(have hl:l.length=ss.length:=by simp at h1;omega);rw[QQ hl]at q;refine⟨_,rfl,_,rfl,c,SL,_,_,rfl,hC,cM.of hS,fun D nD=>Tu (K:=K) (a:=c) (b:=SL) (xs:=l.map V.int) (ys:=.cE) (.v8) (fun i H'=>H' D=some (.bJ (.l2))/\.aq) .fW (fun i H' _ h=>⟨h.2.seq hC,h.2.seq (cM.of hS)⟩) .v9 .dX⟩;{rw[15];rw[aS]at hx hy;cases Fu:l[i]? with|none=>rw[87]|some nv=>cases Sl:as[i]? with|none=>rw[88]|some sa=>rw[145];obtain⟨st,hs,ct,d1,l1,f1,f2⟩:=Paired.uj hP Sl;have g3:aT H (aN H' TT .wa):=.Bq;have g4:aN H' TT .wa D=some (.bJ (.l2)):=.Gf;rw[25];generalize aN H' TT .wa=H3 at*;(have oka:J9 ss l i=(decide (0<=nv)&&decide (nv<(st.labels.length:Int))):=by unfold J9;rw[Fu,hs]);have hi:i<l.length:=(ay.mp Fu).1;ktd_call vc [jS,wO,fU,vQ,g3 _ _ f1,pI,T.jV,T.gG];have hlen:(.l2).length<sizeLine:=.Dt;(have nx:∀bv,bv=J9 ss l i->aN H3 D (.bJ ((.l2)++[V.bl bv])) D=some (.bJ (((bD .aH).map (J9 ss l)).map V.bl))/\aT H (aN H3 D (.bJ ((.l2)++[V.bl bv]))):=fun bv e=>by subst e;refine⟨? _,.Gg⟩;rw[ah,Jw,aG,aG];rfl);refine fj (fun h3=>⟨_,.inl (cM.of (g3 _ _ f2)),_,g4,hlen,nx _ ? _⟩) fun h3=>⟨_,g4,hlen,nx _ ? _⟩;{rw[oka,h3,al1,aa]};{rw[oka,(vU _).mp h3];rfl}};{rw[15];rw[aa]at g1;exact⟨D,_,rfl,cM.of g1,q H' g2⟩}}}
end
end Lc
namespace L2
open PySem PySem.Spec PyProof.Rows
theorem anf{x:Str}{g:TG}{tt:TT}{te:TE}{vs:.ab}{σ:St}{H1:Hp}{D:Addr}{Qd:.a3}(Pv:.h3)(h0:.jK)(hs:∀i c H,x.cps[i]?=.br->Pv i H->g (.kk) (.d4) H .lI)(hd:∀H,Pv x.cps.size H->Qd H):∃W:.h4,.h5/\∀i m H,W i m H->((Its x).stop i H/\Qd H)\/((Its x).go i H/\∃Nx:.a3,.h6/\∀v H',(Its x).WH i H v H'->g v (.d4) H' .zt):=by refine⟨fun i m H=>m=x.cps.size-i/\i<=x.cps.size/\Pv i H,⟨x.cps.size,.aN,bw _,h0⟩,? _⟩;rw[111];by_cases jc:i<x.cps.size;{refine .inr ⟨jc,.e2,fun H' p'=>⟨x.cps.size-.aH,.o,rfl,jc,p'⟩,fun v H' y=>? _⟩;obtain⟨rfl,c,hc,rfl⟩:=y;exact hs i c H' hc p};{obtain rfl:i=x.cps.size:=.o;exact .vF}
end L2
namespace Lc
open PySem PySem.Spec PyProof.Rows L2
section
variable{P:Program}{w:World}{K:ae}{mg:Str->Option Value}{base:Heap}{ad:Ad}
def DO:Sp:=fun vs H Q _=>∃l:.ab,vs=[.str (tx l)]/\l.length<=1000000/\∀(H':Hp)(p:Addr),.aq->.bM->H' p=some (.bJ (l.map .y5))->.ej
theorem QD(T:.U):.uO:=by have sc:a9 ["signs","sign"] ["signs"] (aL He):=.af;refine T.Um.dn .aO sc .ae .ag;{obtain⟨l,rfl,_⟩:=h;rfl};{obtain⟨l,rfl,hl,q⟩:=h;refine⟨_,(aD (ba (wu rfl sc.nd (ao9 .au) (own:=[("sign",1)]) .ck (fun _ _ _ _ _=>(cD (i:=1) sc.nd rfl .ai)) .cu (fun _ _ _ _ _=>(bT ZI rfl T.arl alj .a9))))),? _⟩;have hsz:(tx l).cps.size=l.length:=.ym;refine⟨_,rfl,tx l,rfl,fun D nD=>anf (x:=tx l) (fun i H'=>H' D=some (.bJ ((l.take i).map .y5))/\.aq) .fW (fun i c H' hc h=>? _) .dX⟩;{rw[15];(have hc':l[i]?=.br:=by unfold tx at hc;simpa using hc);ktd_call vc [fU,vQ];refine⟨rfl,_,g1,.gY,? _,.Gh⟩;rw[ah,a8,hc',aG];rfl};{rw[15];rw[hsz,bf]at g1;exact q H' D g2 nD g1}}
end
section
variable{P:Program}{w:World}{K:ae}{mg:Str->Option Value}{base:Heap}{ad:Ad}
def oW(l r:.ab):.ab:=l++[32,58,32]++r
theorem adl{B:Nat}:∀{l:.k9},(∀t∈l,t.length<=B)->((l.map tx).map fun x=>x.length).sum<=l.length*B|[],_=>bw _|t::l,h=>by have h1:=h t .aK;have h2:=adl .xf;rw[aO,aO,cS,aw,Sx,bX];omega
theorem MW{B:Nat}:∀{l:.k9},(∀t∈l,t.length<=B)->(wQ .dc l).length<=l.length*(B+2)|[],_=>bw _|[x],h=>by have:=h x .aK;show x.length<=1*(B+2);omega|x::y::r,h=>by have h1:=h x .aK;have h2:=MW (l:=y::r) .xf;show(x++.dc++wQ .dc (y::r)).length<=_;(have e:(x::y::r).length*(B+2)=(y::r).length*(B+2)+(B+2):=by rw[aw (a:=x),Sx]);rw[e,ag,ag];have:(.dc:.ab).length=2:=rfl;omega
def IY(K:ae):Sp:=fun vs H Q _=>∃(a b:Addr)(ls rs:.k9),vs=.hn/\cM K H a (ls.map .yy)/\cM K H b (rs.map .yy)/\rs.length=ls.length/\ls.length<=8/\(∀t∈ls,t.length<=1000000)/\(∀t∈rs,t.length<=1000000)/\∀H',.aq->Q (.str (tx ([40]++.jV++[41]))) H'
theorem NA(T:.U):.Br:=by have sc:a9 ["lefts","rights","ways","left","right"] ["lefts","rights"] (aL EF):=.af;refine T.Rf.dn .aM sc .ae .ag;{obtain⟨a,b,ls,rs,rfl,_⟩:=h;rfl};{obtain⟨a,b,ls,rs,rfl,hA,hB,hlen,h8,b1,b2,q⟩:=h;refine⟨_,(aj (yc (i:=2) rfl sc.nd rfl rfl .kB .yx (own:=[("left",3),("right",4)]) .ck (fun _ _ _ _ _=>(show PG _ _ (aa5 K 2 (jS (gy 3) (jS (gy 4) wO)))from pH rfl (ff .gX (ff .jQ mm)))) .cu (fun _ _ _ _ _=>(ac6 (ot (Ga .bq) (ot dN (ot (Ga .d9) Ug)))))) (aD (ba (de kR (de kR dN (V8 dN .ay)) dN)))),? _⟩;(have zl:(.ja).length=ls.length:=by rw[List.length_zipWith];omega);refine⟨_,rfl,_,rfl,a,b,_,_,rfl,hA,hB,fun D nD=>Tu (K:=K) (a:=a) (b:=b) (by rw[aa,aa];exact hlen) (fun i H'=>H' D=.Bs/\.aq) .fW (fun i H' _ h=>⟨h.2.seq hA,h.2.seq hB⟩) .v9 .dX⟩;{rw[15];rw[aS]at hx hy;cases Fu:ls[i]? with|none=>rw[87]|some lt=>cases Sl:rs[i]? with|none=>rw[88]|some rt=>rw[145];have g3:aT H (aN H' TT .uP):=.Bq;have g4:aN H' TT .uP D=.Bs:=.Gf;rw[25];generalize aN H' TT .uP=H3 at*;have c1:=b1 lt (aE Fu);have c2:=b2 rt (aE Sl);have e1:Str.empty++tx lt=tx lt:=ic [] lt;have e2:tx lt++(" : ":Str)=tx (lt++[32,58,32]):=ic lt [32,58,32];have e3:tx (lt++[32,58,32])++tx rt=tx (oW lt rt):=ic _ rt;ktd_call vc [jS,wO,fU,vQ,e1,e2,e3,bX];(have hz:(.ja)[i]?=some (oW lt rt):=by rw[Ss,Fu,Sl]);have hi:i<ls.length:=(ay.mp Fu).1;(have wl:(oW lt rt).length<=sizeLine:=by unfold oW;rw[ag,ag,sizeLine_eq];rw[126]);refine⟨.cQ,.cQ,by rw[ag,sizeLine_eq];rw[126],.cQ,wl,_,g4,.gY,? _,? _⟩;{rw[ah,a8,hz,aG];rfl};{exact .Gg}};{rw[15];rw[aa,<-zl,bf]at g1;rw[1];have ej:Txt.join (", ":Str) ((.ja).map tx)=tx (.jV):=VM .dc _;have eo:("(":Str)++tx (.jV)=tx ([40]++.jV):=ic [40] _;have ec:tx ([40]++.jV)++(")":Str)=tx ([40]++.jV++[41]):=ic _ [41];(have ap4:∀t∈.ja,t.length<=2000003:=by intro t ht;obtain⟨i,hi⟩:=fu ht;rw[Ss]at hi;cases h1:ls[i]? with|none=>rw[h1]at hi;cases hi|some x=>cases h2:rs[i]? with|none=>rw[h1,h2]at hi;cases hi|some y=>rw[h1,h2]at hi;cases hi;have:=b1 x (aE h1);have:=b2 y (aE h2);unfold oW;rw[ag,ag];rw[126]);refine⟨.aU,(.ja).map tx,.inl (.uJ),? _,? _,? _,? _⟩;{have:=adl ap4;rw[aa,zl,show(", ":Str).length=2 from rfl];rw[zl]at this;omega};{have:=MW ap4;rw[ej,bX,show("(":Str).length=1 from rfl,sizeLine_eq];rw[zl]at this;omega};{have:=MW ap4;rw[ej,eo,bX,ag,show(")":Str).length=1 from rfl,sizeLine_eq];rw[zl]at this;rw[126]};{rw[ej,eo,ec];exact q H' g2}}}
end
def fm(g:GT):.ab:=cd (bg g.er)
def fq(q:Rat):.ab:=cd (cO (Fm.of q))
theorem Bf:cd (.fA)=[32,58,32]:=.aF
theorem Pj:cd (aH ", ")=.dc:=.aF
theorem IE(t:eg)(w:jx)(r:eg)(h:r≠.nil):bg (.way t w r)=bg t++.fA++cO w++aH ", "++bg r:=.ik
theorem yi(p:Nat)(l:aK)(t r:eg)(h:r≠.nil):bg .gZ=l++.fA++bg t++aH ", "++bg r:=.ik
theorem afz{x:GT}(h:x.Ok 1):fm x=wQ .dc (eD oW (x.df.map fm) (x.bq.map fq)):=by induction x with|way t w r _ ih=>(have ih:=ih .aZ;cases r with|nil=>show cd (bg t.er++.fA++cO .c0)=oW (fm t) (fq w);rw[dw,dw,Bf];rfl|way t2 w2 r2=>show cd (bg (.way t.er .c0 (GT.way t2 w2 r2).er))=oW (fm t) (fq w)++.dc++wQ .dc (eD oW ((GT.way t2 w2 r2).df.map fm) ((GT.way t2 w2 r2).bq.map fq));rw[IE _ _ _ .aw,<-ih,dw,dw,dw,dw,Bf,Pj];rfl|worth a f=>exact .nY|plus a f t=>exact .nY|lot a t=>exact .nY|station a p n b=>exact .nY|branch p l t r=>exact .nY)|nil=>rfl|_=>rw[0]
theorem P0{x:GT}(h:x.Ok 2):fm x=wQ .dc (eD oW (x.labels.map cd) (x.df.map fm)):=by induction x with|branch p l t r _ ih=>(have ih:=.gD;cases r with|nil=>show cd (l++.fA++bg t.er)=oW (cd l) (fm t);rw[dw,dw,Bf];rfl|branch p2 l2 t2 r2=>show cd (bg (.branch p l t.er (.xj).er))=oW (cd l) (fm t)++.dc++wQ .dc (eD oW ((.xj).labels.map cd) ((.xj).df.map fm));rw[yi _ _ _ _ .aw,<-ih,dw,dw,dw,dw,Bf,Pj];rfl|worth a f=>exact h.2.2.elim|plus a f t=>exact h.2.2.elim|lot a t=>exact h.2.2.elim|station a p n b=>exact h.2.2.elim|way t w r=>exact h.2.2.elim)|nil=>rfl|_=>rw[0]
theorem Ri(t:eg)(w:jx)(r:eg):(bg t).length<=(bg (.way t w r)).length/\(bg r).length<=(bg (.way t w r)).length:=by by_cases h:r=.nil;{subst h;have e:bg (.way t w .nil)=bg t++.fA++cO w:=rfl;rw[e,ag,ag];exact⟨.o,bw _⟩};{rw[IE _ _ _ h,ag,ag,ag,ag];exact .qe}
theorem ID(p:Nat)(l:aK)(t r:eg):(bg t).length<=(bg .gZ).length/\(bg r).length<=(bg .gZ).length:=by by_cases h:r=.nil;{subst h;have e:bg (.branch p l t .nil)=l++.fA++bg t:=rfl;rw[e,ag,ag];exact⟨.o,bw _⟩};{rw[yi _ _ _ _ h,ag,ag,ag,ag];exact .qe}
theorem RK{x:GT}:∀t∈x.df,(fm t).length<=(fm x).length:=by induction x with|way t w r _ ih=>intro u hu;have g:=Ri t.er .c0 r.er;rw[292]|branch p l t r _ ih=>intro u hu;have g:=ID p l t.er r.er;rw[292]|_=>rw[41]
theorem Nb{g:GT}:∀t∈g.fe,(fm t).length<=.sj:=by cases g with|plus a f t=>intro u hu;rw[aA.mp hu];show(cd _).length<=(cd (.uQ)).length;rw[ib,ib,ag,ag,ag,ag];omega|lot a ws=>intro u hu;refine br (RK u hu) ? _;show(cd _).length<=(cd (.wb)).length;rw[ib,ib,ag,ag];omega|station a p n bs=>intro u hu;refine br (RK u hu) ? _;show(cd _).length<=(cd (.Gi)).length;rw[ib,ib,ag,ag,ag,ag];omega|_=>rw[41]
namespace GT
def ht:GT->Nat|worth _ _=>0|plus _ _ t=>t.ht+1|lot _ ws=>ws.ht+1|station _ _ _ bs=>bs.ht+1|nil=>0|way t _ r=>.nZ|branch _ _ t r=>.nZ
end GT
theorem RL{x:GT}:∀t∈x.df,t.ht<=x.ht:=by induction x with|way t w r _ ih=>rw[332]|branch p l t r _ ih=>rw[332]|_=>rw[41]
theorem F7{g:GT}:∀t∈g.fe,t.ht+1<=g.ht:=by cases g with|plus a f t=>intro u hu;rw[aA.mp hu];rw[13]|lot a ws=>exact fun u hu=>qt (RL u hu)|station a p n bs=>exact fun u hu=>qt (RL u hu)|_=>rw[41]
section
variable{P:Program}{w:World}{K:ae}{mg:Str->Option Value}{base:Heap}{ad:Ad}
def vM(K:ae)(ad:Ad)(h:Nat):Sp:=fun vs H Q _=>∃(n:jd)(g:GT),.iS/\.aY/\.bo/\g.ht<h/\.sj<=1000000/\∀H',.aq->Q (.str (tx (fm g))) H'
theorem Kf(T:.U):Dn P w K mg base dD "tree_form" 2 .bT (vM K ad 0):=by rw[241];refine T.E1.dn .aO sc .ae .ag;rw[100];rw[100]
theorem Jq{g:GT}(h:.aY):g.kind="worth"↔∃a f,g=.worth a f:=by cases g with|worth a f=>exact⟨fun _=>⟨a,f,rfl⟩,.bQ⟩|plus a f t=>exact⟨fun z=>absurd z (by show .oi≠"worth";decide),.jW⟩|lot a t=>exact⟨fun z=>absurd z (by show .nX≠"worth";decide),.jW⟩|station a p n t=>exact⟨fun z=>absurd z (by show .hr≠"worth";decide),.jW⟩|_=>rw[0]
theorem Ok.small{x:GT}(h:x.Ok 1):∀q∈x.bq,pS q:=by induction x with|way t w r _ ih=>intro q hq;rcases aJ.mp hq with rfl|hq;{exact .aI};{exact ih .aZ q hq}|nil=>intro q hq;cases hq|_=>rw[0]
theorem Ok.VU{x:GT}(h:x.Ok 2):∀b∈x.labels,.nO:=by induction x with|branch p l t r _ ih=>intro q hq;rcases aJ.mp hq with rfl|hq;{exact h.1.1};{exact ih h.2.2 q hq}|nil=>intro q hq;cases hq|_=>rw[0]
theorem Nz(T:.U)(h:Nat)(C2:.Dj)(Ep:.Br)(xu:.Bt):Dn P w K mg base dD "tree_form" (h+3) .bT (vM K ad (h+1)):=by rw[241];refine T.E1.dn .aO sc .ae .wc;rw[80];{obtain⟨n,g,rfl,hk,hT,hh,hl,q⟩:=Ft;refine⟨_,(aj (dG (cb gH .aG (fF T.Bv) .aB) (aD (ba (bx C2 .I bQ .cw))) bZ) (aj (yc (i:=1) rfl sc.nd rfl rfl .kB .lr (own:=[("way",2)]) .ck .l3 .cu (fun _ _ _ _ _=>(bx xu .I bQ .dk))) (aj (dG (cb gH .aG (fF T.ak0) .aB) (aD (ba (de kR (de kR (de kR (de kR dN (bx C2 .I bQ .cw)) dN) (eZ j' .ak bH .a5)) dN))) bZ) (aj (dG (cb gH .aG (fF T.Te) .aB) (aD (ba (de kR dN (bx Ep .I bQ (af .ak (af (wu rfl sc.nd .lr (own:=[("share",3)]) .ck .o4 .cu (fun _ _ _ _ _=>(bx C2 .I bQ .fV))) ao)))))) bZ) (aD (ba (de kR (de kR dN .aG) (bx Ep .I bQ .il)))))))),? _⟩;rw[146];ktd_call vc [N.obj,pP,Dk,T.cZ,T.fS,T.gP];rw[28];{rw[decide_eq_true_eq,Jq hk]at h1;obtain⟨a,f,rfl⟩:=h1;exact⟨am,f,rfl,N.nQ,hk,q H .kX⟩};{rw[6];(have auc:g.fe.length<=8:=by cases g with|worth a f=>exact bw _|plus a f t=>exact(show 1<=8 by decide)|lot a t=>rw[293]|station a p n t=>rw[293]|_=>rw[33]);refine⟨_,rfl,_,_,_,_,_,rfl,N.obj,T.cZ,T.dX,kQ,wl,rfl,⟨_,.kY⟩,fun D nD=>oj (K:=K) (a:=wl) (xs:=.mT) (fun i H'=>H' D=some (.bJ ((g.fe.take i).map fun t=>V.str (tx (fm t))))/\.aq) .fW .uR .kv .dX⟩;{rw[15];rw[aQ,aS]at hy;cases ht:g.fe[i]? with|none=>rw[ht]at hy;cases hy|some t=>rw[ht]at hy;obtain rfl:=aB hy;have J8:=aE ht;have e1:=F7 t J8;have e2:=Nb t J8;rw[173];refine⟨n,t,rfl,Ok.fe hk t J8,bF.same g2 (tw t J8),.o,.o,fun H3 s3=>? _⟩;rw[242];rfl};{rw[15];rw[aa,aa,bf]at g1;have N':=g2 _ _ N.obj;ktd_call vc [N',pP,Dk,Nh,T.cZ,T.fS,T.gP,T.jY];have ars:("add(":Str)=tx (cd (aH "add(")):=.aF;have afh:(", ":Str)=tx (cd (aH ", ")):=.aF;have art:(")":Str)=tx [41]:=.aF;have aru:("pick":Str)=tx (cd .kU):=.aF;have alp:("if ":Str)=tx (cd (aH "if ")):=.aF;have Qq:(cd (aH "add(")).length=4:=.aF;have agq:(cd (aH ", ")).length=2:=.aF;have aNl:(cd .kU).length=4:=.aF;have aCx:(cd (aH "if ")).length=3:=.aF;cases g with|worth a f=>exact absurd rfl h1|nil=>rw[33]|way t w r=>rw[33]|branch p l t r=>rw[33]|plus a f t=>rw[.fG];(have ef:fm (.plus a f t)=cd (aH "add(")++fq f++cd (aH ", ")++fm t++[41]:=by show cd (.uQ)=_;rw[dw,dw,dw,dw];rfl);rw[ef]at hl q;simp only[ag,Qq,agq,aw,cg]at hl;refine⟨am,f,rfl,g2.fL N.nQ,hk.1,tx (fq f),rfl,? _,? _,_,cM.of g1,V.str (tx (fm t)),rfl,_,rfl,? _,? _,? _⟩;(all_goals rw[ars]);{rw[bX,bX,Qq,sizeLine_eq];omega};{rw[ic,bX,afh,bX,ag,Qq,agq,sizeLine_eq];omega};{rw[ic,afh,ic,bX,bX];simp only[ag,Qq,agq];rw[53];omega};{rw[ic,afh,ic,ic,art,bX,bX];simp only[ag,Qq,agq,aw,cg];rw[53];omega};{rw[ic,afh,ic,ic,art,ic];exact q H' g2}|lot a ws=>rw[if_neg (by show¬decide (.nX="add")=true;decide),.fG];have aif:=Ok.vK hk.1;(have aDu:ws.cU.length=ws.df.length:=by rw[hX,aa]);have k8:=hk.2.2.2;have N:CP K ad H n a "lots" (ws.df.map GT.bB) 0 ws.bq [] 0 [] [] dx wl am sl ll pl sas:=N;have sal:sas.length=ws.bq.length:=N.Rj.length;refine⟨_,rfl,_,_,_,_,_,rfl,g2 _ _ N.obj,T.cZ,T.gu,rE,sl,rfl,⟨_,cM.of (g2 _ _ N.AG)⟩,fun D2 nD2=>oj (K:=K) (a:=sl) (xs:=.fm) (fun i H2=>H2 D2=some (.bJ ((.n0).map fun q=>V.str (tx (fq q))))/\aT H' H2) ⟨ah,aT.aN nD2⟩ (fun i H2 _ h=>h.2.seq (cM.of (g2 _ _ N.AG))) (fun i y H2 hy h=>? _) fun H2 h=>? _⟩;{obtain⟨r1,r2⟩:=h;rw[aS]at hy;cases hs:sas[i]? with|none=>rw[hs]at hy;cases hy|some sa=>rw[hs]at hy;obtain rfl:=aB hy;obtain⟨qv,hq,fqv⟩:=Paired.uj N.Rj hs;ktd_call vc [fU,vQ];refine⟨sa,qv,rfl,(g2.trans r2).fL fqv,Ok.small hk.1 qv (aE hq),_,r1,.gY,? _,fun b o e=>by rw[ai (aq e nD2)];exact r2 _ _ e⟩;rw[ah,a8,hq,aG];rfl};{obtain⟨r1,r2⟩:=h;rw[aa,sal,bf]at r1;(have ef:fm (.lot a ws)=cd .kU++([40]++wQ .dc (eD oW (ws.df.map fm) (ws.bq.map fq))++[41]):=by rw[<-afz hk.1];show cd (.wb)=_;rw[dw,dw,show cd (aH "pick(")=cd .kU++[40]by rw[17]];simp[fm,cd]);rw[ef]at hl q;rw[ag]at hl;refine⟨D,D2,ws.df.map fm,ws.bq.map fq,rfl,cM.of (by rw[aQ];exact r2 _ _ g1),cM.of (by rw[aQ];exact r1),.v8,.g0,fun t ht=>? _,fun t ht=>? _,fun H3 s3=>⟨_,rfl,? _,? _⟩⟩;{rw[117];have:=Nb (g:=.lot a ws) u hu;rw[ef,ag]at this;omega};{rw[117];have:=rg (Ok.small hk.1 u hu);unfold fq;rw[ib];omega};{rw[aru,bX,bX,sizeLine_eq];omega};{rw[aru,ic];exact q H3 ((g2.trans r2).trans s3)}}|station a p nm bs=>rw[if_neg (by show¬decide (.hr="add")=true;decide),if_neg (by show¬decide (.hr="lots")=true;decide)];obtain⟨ln1,ln2⟩:=Ok.pG hk.2.1;(have aDu:bs.cU.length=bs.df.length:=by rw[hX,aa]);have k8:=hk.2.2.2;have N:CP K ad H n a "station" (bs.df.map GT.bB) 0 [] nm p bs.labels bs.lplaces dx wl am sl ll pl sas:=N;(have nml:(cd nm).length<=16:=by rw[ib];exact hk.1.1);(have ef:fm (.eN)=cd (aH "if ")++cd nm++([40]++wQ .dc (eD oW (bs.labels.map cd) (bs.df.map fm))++[41]):=by rw[<-P0 hk.2.1];show cd (aH "if "++nm++[40]++bg bs.er++[41])=_;rw[dw,dw,dw,dw];simp[fm,cd]);rw[ef]at hl q;rw[ag,ag]at hl;refine⟨? _,T.gQ,_,uC,ll,D,bs.labels.map cd,bs.df.map fm,rfl,cM.of (by rw[aQ];exact g2 _ _ N.nV),.uJ,.v8,.g0,fun t ht=>? _,fun t ht=>? _,fun H3 s3=>⟨_,rfl,? _,? _⟩⟩;{show("if ":Str).length+(tx (cd nm)).length<=_;rw[alp,bX,bX,aCx,sizeLine_eq];omega};{rw[117];have:=Ok.VU hk.2.1 u hu;rw[ib];omega};{rw[117];have:=Nb (g:=.eN) u hu;rw[ef,ag,ag]at this;omega};{show(("if ":Str)++tx (cd nm)).length+_<=_;rw[alp,ic,bX,bX,ag,sizeLine_eq];omega};{show Q (V.str (("if ":Str)++tx (cd nm)++_)) H3;rw[alp,ic,ic];exact q H3 (g2.trans s3)}}}}
end
section
variable{P:Program}{w:World}{K:ae}{mg:Str->Option Value}{base:Heap}{ad:Ad}
theorem Jk(T:.U):∀h,.Bt|0=>Kf T|h+1=>Nz T h (Ua T) (NA T) (Jk T h)
def DV(K:ae)(ad:Ad):Sp:=fun vs H Q _=>∃(n:jd)(nm:aK)(g:GT),vs=.uK/\.aY/\.bo/\g.ht<25/\.sj<=900000/\nm.length<=16/\∀H',.aq->Q (.str (tx (cd (gc .iW)))) H'
theorem QG(T:.U):.Bu:=by have sc:a9 ["title","tree","told"] ["title","tree"] (aL Hg):=.af;have xu:=Jk (P:=P) (w:=w) (base:=base) T 25;refine T.Up.dn .aM sc .ae .ag;{obtain⟨n,nm,g,rfl,_⟩:=h;rfl};{obtain⟨n,nm,g,rfl,hk,hT,hh,hl,hn,q⟩:=h;refine⟨_,(aj (bP (i:=2) sc.nd rfl .ai (bx xu .I bQ .a9)) (aD (ba (ac6 (ot dN (ot (Ga .au) (ot dN (ot (Ga .ay) (ot dN Ug))))))))),? _⟩;rw[1];refine⟨n,g,rfl,hk,hT,hh,.o,fun H1 s1=>? _⟩;(have nml:(cd nm).length<=16:=by rw[ib];exact hn);have c1:("chance ":Str)=tx (cd (.n1)):=.aF;have c2:("\ntell ":Str)=tx ([10]++cd (aH "tell ")):=.aF;have c3:("\n":Str)=tx [10]:=.aF;have l1:(cd (.n1)).length=7:=.aF;have l2:(cd (aH "tell ")).length=5:=.aF;have e0:∀l,Str.empty++tx l=tx l:=fun l=>ic [] l;(have ef:cd (gc .iW)=cd (.n1)++cd nm++([10]++cd (aH "tell "))++fm g++[10]:=by show cd (.Du)=_;rw[dw,dw,dw,dw,dw];simp[fm,cd]);rw[ef]at q;ktd_call vc [c1,c2,c3,e0,ic,bX];simp only[ag,l1,l2,aw,cg,sizeLine_eq];refine⟨.o,.o,.o,.o,.o,.o,.o,q H1 s1⟩}
end
end Lc
namespace Sm
abbrev Tb:=List (.b7)
def dM:Tb->Rat->Rat|[],_=>0|y::l,x=>.eO+dM l x
theorem p_(l m:Tb)(x:Rat):dM (l++m) x=dM l x+dM m x:=by induction l with|nil=>rw[ee];show _=0+_;rw[ara]|cons y l ih=>rw[fM];show _+dM (l++m) x=_+dM l x+_;rw[ih,O3]
def rG(t:Tb):Prop:=t.Pairwise (fun a b=>a.1<b.1)/\∀y∈t,0<y.2
theorem rG.tail{y:.b7}{t:Tb}(h:rG (y::t)):rG t:=⟨(fZ.mp h.1).2,fun z hz=>h.2 z .fB⟩
theorem Nf{t:Tb}{x:Rat}(h:∀y∈t,x<y.1):.bU=0:=by induction t with|nil=>rfl|cons y t ih=>have h1:=.gE;show .eO+.bU=0;rw[ih .ip,.oj];grind
theorem rG.mem{t:Tb}(h:rG t){y:.b7}(hy:y∈t):dM t y.1=y.2:=by induction t with|nil=>cases hy|cons z t ih=>show(if z.1=y.1 then z.2 else 0)+dM t y.1=y.2;rw[38];{rw[.aJ,Nf fun u hu=>(fZ.mp h.1).1 u hu];grind};{have:=(fZ.mp h.1).1 y hy;rw[ih h.tail hy,.oj];grind}
theorem XN{t:Tb}{x:Rat}(h:.bU≠0):∃y∈t,y.1=x:=by induction t with|nil=>exact .kW|cons y t ih=>by_cases e:y.1=x;{exact⟨y,au ..,e⟩};{have:.bU≠0:=fun z=>h (by show .eO+.bU=0;rw[.cL,z];grind);obtain⟨z,hz,e⟩:=ih this;exact .yz}
theorem rG.Kt:∀{t u:Tb},rG t->rG u->(∀x,.bU=dM u x)->t=u|[],[],_,_,_=>rfl|[],y::u,_,hu,h=>by have h1:=hu.2 y .aK;have h2:=hu.mem .aK;rw[347]|y::t,[],ht,_,h=>by have h1:=ht.2 y .aK;have h2:=ht.mem .aK;rw[347]|y::t,z::u,ht,hu,h=>by have ey:dM (y::t) y.1=y.2:=ht.mem .aK;have ez:dM (z::u) z.1=z.2:=hu.mem .aK;have py:=ht.2 y .aK;have pz:=hu.2 z .aK;(have ly:∀x,x<y.1->dM (y::t) x=0:=fun x hx=>Nf fun w hw=>by rw[192];{exact hx};{have:=(fZ.mp ht.1).1 w hw;grind});(have lz:∀x,x<z.1->dM (z::u) x=0:=fun x hx=>Nf fun w hw=>by rw[192];{exact hx};{have:=(fZ.mp hu.1).1 w hw;grind});(have e1:y.1=z.1:=by have h1:=h y.1;have h2:=h z.1;have h3:=ly z.1;have h4:=lz y.1;grind);(have e2:y.2=z.2:=by have h1:=h y.1;rw[ey,e1,ez]at h1;exact h1);have e3:y=z:=sQ e1 e2;subst e3;rw[rG.Kt ht.tail hu.tail .bC];have h1:=h x;have h2:.eO+.bU=.eO+dM u x:=h1;grind
def oS(f w:Rat):Tb->Tb|[]=>if w=0 then[]else[(f,w)]|x::r=>if x.1=f then(f,x.2+w)::r else if f<x.1 then(if w=0 then x::r else(f,w)::x::r)else x::oS f w r
theorem A'{f w:Rat}:∀{t:Tb}{y:.b7},y∈oS f w t->y.1=f\/∃z∈t,z.1=y.1|[],y,h=>by unfold oS at h;rw[10];{rw[aA.mp h];exact .fu}|x::r,y,h=>by unfold oS at h;rw[4];{rw[120];{exact .fu};{exact .inr ⟨y,ak _ h,rfl⟩}};{rw[4];{rw[4];{exact .yA};{rw[120];{exact .fu};{exact .yA}}};{rw[120];{exact .inr ⟨y,au ..,rfl⟩};{rcases A' h with h|⟨z,hz,e⟩;{exact .inl h};{exact .inr .yz}}}}
theorem U2{f w:Rat}(hw:0<=w):∀{t:Tb},rG t->rG .om/\∀x,dM .om x=.bU+if f=x then w else 0|[],h=>by unfold oS;split;{rename_i e;refine⟨h,.bC⟩;subst e;show .bH=0+_;rw[42]};{rename_i e;refine⟨⟨nX ..,.cg⟩,.bC⟩;{rw[aA.mp hy];show 0<w;grind};{show(if f=x then w else 0)+0=0+_;grind}}|z::t,h=>by have ih:=U2 (f:=f) hw h.tail;have pz:=h.2 z .aK;have lz:=(fZ.mp h.1).1;unfold oS;split;{rename_i e;refine⟨⟨fZ.mpr ⟨.cg,h.tail.1⟩,.cg⟩,.bC⟩;{have:=lz y hy;show f<y.1;grind};{rw[38];{show 0<z.2+w;grind};{exact h.tail.2 y hy}};{show(if f=x then z.2+w else 0)+.bU=.wd+.bU+_;rw[e];rw[42]}};{rename_i e;split;{rename_i hf;split;{rename_i e0;refine⟨h,.bC⟩;subst e0;rw[42]};{rename_i e0;refine⟨⟨fZ.mpr ⟨.cg,h.1⟩,.cg⟩,.bC⟩;{show f<y.1;rw[38];{exact hf};{have:=lz y hy;grind}};{rw[38];{show 0<w;grind};{exact h.2 y hy}};{show(if f=x then w else 0)+dM (z::t) x=_;grind}}};{rename_i hf;refine⟨⟨fZ.mpr ⟨.cg,ih.1.1⟩,.cg⟩,.bC⟩;{rcases A' hy with h1|⟨u,hu,h1⟩;{rw[h1];grind};{rw[<-h1];exact lz u hu}};{rw[38];{exact pz};{exact ih.1.2 y hy}};{show .wd+dM .om x=.wd+.bU+_;rw[ih.2 x];grind}}}
def iF(l:Tb):Tb:=l.foldl (fun t x=>oS x.1 x.2 t) []
theorem yY{l:Tb}(h:∀y∈l,0<=y.2):rG (iF l)/\∀x,dM (iF l) x=dM l x:=by(have key:∀(l t:Tb),(∀y∈l,0<=y.2)->rG t->rG (.jX)/\∀x,dM (.jX) x=.bU+dM l x:=by intro l;induction l with|nil=>intro t _ ht;refine⟨ht,.bC⟩;show .bU=.bU+0;grind|cons y l ih=>intro t hl ht;obtain⟨c,m⟩:=U2 (f:=y.1) (hl y .aK) ht;obtain⟨c2,m2⟩:=ih (oS y.1 y.2 t) (fun z hz=>hl z .fB) c;refine⟨c2,.bC⟩;rw[ie,m2,m];show _=.bU+(.eO+dM l x);grind);obtain⟨c,m⟩:=key l [] h ⟨xa,.iz⟩;refine⟨c,.bC⟩;rw[iF,m];show 0+_=_;grind
def dC(t:Tb)(w:Rat):Tb:=iF (t.map fun x=>(x.1,x.2*w))
theorem Ar(t:Tb)(w x:Rat):dM (t.map .yB) x=.bU*w:=by induction t with|nil=>show .bH=0*w;grind|cons y t ih=>show(if y.1=x then y.2*w else 0)+dM (t.map _) x=(.eO+.bU)*w;rw[ih];rw[42]
theorem HJ(t:Tb)(f x:Rat):dM (.jY) x=dM t (x-f):=by induction t with|nil=>rfl|cons y t ih=>show(if f+y.1=x then y.2 else 0)+dM (t.map _) x=(if y.1=x-f then y.2 else 0)+dM t (x-f);rw[ih];by_cases e:y.1=x-f;{rw[.du,if_pos .dm]};{rw[.cL,.oj]}
theorem rG.nn{t:Tb}(h:rG t):∀y∈t,0<=y.2:=fun y hy=>by have:=h.2 y hy;grind
theorem uS{t:Tb}{w:Rat}(h:rG t)(hw:0<=w):rG (dC t w)/\∀x,dM (dC t w) x=.bU*w:=by(obtain⟨c,m⟩:=yY (l:=t.map .yB) fun y hy=>by rw[81];exact jT (h.nn z hz) hw);exact⟨c,fun x=>by rw[dC,m,Ar]⟩
theorem DM{t:Tb}{f:Rat}(h:rG t):rG (iF (.jY))/\∀x,dM (iF (.jY)) x=dM t (x-f):=by(obtain⟨c,m⟩:=yY (l:=.jY) fun y hy=>by rw[81];exact h.nn z hz);exact⟨c,fun x=>by rw[m,HJ]⟩
open VaprbBase in def mh(t:Tb):Vaprbo.Table:=t.map fun y=>.mU
theorem BH{w:Rat}:(Fm.of w).num=0↔w=0:=JR
theorem U3(f w:Rat):∀t:Tb,wJ (.bc) .c0 .d8=mh .om|[]=>by unfold oS;show(if(Fm.of w).num=0 then[]else[(.bc,Fm.of w)])=_;by_cases h:w=0;{rw[if_pos (BH.mpr h),.cn];rfl};{rw[if_neg (fun z=>h (BH.mp z)),.cp];rfl}|x::r=>by have ih:=U3 f w r;unfold oS;show(if Fm.of x.1=.bc then(.bc,(Fm.of x.2).add .c0)::mh r else if(.bc).lt (Fm.of x.1)=true then(if(Fm.of w).num=0 then mh (x::r)else(.bc,Fm.of w)::mh (x::r))else(Fm.of x.1,Fm.of x.2)::wJ (.bc) .c0 (mh r))=_;rw[ih,Fm.akg,Fm.tO];by_cases h1:x.1=f;{rw[if_pos (Fm.TQ.mpr h1),.jr];rfl};{rw[if_neg (fun z=>h1 (Fm.TQ.mp z)),.ep];by_cases h2:f<x.1;{rw[if_pos (decide_eq_true h2),.jg];by_cases h3:w=0;{rw[if_pos (BH.mpr h3),if_pos h3]};{rw[if_neg (fun z=>h3 (BH.mp z)),.hC];rfl}};{rw[if_neg (by simpa using h2),.dt];rfl}}
theorem Cm(l:Tb):mf (mh l)=mh (iF l):=by(have key:∀(l t:Tb),(mh l).foldl (fun t x=>wJ x.1 x.2 t) .d8=mh (.jX):=by intro l;induction l with|nil=>intro t;rfl|cons y l ih=>intro t;show(mh l).foldl _ (wJ (.fC) (.jo) .d8)=_;rw[U3,ih];rfl);exact key l []
theorem yZ(t:Tb)(w:Rat):hU .d8 .c0=mh (dC t w):=by unfold hU dC;rw[<-Cm];congr 1;unfold mh;rw[49];show(.fC,(.jo).mul .c0)=(.fC,Fm.of (y.2*w));rw[Fm.vC]
theorem L6(t:Tb)(f:Rat):mf ((mh t).map fun x=>((.bc).add x.1,x.2))=mh (iF (.jY)):=by rw[<-Cm];congr 1;unfold mh;rw[49];show((.bc).add (.fC),.jo)=(Fm.of (f+y.1),.jo);rw[Fm.tO]
theorem Ac(t u:Tb):mh t++mh u=mh (t++u):=by unfold mh;rw[aG]
theorem V7(s:Rat)(h:0<=s):vX.div (Fm.of s)=Fm.of (1/s):=by rw[Fm.anv,Fm.MH _ _ h]
theorem LG{l m:Tb}(h:l.Perm m)(x:Rat):dM l x=dM m x:=by induction h with|nil=>rfl|cons y _ ih=>show _+_=_+_;rw[ih]|swap y z l=>show _+(_+dM l x)=_+(_+dM l x);grind|trans _ _ i1 i2=>rw[i1,i2]
def eV{α:Type}(f:α->Rat):.aT->Rat|[]=>0|y::l=>f y+eV f l
theorem pL{α:Type}{f:α->Rat}{l m:.aT}(h:l.Perm m):eV f l=eV f m:=by induction h with|nil=>rfl|cons y _ ih=>show _+_=_+_;rw[ih]|swap y z l=>show _+(_+_)=_+(_+_);grind|trans _ _ i1 i2=>rw[i1,i2]
theorem vO{α:Type}(f:α->Rat)(l m:.aT):eV f (l++m)=eV f l+eV f m:=by induction l with|nil=>show _=0+_;grind|cons y l ih=>show f y+eV f (l++m)=f y+eV f l+_;rw[ih];grind
theorem jC{α β:Type}(f:β->Rat)(g:α->β)(l:.aT):eV f (l.map g)=eV (fun x=>f (g x)) l:=.Bv
theorem pK{α:Type}(f:α->Rat)(c:Rat)(l:.aT):eV (fun x=>c*f x) l=c*eV f l:=by induction l with|nil=>show .bH=c*0;grind|cons y l ih=>show _+_=c*(_+_);rw[ih];grind
theorem iV{α:Type}{f g:α->Rat}{l:.aT}(h:∀x∈l,f x=g x):eV f l=eV g l:=by induction l with|nil=>rfl|cons y l ih=>show _+_=_+_;rw[.gE,ih .mm]
theorem UA(l:.bG):l.sum=eV id l:=by induction l with|nil=>rfl|cons y l ih=>rw[cS,ih];rfl
theorem KL{f w:Rat}(hw:w≠0):∀{t:Tb},(∀y∈t,y.1≠f)->(oS f w t).Perm ((f,w)::t)|[],_=>by unfold oS;rw[if_neg hw]|x::r,h=>by have ih:=KL hw (t:=r) .pP;unfold oS;rw[if_neg (h x .aK),if_neg hw];split;{exact jw _};{exact(List.Perm.cons x ih).trans (List.Perm.swap ..)}
theorem YD{l:Tb}(hn:.mJ)(hp:∀y∈l,y.2≠0):(iF l).Perm l:=by(have key:∀(l t:Tb),.mJ->(∀y∈l,y.2≠0)->(∀y∈l,∀z∈t,z.1≠y.1)->(.jX).Perm (l++t):=by intro l;induction l with|nil=>intro t _ _ _;exact jw _|cons y l ih=>intro t hn hp hd;rw[aO,cI]at hn;have p1:=KL (f:=y.1) (hp y .aK) (t:=t) fun z hz=>hd y .aK z hz;(have p2:=ih (oS y.1 y.2 t) hn.2 (fun z hz=>hp z .fB) fun z hz v hv e=>by rcases A' hv with h1|⟨v2,h2,h3⟩;{exact hn.1 (aX.mpr ⟨z,hz,e.symm.trans h1⟩)};{exact hd z .fB v2 h2 (h3.trans e)});rw[ie];exact p2.trans ((oJ l p1).trans ae8));have:=key l [] hn hp fun _ _ z hz=>nomatch hz;rw[bM]at this;rw[5]
theorem NH{l t:Tb}(hn:.mJ)(hp:∀y∈l,0<y.2)(ht:rG t)(h:∀x,dM l x=.bU):l.Perm t:=by obtain⟨c,m⟩:=yY (l:=l) .Gj;(have e:iF l=t:=c.Kt ht fun x=>by rw[m,h]);rw[<-e];exact(YD hn .Gj).symm
abbrev Di:=List (.fD)
def di:Di->Int->Int|[],_=>0|y::l,x=>.eO+di l x
def ahw(d:Di)(k v:Int):Di:=if d.any (.oo)then .l5 else d++[(k,v)]
def MU(d:Di)(k:Int):Int:=((d.find? .oo).map .bA).getD 0
def O9(d:Di)(k w:Int):Di:=ahw d k (MU d k+w)
structure Ky(d:Di):Prop where
nd:(d.map (·.1)).Nodup
pos:∀y∈d,0<y.2
theorem BE(l m:Di)(x:Int):di (l++m) x=di l x+di m x:=by induction l with|nil=>rw[ee];show _=0+_;omega|cons y l ih=>rw[fM];show _+di (l++m) x=_+di l x+_;rw[ih];omega
theorem rD{d:Di}{k:Int}(h:∀y∈d,y.1≠k):di d k=0:=by induction d with|nil=>rfl|cons y d ih=>show .jZ=0;rw[if_neg (.gE),ih .ip];rfl
theorem U4{d:Di}{k:Int}:(d.any (.oo))=true↔∃y∈d,y.1=k:=.aN
theorem yM{d:Di}(h:.n2)(k:Int):MU d k=di d k:=by induction d with|nil=>rfl|cons y d ih=>rw[aO,cI]at h;show _=.jZ;unfold MU;rw[gC];by_cases e:y.1=k;{rw[.du,rD (.Dv)];simp[e]};{rw[.cL];simp only[.xW];show MU d k=_;rw[ih h.2];omega}
theorem agu{d:Di}{k v:Int}:(.l5).map .aX=.fX:=by rw[aQ];refine bY .hO;show(if y.1=k then(y.1,v)else y).1=y.1;split<;>rfl
theorem ab6{d:Di}(h:.n2){k v:Int}(hk:∃y∈d,y.1=k)(x:Int):di (.l5) x=di d x+if k=x then v-di d k else 0:=by induction d with|nil=>obtain⟨y,hy,_⟩:=hk;cases hy|cons y d ih=>rw[aO,cI]at h;by_cases e:y.1=k;{have nk:∀z∈d,z.1≠k:=.Dv;(have e3:(.l5)=d:=by(have:.l5=d.map id:=bY fun z hz=>by rw[if_neg (nk z hz)];rfl);rw[this,US]);have e4:=rD nk;rw[aO,.du,e3];show(if y.1=x then v else 0)+di d x=.EJ;rw[e4,.du,e];rw[32]};{(have Fq:∃z∈d,z.1=k:=by obtain⟨z,hz,e2⟩:=hk;rcases aJ.mp hz with rfl|hz;{exact absurd e2 e};{exact⟨z,hz,e2⟩});rw[aO,.cL];show .eO+di _ x=.EJ;rw[ih h.2 Fq,.cL];split<;>split<;>omega}
theorem ab5{d:Di}(h:∀y∈d,0<=y.2)(k:Int):0<=di d k:=by induction d with|nil=>exact Ju _|cons y d ih=>have h1:=.gE;have h2:=ih .ip;show 0<=.jZ;rw[32]
theorem afa{d:Di}(h:Ky d){k w:Int}(hw:0<w):Ky (O9 d k w)/\(∀x,di (O9 d k w) x=di d x+if k=x then w else 0)/\(O9 d k w).length<=d.length+1:=by have nn:=ab5 (d:=d) (fun y hy=>by have:=h.pos y hy;omega);unfold O9 ahw;rw[yM h.nd];split;{rename_i ha;have hk:=U4.mp ha;refine⟨⟨by rw[agu];exact h.nd,.cg⟩,.bC,.g0⟩;{rw[81];split;{have:=nn k;show 0<di d k+w;omega};{exact h.pos z hz}};{rw[ab6 h.nd hk];rw[32]}};{rename_i ha;have hk:∀y∈d,y.1≠k:=fun y hy e=>ha (U4.mpr ⟨y,hy,e⟩);refine⟨⟨? _,.cg⟩,.bC,by rw[ag];rw[13]⟩;{rw[aG];refine g9.mpr ⟨h.nd,.aN,fun a ha' b hb e=>? _⟩;obtain⟨y,hy,rfl⟩:=aX.mp ha';simp at hb;exact hk y hy (by rw[e,hb])};{rw[48];{exact h.pos y hy};{rw[aA.mp hy,rD hk];show 0<0+w;omega}};{rw[BE];show di d x+((if k=x then di d k+w else 0)+0)=_;rw[rD hk];rw[32]}}
def nE(E d:Di):Di:=E.foldl (fun d y=>O9 d y.1 y.2) d
theorem pY:∀{E d:Di},Ky d->(∀y∈E,0<y.2)->Ky (nE E d)/\(∀x,di (nE E d) x=di d x+di E x)/\(nE E d).length<=d.length+E.length|[],d,h,_=>⟨h,fun x=>(by show di d x=di d x+0;omega),aF _⟩|y::E,d,h,hE=>by obtain⟨c,m,l⟩:=afa h (k:=y.1) (hE y .aK);obtain⟨c2,m2,l2⟩:=pY (E:=E) c fun z hz=>hE z .fB;refine⟨c2,.bC,? _⟩;{show di (nE E (O9 d y.1 y.2)) x=di d x+(.eO+di E x);rw[m2,m];omega};{show(nE E (O9 d y.1 y.2)).length<=_;rw[aw];omega}
theorem Ky.nil:Ky []:=⟨iZ,.iz⟩
def vy(u a c:Rat)(d:Di):Tb:=d.map fun y=>(.fo-a,.hP/c)
theorem Ph{i j:Int}(h:.eE=j):i=j:=.kD
theorem Be{i j:Int}:.eE<j↔i<j:=by exact_mod_cast E9
theorem ZK{i:Int}(h:0<i):.bH<i:=.kD
theorem VP{u a:Rat}(hu:0<u){i j:Int}(h:.eE/u-a=j/u-a):i=j:=by refine Ph ? _;have:u≠0:=.a6;grind
theorem Qw{u a c:Rat}(hu:0<u)(d:Di)(k:Int):dM (.eY) (k/u-a)=di d k/c:=by induction d with|nil=>show .bH=.sk/c;rw[qu,cR,arb]|cons y d ih=>show(if .fo-a=k/u-a then .hP/c else 0)+dM (.eY) _=((.jZ:Int):Rat)/c;rw[ih];by_cases e:y.1=k;{rw[.du,if_pos (by rw[e])];simp only[yz];grind};{rw[.cL,if_neg (fun z=>e (VP hu z))];simp only[yz,qu];grind}
theorem zR{u a c:Rat}(d:Di){x:Rat}(h:∀k:Int,x≠k/u-a):dM (.eY) x=0:=by cases e:decide (dM (vy u a c d) x=0)with|true=>exact .qW|false=>obtain⟨y,hy,e2⟩:=XN (.xk);obtain⟨z,_,rfl⟩:=aX.mp hy;exact absurd e2.symm (h z.1)
theorem Qo{u a c:Rat}(hu:0<u){d E:Di}(h:∀k,di d k=di E k)(x:Rat):dM (.eY) x=dM (vy u a c E) x:=by by_cases hx:∃k:Int,x=k/u-a;{obtain⟨k,rfl⟩:=hx;rw[Qw hu,Qw hu,h]};{have Y5:∀k:Int,x≠k/u-a:=fun k z=>hx ⟨k,z⟩;rw[zR d Y5,zR E Y5]}
theorem an4{u a c:Rat}(hu:0<u){d:Di}(h:.n2):((.eY).map .aX).Nodup:=by unfold vy;rw[aQ];have:(d.map ((fun x:.b7=>x.1)∘fun y:.fD=>(.fo-a,.hP/c)))=(.fX).map fun k:Int=>.gv-a:=.qU;rw[this];exact w_ _ (fun i j h e=>h (VP hu e)) h
theorem FZ{a b:Rat}(ha:0<a)(hb:0<b):0<a/b:=by rw[cR];exact WU ha (vb.mpr hb)
theorem VH{u a c:Rat}(hc:0<c){d:Di}(h:∀y∈d,0<y.2):∀y∈.eY,0<y.2:=fun y hy=>by rw[81];exact FZ (ZK (h z hz)) hc
theorem ug{u a c:Rat}(hu:0<u)(hc:0<c){D E:Di}{t:Tb}(hD:Ky D)(hm:∀k,di D k=di E k)(ht:rG t)(h:∀x,dM (vy u a c E) x=.bU):(vy u a c D).Perm t:=NH (an4 hu hD.nd) (VH hc hD.pos) ht fun x=>by rw[Qo hu hm,h]
def mx(a b:Rat):Rat:=if a<b then b else a
def tj(s t:Tb):Tb:=s.flatMap fun x=>t.map fun y=>(mx x.1 y.1,x.2*y.2)
theorem ah0(a b:Rat):mx a b=mx b a:=by unfold mx;split<;>split<;>grind
theorem XM{α:Type}(f:α->Tb)(l:.aT)(x:Rat):dM (l.flatMap f) x=eV (fun y=>dM (f y) x) l:=by induction l with|nil=>rfl|cons y l ih=>rw[cK,p_,ih];rfl
theorem ab7(l:Tb)(x:Rat):dM l x=eV (fun y=>if y.1=x then y.2 else 0) l:=.Bv
theorem yP(s t:Tb)(x:Rat):dM (tj s t) x=eV (fun y=>eV (fun z=>if mx y.1 z.1=x then y.2*z.2 else 0) t) s:=by unfold tj;rw[XM];refine iV .hO;rw[ab7,jC]
theorem YC{α:Type}(f g:α->Rat)(l:.aT):eV (fun x=>f x+g x) l=eV f l+eV g l:=by induction l with|nil=>show .bH=0+0;grind|cons y l ih=>show _+_=(_+_)+(_+_);rw[ih];grind
theorem Uz{α:Type}(l:.aT):eV (fun _=>0) l=0:=by induction l with|nil=>rfl|cons y l ih=>show 0+_=_;rw[ih];grind
theorem Uy{α β:Type}(f:α->β->Rat)(l:.aT)(m:.dD):eV (fun x=>eV (fun y=>f x y) m) l=eV (fun y=>eV (fun x=>f x y) l) m:=by induction l with|nil=>show .bH=eV (fun _=>0) m;rw[Uz]|cons x l ih=>show eV (fun y=>f x y) m+_=eV (fun y=>f x y+eV (fun x=>f x y) l) m;rw[ih,YC]
theorem HH(s t:Tb)(x:Rat):dM (tj s t) x=dM (tj t s) x:=by rw[yP,yP,Uy];refine iV fun y _=>iV fun z _=>? _;rw[ah0,pj]
theorem HI{s s' t t':Tb}(h:s.Perm s')(h':t.Perm t')(x:Rat):dM (tj s t) x=dM (tj s' t') x:=by rw[yP,yP,pL h];exact iV fun y _=>pL h'
def ou(d e:Di):Di:=d.flatMap fun x=>e.map fun y=>(max x.1 y.1,x.2*y.2)
theorem ank{u a:Rat}(hu:0<u)(i j:Int):mx (.eE/u-a) (j/u-a)=((max i j:Int):Rat)/u-a:=by unfold mx;have hui:0<u⁻¹:=vb.mpr hu;by_cases h:i<j;{have h2:.eE<j:=.kD;(have h3:.eE/u<j/u:=by rw[cR,cR];exact me h2 hui);rw[if_pos .dm,wC .C]};{(have h2:(j:Rat)<=i:=by exact_mod_cast(Int.not_lt.mp h));(have h3:(j:Rat)/u<=i/u:=by rw[cR,cR];exact qw h2 .dm);rw[.oj,yu .C]}
theorem aav{u a c c':Rat}(hu:0<u)(hc:0<c)(hc':0<c')(d e:Di):vy u a (c*c') (ou d e)=tj (.eY) (vy u a c' e):=by unfold ou tj vy;rw[FK,kC];refine congrArg (fun f=>wY f d) (funext .bC);rw[49];show(((max x.1 y.1:Int):Rat)/u-a,((x.2*y.2:Int):Rat)/(c*c'))=(mx (x.1/u-a) (y.1/u-a),x.2/c*(y.2/c'));rw[ank hu,gE];have h1:c≠0:=.a6;have h2:c'≠0:=.a6;refine congrArg (Prod.mk _) ? _;grind
end Sm
namespace Lc
open Sm
abbrev uY:=aK->Nat
theorem Ta(g:GT):g.er.weights=g.bq.map Fm.of:=by rw[358]
theorem qh(g:GT):j8 g.er.weights=Fm.of g.bq.sum:=by rw[Ta,Fm.Oh]
theorem GT.Ok.mY{g:GT}(h:g.Ok 1):∀w∈g.bq,0<=w:=by induction g with|way t w r _ ih=>intro v hv;rw[89];{exact h.2.2.1};{exact ih .aZ v hv}|nil=>intro v hv;cases hv|worth a f=>rw[0]|plus a f t _=>rw[0]|lot a ws _=>rw[0]|station a p n bs _=>rw[0]|branch p l t r _ _=>rw[0]
theorem vP{l:.bG}(h:∀w∈l,0<=w):0<=l.sum:=by induction l with|nil=>exact z8|cons y l ih=>have h1:=.gE;have h2:=ih .ip;rw[cS];grind
theorem ail{l:.bG}(h:∀w∈l,0<=w)(hp:∃w∈l,w≠0):0<l.sum:=by induction l with|nil=>obtain⟨w,hw,_⟩:=hp;cases hw|cons y l ih=>have h1:=.gE;have h2:=vP .ip;rw[cS];obtain⟨w,hw,mi⟩:=hp;rw[192];{grind};{have:=ih (.ip) ⟨w,hw,mi⟩;grind}
theorem vz{a:A3}{ws:GT}(h:(GT.lot a ws).Ok 0):0<ws.bq.sum:=ail h.1.mY .aI
def wR(c:uY):Nat->GT->Rat|_,.worth _ f=>f|_,.plus _ f t=>f+wR c 0 t|_,.lot _ ws=>wR c 0 ws/ws.bq.sum|_,.station _ _ n bs=>wR c (c n) bs|_,.nil=>0|_,.way t w r=>w*wR c 0 t+wR c 0 r|k,.branch _ _ t r=>if k=0 then wR c 0 t else wR c (k-1) r
theorem RS(ss:.aL)(p:fX){g:GT}:∀{j:Nat}(k:Nat),.de->cV ss p k g.er=Fm.of (wR (bG ss p) k g):=by induction g with|worth a f=>intro j k _;rfl|plus a f t ih=>(intro j k h;match j,h with|0,h=>show(.bc).add (cV ss p 0 t.er)=_;rw[ih 0 h.2,Fm.tO];rfl)|lot a ws ih=>(intro j k h;match j,h with|0,h=>show(cV ss p 0 ws.er).div .qX=_;rw[ih 0 h.1,qh,Fm.MH _ _ .hv];rfl)|station a q n bs ih=>(intro j k h;match j,h with|0,h=>show cV ss p (bG ss p n) bs.er=_;rw[ih _ .aI];rfl)|nil=>intro j k _;rfl|way t w r it ir=>(intro j k h;match j,h with|1,h=>show((Fm.of w).mul (cV ss p 0 t.er)).add (cV ss p 0 r.er)=_;rw[it 0 h.1,ir 0 .aZ,Fm.vC,Fm.tO];rfl)|branch q l t r it ir=>intro j k h;match j,h with|2,h=>show(if k=0 then cV ss p 0 t.er else cV ss p (k-1) r.er)=Fm.of .EK;split;rw[174]
def kX(c:uY):Nat->GT->Tb|_,.worth _ f=>[(f,1)]|_,.plus _ f t=>iF ((kX c 0 t).map .l4)|_,.lot _ ws=>dC (kX c 0 ws) .kZ|_,.station _ _ n bs=>kX c (c n) bs|_,.nil=>[]|_,.way t w r=>iF (dC (kX c 0 t) w++kX c 0 r)|k,.branch _ _ t r=>if k=0 then kX c 0 t else kX c (k-1) r
theorem ND(ss:.aL)(p:fX){g:GT}:∀{j:Nat}(k:Nat),.de->fE ss p k g.er=mh (kX (bG ss p) k g):=by induction g with|worth a f=>intro j k _;rfl|plus a f t ih=>(intro j k h;match j,h with|0,h=>show mf ((fE ss p 0 t.er).map fun x=>((.bc).add x.1,x.2))=_;rw[ih 0 h.2,L6];rfl)|lot a ws ih=>(intro j k h;match j,h with|0,h=>show hU (fE ss p 0 ws.er) (vX.div .qX)=_;rw[ih 0 h.1,qh,V7 _ .hv,yZ];rfl)|station a q n bs ih=>(intro j k h;match j,h with|0,h=>show fE ss p (bG ss p n) bs.er=_;rw[ih _ .aI];rfl)|nil=>intro j k _;rfl|way t w r it ir=>(intro j k h;match j,h with|1,h=>show mf (hU (fE ss p 0 t.er) .c0++fE ss p 0 r.er)=_;rw[it 0 h.1,ir 0 .aZ,yZ,Ac,Cm];rfl)|branch q l t r it ir=>intro j k h;match j,h with|2,h=>show(if k=0 then fE ss p 0 t.er else fE ss p (k-1) r.er)=mh (if k=0 then kX _ 0 t else kX _ (k-1) r);split;rw[174]
def jJ(c:uY):Nat->GT->Rat->Rat->Tb|_,.worth _ f,a,q=>[(a+f,q)]|_,.plus _ f t,a,q=>jJ c 0 t (a+f) q|_,.lot _ ws,a,q=>.yC|_,.station _ _ n bs,a,q=>jJ c (c n) bs a q|_,.nil,_,_=>[]|_,.way t w r,a,q=>.qf|k,.branch _ _ t r,a,q=>if k=0 then jJ c 0 t a q else jJ c (k-1) r a q
theorem FW:rG []:=⟨xa,.iz⟩
theorem Hw{s:Rat}(h:0<=s):0<=1/s:=by rw[cR,Rat.one_mul];by_cases hz:s=0;{subst hz;rw[Rat.inv_zero];exact z8};{have:0<s⁻¹:=vb.mpr .dm;grind}
theorem ac2(c:uY){g:GT}:∀{j:Nat}(k:Nat),.de->rG (kX c k g)/\∀a q x,dM (jJ c k g a q) x=q*dM (kX c k g) (x-a):=by induction g with|worth b f=>intro j k h;refine⟨.Bw,.jb⟩;show(if a+f=x then q else 0)+0=q*((if f=x-a then 1 else 0)+0);by_cases e:f=x-a;{rw[.du,if_pos .dm];grind};{rw[.cL,.oj];grind}|plus b f t ih=>(intro j k h;match j,h with|0,h=>obtain⟨c1,m1⟩:=ih 0 h.2;obtain⟨c2,m2⟩:=DM (f:=f) c1;refine⟨c2,.jb⟩;show dM (jJ c 0 t (a+f) q) x=q*dM (iF _) (x-a);rw[m1,m2];have:x-(a+f)=x-a-f:=.a6;rw[this])|lot b ws ih=>(intro j k h;match j,h with|0,h=>obtain⟨c1,m1⟩:=ih 0 h.1;obtain⟨c2,m2⟩:=uS c1 (Hw .hv);refine⟨c2,.jb⟩;show dM (.yC) x=q*dM (dC _ _) (x-a);rw[m1,m2];grind)|station b q n bs ih=>(intro j k h;match j,h with|0,h=>exact ih _ .aI)|nil=>intro j k h;refine⟨FW,.jb⟩;show .bH=q*0;grind|way t w r it ir=>(intro j k h;match j,h with|1,h=>obtain⟨c1,m1⟩:=it 0 h.1;obtain⟨c2,m2⟩:=ir 0 .aZ;obtain⟨c3,m3⟩:=uS c1 h.2.2.1;(obtain⟨c4,m4⟩:=yY (l:=dC (kX c 0 t) w++kX c 0 r) fun y hy=>by rw[48];{exact c3.nn y hy};{exact c2.nn y hy});refine⟨c4,.jb⟩;show dM (.qf) x=q*dM (iF _) (x-a);rw[p_,m1,m2,m4,p_,m3];grind)|branch p l t r it ir=>intro j k h;match j,h with|2,h=>by_cases hk:k=0;{have:=it 0 .aI;unfold kX jJ;rw[.bP];refine⟨this.1,.jb⟩;rw[.bP];exact this.2 a q x};{have:=ir (k-1) h.2.2;unfold kX jJ;rw[.bV];refine⟨this.1,.jb⟩;rw[.bV];exact this.2 a q x}
def OW(c:uY):Nat->GT->Rat|_,.worth _ _=>1|_,.plus _ _ t=>OW c 0 t|_,.lot _ ws=>.xl|_,.station _ _ n bs=>OW c (c n) bs|_,.nil=>0|_,.way t w r=>.xm|k,.branch _ _ t r=>if k=0 then OW c 0 t else OW c (k-1) r
def VC(c:uY):GT->Prop|.worth _ _=>True|.plus _ _ t=>VC c t|.lot _ ws=>VC c ws|.station _ _ n bs=>c n<bs.cU.length/\VC c bs|.nil=>True|.way t _ r=>VC c t/\VC c r|.branch _ _ t r=>VC c t/\VC c r
def Fit(j k:Nat)(g:GT):Prop:=j=2->k<g.cU.length
theorem auj(c:uY){g:GT}:∀{j:Nat}(k:Nat),.de->VC c g->Fit j k g->OW c k g=.we:=by induction g with|worth b f=>(intro j k h _ _;match j,h with|0,h=>rfl)|plus b f t ih=>(intro j k h v _;match j,h with|0,h=>exact ih 0 h.2 v .bt)|lot b ws ih=>(intro j k h v _;match j,h with|0,h=>have:=ih 0 h.1 v .bt;rw[.aJ]at this;show .xl=1;have hp:=vz h;have mi:ws.bq.sum≠0:=.a6;rw[this,cR,Rat.mul_inv_cancel _ mi])|station b p n bs ih=>(intro j k h v _;match j,h with|0,h=>exact ih (c n) .aI v.2 (fun _=>v.1))|nil=>(intro j k h v f;match j,h with|1,_=>rfl|2,_=>exact absurd (f rfl) (lF _))|way t w r it ir=>(intro j k h v f;match j,h with|1,h=>have h1:=it 0 h.1 v.1 .bt;have h2:=ir 0 .aZ v.2 .bt;rw[.aE]at h1;rw[.aJ]at h2;show .xm=(w::r.bq).sum;rw[h1,h2,cS];grind)|branch p l t r it ir=>intro j k h v f;match j,h with|2,h=>rw[.aE];unfold OW;by_cases hk:k=0;{rw[.bP];have h1:=it 0 .aI v.1 .bt;rw[.aE]at h1;exact h1};{rw[.bV];have h2:=ir (k-1) h.2.2 v.2 (fun _=>by have:=f rfl;show k-1<r.cU.length;have h3:k<r.cU.length+1:=this;omega);rw[.aE]at h2;exact h2}
theorem Xl(c:uY){g:GT}:∀{j:Nat}(k:Nat),.de->VC c g->Fit j k g->∀a q:Rat,eV (.eP) (jJ c k g a q)=q*(a*OW c k g+wR c k g):=by induction g with|worth b f=>intro j k h v ft a q;show(a+f)*q+0=q*(a*1+f);grind|plus b f t ih=>(intro j k h v ft a q;match j,h with|0,h=>show eV _ (jJ c 0 t (a+f) q)=q*(a*OW c 0 t+(f+wR c 0 t));rw[ih 0 h.2 v .bt];have:=auj c 0 h.2 v .bt;rw[.aE]at this;rw[this];grind)|lot b ws ih=>(intro j k h v ft a q;match j,h with|0,h=>show eV _ (.yC)=q*(a*(.xl)+wR c 0 ws/ws.bq.sum);rw[ih 0 h.1 v .bt];grind)|station b p n bs ih=>(intro j k h v ft a q;match j,h with|0,h=>exact ih _ .aI v.2 (fun _=>v.1) a q)|nil=>intro j k h v ft a q;show .bH=q*(a*0+0);grind|way t w r it ir=>(intro j k h v ft a q;match j,h with|1,h=>show eV _ (.qf)=q*(a*(.xm)+(w*wR c 0 t+wR c 0 r));rw[vO,it 0 h.1 v.1 .bt,ir 0 .aZ v.2 .bt];grind)|branch p l t r it ir=>intro j k h v ft a q;match j,h with|2,h=>unfold jJ OW wR;by_cases hk:k=0;{simp only[.bP];exact it 0 .aI v.1 .bt a q};{simp only[.bV];exact ir (k-1) h.2.2 v.2 (fun _=>by have:=ft rfl;have h3:k<r.cU.length+1:=this;omega) a q}
theorem YN(c:uY){g:GT}(h:.aY)(v:VC c g):eV (.eP) (.n3)=wR c 0 g:=by rw[Xl c 0 h v .bt];grind
def tF(n:jd)(u p:Rat):GT->Rat->Rat->Prop|.worth x f,a,q=>.fp=(a+f)*u/\(.cB:Rat)=q*p/\.df=n.sp x*.cB|.plus x f t,a,q=>.df=0/\tF n u p t (a+f) q|.lot x ws,a,q=>.df=0/\tF n u p ws a (.iX)|.station x _ _ bs,a,q=>.df=0/\tF n u p bs a q|.nil,_,_=>True|.way t w r,a,q=>tF n u p t a (q*w)/\tF n u p r a q|.branch _ _ t r,a,q=>tF n u p t a q/\tF n u p r a q
def cT(c:uY):Nat->GT->List A3|_,.worth x _=>[x]|_,.plus _ _ t=>cT c 0 t|_,.lot _ ws=>cT c 0 ws|_,.station _ _ n bs=>cT c (c n) bs|_,.nil=>[]|_,.way t _ r=>.mV|k,.branch _ _ t r=>.l6
theorem K9(c:uY){n:jd}{u p:Rat}{g:GT}:∀{k:Nat}{a q:Rat},.iY->(cT c k g).map (fun x=>(.fp,(.cB:Rat)))=(jJ c k g a q).map (.xn)/\∀x∈cT c k g,.df=n.sp x*.cB:=by induction g with|worth b f=>intro k a q h;refine⟨? _,fun x hx=>by rw[aA.mp hx];exact h.2.2⟩;show[((n.sp b:Rat),(n.wt b:Rat))]=[((a+f)*u,q*p)];rw[h.1,.aI]|plus b f t ih=>intro k a q h;exact ih h.2|lot b ws ih=>intro k a q h;exact ih h.2|station b pl nm bs ih=>intro k a q h;exact ih h.2|nil=>intro k a q h;exact⟨rfl,fun _ hx=>nomatch hx⟩|way t w r it ir=>intro k a q h;obtain⟨h1,h2⟩:=it (k:=0) h.1;obtain⟨h3,h4⟩:=ir (k:=0) h.2;refine⟨? _,.fk⟩;{show(.mV).map _=(.qf).map _;rw[aG,aG,h1,h3]};{rw[90];{exact h4 x hx};{exact h2 x hx}}|branch pl l t r it ir=>intro k a q h;unfold cT jJ;by_cases hk:k=0;{simp only[.bP];exact it h.1};{simp only[.bV];exact ir h.2}
theorem G6(c:uY){g:GT}:∀{k:Nat},∀x∈cT c k g,x∈g.bN:=by induction g with|worth b f=>intro k x hx;exact hx|plus b f t ih=>rw[193]|lot b ws ih=>rw[193]|station b pl nm bs ih=>rw[193]|nil=>intro k x hx;cases hx|way t w r it ir=>intro k x hx;rw[90];{exact bC _ (ir x hx)};{exact bR _ (it x hx)}|branch pl l t r it ir=>intro k x hx;unfold cT at hx;split at hx;{exact bR _ (it x hx)};{exact bC _ (ir x hx)}
theorem G0(c:uY){g:GT}:∀{k:Nat},(cT c k g).length<=g.bN.length:=by induction g with|worth b f=>intro k;rw[13]|plus b f t ih=>intro k;exact Fc (ih (k:=0))|lot b ws ih=>intro k;exact Fc (ih (k:=0))|station b pl nm bs ih=>intro k;exact Fc (ih (k:=c nm))|nil=>intro k;rw[13]|way t w r it ir=>intro k;have h1:=it (k:=0);have h2:=ir (k:=0);show(.mV).length<=.kE;rw[ag,ag];omega|branch pl l t r it ir=>intro k;have h1:=it (k:=0);have h2:=ir (k:=k-1);show(.l6).length<=.kE;rw[ag];rw[32]
def kr{α:Type}(f:α->Int)(l:.aT):Int:=(l.map f).sum
theorem uO{α:Type}(f:α->Int)(l:.aT):((kr f l:Int):Rat)=eV (fun x=>(f x:Rat)) l:=by induction l with|nil=>rfl|cons y l ih=>show(((f y+kr f l:Int)):Rat)=(f y:Rat)+_;rw[yz,ih]
theorem E8(c:uY){n:jd}{u p:Rat}{g:GT}(h:.aY)(v:VC c g)(an:tF n u p g 0 1):((kr n.tt (.bR):Int):Rat)=u*p*wR c 0 g:=by obtain⟨h1,h2⟩:=K9 c (k:=0) an;rw[uO,<-YN c h v,<-pK];(have e1:eV (fun x=>(.df:Rat)) (.bR)=eV (fun y:.b7=>y.1*y.2) ((.bR).map fun x=>(.fp,(.cB:Rat))):=by rw[jC];refine iV .fk;rw[h2 x hx,gE]);rw[e1,h1,jC];refine iV .hO;show y.1*u*(y.2*p)=u*p*(y.1*y.2);grind
def qe(n:jd)(l:List A3):Di:=(l.filter fun x=>0<.cB).map fun x=>(n.sp x,.cB)
theorem QU(n:jd)(l:List A3):∀y∈qe n l,0<y.2:=fun y hy=>by obtain⟨x,hx,rfl⟩:=aX.mp hy;exact of_decide_eq_true (nI.mp hx).2
theorem LW{n:jd}{u p:Rat}(hu:0<u)(hp:0<p):∀{l:List A3},(∀x∈l,0<=.cB)->∀x,dM (vy u 0 p (qe n l)) x=dM (l.map .uS) x|[],_,x=>rfl|y::l,h,x=>by have ih:=LW hu hp (l:=l) (.ip) x;have hy:=.gE;show _=(if .kF=x then(n.wt y:Rat)/p else 0)+dM _ x;rw[<-ih];unfold qe;rw[kx];by_cases hw:0<n.wt y;{rw[if_pos (decide_eq_true hw),aO];show(if .kF-0=x then(n.wt y:Rat)/p else 0)+_=_;have:.kF-0=.kF:=.a6;rw[this];rfl};{have h0:n.wt y=0:=.o;rw[if_neg .vB,h0];(have:.sk/p=0:=by rw[qu,cR,arb]);rw[this];(have:(if .kF=x then .bH else 0)=0:=by split<;>rfl);rw[this];grind}
theorem afy(c:uY){g:GT}:∀{j k:Nat}{a q:Rat},.de->0<=q->∀y∈jJ c k g a q,0<=y.2:=by induction g with|worth b f=>intro j k a q h hq y hy;rw[aA.mp hy];exact hq|plus b f t ih=>(intro j k a q h hq;match j,h with|0,h=>exact ih (k:=0) h.2 hq)|lot b ws ih=>(intro j k a q h hq;match j,h with|0,h=>refine ih (k:=0) h.1 ? _;have:=Hw .hv;have e:.iX=q*.kZ:=.a6;rw[e];exact jT hq this)|station b pl nm bs ih=>(intro j k a q h hq;match j,h with|0,h=>exact ih .aI hq)|nil=>intro j k a q h hq y hy;cases hy|way t w r it ir=>(intro j k a q h hq y hy;match j,h with|1,h=>rw[48];{exact ir (k:=0) .aZ hq y hy};{exact it (k:=0) h.1 (jT hq h.2.2.1) y hy})|branch pl l t r it ir=>intro j k a q h hq y hy;match j,h with|2,h=>unfold jJ at hy;split at hy;{exact it .aI hq y hy};{exact ir h.2.2 hq y hy}
theorem OG(c:uY){n:jd}{u p:Rat}{g:GT}(hu:0<u)(hp:0<p)(h:.aY)(an:tF n u p g 0 1){d:Di}(hd:Ky d)(hm:∀k,di d k=di (.lh) k):(vy u 0 p d).Perm .oq:=by obtain⟨h1,h2⟩:=K9 c (k:=0) an;obtain⟨c1,m1⟩:=ac2 c (g:=g) 0 h;have une:u≠0:=.a6;have pne:p≠0:=.a6;(have e1:((.bR).map .uS)=.n3:=by have:((.bR).map .uS)=((.bR).map fun x=>(.fp,(.cB:Rat))).map fun z:.b7=>(z.1/u,z.2/p):=.qU;rw[this,h1,aQ];(have e:(.n3).map ((fun z:.b7=>(z.1/u,z.2/p))∘.xn)=(.n3).map id:=bY fun y _=>by show(y.1*u/u,y.2*p/p)=y;refine sQ ? _ ? _;{show y.1*u/u=y.1;grind};{show y.2*p/p=y.2;grind});rw[e,US]);(have nnw:∀x∈.bR,0<=.cB:=fun x hx=>by(have hm:(.fp,(.cB:Rat))∈(.n3).map .xn:=by rw[<-h1];exact aX.mpr ⟨x,hx,rfl⟩);obtain⟨y,hy,e⟩:=aX.mp hm;have h3:=afy c (k:=0) (a:=0) h (.aW:.bH<=1) y hy;have h4:(.cB:Rat)=y.2*p:=(hG e).2.symm;(have h5:.bH<=.cB:=by rw[h4];exact jT h3 .dm);exact_mod_cast h5);refine ug hu hp hd hm c1 .bC;rw[LW hu hp nnw,e1,m1];have:x-0=x:=.a6;rw[this];grind
def fR:GT->Rat|.worth _ f=>f|.plus _ f t=>f+fR t|.lot _ ws=>fR ws/ws.bq.sum|.station _ _ _ bs=>fR bs|.nil=>0|.way t w r=>w*fR t+fR r|.branch _ _ t .nil=>fR t|.branch _ _ t r=>.qY
theorem Ao(a b:Rat):yA (Fm.of a) (Fm.of b)=Fm.of (mx a b):=by unfold yA mx;rw[Fm.akg];by_cases h:a<b;{rw[if_pos (.nA),.cn]};{rw[.jL,.cp]}
theorem K'{p:Nat}{l:aK}{t r:GT}(h:r≠.nil):fR .gZ=.qY:=.ik
theorem P8{p:Nat}{l:aK}{t r:eg}(h:r≠.nil):kL .gZ=yA (kL t) (kL r):=.ik
theorem Rh{p:Nat}{l:aK}{t r:eg}(h:r≠.nil):kM .gZ=(kM t).bind fun x=>(kM r).bind fun y=>if tN<.yD then none else some (wL x y):=.ik
theorem Z6{r:GT}:r.er=.nil↔r=.nil:=by cases r with|nil=>exact⟨.bQ,.bQ⟩|_=>exact⟨(fun h=>nomatch h),(fun h=>nomatch h)⟩
theorem ag0{g:GT}:∀{j:Nat},.de->kL g.er=Fm.of (fR g):=by induction g with|worth a f=>intro j _;rfl|plus a f t ih=>(intro j h;match j,h with|0,h=>show(.bc).add (kL t.er)=_;rw[ih h.2,Fm.tO];rfl)|lot a ws ih=>(intro j h;match j,h with|0,h=>show(kL ws.er).div .qX=_;rw[ih h.1,qh,Fm.MH _ _ .hv];rfl)|station a q n bs ih=>(intro j h;match j,h with|0,h=>exact ih .aI)|nil=>intro j _;rfl|way t w r it ir=>(intro j h;match j,h with|1,h=>show((Fm.of w).mul (kL t.er)).add (kL r.er)=_;rw[it h.1,ir .aZ,Fm.vC,Fm.tO];rfl)|branch q l t r it ir=>intro j h;match j,h with|2,h=>rw[43];{subst hr;exact it .aI};{show kL (.branch q l t.er r.er)=_;rw[P8 (fun z=>hr (Z6.mp z)),it .aI,ir h.2.2,Ao,K' hr]}
def qU(n:jd):GT->Int|.worth x _=>.df|.plus x _ t=>.df+qU n t|.lot x ws=>.df+qU n ws|.station _ _ _ bs=>qU n bs|.nil=>0|.way t _ r=>qU n t+qU n r|.branch _ _ t .nil=>qU n t|.branch _ _ t r=>.xo
theorem Hr{n:jd}{p:Nat}{l:aK}{t r:GT}(h:r≠.nil):qU n .gZ=.xo:=.ik
theorem ab8(i j:Int):((max i j:Int):Rat)=mx .eE (j:Rat):=by unfold mx;by_cases h:i<j;{rw[if_pos (Be.mpr h),wC .C]};{rw[if_neg (fun z=>h (Be.mp z)),yu .C]}
theorem abc{c a x y:Rat}(hc:0<=c):mx (c*(a+x)) (c*(a+y))=c*(a+mx x y):=by unfold mx;by_cases h:x<y;{rw[.cn];by_cases hz:c=0;{subst hz;rw[42]};{have:c*(a+x)<c*(a+y):=Rat.mul_lt_mul_of_pos_left .dm .dm;rw[if_pos this]}};{rw[.cp];have:c*(a+y)<=c*(a+x):=JC .dm hc;rw[42]}
theorem ag5{n:jd}{u p:Rat}(hu:0<=u)(hp:0<=p){g:GT}:∀{j:Nat}{a q:Rat},.de->(j=2->g≠.nil)->0<=q->.iY->((qU n g:Int):Rat)=u*p*q*(a*(.we)+fR g):=by induction g with|worth x f=>(intro j a q h _ hq an;match j,h with|0,h=>show((.df:Int):Rat)=u*p*q*(a*1+f);rw[an.2.2,gE,an.1,an.2.1];grind)|plus x f t ih=>(intro j a q h _ hq an;match j,h with|0,h=>have:=ih h.2 .bt hq an.2;rw[.aE]at this;show((.df+qU n t:Int):Rat)=u*p*q*(a*1+(f+fR t));rw[an.1,E_,this];grind)|lot x ws ih=>(intro j a q h _ hq an;match j,h with|0,h=>have hs:=vz h;(have hq':0<=.iX:=by have e:.iX=q*.kZ:=.a6;rw[e];exact jT hq (Hw .dm));have:=ih h.1 .bt hq' an.2;rw[.aJ]at this;show((.df+qU n ws:Int):Rat)=u*p*q*(a*1+fR ws/ws.bq.sum);rw[an.1,E_,this];have mi:ws.bq.sum≠0:=.a6;grind)|station x pl nm bs ih=>(intro j a q h _ hq an;match j,h with|0,h=>have:=ih .aI .Bx hq an.2;rw[.aE]at this;rw[5])|nil=>(intro j a q h hj hq an;match j,h with|1,h=>show .sk=u*p*q*(a*0+0);rw[qu];grind|2,h=>exact absurd rfl (hj rfl))|way t w r it ir=>(intro j a q h _ hq an;match j,h with|1,h=>have h1:=it h.1 .bt (jT hq h.2.2.1) an.1;have h2:=ir .aZ .bt hq an.2;rw[.aE]at h1;rw[.aJ]at h2;show((qU n t+qU n r:Int):Rat)=u*p*q*(a*(w::r.bq).sum+(w*fR t+fR r));rw[yz,h1,h2,cS];grind)|branch pl l t r it ir=>intro j a q h _ hq an;match j,h with|2,h=>have h1:=it .aI .bt hq an.1;rw[.aE]at h1;rw[.aE];rw[43];{subst hr;exact h1};{have h2:=ir h.2.2 (fun _=>hr) hq an.2;rw[.aE]at h2;have e1:a*1+fR t=a+fR t:=.a6;have e2:a*1+fR r=a+fR r:=.a6;have e3:a*1+.qY=a+.qY:=.a6;rw[Hr hr,K' hr,ab8,h1,h2,e1,e2,e3];exact abc (jT (jT hu hp) hq)}
theorem aaa{n:jd}{g:GT}(h:g.Ok 1):qU n g=(g.df.map (qU n)).sum:=by induction g with|way t w r _ ih=>show qU n t+qU n r=(.wg).sum;rw[cS,ih .aZ]|nil=>rfl|worth a f=>rw[0]|plus a f t _=>rw[0]|lot a ws _=>rw[0]|station a p n bs _=>rw[0]|branch p l t r _ _=>rw[0]
theorem amd{n:jd}{g:GT}(h:g.Ok 2)(hn:g≠.nil):qU n g∈g.df.map (qU n)/\∀y∈g.df.map (qU n),y<=qU n g:=by induction g with|branch p l t r _ ih=>rw[43];{subst hr;refine⟨au ..,.cg⟩;have:y∈[qU n t]:=hy;rw[aA.mp this];exact Ju _};{obtain⟨h1,h2⟩:=ih h.2.2 hr;rw[Hr hr];refine⟨? _,.cg⟩;{show .xo∈.wg;by_cases hm:qU n t<=qU n r;{rw[wC hm];exact ak _ h1};{rw[yu .C];exact au ..}};{have hy:y∈.wg:=hy;rw[38];{omega};{have:=h2 y hy;omega}}}|nil=>rw[37]|worth a f=>rw[0]|plus a f t _=>rw[0]|lot a ws _=>rw[0]|station a p n bs _=>rw[0]|way t w r _ _=>rw[0]
def BF(t u:Tb):Tb:=iF (tj t u)
theorem agw(t u:Tb):wL .d8 (mh u)=mh (BF t u):=by unfold wL BF;rw[<-Cm];congr 1;unfold mh tj;rw[FK,kC];refine congrArg (fun f=>wY f t) (funext .bC);rw[49];show(yA (Fm.of x.1) (.fC),(Fm.of x.2).mul (.jo))=(Fm.of (mx x.1 y.1),Fm.of (x.2*y.2));rw[Ao,Fm.vC]
def lD:GT->Option Tb|.worth _ f=>some [(f,1)]|.plus _ f t=>(lD t).map fun u=>iF (u.map .l4)|.lot _ ws=>(lD ws).map fun u=>dC u .kZ|.station _ _ _ bs=>lD bs|.nil=>some []|.way t w r=>(lD t).bind .o5|.branch _ _ t .nil=>lD t|.branch _ _ t r=>.Bz
theorem sy{p:Nat}{l:aK}{t r:GT}(h:r≠.nil):lD .gZ=.Bz:=.ik
theorem BI(t:Tb):(mh t).length=t.length:=by unfold mh;rw[aa]
theorem aid{g:GT}:∀{j:Nat},.de->kM g.er=(lD g).map mh:=by induction g with|worth a f=>intro j _;rfl|plus a f t ih=>(intro j h;match j,h with|0,h=>show(kM t.er).map _=((lD t).map _).map mh;rw[ih h.2,yy,yy];cases lD t with|none=>rfl|some u=>exact congrArg some (L6 u f))|lot a ws ih=>(intro j h;match j,h with|0,h=>show(kM ws.er).map (fun u=>hU u (vX.div .qX))=(.sl).map mh;rw[ih h.1,qh,V7 _ .hv,yy,yy];cases lD ws with|none=>rfl|some u=>exact congrArg some (yZ u _))|station a q n bs ih=>(intro j h;match j,h with|0,h=>exact ih .aI)|nil=>intro j _;rfl|way t w r it ir=>(intro j h;match j,h with|1,h=>show((kM t.er).bind fun x=>(kM r.er).bind fun y=>let z:=mf (hU x .c0++y);if tN<z.length then none else .cy)=UY mh ((lD t).bind .o5);rw[it h.1,ir .aZ];cases lD t with|none=>rfl|some x=>cases lD r with|none=>rfl|some y=>show(if tN<(mf (hU (mh x) .c0++mh y)).length then none else some (mf (hU (mh x) .c0++mh y)))=UY mh (.BA);rw[yZ,Ac,Cm,BI,show tN=512 from rfl];by_cases hh:512<(.mW).length;rw[333])|branch q l t r it ir=>intro j h;match j,h with|2,h=>rw[43];{subst hr;exact it .aI};{show kM (.branch q l t.er r.er)=_;rw[Rh (fun z=>hr (Z6.mp z)),it .aI,ir h.2.2,sy hr];cases lD t with|none=>rfl|some x=>cases lD r with|none=>rfl|some y=>show(if tN<(mh x).length*(mh y).length then none else some (wL (mh x) (mh y)))=UY mh (.By);rw[BI,BI,agw,show tN=512 from rfl];by_cases hh:512<.yD;rw[333]}
def ve(t:Tb):Rat:=eV (fun y=>y.2) t
theorem RI(f w:Rat):∀t:Tb,ve .om=ve t+w|[]=>by unfold oS;split;{rename_i e;rw[e];show .bH=0+0;grind};{show w+0=0+w;grind}|x::r=>by have ih:=RI f w r;unfold oS;split;{show x.2+w+ve r=x.2+ve r+w;grind};{split;{split;{rename_i e;rw[e];grind};{show w+ve (x::r)=_;grind}};{show x.2+ve (oS f w r)=x.2+ve r+w;rw[ih];grind}}
theorem ym(l:Tb):ve (iF l)=ve l:=by(have key:∀(l t:Tb),ve (.jX)=ve t+ve l:=by intro l;induction l with|nil=>intro t;show ve t=ve t+0;grind|cons y l ih=>intro t;rw[ie,ih,RI];show _=ve t+(y.2+ve l);grind);rw[iF,key];show 0+_=_;grind
theorem Jj(t:Tb)(w:Rat):ve (dC t w)=ve t*w:=by rw[dC,ym];unfold ve;rw[jC,pj,<-pK];exact iV fun y _=>pj ..
theorem RJ(s t:Tb):ve (tj s t)=ve s*ve t:=by unfold tj ve;induction s with|nil=>show .bH=0*_;grind|cons x s ih=>rw[cK,vO,ih,jC];show eV (fun y:.b7=>x.2*y.2) t+_=(x.2+_)*_;rw[pK];grind
theorem Ng{t u:Tb}(ht:rG t)(hu:rG u):rG (BF t u)/\∀x,dM (BF t u) x=dM (tj t u) x:=yY fun y hy=>by obtain⟨x,hx,hy⟩:=qm.mp hy;rw[81];exact jT (ht.nn x hx) (hu.nn z hz)
theorem Cs{x y:Tb}{w:Rat}(hx:rG x)(hy:rG y)(hw:0<=w):rG (.mW)/\∀v,dM (.mW) v=dM x v*w+dM y v:=by obtain⟨c3,m3⟩:=uS hx hw;(obtain⟨c4,m4⟩:=yY (l:=dC x w++y) fun z hz=>by rw[123];{exact c3.nn z hz};{exact hy.nn z hz});exact⟨c4,fun v=>by rw[m4,p_,m3]⟩
theorem ad4{g:GT}:∀{j:Nat}{t:Tb},.de->(j=2->g≠.nil)->lD g=some t->rG t/\ve t=.we:=by induction g with|worth a f=>(intro j t h _ e;match j,h with|0,h=>cases e;exact⟨.Bw,by show(1:Rat)+0=1;grind⟩)|plus a f t ih=>(intro j t' h _ e;match j,h with|0,h=>unfold lD at e;obtain⟨u,hu,rfl⟩:=oK.mp e;obtain⟨c1,m1⟩:=ih h.2 .bt hu;refine⟨(DM c1).1,? _⟩;rw[ym];rw[.aE]at m1|-;rw[<-m1];unfold ve;rw[jC])|lot a ws ih=>(intro j t' h _ e;match j,h with|0,h=>unfold lD at e;obtain⟨u,hu,rfl⟩:=oK.mp e;obtain⟨c1,m1⟩:=ih h.1 .bt hu;refine⟨(uS c1 (Hw .hv)).1,? _⟩;have hp:=vz h;have mi:ws.bq.sum≠0:=.a6;rw[.aJ]at m1;rw[Jj,.aE,m1];grind)|station a q n bs ih=>(intro j t h _ e;match j,h with|0,h=>have:=ih .aI .Bx e;rw[.aE]at this;rw[5])|nil=>(intro j t h hj e;match j,h with|1,h=>cases e;exact⟨FW,rfl⟩|2,h=>exact absurd rfl (hj rfl))|way t w r it ir=>(intro j t' h _ e;match j,h with|1,h=>unfold lD at e;rw[294];{cases e;obtain⟨c1,m1⟩:=it h.1 .bt hx;obtain⟨c2,m2⟩:=ir .aZ .bt hy;refine⟨(Cs c1 c2 h.2.2.1).1,? _⟩;rw[.aE]at m1;rw[.aJ]at m2;rw[ym,.aJ];show eV _ (dC x w++y)=(w::r.bq).sum;rw[vO];show ve (dC x w)+ve y=_;rw[Jj,m1,m2,cS];grind})|branch p l t r it ir=>intro j t' h _ e;match j,h with|2,h=>rw[.aE];rw[43];{subst hr;have:=it .aI .bt e;rw[.aE]at this;rw[5]};{rw[sy hr]at e;rw[294];{cases e;obtain⟨c1,m1⟩:=it .aI .bt hx;obtain⟨c2,m2⟩:=ir h.2.2 (fun _=>hr) hy;rw[.aE]at m1 m2;refine⟨(Ng c1 c2).1,? _⟩;rw[BF,ym,RJ,m1,m2];grind}}
def Lk(u a c:Rat)(d:Di)(t:Tb):Prop:=Ky d/\(.eY).Perm t
theorem Lk.j9{u a c:Rat}{d:Di}{t:Tb}(h:Lk u a c d t):d.length=t.length:=by have:=h.2.length_eq;unfold vy at this;rw[aa]at this;rw[5]
theorem Lk.dM{u a c:Rat}{d:Di}{t:Tb}(h:Lk u a c d t)(x:Rat):dM (.eY) x=.bU:=LG h.2 x
theorem Lk.ve{u a c:Rat}{d:Di}{t:Tb}(hc:0<c)(h:Lk u a c d t):((kr (fun y=>y.2) d:Int):Rat)=c*ve t:=by have:=pL (f:=fun y:.b7=>y.2) h.2;unfold Lc.ve;rw[<-this,uO];rw[175];have:c≠0:=.a6;show .hP=c*(y.2/c);grind
theorem Lk.leaf{u a f:Rat}{s:Int}(hu:0<u)(h:(s:Rat)=(a+f)*u):Lk u a 1 [(s,1)] [(f,1)]:=by refine⟨⟨.aN,fun y hy=>by rw[aA.mp hy];exact(.aW:(0:Int)<1)⟩,? _⟩;(have:vy u a 1 [(s,1)]=[(f,1)]:=by unfold vy;have mi:u≠0:=.a6;show[((s:Rat)/u-a,((1:Int):Rat)/1)]=_;(have e1:(s:Rat)/u-a=f:=by rw[h];grind);(have e2:((1:Int):Rat)/1=1:=by rw[Rat.intCast_one];grind);rw[e1,e2]);rw[this]
theorem Lk.avn{u a c f:Rat}{d:Di}{t:Tb}(hu:0<u)(hc:0<c)(ht:rG t)(h:Lk u (a+f) c d t):Lk u a c d (iF (.jY)):=by obtain⟨c1,m1⟩:=DM (f:=f) ht;refine⟨h.1,ug hu hc h.1 (.bQ) c1 .bC⟩;rw[m1,<-h.dM];(have:vy u (a+f) c d=(.eY).map fun y=>(-f+y.1,y.2):=by unfold vy;rw[aQ];refine bY .hO;show(_,_)=(-f+(_-a),_);refine sQ ? _ rfl;show .fo-(a+f)=-f+(y.1/u-a);grind);rw[this,HJ];have:x-f- -f=x:=.a6;rw[this]
theorem Lk.avi{u a c s:Rat}{d:Di}{t:Tb}(hu:0<u)(hc:0<c)(hs:0<s)(ht:rG t)(h:Lk u a c d t):Lk u a (c*s) d (dC t (1/s)):=by obtain⟨c1,m1⟩:=uS ht (Hw (.a6:0<=s));refine⟨h.1,ug hu (WU hc hs) h.1 (.bQ) c1 .bC⟩;rw[m1,<-h.dM,<-Ar];congr 1;unfold vy;rw[aQ];refine bY .hO;refine sQ rfl ? _;show .hP/(c*s)=y.2/c*(1/s);have h1:c≠0:=.a6;have h2:s≠0:=.a6;grind
theorem Lk.way{u a c c' w:Rat}{d e:Di}{z x:Tb}{k:Int}(hu:0<u)(hc:0<c)(hc':0<c')(hz:rG z)(hx:rG x)(hw:0<=w)(hd:Lk u a c d z)(he:Lk u a c' e x)(hk:0<k)(hkw:(k:Rat)*c'=c*w):Lk u a c (nE (.mX) d) (iF (dC x w++z)):=by obtain⟨c1,m1⟩:=Cs hx hz hw;(obtain⟨o,m,_⟩:=pY (E:=.mX) hd.1 fun y hy=>by obtain⟨v,hv,rfl⟩:=aX.mp hy;exact qN hk (he.1.pos v hv));refine⟨o,ug (E:=d++.mX) hu hc o (fun j=>by rw[m,BE]) c1 fun v=>? _⟩;unfold vy;rw[aG,p_];show Sm.dM (.eY) v+Sm.dM (vy u a c (.mX)) v=_;rw[hd.dM,m1,<-he.dM];(have:vy u a c (.mX)=(vy u a c' e).map .yB:=by unfold vy;rw[49];refine sQ rfl ? _;show((k*y.2:Int):Rat)/c=y.2/c'*w;rw[gE];have h1:c≠0:=.a6;have h2:c'≠0:=.a6;grind);rw[this,Ar];grind
theorem Lk.aEd{u a c:Rat}{d:Di}{z x:Tb}(hz:rG z)(hx:rG x)(hd:Lk u a c d z):Lk u a c d (iF (dC x 0++z)):=by obtain⟨c1,m1⟩:=Cs hx hz z8;(have:iF (dC x 0++z)=z:=c1.Kt hz fun v=>by rw[m1];grind);rw[this];exact hd
theorem Lk.best{u a c c':Rat}{d e:Di}{y x:Tb}(hu:0<u)(hc:0<c)(hc':0<c')(hy:rG y)(hx:rG x)(hd:Lk u a c d y)(he:Lk u a c' e x):Lk u a (c*c') (nE (ou d e) []) (BF x y):=by obtain⟨c1,m1⟩:=Ng hx hy;(obtain⟨o,m,_⟩:=pY (E:=ou d e) Ky.nil fun v hv=>by rw[147];exact qN (hd.1.pos p hp) (he.1.pos q hq));refine⟨o,ug (E:=ou d e) hu (WU hc hc') o (fun j=>by rw[m];show 0+_=_;omega) c1 fun v=>? _⟩;rw[aav hu hc hc',m1,HH];exact HI he.2 hd.2 v
def x_:.aL->Nat->.ab|[],_=>[]|s::r,k=>.yE::x_ r .mY
def iq(ss:.aL)(k:Nat):.ab:=(x_ ss.reverse k).reverse
theorem Ih(ss:.aL)(s:aM)(k:Nat):iq (ss++[s]) k=iq ss .mY++[.yE]:=by unfold iq;rw[rK];show((.yE)::x_ ss.reverse .mY).reverse=_;rw[c_]
theorem zT:∀(ss:.aL)(s:aM),jf (ss++[s])=(jf ss).flatMap .Dw|[],s=>(by show(.wh).flatMap (fun k=>[[k]])=[[]].flatMap .Dw;rw[RY];generalize .wh=l;induction l with|nil=>rfl|cons x l ih=>rw[cK,aO,ih];rfl)|t::ss,s=>by have ih:=zT ss s;show(bD t.labels.length).flatMap (fun k=>(jf (ss++[s])).map fun p=>k::p)=((bD t.labels.length).flatMap fun k=>(jf ss).map fun p=>k::p).flatMap _;rw[List.flatMap_assoc];refine congrArg (fun f=>wY f _) (funext fun k=>? _);rw[ih,FK,kC];refine congrArg (fun f=>wY f _) (funext fun p=>? _);rw[aQ];rfl
theorem LY{α:Type}(f:Nat->α)(L:Nat):∀N:Nat,(bD (N*L)).map f=(bD N).flatMap fun i=>(bD L).map fun c=>f (i*L+c)|0=>by rw[Nat.zero_mul];rfl|N+1=>by rw[Sx,aje,aG,LY f L N,Jw,cJ,RY,aQ];rfl
theorem QR(r:.aL):jf r.reverse=(bD (bb r.reverse)).map (iq r.reverse):=by induction r with|nil=>rfl|cons s r ih=>rw[c_,zT,ih,GR,LY,kC];refine congrArg (fun f=>wY f _) (funext fun i=>? _);refine bY fun c hc=>? _;have hc:=fH.mp hc;rw[Ih,h_,Nat.mul_add_div .C,af4 hc,mI,Nat.mul_add_mod,Gz hc]
theorem EX(ss:.aL):jf ss=(bD (bb ss)).map (iq ss):=by have:=QR ss.reverse;rw[i4]at this;rw[5]
theorem yS(ss:.aL)(k:Nat):(iq ss k).length=ss.length:=by(have key:∀(r:.aL)(k:Nat),(x_ r k).length=r.length:=by intro r;induction r with|nil=>intro k;rfl|cons s r ih=>intro k;show _+1=_+1;rw[ih]);unfold iq;rw[cj,key,cj]
theorem P2{M:Rat}:∀{l:.bG}{a:Rat},a<=M->(∀y∈l,y<=M)->(a=M\/M∈l)->l.foldl (fun a x=>mx a x) a=M|[],a,_,_,h=>by rw[92];{exact h};{cases h}|y::l,a,ha,hl,h=>by rw[ie];have hy:=hl y .aK;(have h1:mx a y<=M:=by unfold mx;split<;>assumption);refine P2 h1 (fun z hz=>hl z .fB) ? _;rw[92];{left;unfold mx;rw[42]};{rcases aJ.mp h with h|h;{left;unfold mx;rw[42]};rw[29]}
theorem P4{α:Type}(f:α->Rat):∀(l:List (jx×α))(ks:.bG)(a:Rat),.ho=ks.map Fm.of->l.foldl .Dx (Fm.of a)=Fm.of (ks.foldl (fun a x=>mx a x) a)|[],[],a,_=>rfl|x::l,k::ks,a,h=>by rw[aO,aO]at h;obtain⟨h1,h2⟩:=du h;rw[ie,ie,h1];have:(if(Fm.of a).lt (Fm.of k)=true then Fm.of k else Fm.of a)=Fm.of (mx a k):=Ao a k;rw[this];exact P4 f l ks _ h2|[],_::_,_,h=>.dI|_::_,[],_,h=>.dI
theorem U9{ss:.aL}{t:eg}{f:Nat->Rat}{N:Nat}{M:Rat}{j:Nat}(hN:N=bb ss)(hf:∀k,k<N->cV ss (iq ss k) 0 t=Fm.of (f k))(hM:∀k,k<N->f k<=M)(hj:j<N)(hjM:f j=M)(aml:∀k,k<j->f k≠M):alc ss t=(Fm.of M,(.qg).length,iq ss j):=by subst hN;unfold alc;rw[EX,aQ];(have el:(bD (bb ss)).map ((fun p=>(cV ss p 0 t,p))∘iq ss)=(bD (bb ss)).map .o6:=bY fun k hk=>by show(cV ss (iq ss k) 0 t,iq ss k)=_;rw[hf k (fH.mp hk)]);rw[el];generalize hNN:bb ss=N at*;(have hm:(.ts).foldl .Dx .Dy=Fm.of M:=by(have hd:.Dy=Fm.of (f 0):=by cases N with|zero=>exact absurd hj (lF _)|succ N=>rw[oZ];rfl);rw[hd,P4 (fun p=>.bH) _ ((bD N).map f) (f 0) (by rw[aQ,aQ];rfl)];rw[P2 (hM 0 .C) (fun y hy=>by obtain⟨k,hk,rfl⟩:=aX.mp hy;exact hM k (fH.mp hk)) (.inr (aX.mpr ⟨j,fH.mpr hj,hjM⟩))]);simp only[hm];(have eq:∀k,(Fm.of (f k)==Fm.of M)=decide (f k=M):=fun k=>by by_cases h:f k=M;{rw[h,.qZ];exact beq_self_eq_true _};{rw[.iC];exact beq_eq_false_iff_ne.mpr fun z=>h (Fm.TQ.mp z)});(have aB1:(.ts).filter (fun x=>x.1==Fm.of M)=(.qg).map .o6:=by rw[af0];congr 1;refine Ed fun k _=>eq k);rw[aB1,aa];refine sQ rfl (sQ rfl ? _);show((((.qg).map .o6).head?.map fun x=>x.2).getD [])=iq ss j;(have VD:(.qg).head?=.dF:=by(have e:bD N=bD j++(bD (N-j)).map (j+·):=by rw[<-aje];congr 1;omega);(have e0:(bD j).filter (fun k=>decide (f k=M))=[]:=by rw[RX];intro k hk;have:=aml k (fH.mp hk);rw[68]);rw[e,Cw,e0,ee];have:N-j=(N-j-1)+1:=.o;rw[this,oZ,aO,kx,if_pos (by simp[hjM])];rfl);rw[List.head?_map,VD];rfl
theorem YL(ss:.aL)(p:fX){g:GT}:∀{j:Nat}(k:Nat),.de->cV ss p k (fV g.er)=Fm.of (-wR (bG ss p) k g):=by(have hw:∀g:GT,(fV g.er).weights=g.er.weights:=by intro g;rw[358]);induction g with|worth a f=>intro j k _;rfl|plus a f t ih=>(intro j k h;match j,h with|0,h=>show(.bc).neg.add (.xp)=_;rw[ih 0 h.2,Fm.abe,Fm.tO];congr 1;show-f+-wR _ 0 t=-(f+wR _ 0 t);grind)|lot a ws ih=>(intro j k h;match j,h with|0,h=>show(cV ss p 0 (fV ws.er)).div (j8 (fV ws.er).weights)=_;rw[ih 0 h.1,hw,qh,Fm.MH _ _ .hv];congr 1;show-wR _ 0 ws/_=-(wR _ 0 ws/_);grind)|station a q n bs ih=>(intro j k h;match j,h with|0,h=>show cV ss p (bG ss p n) (fV bs.er)=_;rw[ih _ .aI];rfl)|nil=>intro j k _;show vd=Fm.of (-0);have:(-0:Rat)=0:=.a6;rw[this];rfl|way t w r it ir=>(intro j k h;match j,h with|1,h=>show((Fm.of w).mul (.xp)).add (cV ss p 0 (fV r.er))=_;rw[it 0 h.1,ir 0 .aZ,Fm.vC,Fm.tO];congr 1;show w*-wR _ 0 t+-wR _ 0 r=-(w*wR _ 0 t+wR _ 0 r);grind)|branch q l t r it ir=>intro j k h;match j,h with|2,h=>show(if k=0 then .xp else cV ss p (k-1) (fV r.er))=Fm.of (-.EK);split;rw[174]
theorem _root_.Sm.Ky.at_{d:Di}(h:Ky d){y:.fD}(hy:y∈d):di d y.1=y.2:=by have nd:=h.nd;clear h;induction d with|nil=>cases hy|cons z d ih=>rw[aO,cI]at nd;show(if z.1=y.1 then z.2 else 0)+di d y.1=y.2;rw[38];{rw[.aJ,rD (fun v hv e=>nd.1 (aX.mpr ⟨v,hv,e⟩))];omega};{rw[if_neg (fun e=>nd.1 (aX.mpr ⟨y,hy,e.symm⟩)),ih hy nd.2];omega}
theorem L9{ks:.J}(h:ks.Pairwise (·<=·))(nd:ks.Nodup):ks.Pairwise (·<·):=by have:=h.and nd;exact this.imp fun{a b}⟨h1,h2⟩=>.o
theorem IH{u c:Rat}{d:Di}{t:Tb}{ks:.J}(hu:0<u)(hc:0<c)(h:.hx)(ht:rG t)(hp:ks.Perm (.fX))(hs:ks.Pairwise (·<=·)):t=ks.map .l7:=by have M0:ks.Nodup:=hp.nodup_iff.mpr h.1.nd;have jc:=L9 hs M0;(have p1:(ks.map .l7).Perm (vy u 0 c d):=by have:=hp.map .l7;rw[aQ]at this;(have e:d.map ((.l7)∘fun y:.fD=>y.1)=vy u 0 c d:=bY fun y hy=>by show(.fo,(di d y.1:Rat)/c)=(.fo-0,.hP/c);rw[h.1.at_ hy];refine sQ ? _ rfl;show .fo=y.1/u-0;grind);rw[e]at this;rw[5]);(have amh:rG (ks.map .l7):=by refine⟨? _,.cg⟩;{refine w_ _ (fun a b zL=>? _) jc;have h2:(a:Rat)<b:=Be.mpr zL;show(a:Rat)/u<b/u;rw[cR,cR];exact me h2 (vb.mpr hu)};{exact VH hc h.1.pos y (p1.subset hy)});exact ht.Kt amh fun x=>by rw[LG p1,h.dM]
theorem V0(t:Tb):Aa .d8=Fm.of (.iq):=by unfold Aa;(have:(mh t).map (fun x=>x.1.mul x.2)=(t.map .eP).map Fm.of:=by unfold mh;rw[aQ,aQ];exact bY fun y _=>Fm.vC _ _);rw[this,Fm.Oh,UA,jC];rfl
theorem RR(t:Tb):CJ .d8=Fm.of (eV (fun y=>y.1*y.1*y.2) t-.iq*.iq):=by unfold CJ;(have:(mh t).map (fun x=>(x.1.mul x.1).mul x.2)=(t.map fun y=>y.1*y.1*y.2).map Fm.of:=by unfold mh;rw[49];show((.fC).mul (.fC)).mul (.jo)=Fm.of (y.1*y.1*y.2);rw[Fm.vC,Fm.vC]);rw[this,V0,Fm.Oh,Fm.vC,Fm.aoy,UA,jC];rfl
theorem Lk.avq{u c:Rat}{d:Di}{t:Tb}(hu:0<u)(hc:0<c)(h:.hx):((kr (.eP) d:Int):Rat)=u*c*.iq:=by rw[<-pL h.2,uO];rw[175];rw[gE];have h1:u≠0:=.a6;have h2:c≠0:=.a6;show .kC*y.2=u*c*((y.1/u-0)*(y.2/c));grind
theorem Lk.aE8{u c:Rat}{d:Di}{t:Tb}(hu:0<u)(hc:0<c)(h:.hx):((kr (fun y=>y.1*y.1*y.2) d:Int):Rat)=u*u*c*eV (fun y=>y.1*y.1*y.2) t:=by rw[<-pL h.2,uO];rw[175];rw[gE,gE];have h1:u≠0:=.a6;have h2:c≠0:=.a6;show .kC*y.1*y.2=u*u*c*((y.1/u-0)*(y.1/u-0)*(y.2/c));grind
def atR(t:Tb)(f:Rat):Rat:=eV (fun y=>if f<=y.1 then y.2 else 0) t
theorem GJ(t:Tb)(f:Rat):oN .d8 (.bc)=Fm.of (atR t f):=by unfold oN;(have:((mh t).filter fun x=>(.bc).le x.1).map (fun x=>x.2)=((.Gk).map fun y=>y.2).map Fm.of:=by unfold mh;rw[af0,aQ,aQ];have e:(t.filter ((fun x:jx×jx=>(.bc).le x.1)∘fun y:.b7=>.mU))=.Gk:=Ed fun y _=>Fm.akd _ _;rw[e];rfl);rw[this,Fm.Oh,UA];congr 1;unfold atR;rw[jC];clear this;induction t with|nil=>rfl|cons y t ih=>rw[kx];show _=(if f<=y.1 then y.2 else 0)+_;rw[<-ih];by_cases h:f<=y.1;{rw[if_pos (.nA),.cn];rfl};{rw[.jL,.cp];grind}
def JH(d:Di)(k:Int):Int:=kr (fun y=>if k<=y.1 then y.2 else 0) d
theorem ajp{u c:Rat}{d:Di}{t:Tb}(hu:0<u)(hc:0<c)(h:.hx)(k:Int):atR t (k/u)=(JH d k:Rat)/c:=by unfold atR JH;rw[<-pL h.2,uO,cR (eV _ d),pj (eV _ d),<-pK];unfold vy;rw[jC];refine iV .hO;have hui:0<u⁻¹:=vb.mpr hu;by_cases e:k<=y.1;{(have e1:(k:Rat)<=y.1:=by exact_mod_cast e);(have e2:.gv<=y.1/u-0:=by(have:.gv<=y.1/u:=by rw[cR,cR];exact qw e1 .dm);grind);rw[.du,if_pos e2];show .hP/c=c⁻¹*y.2;rw[cR,pj]};{have e1:.kC<k:=Be.mpr .C;(have e2:¬.gv<=y.1/u-0:=by(have:.fo<k/u:=by rw[cR,cR];exact me e1 hui);grind);rw[.cL,if_neg e2];show .bH=c⁻¹*.sk;rw[qu];grind}
theorem Zm{u c:Rat}{d e:Di}{t s:Tb}(hu:0<u)(hc:0<c)(hd:.hx)(he:Lk u 0 c e s){ks:.J}(hk:∀k,k∈ks↔k∈.fX\/k∈e.map .aX):rq .d8 (mh s)=decide (∀k∈ks,JH e k<=JH d k):=by(have cmp:∀k:Int,atR s (k/u)<=atR t (k/u)↔JH e k<=JH d k:=fun k=>by rw[ajp hu hc hd,ajp hu hc he];have hci:0<c⁻¹:=vb.mpr hc;rw[12];{intro h;by_cases hh:JH e k<=JH d k;{exact hh};{have h1:(JH d k:Rat)<JH e k:=Be.mpr .C;(have h2:(JH d k:Rat)/c<JH e k/c:=by rw[cR,cR];exact me h1 hci);grind}};{intro h;have h1:(JH e k:Rat)<=JH d k:=.kD;rw[cR,cR];exact qw h1 .dm});(have key:∀{d:Di}{t:Tb},.hx->∀y∈t,∃k:Int,k∈.fX/\y.1=.gv:=fun{d t}h y hy=>by obtain⟨z,hz,rfl⟩:=aX.mp (h.2.symm.subset hy);refine⟨z.1,aX.mpr ⟨z,hz,rfl⟩,? _⟩;show(z.1:Rat)/u-0=z.1/u;grind);(have back:∀{d:Di}{t:Tb},.hx->∀k:Int,k∈.fX->∃y∈t,y.1=.gv:=fun{d t}h k hk=>by obtain⟨z,hz,rfl⟩:=aX.mp hk;refine⟨_,h.2.subset (aX.mpr ⟨z,hz,rfl⟩),? _⟩;show(z.1:Rat)/u-0=z.1/u;grind);unfold rq;rw[Ac];unfold mh;rw[RW];(have e1:((t++s).all ((fun x:jx×jx=>(oN (UR (fun y=>.mU) s) x.1).le (oN (UR (fun y=>.mU) t) x.1))∘fun y:.b7=>.mU))=decide (∀y∈t++s,atR s y.1<=atR t y.1):=by rw[<-Bool.coe_iff_coe,iO,decide_eq_true_iff];refine forall_congr' fun y=>forall_congr' fun _=>? _;show((oN (mh s) (.fC)).le (oN .d8 (.fC))=true)↔_;rw[GJ,GJ,Fm.akd,decide_eq_true_iff]);rw[e1,decide_eq_decide];rw[12];{intro h k hkk;rcases(hk k).mp hkk with hd'|he';{obtain⟨y,hy,e⟩:=back hd k hd';have:=h y (bR _ hy);rw[e]at this;exact(cmp k).mp this};{obtain⟨y,hy,e⟩:=back he k he';have:=h y (bC _ hy);rw[e]at this;exact(cmp k).mp this}};{intro h y hy;rw[48];{obtain⟨k,Fq,e⟩:=key hd y hy;rw[e];exact(cmp k).mpr (h k ((hk k).mpr (.inl Fq)))};{obtain⟨k,Fq,e⟩:=key he y hy;rw[e];exact(cmp k).mpr (h k ((hk k).mpr (.inr Fq)))}}
theorem WA{d:Di}(hd:.n2){ks:.J}(hk:ks.Pairwise (fun a b=>b<a))(hs:∀k∈.fX,k∈ks){i:Nat}{k:Int}(hi:ks[i]?=.dG):kr (fun j=>di d j) (ks.take .aH)=JH d k:=by have nd:(ks.take .aH).Nodup:=(hk.imp fun{a b}h=>.o:ks.Nodup).sublist (Ef _ _);(have mem:∀j∈ks,j∈ks.take .aH↔k<=j:=fun j hj=>by obtain⟨m,hm,rfl⟩:=zB.mp hj;obtain⟨hi',rfl⟩:=ay.mp hi;have hpw:=j4.mp hk;rw[12];{intro h;obtain⟨m',Xv,e⟩:=zB.mp h;rw[be]at Xv;rw[Zf]at e;rw[<-e];by_cases h1:m'=i;{subst h1;exact Ju _};{have:=hpw m' i .C hi' .C;omega}};{intro h;by_cases h1:m<=i;{refine zB.mpr ⟨m,by rw[be];omega,? _⟩;rw[Zf]};{have:=hpw i m hi' hm .C;omega}});(have single:∀(l:.J),l.Nodup->∀(a b:Int),kr (fun j=>if a=j then b else 0) l=if a∈l then b else 0:=by intro l;induction l with|nil=>intro _ a b;rfl|cons x l ih=>intro hn a b;rw[cI]at hn;show(if a=x then b else 0)+kr _ l=_;rw[ih hn.2];by_cases e:a=x;{subst e;rw[.aJ,if_neg hn.1,if_pos .aK];omega};{rw[.cL];by_cases e2:a∈l;{rw[if_pos e2,if_pos (ak _ e2)];omega};{rw[if_neg e2,if_neg (by rw[aJ,not_or];exact⟨e,e2⟩)];omega}});(have add:∀(l:.J)(f g:Int->Int),kr (fun j=>f j+g j) l=kr f l+kr g l:=by intro l f g;induction l with|nil=>rfl|cons x l ih=>show f x+g x+kr _ l=f x+kr f l+(g x+kr g l);rw[ih];omega);generalize ks.take .aH=l at nd mem;clear hd hi hk;induction d with|nil=>(show kr (fun _=>0) l=0;clear mem nd hs;induction l with|nil=>rfl|cons x l ih=>show 0+kr _ l=0;rw[ih];rfl)|cons y d ih=>have e:kr (fun j=>di (y::d) j) l=kr (fun j=>if y.1=j then y.2 else 0) l+kr (fun j=>di d j) l:=add l _ _;rw[e,single l nd,ih fun k hk=>hs k (ak _ hk)];show _=(if k<=y.1 then y.2 else 0)+JH d k;have:=mem y.1 (hs y.1 .aK);by_cases e:k<=y.1;{rw[.du,if_pos (this.mpr e)]};{rw[.cL,if_neg (fun z=>e (this.mp z))]}
end Lc
namespace L2
open PySem PySem.Spec PyProof.Rows
section
variable{X:Cx}{e:Expr}{te:TE}{p pos apos mQ:Pos}
def tFz(td:TE):TE:=fun σ H Q=>td σ H fun x H1=>∃d kvs,x=.ref d/\H1 d=.ei/\∀od,Q .dZ (aN H1 d (.lu od .cT))
theorem ao5(he:.cI):PE X e (tFz te):=by rw[3];refine iu .cD fun u s1⟨v,H1,I1,r,d,kvs,e1,hd,q⟩=>? _;subst e1;obtain⟨od,I2⟩:=I1.ani hd (by trivial);exact⟨.ref d,_,I2,r,q od⟩
theorem L8{A:Around}{E:.ax}{s:Shared}{P:Program}{w:World}{vs:.ar}{ns:.J}{Q:.ax}(hI:IntsAre vs ns)(hz:.qN)(h:∀(h':Heap)(out:.ar)(ns':.J)(c:Nat),.fO->.h1=some {cls:=.type "list",data:=.seq out.toArray c}->IntsAre out ns'->ns'.Perm ns->ns'.Pairwise (·<=·)->Q .cR {s with heap:=h'}):wpAny .aQ A (newList vs>>=fun l=>(holding [l] (call (.builtin "list.sort") [l] [])>>=fun _=>ret l)) (fun f s'=>∃v,f=.done (.ret v)/\Q v s') E s:=by refine wpAny_bind (wpAny_newList ? _ hz);have hoL:(s.heap.push {cls:=.type "list",data:=.seq vs.toArray}).get? s.heap.objs.size=some (seqObj "list" vs.toArray 0):=.cK;refine wpAny_bind (wpAny_holding (wpAny_call_entry slot_list_sort ⟨_,hoL,rfl⟩ entry_list_sort (list_sort_treeAny hoL hI hz fun out ns' h1 h2 h3=>.nH) (args_list_sort _)));obtain⟨ep,he'⟩:=aws (vs:=vs) (out:=out) hoL;exact wpAny_pure ⟨_,rfl,h _ out.toList ns' ep (fun b o q=>by rw[awt (bS (Heap.lt_size q)) (by rw[Heap.size_push];exact ma (Heap.lt_size q))];exact .fK) he' h1 h2 h3⟩
def aof:.ee:=fun vs H Q=>∃(d:Addr)(kvs:.az)(ks:.J),vs=[V.ref d]/\Rd H d .cT/\.kG=ks.map dH/\∀(oP:.J)(p:Addr),oP.Perm ks->.BB
theorem VJ{ks:.J}:∀{vs:.ar},vs.length=ks.length->(∀(j:Nat)(v:Value),vs[j]?=.a4->∃t i,ks[j]?=some i/\v=.int i t)->IntsAre vs ks:=by induction ks with|nil=>intro vs h _;rw[jg.mp h];exact .nil|cons k ks ih=>intro vs h hv;cases vs with|nil=>cases h|cons v vs=>obtain⟨t,i,e1,rfl⟩:=hv 0 v rfl;cases e1;exact .cons k t (ih (KC h) fun j u hu=>hv (j+1) u hu)
theorem xp(hc:.cJ):mr X .w9 aof:=by rw[31];obtain⟨d,kvs,ks,rfl,hs,hk,q⟩:=h;rw[dP.QZ r];obtain⟨z,VF,us',kv,hD⟩:=hs.ok I.fb;obtain⟨ep,Xq⟩:=hD.dictAt;have l1:kvs.length=us'.length:=.nx;(have l2:kvs.length=ks.length:=by have:=congrArg jF hk;rwa[aa,aa]at this);rw[243];refine wpAny_bind (Sg (A:=X.A.in1) (PySem.W.kdl_dict (knd:=.gc) (kvs:=us') (ep:=ep) VF) .b0 Xq .C fun h' tk acc hkp J7=>? _);(have hal:acc.toList.length=ks.length:=by rw[a0,J7.1];omega);refine L8 (ns:=ks) (VJ hal fun j v hv=>? _) .C fun h2 out oP c kp Ls h1 h2 h3=>? _;{obtain⟨k,x,hx,hkk⟩:=.EL;have hj:j<kvs.length:=.Gl;obtain⟨b,hb,e1,_⟩:=Ia kv (aV hj);rw[hx]at hb;cases hb;(have e2:(.kG)[j]?=.dG:=by rw[aS,aV hj];exact congrArg some e1);rw[hk,aS]at e2;cases hi:ks[j]? with|none=>rw[hi]at e2;cases e2|some i=>rw[hi]at e2;cases e2;obtain⟨t,et⟩:=Io (k:=dH i) hkk;exact⟨t,i,rfl,et⟩};{(have aam:.Gm:=by rw[aa,h2.length_eq,<-l2];exact z);have I1:.oB:=I.ji hkp;refine⟨.ref _,.EM,.BC,rfl,q oP _ h2 h3 (.iH)⟩}
end
section
variable{X:Cx}{e:Expr}{te td:TE}{p pos apos mQ:Pos}
def VwO(v d:Addr):HO:=.ext fun h=>h.IsValuesView v d
def aks(td:TE):TE:=fun σ H Q=>td σ H fun x H1=>∃d kvs,x=.ref d/\Rd H1 d .cT/\∀v,H1 v=none->Q (.ref v) (.yF)
theorem LP(he:PE X e td)(um:attributeBase e "values" X.bA (.dU)=.dU:=by rfl)(uo:.pM:=by rfl):PE X (.Call (.Attribute e "values" apos) [] [] mQ) (aks td):=by rw[3];refine wpAny_Call_method (T:="dict") (id:="dict.values") um rfl uo F.plainAttrs_dict F.slot_dict_values F.type_dict_values (iu .cD fun u s1⟨x,H1,I1,rx,d,kvs,ex,hd,q⟩=>? _);subst ex;obtain rfl:u=Value.ref d:=rx;obtain⟨z,hs,vs,kv,hm⟩:=hd.ok I1.fb;refine⟨hm.typeIs,hm.mapOf.noDict,? _⟩;show wpAny _ _ (callWith mQ (.builtin "dict.values") [.ref d] [] []) _ X.xe s1;refine method_meetsIn F.slot_dict_values F.entry_dict_values rfl (ro ⟨rfl,hm.typeIs,F.args_dict_values_1 _,_,meets_dict_values (.gc) d hs,⟨vs,hm⟩,? _⟩);refine⟨.ref _,aN H1 s1.heap.objs.size (VwO s1.heap.objs.size d),I1.laid (t':=s1.toks) (fun b o q=>.fK) .aS ? _,rfl,q _ (.iH)⟩;exact⟨.fI,⟨_,.cK⟩,fun h1 h2⟨o,a,b⟩k=>⟨o,k o a,b⟩⟩
def ako:.ee:=fun vs H Q=>∃(v d:Addr)(kvs:.az)(ns:.J),vs=[V.ref v]/\H v=some (VwO v d)/\Rd H d .cT/\kvs.map .bA=ns.map V.int/\Q (.int ns.sum) H
theorem Wi:∀ns:.J,preSum (fun i=>ns.getD i 0) ns.length=ns.sum|[]=>rfl|n::ns=>by show preSum (fun i=>(n::ns).getD i 0) (ns.length+1)=_;rw[PySem.W.kdu_shift,cS,<-Wi ns];rfl
theorem zD(hc:.cJ):mr X .qI ako:=by rw[31];obtain⟨v,d,kvs,ns,rfl,hv,hd,hn,q⟩:=h;rw[dP.QZ r];obtain⟨z,hs,ws,kv,hD⟩:=hd.ok I.fb;obtain⟨hvw,_,_⟩:=I.fb v _ hv;obtain⟨ep,Xq⟩:=hD.dictAt;have K:=PySem.W.kdl_values (prog:=X.prog) (w:=X.w) (r:=v) (d:=d) (knd:=.gc) (kvs:=ws) (ep:=ep);refine call_sum_walkAnyS ? _;obtain⟨oI,St,hit,W,st⟩:=K.iter X.A.in1 s .b0 ⟨hvw,Xq⟩;have l1:kvs.length=ws.length:=.nx;(have l2:kvs.length=ns.length:=by have:=congrArg jF hn;rwa[aa,aa]at this);refine hit _ _ ⟨s.heap.objs.size,_,_,_,_,_,_,fun i=>ns.getD i 0,rfl,W.toS,st,.cG,fun i u hu=>? _,fun s' t' hm=>? _⟩;{show b<(s.heap.push oI).objs.size;rw[Heap.size_push];rcases aJ.mp hb with e|hb;{rw[e];exact mK _};{rw[aA.mp hb];exact ma (K.there _ ⟨hvw,Xq⟩).2}};{obtain⟨k,hx⟩:=hu;have hj:i<kvs.length:=.Gl;obtain⟨b,hb,_,rb⟩:=Ia kv (aV hj);rw[hx]at hb;cases hb;(have e2:(kvs.map .bA)[i]?=some kvs[i].2:=by rw[aS,aV hj];rfl);rw[hn,aS]at e2;cases hi:ns[i]? with|none=>rw[hi]at e2;cases e2|some m=>rw[hi]at e2;have e3:V.int m=kvs[i].2:=aB e2;rw[<-e3]at rb;obtain⟨t,et⟩:=rb;exact⟨t,by have et:u=Value.int m t:=et;rw[et];show Value.int m t=Value.int (ns.getD i 0) t;rw[Kz,hi];rfl⟩};{have hk:∀b o,.dx->.rk=.ah:=fun b o e=>hm.heap b o (fun hI=>absurd .hV (by rw[aA.mp hI];exact g_ _)) (.es);rw[Moved.eq_with hm,<-l1,l2,Wi];exact⟨.int _,H,I.ji hk,.aU,q⟩}
def akn:.ee:=fun vs H Q=>∃a b:Int,vs=[V.int a,V.int b]/\Q (.int (max a b)) H
theorem afm(hc:.cJ):mr X .qJ akn:=by rw[31];obtain⟨a,b,rfl,q⟩:=h;obtain⟨u,v,rfl,⟨t,rfl⟩,⟨t',rfl⟩⟩:=r.two;refine max_two_ints .b0 fun h' tk hk=>? _;refine⟨.int (max a b),H,I.ji hk,? _,q⟩;by_cases hb:b>a;{rw[if_pos hb];exact⟨t',by rw[wC .C]⟩};{rw[if_neg hb];exact⟨t,by rw[yu .C]⟩}
def aoc(K:ae):.dh:=fun x xs H Q=>∃(a:Addr)(ns:.J)(y:Int),x=V.ref a/\xs=[V.int y]/\.pO/\Q (.int (ns.count y:Nat)) H
theorem GS{y:Int}:∀{ns:.J}{us:.ar},dP .kn us->us.countP (OR (.int y))=ns.count y|[],_,.nil=>rfl|n::ns,_,.cons r t=>by obtain⟨tk,rfl⟩:=r;rw[List.countP_cons,List.count_cons,GS t];congr 1
theorem XQ:WN X "list.count" (aoc X.K):=by intro pins s σ H x xs v us Q I rx rxs h;obtain⟨a,ns,y,rfl,rfl,hs,q⟩:=h;cases rx;obtain⟨uy,rfl,ry⟩:=rxs.one;rw[211];refine call_meets KH .nt PySem.F.entry_list_count (PySem.F.args_list_count_2 _ _) (SeqAt.list_countAt a d7.toArray n dd sl uy (OR (.int y))) ⟨ho,fun u' hu'=>rZ ry rfl rv (by rw[RW];simp[mR]) u' (by simpa using hu'),? _⟩;refine⟨.int (ns.count y:Nat),H,.bz,⟨_,by rw[<-GS rv]⟩,q⟩
def QW(K:ae):.dh:=fun x vs H Q=>∃l b xs zs,x=.cA/\vs=[.cP]/\.hi/\ig K H b zs/\.AB
theorem Tz:MtM X "list.extend" (QW X.K):=by rw[208];obtain⟨Aq,r2,⟨o2,e2,hc2,n2,hd2⟩,hz2⟩:=I.tuple hB;have hl2:=r2.length;(have hsz:.ue<=sizeLine:=by rw[bo,bo];omega);refine wpAny_call_entry F.slot_list_extend .r4 F.entry_list_extend ? _ (F.args_list_extend_2 _ _);unfold Builtin.«list.extend»;refine wpAny_bind (wpAny_of_eq (a:=(Value.ref l,.ot)) rfl ? _);show wpAny _ _ (Builtin.List.listExtendWith (.cA) (.cP) .none) _ _ s;unfold Builtin.List.listExtendWith;refine wpAny_bind (wpAny_typeOf (T:="tuple") ⟨_,e2,hc2⟩ ? _);(have ht:(Builtin.List.listSameRef (Value.ref l) (.ot)||.kp==.mD||.kp==.kp)=true:=by rw[show(.kp==.kp)=true by decide,RU]);rw[if_pos ht];refine wpAny_bind (wpAny_listItems e2 hd2 ? _);refine wpAny_bind (wpAny_listItems e rfl ? _);rw[if_neg (.FF)];refine wpAny_bind (wpAny_updateSeq e rfl ? _ (hz:=.km) (_hz':=by rw[Array.size_append];omega));refine wpAny_pure .nH;refine⟨.jD,_,I.agt (its':=d7++Aq) hH e .aC (r.append r2) ? _,rfl,q⟩;rw[ag];omega
end
theorem agr:typeLookup .Gn "__len__"=pure none:=.o7
theorem Qg:typeLookup .Gn "__length_hint__"=pure (some (.builtin "list_reverseiterator.__length_hint__")):=.o7
section
variable{P:Program}{w:World}{A:Around}{E:Value->Shared->Prop}{s:Shared}{r:Addr}
theorem aak{Q:.mn}(hT:s.TypeIs .e4 "list_reverseiterator")(h:Q false s):.BD:=by unfold Builtin.List.listLengthHint;refine wpAny_bind (wpAny_specialOf hT agr ? _);show wpAny _ A (specialOf (Value.ref r) (Str.ofString "__length_hint__")>>=_) _ _ _;refine wpAny_bind (wpAny_specialOf hT Qg ? _);generalize hid:("list_reverseiterator.__length_hint__":String)=id0;wp_delta;rw[show splitId id0=some ("list_reverseiterator","__length_hint__")from by subst hid;rw[17]];subst hid;refine wpAny_bind (wpAny_isInstance (b:=true) hT (.l8) ? _);exact .hb
theorem ab2{Q:.ax}{it l:Addr}{items:.er}(hh:.f6)(mi:l≠it)(hit:s.heap.IsRevIter it l ((items.size:Int)-1))(hl:s.heap.IsList l items)(hn:items.size<=sizeLine)(hQ:∀h' tk out c',(∀b o,b≠it->.gL)->.h1=some {cls:=.type "list",dict:=none,data:=.seq out c',slots:=#[]}->out.toList=items.toList.reverse->.tu):wpAny .aQ A (call (.nQ) [.ref it]) Q E s:=by refine callType_codes (Q₁:=fun obj s₁=>obj=.eL/\s₁={s with heap:=s.heap.push {cls:=.type "list",data:=.seq #[]}}) PySem.F.called_list (PySem.F.typeCall_list_1 _) PySem.F.entry_list_init (code_list_new _ .ea) fun obj s₁ h₁=>? _;obtain⟨rfl,rfl⟩:=h₁;have hS:(.Dz).get? s.heap.objs.size=some {cls:=.type "list",data:=.seq #[]}:=.cK;obtain⟨oi,ho,_,_⟩:=id hit;obtain⟨ol,hol,_,_⟩:=id hl;have hSi:s.heap.objs.size≠it:=ia (Heap.lt_size ho);have hSl:s.heap.objs.size≠l:=ia (Heap.lt_size hol);refine⟨⟨_,hS,rfl⟩,PySem.F.args_list_init_2 _ _,? _⟩;show wpAny _ _ (do let old<-Builtin.List.listItems (.ref s.heap.objs.size);Builtin.List.listUpdate (.ref s.heap.objs.size) (fun _=>#[]);letGo old.toList.reverse;Builtin.List.listExtendWith (.ref s.heap.objs.size) (.ref it) .none) _ _ _;rw[16];unfold Builtin.List.listItems;refine wpAny_bind (wpAny_seqItems hS rfl .cC);show wpAny _ _ (updateSeq s.heap.objs.size (fun _=>#[])>>=fun _=>letGo (#[]:.er).toList.reverse>>=fun _=>Builtin.List.listExtendWith .cR .i5 .none) _ _ _;refine wpAny_bind (wpAny_updateSeq hS rfl ? _);have hS2:=Heap.get?_update_self .Gp hS rfl;have oth:∀b o,b≠s.heap.objs.size->.dx->(.z4).get? b=.ah:=fun b o hb e=>(.mH).trans (.es);generalize .z4=h2 at*;have agd:h2.IsRevIter it l ((items.size:Int)-1):=hit.at fun o e=>oth _ o hSi.symm e;have hl2:h2.IsList l items:=hl.at fun o e=>oth _ o hSl.symm e;refine wpAny_bind (wpAny_letGo ? _);unfold Builtin.List.listExtendWith;refine wpAny_bind (wpAny_typeOf (T:="list_reverseiterator") .DA ? _);(have h1:Builtin.List.listSameRef .cR .i5=false:=by simp[Builtin.List.listSameRef,hSi]);rw[.Fe];refine wpAny_bind (wpAny_pyIter_revIter (s:={s with heap:=h2}) agd ? _);refine wpAny_bind (wpAny_holding (aak (s:={s with heap:=h2}) .DA ? _));rw[.aE];have W:=Walks.listRev (prog:=P) (w:=w) (A:=A.in1.in1) hh it l mi items;(have hSf:s.heap.objs.size∉[it,l]:=by simp only[aJ,mG,or_false,not_or];exact⟨hSi,hSl⟩);refine wpAny_pure ⟨plainId_quiet PySem.F.plain_extend_loop _,codeAny_extend_loopS (A:=A.in1) W.toS hn _ hSf _ items.size 0 _ _ _ rfl (bw _) ⟨bw _,by simpa using agd,hl2⟩ hS2 (ItemsOf.nil _) fun s' arh c' hm hS' J7=>? _⟩;refine⟨rfl,? _⟩;rw[Moved.eq_with hm];refine hQ s'.heap s'.toks arh c' (.dO) hS' ? _;{have hbS:b≠s.heap.objs.size:=.gM;refine hm.heap b o .f7 (oth b o hbS e);rcases aJ.mp z with z|z;{exact hbS z};{exact hb (aA.mp z)}};{refine List.ext_getElem? fun i=>? _;rw[fO];rcases hZ i items.size with hi|hi;{obtain⟨v,hv⟩:∃v,arh[i]?=.a4:=⟨_,fo (by rw[J7.1];exact hi)⟩;have e1:items[items.size-1-i]?=.a4:=J7.2 i v hv;rw[hv,lJ (by rw[a0];exact hi),a0,fO,e1]};{rw[oQ (by rw[J7.1];exact hi),eO (by rw[cj,a0];exact hi)]}}
end
theorem Pf:.CO:=.aF
section
variable{X:Cx}{e:Expr}{te:TE}{p1 p2 p3 p4:Pos}
def RD(K:ae)(te:TE):TE:=fun σ H Q=>te σ H fun x H1=>∃l xs,x=.cA/\cM K H1 l xs/\∀p,H1 p=none->Q .b6 (aN H1 p (.bJ xs.reverse))
theorem Ic(hc:.cJ)(hml:X.mg "list"=none)(hmr:X.mg "reversed"=none)(he:.cI)(hgl:Gl X "list":=by rfl)(hgr:Gl X "reversed":=by rfl)(Xy:starEach [.uT] X.bA=[(false,eval (.uT) X.bA)]:=by rfl)(hs2:.lJ:=by rfl):PE X (.Call (.Name "list" p1) [.uT] [] p4) (RD X.K te):=by rw[3];refine wpAny_Call_Name_kw (xI I hgl hml yE ? _);refine fD ? _ Xy (by rfl);rw[Xy];refine Calls.spliced_cons ? _;refine wpAny_Call_Name_kw (xI I hgr hmr Pf ? _);refine fD ? _ hs2 (by rfl);rw[hs2];refine Calls.spliced_cons (iu .cD fun u s1⟨x,H1,I1,rx,l,xs,ex,hl,q⟩=>.w2);subst ex;obtain rfl:u=Value.ref l:=rx;obtain⟨d7,rv,pl,hz⟩:=I1.list hl;have hlen:=rv.length;refine call_reversed_list pl.isList ? _;refine .w2;obtain⟨ol,hol,hlr⟩:=id pl.isList;have jc:=Heap.lt_size hol;refine ab2 (s:={s1 with heap:=s1.heap.push (revObj l ((d7.toArray.size:Int)-1))}) (items:=d7.toArray) (I1.ok.hd hc) (bS jc) .fI ⟨ol,Heap.get?_push_of_some _ hol,hlr⟩ (.km) fun h' tk out c' hk Ls ho=>? _;have hk1:∀b o,s1.heap.get? b=.ah->.e0=.ah:=fun b o e=>hk b o (.gM) (.es);have hsz:(s1.heap.push (revObj l ((d7.toArray.size:Int)-1))).objs.size=.fP:=Heap.size_push ..;rw[hsz]at Ls|-;have hle:s1.heap.objs.size<=.fP:=z6 _;refine⟨.ref _,aN H1 (.fP) (.bJ xs.reverse),I1.laid (t':=tk) hk1 hle ⟨by rw[cj];exact hz,out.toList,c',? _,by rw[Array.toArray_toList];exact Ls⟩,rfl,q _ .yd⟩;rw[ho];exact rv.reverse
end
theorem yL{d:Addr}{o:Obj}{kvs:.az}{g:TG}{tb:TS}{D:CN}{σ:St}{H:Hp}(Pv:.hX)(h0:Pv 0 σ H)(hl:∀i σ H,.rI->.fv->.mA)(hs:∀i k v σ H T,.qP->.fv->.gA->g (.ref T) σ (aN H T .mB) .lC)(hd:∀σ H,Pv kvs.length σ H->.gs):∃W:.jz,.mv/\∀i m σ H,.k6->((.hE).stop i H/\.gs)\/((.hE).go i H/\∃N:.dM,.jA/\∀x H',(.hE).WH i H x H'->.jB):=by refine⟨fun i m σ H=>m=kvs.length-i/\.rI/\.fv,⟨kvs.length,.aN,bw _,h0⟩,? _⟩;rintro i m σ H⟨rfl,hi,p⟩;have q:=hl i σ H hi p;by_cases jc:i<kvs.length;{refine .inr ⟨⟨q,jc⟩,.e2,fun σ' H' p'=>.EN,.fj⟩;obtain⟨T,k,v,e,rfl,nT,rfl⟩:=y;exact hs i k v σ H T e p nT};{obtain rfl:i=kvs.length:=.o;exact .inl ⟨⟨q,aF _⟩,hd σ H p⟩}
theorem ab0{d:Addr}{o:Obj}{kvs:.az}{g:TG}{tt:TT}{te:TE}{vs:.ab}{σ:St}{H1:Hp}{D:Addr}{Qd:.a3}(Pv:.h3)(h0:.jK)(hl:∀i H,.rI->Pv i H->.mA)(hs:∀i k v H T,.qP->Pv i H->.gA->g (.ref T) (.d4) (aN H T .mB) .lI)(hd:∀H,Pv kvs.length H->Qd H):∃W:.h4,.h5/\∀i m H,W i m H->((.hE).stop i H/\Qd H)\/((.hE).go i H/\∃Nx:.a3,.h6/\∀x H',(.hE).WH i H x H'->.jI):=by refine⟨fun i m H=>m=kvs.length-i/\.rI/\Pv i H,⟨kvs.length,.aN,bw _,h0⟩,? _⟩;rw[111];have q:=hl i H hi p;by_cases jc:i<kvs.length;{refine .inr ⟨⟨q,jc⟩,.e2,fun H' p'=>.EN,.fj⟩;obtain⟨T,k,v,e,rfl,nT,rfl⟩:=y;exact hs i k v H T e p nT};{obtain rfl:i=kvs.length:=.o;exact .inl ⟨⟨q,aF _⟩,hd H p⟩}
theorem ane{K:ae}{a:Addr}{xs:.aj}{g:TG}{tt:TT}{te:TE}{vs:.ab}{σ:St}{H1:Hp}{D:Addr}{Qd:.a3}(Pv:.h3)(h0:.jK)(hl:∀i H,.iI->Pv i H->.bZ)(hs:∀i x H,xs.reverse[i]?=.bu->.zB)(hd:.vG):∃W:.h4,.h5/\∀i m H,W i m H->((.iN).stop i H/\Qd H)\/((.iN).go i H/\∃Nx:.a3,.h6/\∀x H',(.iN).WH i H x H'->.jI):=by rw[135];have q:=hl i H hi p;rw[82];{rw[289];refine .inr ⟨⟨jc,xs,_,q,hg⟩,.e2,.sV,.fj⟩;rw[108];refine hs i x H' ? _ p;rw[lJ jc];exact y xs q};{rw[79];exact .vF}
end L2
namespace Zs
open PySem PySem.SetTable PySem.Spec
section
variable{P:Program}{w:World}{A:Around}{E:Value->Shared->Prop}{s:Shared}
theorem AL:isSubtype (.type "dict") (.type "frozenset")=pure false:=.l8
theorem SI.nil(w:World):SI w #[] .Gq []:=⟨⟨⟨3,rfl⟩,rfl,rfl,xa,(.iz),(by show 0<7;decide)⟩,rfl,rfl,(.iz),jw _,iZ⟩
theorem anq{Q:.ax}(h:Q .cR {s with heap:=s.heap.push (jk #[] 0 (SetTable.fresh 0 0 (! BT w)))}):wpAny .aQ A (newSet .k0) Q E s:=by unfold newSet;refine wpAny_bind (rB ? _);rw[9];simp only[newObj];exact wpAny_bind (wpAny_alloc (.hb))
theorem Xm{id:String}{a d:Addr}{es:.bf}{ep:Nat}{t:SetTable}{ks:.J}{kvs:List (L2.gx×Value)}{js:.J}{Q:.bW}(had:a≠d)(hds:.w3)(hoa:.eH)(S:.dJ)(hD:.Gr)(hk:.kG=js.map dH)(hl:ks.length+js.length+1<scanBound)(h:∀h' jL vw t' oP,.e7->.hT->.iB->(∀k,k∈oP↔k∈ks\/k∈js)->oP.length<=ks.length+js.length->.fH):wpAny .aQ A (Builtin.Frozenset.updateFrom id a .dZ) Q E s:=by have hT:s.TypeIs .dZ "dict":=hD.typeIs;obtain⟨od,ed,epd,hod,hex,VB,To,Tq,M0⟩:=hD;(have hlen:ed.size=js.length:=by have h1:=Tq.length;have h2:=congrArg jF hk;rw[aa,aa]at h2;rw[a0]at h1;omega);have hb:.rj:=rfl;unfold Builtin.Frozenset.updateFrom;rw[16];unfold Builtin.Frozenset.isAnySet;refine wpAny_bind (wpAny_isInstance hT PySem.F.sub_dict_set ? _);show wpAny _ _ (isInstance .dZ (.type "frozenset")) _ _ _;refine wpAny_isInstance hT AL ? _;rw[.aE];refine .Gs;rw[.hy];refine wpAny_bind (wpAny_rule ? _);refine wpAny_bind (m:=Builtin.Frozenset.addrOf .dZ) .cC;rw[9];rw[if_neg (by rw[hds];decide)];refine wpAny_bind (wpAny_dictEpoch hod VB ? _);refine wpAny_bind (wpAny_dictEntries hod VB ? _);refine wpAny_bind (Wk hoa S .C fun h1 MO ep1 t1 Y9 Sj S1 _=>? _);have aBs:h1.get? d=some od:=(Y9.2 d (cW had)).trans hod;refine wpAny_bind (wpAny_dictEntries (s:={s with heap:=h1}) aBs VB ? _);rw[16];rw[ajk];simp only[ajl,Nat.sub_zero,tI,Nat.div_one];refine wpAny_forIn_list _ (fun rest _ s'=>∃h' jL vw t' oP i,s'={s with heap:=h'}/\rest=aqq i (ed.size-i)/\i<=ed.size/\.e7/\.hT/\.iB/\(∀k,k∈oP↔k∈ks\/k∈js.take i)/\oP.length<=ks.length+i) _ ? _ ? _ _ _ ⟨h1,MO,ep1,t1,ks,0,rfl,.aN,bw _,Y9,Sj,S1,.rV,.aC⟩;{rintro x rest b' s'⟨h',jL,vw,t',oP,i,rfl,hr,hi,sb',Xr,S',Xv,Xt⟩;(have jc:i<ed.size:=by rcases hZ i ed.size with h|h;{exact h};{rw[Nat.sub_eq_zero_of_le h]at hr;simp at hr});(obtain⟨rfl,atq⟩:x=i/\rest=aqq .aH (ed.size-.aH):=by rw[348];injection hr with h1 h2;exact .ob);have atl:h'.get? d=some od:=(sb'.2 d (cW had)).trans hod;refine wpAny_bind (wpAny_dictEntries (s:={s with heap:=h'}) atl VB ? _);rw[fo jc];(obtain⟨kv,hkv⟩:∃kv,kvs[x]?=some kv:=by have h1:=Tq.length;rw[a0]at h1;exact⟨_,aV .C⟩);obtain⟨k,v⟩:=kv;obtain⟨hke,atw⟩:=Tq.get? (e:=ed[x]) (by simp[jc]) hkv;obtain⟨k',aB7,at7⟩:=To ed[x] (Array.getElem_mem jc);obtain rfl:k'=k:=(L2.fk P w).inj _ _ _ aB7 hke;(have e2:(.kG)[x]?=some k':=by rw[aS,hkv];rfl);rw[hk,aS]at e2;cases hj:js[x]? with|none=>rw[hj]at e2;cases e2|some j=>rw[hj]at e2;cases e2;obtain⟨tk,etk⟩:∃tk,ed[x].key=.nh:=L2.Io (k:=dH j) hke;show wpAny _ _ (holding [ed[x].key] (setAddHashed a ed[x].key ed[x].hash)>>=_) _ _ _;rw[at7,etk];refine .y7;have aBt:h2.get? d=some od:=(sb2.2 d (cW had)).trans atl;refine wpAny_bind (wpAny_dictEpoch (s:={s with heap:=h2}) aBt VB ? _);rw[.ha];refine wpAny_pure ⟨h2,Z7,ep2,t2,WW oP j,x+1,rfl,atq,jc,sb'.trans sb2,Y1,S2,fun y=>? _,? _⟩;{rw[Pa,Xv,a8,hj,aW];show _↔y∈ks\/y∈js.take x\/y∈[j];rw[aA];exact or_assoc};{have:=O_ oP j;omega}};{rintro b' s'⟨h',jL,vw,t',oP,i,rfl,hr,hi,sb',Xr,S',Xv,Xt⟩;(have Y2:i=ed.size:=by rcases hZ i ed.size with h|h;{rw[348];exact nomatch hr};{exact Nat.le_antisymm hi h});refine wpAny_pure (h h' jL vw t' oP sb' Xr S' (fun k=>by rw[Xv,Y2,hlen,bf]) .C)}
end
section
variable{P:Program}{w:World}{A:Around}{E:Value->Shared->Prop}{s:Shared}
theorem ZP(a:Value){Q₁:.ax}(h:Q₁ .cR {s with heap:=s.heap.push (jk #[] 0 (SetTable.fresh 0 0 (! BT w)))}):codeAny .aQ A (.call (.builtin "set.__new__") ⟨[.type "set",a],[]⟩) (wants Q₁ E) s:=by refine codeAny_of_tree ? _;show wpAny _ A.in1 (do checkBuiltinCall "set.__new__" ⟨[.type "set",a],[]⟩;again (.builtin "set.__new__" ⟨[.type "set",a],[]⟩)) _ _ s;refine wpAny_bind (wpAny_of_eq (F.newCall_set_1 a) (wpAny_pure ⟨plainId_quiet F.plain_set_new _,codeAny_builtin F.entry_set_new ? _⟩));rw[Around.under_plainId F.plain_set_new _];unfold Builtin.«set.__new__» Builtin.Frozenset.newClass;have aC8:=sub_set_self;obtain⟨hp,g,d,tk,os⟩:=s;rw[9];wp_walk;refine wpAny_askSetting .cC;rw[9];simp only[newObj];refine wpAny_bind (wpAny_alloc .cC);exact .hb
theorem JT{d:Addr}{kvs:List (L2.gx×Value)}{js:.J}{Q:.ax}(hds:.w3)(hD:.Gr)(hk:.kG=js.map dH)(hl:js.length+1<scanBound)(h:∀(h':Heap)(tk:Nat)jL vw t' oP,.fO->.h1=some (jk jL vw t')->.iB->(∀k,k∈oP↔k∈js)->oP.length<=js.length->.tu):wpAny .aQ A (call .k0 [.ref d]) Q E s:=by obtain⟨c,tl,aMb⟩:=F.called_set.mro;have aGo:=F.called_set.made;have aC8:=F.called_set.sub;refine wpAny_call (codeAny_of_tree ? _);show wpAny _ _ (callAny .k0 _) _ _ _;refine wpAny_pure ⟨Code.quiet_builtin _ .bk,codeAny_builtin F.entry_type_call ? _⟩;rw[Around.under_plain (weight_type_call_type "set" [.ref d] []) rfl];have h1:=F.called_set.notType;have h2:=F.called_set.canCreate;have hct:=F.typeCall_set_1 .dZ;rw[176];refine codeAny_mono (ZP .dZ (E:=E) (Q₁:=fun obj s₁=>obj=.eL/\s₁={s with heap:=s.heap.push (jk #[] 0 (SetTable.fresh 0 0 (! BT w)))}) .ea) fun r s₁ hr=>? _;cases r with|error e=>exact hr|ok fl=>cases fl with|ret obj=>obtain⟨rfl,rfl⟩:=hr;rw[244];have hT:Shared.TypeIs {s with heap:=s.heap.push (jk #[] 0 (SetTable.fresh 0 0 (! BT w)))} .cR "set":=⟨_,hS,rfl⟩;have hli:=F.called_set.init.lookup;have hbi:=F.called_set.init.bind .cR;rw[176];refine codeAny_mono (codeAny_call_builtin (R:=wants (fun r s₂=>r=.none/\∃h' tk jL vw t' oP,s₂={s with heap:=h',toks:=tk}/\.fO/\.h1=some (jk jL vw t')/\.iB/\(∀k,k∈oP↔k∈js)/\oP.length<=js.length) E) F.called_set.init.plain F.entry_set_init (check_set_init_1 hT ? _)) fun r₂ s₂ hr₂=>? _;{have hD1:(s.heap.push .l9).DictOf (L2.fk P w) d kvs:=hD.push _;(have mi:s.heap.objs.size≠d:=by obtain⟨_,_,_,hod,_⟩:=hD;exact ia (Heap.lt_size hod));show wpAny _ _ (Builtin.«set.__init__» _) _ _ _;unfold Builtin.«set.__init__» noKeywords;generalize hUF:Builtin.Frozenset.updateFrom=UF;wp_walk;subst hUF;refine Xm (ks:=[]) mi hds hS (SI.nil w) hD1 hk (.xT) fun h' jL vw t' oP sb Xr S' Xv Xt=>? _;refine wpAny_pure ⟨rfl,h',s.toks,jL,vw,t',oP,rfl,fun b o e=>(sb.2 b (.gM)).trans (.es),Xr,S',fun k=>by rw[Xv];simp,by simpa using Xt⟩};{cases r₂ with|error e=>exact hr₂|ok fl₂=>cases fl₂ with|ret r=>obtain⟨rfl,h',tk,jL,vw,t',oP,rfl,Fq,Xr,S',Xv,Xt⟩:=hr₂;rw[176];exact h _ _ _ _ _ _ Fq Xr S' Xv Xt|_=>exact hr₂.elim}|_=>exact hr.elim
end
theorem Z4:entryFor table "set.__or__"=some Builtin.«frozenset.__or__»:=entryFor_alias (id':="frozenset.__or__") .fY .tv .bk .fY
theorem SM{P:Program}{w:World}{A:Around}{E:.ax}{s:Shared}{a:Addr}{Q:.mn}(hT:.xq)(h:Q true s):wpAny .aQ A (.Gu) Q E s:=by unfold Builtin.Frozenset.isAnySet;refine wpAny_bind (wpAny_isInstance hT sub_set_self ? _);exact .hb
section
variable{P:Program}{w:World}{A:Around}{E:Value->Shared->Prop}{s:Shared}
theorem av2{a b:Addr}{ea eb:.bf}{epa epb:Nat}{ta tb:SetTable}{ka kb:.J}{Q:.ax}(zL:a≠b)(hoa:.hc=some (jk ea epa ta))(Sa:SI w ea ta ka)(Ls:.gq=.j8)(Sb:SI w eb tb kb)(hl:.j9+1<scanBound)(h:∀h' tk jL vw t' oP,.fO->.h1=some (jk jL vw t')->.iB->.Fi->oP.length<=.j9->.tu):wpAny .aQ A (binaryOp .BitOr .bY (.cP)) Q E s:=by have hTa:.xq:=⟨_,hoa,rfl⟩;have hTb:s.TypeIs (.cP) "set":=⟨_,Ls,rfl⟩;refine wpAny_binaryOp_same (T:="set") hTa hTb F.fills_set_or F.slot_set_or ? _;refine wpAny_call_entry F.slot_set_or hTa Z4 ? _ (F.args_set_or_2 _ _);unfold Builtin.«frozenset.__or__»;show wpAny _ _ (Builtin.Frozenset.slot1 "__or__" ⟨.hn,[]⟩>>=_) _ _ _;refine wpAny_bind (wpAny_of_eq (a:=(.f5,.ot)) rfl ? _);dsimp only[bV,if_false];rw[16];show wpAny _ _ (.Gu<&&>.EO) _ _ _;refine wpAny_bind (SM hTa ? _);show wpAny _ _ (.EO) _ _ _;refine SM hTb ? _;rw[.aE];refine wpAny_bind (m:=Builtin.Frozenset.addrOf .bY) .cC;rw[16];show wpAny _ _ (Builtin.Frozenset.copyOf a>>=_) _ _ _;unfold Builtin.Frozenset.copyOf Builtin.Frozenset.baseOf;refine wpAny_bind (.r2);refine wpAny_bind (wpAny_isInstance hTa sub_set_self .cC);rw[16];show wpAny _ _ (newSet .k0) _ _ _;refine anq ? _;have jc:=Heap.lt_size hoa;have aBp:=Heap.get?_push_of_some .l9 hoa;have atk:=Heap.get?_push_of_some .l9 Ls;rw[244];refine .DB;refine wpAny_bind (Qx (s:={s with heap:=s.heap.push (jk #[] 0 (SetTable.fresh 0 0 (! BT w)))}) (ka:=[]) (ia jc) hS (SI.nil w) aBp Sa (.iG) (fun s' Q' _ q=>wpAny_pure q) fun h1 e1 ep1 t1 k1 Y9 Sj S1 m1 l1=>? _);refine .gJ;have hk1:∀b o,.dx->h1.get? b=.ah:=fun b o e=>(Y9.2 b (.gM)).trans (.es);(have hba:(.ot !=.f5)=true:=by simpa using(cW zL));show wpAny _ _ (if(.ot !=.f5)=true then _ else _) _ _ _;rw[if_pos hba];refine .DB;refine wpAny_bind (wpAny_holding ? _);show wpAny _ _ (Builtin.Frozenset.updateFrom (toString "frozenset."++toString "__or__") s.heap.objs.size (.cP)) _ _ _;unfold Builtin.Frozenset.updateFrom;have Xx:=hk1 _ _ Ls;refine wpAny_bind (SM (s:={s with heap:=h1}) ⟨_,Xx,rfl⟩ ? _);rw[.aJ];refine wpAny_bind (m:=Builtin.Frozenset.addrOf (.cP)) .cC;unfold Builtin.Frozenset.merge;refine wpAny_bind (wpAny_setEpoch_of (s:={s with heap:=h1}) Xx rfl Sb.tok.fits ? _);refine Qx (s:={s with heap:=h1}) (ia (Heap.lt_size Ls)) Sj S1 Xx Sb (by simp at l1;omega) (fun s' Q' YZ q=>? _) fun h2 e2 ep2 t2 k2 sb2 Y1 S2 m2 l2=>? _;{unfold Builtin.Frozenset.unchanged;refine wpAny_bind (wpAny_setEpoch_of YZ rfl Sb.tok.fits ? _);rw[.ha];exact wpAny_pure q};{refine wpAny_pure (wpAny_pure ⟨_,rfl,.j0,? _⟩);refine h h2 s.toks e2 ep2 t2 k2 (fun c o e=>(sb2.2 c (.gM)).trans (hk1 c o e)) Y1 S2 (fun k=>by rw[m2,m1];simp) (by simp at l1;omega)}
end
theorem QN:Manifest.owners.lookup (String.ofList ['r','o','t','a','r','e','t','i','_','t','e','s'].reverse)=some Manifest.sig_set_iterator:=by kernel_rfl
theorem mn:Slot "set_iterator" "__next__" "set_iterator.__next__":=.of (owner:="set_iterator") (n:="__next__") (.o7) .bk .bk .bk .DC (.l8)
theorem zG:entryFor table "set_iterator.__next__"=some Builtin.«set_iterator.__next__»:=entryFor_of_tree .fY
theorem Bd(a:Value):argsOk "set_iterator.__next__" ⟨[a],[]⟩:=by unfold argsOk;rw[signature?_of (id:="set_iterator.__next__") (n:=['_','_','t','x','e','n','_','_']) (o:=.DD) .fY QN];kernel_rfl
theorem BU:Slot "set_iterator" "__iter__" "set_iterator.__iter__":=.of (owner:="set_iterator") (n:="__iter__") (.o7) .bk .bk .bk .DC (.l8)
theorem Mv(a:Value):argsOk "set_iterator.__iter__" ⟨[a],[]⟩:=by unfold argsOk;rw[signature?_of (id:="set_iterator.__iter__") (n:=['_','_','r','e','t','i','_','_']) (o:=.DD) .fY QN];kernel_rfl
theorem J1:entryFor table "set_iterator.__iter__"=some Builtin.«dict_keyiterator.__iter__»:=entryFor_alias (id':="dict_keyiterator.__iter__") .fY .tv .bk .fY
theorem G8:entryFor table "set.__iter__"=some Builtin.«frozenset.__iter__»:=entryFor_alias (id':="frozenset.__iter__") .fY .tv .bk .fY
section
variable{P:Program}{w:World}{A:Around}{E:Value->Shared->Prop}{s:Shared}
theorem aal{r:Addr}{Q:.mn}(hT:s.TypeIs .e4 "set")(h:Q false s):.BD:=by unfold Builtin.List.listLengthHint;refine wpAny_bind (wpAny_specialOf hT PySem.F.slot_set_len.lookup ? _);generalize hid:("set.__len__":String)=id0;wp_delta;rw[show splitId id0=some ("set","__len__")from by subst hid;rw[17]];subst hid;refine wpAny_bind (wpAny_isInstance (T:="set") (b:=true) hT (.l8) ? _);refine wpAny_ite_split (fun zL=>absurd zL .aD) (fun _=>? _);refine wpAny_ite_split (fun _=>? _) (fun zL=>absurd .bk zL);refine .Gs;exact .hb
abbrev IF(a:Addr)(slot i n ep:Nat):Obj:={cls:=.type "set_iterator",data:=.fields #[rawInt slot,rawInt i,.ref a,rawInt n,rawInt ep]}
def order(w:World)(a:Addr)(es:.bf)(ep:Nat):.bf:=if BT w=true then .Ea else es
theorem Uc(w:World)(a:Addr)(es:.bf)(ep:Nat):(.rJ).toList.Perm es.toList:=by unfold order;split;{exact LR _ _};{exact jw _}
theorem agn{a:Addr}{es:.bf}{ep:Nat}{t:SetTable}{ks:.J}{Q:.ax}(ho:.eH)(S:.dJ)(h:Q .cR {s with heap:=s.heap.push (IF a 0 0 es.size ep)}):wpAny .aQ A (pyIter .bY) Q E s:=by have hT:.xq:=.nt;refine wpAny_pyIter_slot hT ON (wpAny_call_entry ON hT G8 ? _ (PySem.F.args_set_iter_1 _));unfold Builtin.«frozenset.__iter__»;refine wpAny_bind (m:=Builtin.Frozenset.slot0 "__iter__" ⟨.fi,[]⟩) (wpAny_of_eq (a:=a) rfl ? _);rw[16];unfold Builtin.Frozenset.sizeOf;refine wpAny_bind (wpAny_setEntries_of ho rfl S.tok.fits .cC);rw[16];unfold setDrawn;rw[127];rw[9];refine wpAny_bind (rB .cC);(have hd:(! BT w&&.uU)=false:=by rw[S.pl];simp);show wpAny _ _ (if(! BT w&&.uU)=true then _ else _) _ _ _;rw[hd,.aE];refine .ri;refine wpAny_bind (wpAny_setEpoch_of ho rfl S.tok.fits ? _);refine wpAny_bind (wpAny_newObj_type (wpAny_pure ⟨_,rfl,"set_iterator",_,⟨_,.cK,rfl⟩,mn.lookup,? _⟩));exact h
def At(t:SetTable)(i slot:Nat):Prop:=.yG=i
theorem At.start{t:SetTable}{n:Nat}(o:SH t n):At t 0 0:=by obtain⟨h1,h2,h3⟩:=xm 0 o.Ki;unfold At;rcases nY (below t.place 0)with z|z;{exact z};{have:=h2 0 z;omega}
theorem At.next{t:SetTable}{n i slot j:Nat}(o:SH t n)(h:At t i slot)(hj:t.place[i]?=.dF):At t .aH (j+1):=by obtain⟨h1,h2,h3⟩:=xm (j+1) o.Ki;obtain⟨jc,e⟩:=jP.mp hj;(have gd:∀k(hk:k<t.place.size),t.place.getD k (j+1)=t.place[k]:=fun k hk=>by simp[pR,hk]);unfold At;(have a1:¬below t.place (j+1)<=i:=fun z=>by have:=h3 i z jc;rw[gd i jc,e]at this;omega);(have a2:¬i+1<below t.place (j+1):=fun z=>by have hs:i+1<t.place.size:=.o;have:=h2 .aH z;rw[gd _ hs]at this;have h5:=j4.mp o.Ki i .aH (by simpa using jc) (.wU) (mK _);simp only[zc]at h5;omega);omega
theorem N2{a:Addr}{es:.bf}{ep:Nat}{t:SetTable}{ks:.J}{i slot:Nat}{Q:Option (Value×Nat)->.bK}(ho:.eH)(S:.dJ)(ha:.wi)(hi:i<es.size)(h:∀v sl,.o8->(.kO->At t .aH sl)->Q (some (v,sl)) s):wpAny .aQ A (setNext a slot i ep) Q E s:=by unfold setNext;rw[106];cases hb:BT w with|true=>rw[349];(have e:.rJ=jL:=by unfold order;rw[if_pos hb,h2 hb]);(have jc:i<jL.size:=by rw[<-a0,pm.length_eq,a0];exact hi);rw[fo jc];exact h _ _ (by rw[e,fo jc];rfl) .tU|false=>rw[295];have Xq:.yG=i:=ha hb;(have hp:i<t.place.size:=by rw[S.tok.size];exact hi);rw[Xq,fo hi,fo hp];(have e:.rJ=es:=by unfold order;rw[if_neg (by rw[hb];decide)]);exact h _ _ (by rw[e,fo hi];rfl) fun _=>At.next S.tok Xq (fo hp)
theorem N1{a:Addr}{es:.bf}{ep:Nat}{t:SetTable}{ks:.J}{slot:Nat}{Q:Option (Value×Nat)->.bK}(ho:.eH)(S:.dJ)(ha:.kO->At t es.size slot)(h:Q none s):wpAny .aQ A (setNext a slot es.size ep) Q E s:=by unfold setNext;rw[106];cases hb:BT w with|true=>rw[349];rw[oQ (by rw[<-a0,pm.length_eq,a0];rw[13])];exact h|false=>rw[295];have Xq:.yG=es.size:=ha hb;rw[Xq,oQ .aS];exact h
end
section
variable{P:Program}{w:World}{A:Around}{E:Value->Shared->Prop}{s:Shared}
theorem XS{it a:Addr}{es:.bf}{ep:Nat}{t:SetTable}{ks:.J}{i slot:Nat}{Q:.dR->.bK}(hit:s.heap.get? it=some (IF a slot i es.size ep))(mi:a≠it)(ho:.eH)(S:.dJ)(ha:.wi)(hi:i<es.size)(h:∀h' v sl,.o8->(.kO->At t .aH sl)->h'.get? it=some (IF a sl .aH es.size ep)->Heap.SameBut it s.heap h'->Q (.a4) {s with heap:=h'}):.Gv:=by rw[245];show wpAny _ _ (setNext a (slot:Int).toNat (i:Int).toNat (ep:Int).toNat>>=_) _ _ _;simp only[l_];refine wpAny_bind (N2 ho S ha hi fun v sl hv Xq=>? _);rw[9];refine .BE;refine wpAny_bind (wpAny_setField_rec (s:={s with heap:=h1}) Sj .aC fun h2 Y1 sb2=>? _);exact wpAny_pure ⟨v,rfl,wpAny_pure (h h2 v sl hv Xq (by simpa[IF]using Y1) (Y9.trans sb2))⟩
theorem XR{it a:Addr}{es:.bf}{ep:Nat}{t:SetTable}{ks:.J}{slot:Nat}{Q:.dR->.bK}(hh:.f6)(hit:s.heap.get? it=some (IF a slot es.size es.size ep))(mi:a≠it)(ho:.eH)(S:.dJ)(ha:.kO->At t es.size slot)(h:∀h',Heap.ExtBut it s.heap h'->Q none {s with heap:=h'}):.Gv:=by rw[245];show wpAny _ _ (setNext a (slot:Int).toNat (es.size:Int).toNat (ep:Int).toNat>>=_) _ _ _;simp only[l_];refine wpAny_bind (N1 ho S ha ? _);rw[9];refine .BE;show wpAny _ _ (newExc (.type "StopIteration") []>>=_) _ _ _;rw[16];simp only[newExc,newTuple];refine wpAny_bind (.EP);refine wpAny_bind (m:=firstArgMember _ _) (wpAny_of_eq (a:=Value.none) (by first|rfl|(simp only[firstArgMember];rfl)) ? _);refine .EP;simp only[raiseNew];refine wpAny_bind (wpAny_handled ? _);(first|rw[show A.in1.handled=none from hh]|rw[hh]);refine wpAny_bind (wpAny_pure (wpAny_throw ? _));refine wpAny_bind (wpAny_isInstance (T:="StopIteration") (b:=true) ⟨_,.cK,rfl⟩ isSubtype_stop ? _);exact wpAny_pure (h _ ((Y9.extBut.push _).push _))
theorem YK(hh:.f6)(I a:Addr)(mi:a≠I){es:.bf}{ep:Nat}{t:SetTable}{ks:.J}(S:.dJ):Walks P w A I [I,a] [I] es.size (fun i v=>.o8) (fun i h=>i<=es.size/\(∃slot,h.get? I=some (IF a slot i es.size ep)/\(.wi))/\.bw=some (jk es ep t))where sub:=(fun b hb=>by simp at hb;simp[hb]);frame:=(fun _ _ _ x hk=>by rw[101];exact⟨h1,⟨sl,hk I .aC _ h2,h3⟩,hk a .aC _ h4⟩);item:=(fun i s Q E hi x hQ=>by rw[101];refine XS h2 mi h4 S h3 hi fun h' v sl' hv Xq Xr sb=>? _;exact hQ v h' s.toks hv ⟨hi,⟨sl',Xr,Xq⟩,(sb.2 a mi).trans h4⟩ fun b o hb eo=>(sb.2 b .lK).trans eo);done:=(fun s Q E x hQ=>by rw[101];exact XR hh h2 mi h4 S h3 fun h' he'=>hQ h' s.toks fun b o hb eo=>he' b o .lK eo);self:=fun _ s Q _ x hQ=>by rw[101];have hT:s.TypeIs (.ref I) "set_iterator":=⟨_,h2,rfl⟩;refine wpAny_pyIter_slot hT BU (wpAny_call_entry BU hT J1 ? _ (Mv _));show wpAny _ _ (ret (.ref I)) _ _ s;exact wpAny_pure ⟨_,rfl,"set_iterator",_,hT,mn.lookup,hQ⟩
theorem aik{a:Addr}{es:.bf}{ep:Nat}{t:SetTable}{ks:.J}(S:.dJ):PySem.W.KdlSrc P w "set" a a es.size (fun i v=>.o8) (fun h=>.bw=some (jk es ep t))where type:=fun s h=>⟨_,h,rfl⟩;there:=fun h x=>⟨Heap.lt_size x,Heap.lt_size x⟩;keep:=fun h h' x k=>k a .bB _ x;notList:=.aW;notTuple:=.aW;hint:=fun A E s Q x q=>aal ⟨_,x,rfl⟩ q;iter:=fun A s hh x=>⟨IF a 0 0 es.size ep,_,fun E Q q=>agn x S q,YK hh _ a (bS (Heap.lt_size x)) S,bw _,⟨0,.cK,fun _=>At.start S.tok⟩,Heap.get?_push_of_some _ x⟩
end
end Zs
namespace L2
open PySem PySem.Spec PyProof.Rows
def rN(w:World)(a:Addr)(ks:.J):HO:=.ext fun h=>∃es ep t,.bw=some (Zs.jk es ep t)/\Zs.SI w es t ks
theorem rN.ok{P:Program}{w:World}{H:Hp}{h:Heap}{a:Addr}{ks:.J}{es:.bf}{ep:Nat}{t:SetTable}(hg:.bw=some (Zs.jk es ep t))(S:Zs.SI w es t ks):i5 P w H h a (rN w a ks):=⟨⟨es,ep,t,hg,S⟩,⟨_,hg⟩,fun h1 h2⟨es,ep,t,a,b⟩k=>⟨es,ep,t,k _ a,b⟩⟩
section
variable{X:Cx}
def aoe(w:World):.ee:=fun vs H Q=>∃(d:Addr)(kvs:.az)(js:.J),vs=[V.ref d]/\Rd H d .cT/\.kG=js.map dH/\js.length<=4094/\∀(p:Addr)(ks:.J),.bM->(∀k,k∈ks↔k∈js)->ks.length<=js.length->Q .b6 (aN H p (rN w p ks))
theorem ZU:mr X .k0 (aoe X.w):=by rw[31];obtain⟨d,kvs,js,rfl,hd,hk,hl,q⟩:=h;rw[dP.QZ r];obtain⟨z,VF,ws,kv,hD⟩:=hd.ok I.fb;(have Fq:ws.map .aX=js.map dH:=by rw[<-hk];clear hk hD hd z;induction kv with|nil=>rfl|cons r _ ih=>rw[aO,aO,ih,r.1]);refine Zs.JT VF hD Fq .tT fun h' tk es ep t ks kp hg S hm hle=>? _;exact⟨.ref _,aN H s.heap.objs.size (rN X.w s.heap.objs.size ks),I.laid (t':=tk) kp .aS (rN.ok hg S),rfl,q _ ks (.dN) hm hle⟩
def ava(w:World):R2:=fun x y H Q=>∃(a b:Addr)(ka kb:.J),.dA/\y=.cP/\a≠b/\H a=some (rN w a ka)/\H b=some (rN w b kb)/\.j9<=4094/\∀(p:Addr)(ks:.J),.bM->(∀k,k∈ks↔k∈ka\/k∈kb)->ks.length<=.j9->Q .b6 (aN H p (rN w p ks))
theorem ao0:A2 X (binaryOp .BitOr) (ava X.w):=by rw[27];obtain⟨a,b,ka,kb,rfl,rfl,zL,ha,hb,hl,q⟩:=h;cases rx;cases ry;obtain⟨⟨ea,epa,ta,ga,Sa⟩,_⟩:=I.fb a _ ha;obtain⟨⟨eb,epb,tb,gb,Sb⟩,_⟩:=I.fb b _ hb;refine Zs.av2 zL ga Sa gb Sb .tT fun h' tk es ep t ks kp hg S hm hle=>? _;exact⟨.ref _,aN H s.heap.objs.size (rN X.w s.heap.objs.size ks),I.laid (t':=tk) kp .aS (rN.ok hg S),rfl,q _ ks (.dN) hm hle⟩
def QX(w:World):.ee:=fun vs H Q=>∃(a:Addr)(ks:.J),.nS/\H a=some (rN w a ks)/\ks.length<=4096/\∀(oP:.J)(p:Addr),oP.Perm ks->oP.Nodup->.BB
theorem JU(hc:.cJ):mr X .w9 (QX X.w):=by rw[31];obtain⟨a,ks,rfl,ha,hle,q⟩:=h;rw[dP.QZ r];obtain⟨⟨es,ep,t,ga,S⟩,_⟩:=I.fb a _ ha;have hsz:=S.size;have pm:=Zs.Uc X.w a es ep;have hl4:ks.length<=sizeLine:=.cQ;rw[243];refine wpAny_bind (Sg (A:=X.A.in1) (Zs.aik (P:=X.prog) S) .b0 ga .C fun h' tk acc hkp J7=>? _);(have hal:acc.toList.length=(.ER).length:=by rw[a0,J7.1,aa,pm.length_eq,a0]);refine L8 (ns:=.ER) (VJ hal fun j v hv=>? _) (by rw[a0,J7.1];omega) fun h2 out oP c kp Ls h1 h2 h3=>? _;{have e1:((Zs.order X.w a es ep)[j]?).map .bA=.a4:=.EL;cases e2:(Zs.order X.w a es ep)[j]? with|none=>rw[e2]at e1;cases e1|some e=>rw[e2]at e1;have hm:e∈es.toList:=pm.mem_iff.mp (aE (by rw[fO];exact e2));obtain⟨k,tk,rfl⟩:=S.els e hm;have e1:.iA=v:=aB e1;refine⟨tk,k,? _,e1.symm⟩;rw[aS,fO,e2];rfl};{have pk:oP.Perm ks:=h2.trans ((pm.map Zs.OU).trans S.zr);(have aam:.Gm:=by rw[aa,pk.length_eq];exact hl4);have I1:.oB:=I.ji hkp;exact⟨.ref _,.EM,.BC,rfl,q oP _ pk (pk.nodup_iff.mpr S.nd) h3 (.iH)⟩}
end
theorem ZG:bootBuiltins "set"=some .k0:=.aF
end L2
namespace Lc
open PySem PySem.Spec PyProof.Rows L2
theorem rA{a b:Nat}(h:a<=b):bt (a:Int)<=bt (b:Int):=KW (by rw[gK,gK];exact h)
theorem mB(x y:Int):bt (x*y)<=bt x+bt y:=intBits_mul_le .aS .aS
theorem alo(x y:Int):bt (x+y)<=max (bt x) (bt y)+1:=intBits_add_le .aS .aS
theorem f_{x y:Int}(h:bt x+bt y<=134217728):IntMulOk x y:=IntMulOk.of_le .aS .aS h
def Rb(q:Rat)(n:Nat):Prop:=bt q.num<=n/\bt (q.den:Int)<=n
theorem Rb.aI{q:Rat}{m n:Nat}(h:Rb q m)(hn:m<=n):Rb q n:=⟨br h.1 hn,br h.2 hn⟩
theorem ajr{x:Int}(h:x.natAbs<=1000000000):bt x<=30:=br (KW (y:=1000000000) (.e6)) .bk
theorem pS.rb{f:Rat}(h:pS f):Rb f 30:=⟨ajr h.1,ajr (by rw[gK];exact h.2)⟩
theorem Rb.one:Rb 1 1:=⟨.aF,.aF⟩
theorem Rb.zero:Rb 0 1:=⟨.aF,.aF⟩
theorem Rb.add{a b:Rat}{m n:Nat}(ha:Rb a m)(hb:Rb b n):Rb (a+b) (m+n+1):=by(have e:a+b=.Cr:=by rw[<-A7 _ _ (ia a.den_pos) (ia b.den_pos),dY,dY]);have h:=V1 .Cq (dq a.den_pos b.den_pos);rw[<-e]at h;have h1:=alo (a.num*b.den) (b.num*a.den);have h2:=mB a.num b.den;have h3:=mB b.num a.den;rw[246]
theorem Rb.mul{a b:Rat}{m n:Nat}(ha:Rb a m)(hb:Rb b n):Rb (a*b) (m+n):=by(have e:a*b=.Fc:=by rw[<-kH,dY,dY]);have h:=V1 (a.num*b.num) (dq a.den_pos b.den_pos);rw[<-e]at h;have h2:=mB a.num b.num;rw[246]
theorem V5{b:Rat}(h:0<b):0<b.num:=by have h1:=z9.mpr (Fi h);(have h2:b.num≠0:=fun z=>by rw[JR.mp z]at h;exact absurd h .aD);omega
theorem Rb.div{a b:Rat}{m n:Nat}(ha:Rb a m)(hb:Rb b n)(h:0<b):Rb (a/b) (m+n):=by rw[cR];refine ha.mul ? _;obtain⟨i1,i2⟩:=Fm.VL (g:=b) (V5 h);refine⟨by rw[i1];exact hb.2,? _⟩;rw[i2];exact intBits_natAbs_le hb.1
def vk:GT->Rat->Rat->List (.eQ)|.worth x f,a,q=>[(x,a+f,q)]|.plus _ f t,a,q=>vk t (a+f) q|.lot _ ws,a,q=>vk ws a (.iX)|.station _ _ _ bs,a,q=>vk bs a q|.nil,_,_=>[]|.way t w r,a,q=>vk t a (q*w)++vk r a q|.branch _ _ t r,a,q=>.yH
def SR:GT->.bG|.lot _ ws=>ws.bq.map .yI|t=>t.fe.map fun _=>1
theorem ZA{g:GT}(h:g.Ok 1)(a q s:Rat):vk g a (q/s)=(g.df.zip (g.bq.map fun w=>w/s)).flatMap fun k=>vk k.1 a (q*k.2):=by induction g with|nil=>rfl|way t w r _ ih=>show vk t a (q/s*w)++vk r a (q/s)=_;rw[ih .aZ];(have e:q/s*w=q*(w/s):=by rw[cR,cR,apg,pj s⁻¹ w]);rw[e];rfl|_=>rw[0]
theorem Mw{g:GT}(h:g.Ok 2)(a q:Rat):vk g a q=(g.df.zip (g.df.map fun _=>(1:Rat))).flatMap fun k=>vk k.1 a (q*k.2):=by induction g with|nil=>rfl|branch p l t r _ ih=>show .yH=_;rw[.gD];show _=vk t a (q*1)++_;rw[JD];rfl|_=>rw[0]
theorem Zz{g:GT}(h:.aY)(a q:Rat):vk g a q=(if g.kind="worth"then[(g.bB,a+g.nQ,q)]else[])++(g.fe.zip (SR g)).flatMap fun k=>vk k.1 (a+g.nQ) (q*k.2):=by cases g with|worth x f=>show[(x,a+f,q)]=_;rw[.fG];rfl|plus x f t=>show vk t (a+f) q=_;rw[.DE];show _=vk t (a+f) (q*1)++[];rw[JD,bM]|lot x ws=>show vk ws a (.iX)=_;rw[.DF,ee];show _=(ws.df.zip (ws.bq.map .yI)).flatMap fun k=>vk k.1 (a+0) (q*k.2);rw[mO];exact ZA h.1 a q _|station x p n bs=>show vk bs a q=_;rw[.DG,ee];show _=(bs.df.zip (bs.df.map fun _=>1)).flatMap fun k=>vk k.1 (a+0) (q*k.2);rw[mO];exact Mw .aI a q|_=>rw[0]
theorem uU{g:GT}(h:g.Ok 1):g.df.length=g.bq.length:=by rw[Ok.vK h,hX,aa]
theorem Bh{g:GT}(h:.aY):(SR g).length=g.fe.length:=by cases g with|lot x ws=>show(ws.bq.map _).length=ws.df.length;rw[aa,uU h.1]|_=>first|rw[0]|exact aa _
theorem nG{g:GT}(h:.aY):g.fe.length<=8:=by cases g with|worth x f=>exact bw _|plus x f t=>show 1<=8;decide|lot x ws=>have:=.aZ;rw[hX,aa]at this;rw[5]|station x p n bs=>have:=.aZ;rw[hX,aa]at this;rw[5]|_=>rw[0]
def yO:GT->.ao|.worth x _=>[x]|.plus _ _ t=>yO t|.lot _ ws=>yO ws|.station _ _ _ bs=>yO bs|.nil=>[]|.way t _ r=>yO t++yO r|.branch _ _ t r=>yO t++yO r
theorem vm{g:GT}:∀a q,(vk g a q).map .aX=yO g:=by induction g with|worth x f=>intro a q;rfl|plus x f t ih=>intro a q;exact ih _ _|lot x ws ih=>intro a q;exact ih _ _|station x p n bs ih=>intro a q;exact ih _ _|nil=>intro a q;rfl|way t w r it ir=>intro a q;show(vk t a (q*w)++vk r a q).map _=_;rw[aG,it,ir];rfl|branch p l t r it ir=>intro a q;show(.yH).map _=_;rw[aG,it,ir];rfl
theorem om(g:GT):(yO g).Sublist g.bN:=by induction g with|worth x f=>exact yx _|plus x f t ih=>exact ih.trans (wZ ..)|lot x ws ih=>exact ih.trans (wZ ..)|station x p n bs ih=>exact ih.trans (wZ ..)|nil=>exact yx _|way t w r it ir=>exact it.append ir|branch p l t r it ir=>exact it.append ir
theorem Zr{n:jd}{u p:Rat}{g:GT}:∀{a q:Rat},g.bN.Nodup->(∀x∈g.bN,x∉yO g->.df=0)->(∀y∈vk g a q,(n.sp y.1:Rat)=y.2.1*u/\(n.wt y.1:Rat)=y.2.2*p/\n.tt y.1=n.sp y.1*n.wt y.1)->.iY:=by induction g with|worth x f=>intro a q _ _ h;exact h _ .mL|plus x f t ih=>intro a q nd z h;have nd:(x::t.bN).Nodup:=nd;rw[cI]at nd;exact⟨z x .aK fun m=>nd.1 ((om t).subset m),.uV⟩|lot x ws ih=>intro a q nd z h;have nd:(x::ws.bN).Nodup:=nd;rw[cI]at nd;exact⟨z x .aK fun m=>nd.1 ((om ws).subset m),.uV⟩|station x pl nm bs ih=>intro a q nd z h;have nd:(x::bs.bN).Nodup:=nd;rw[cI]at nd;exact⟨z x .aK fun m=>nd.1 ((om bs).subset m),.uV⟩|nil=>intro a q _ _ _;trivial|way t w r it ir=>rw[247]|branch pl l t r it ir=>rw[247]
section
variable{P:Program}{w:World}{K:ae}{mg:Str->Option Value}{base:Heap}{ad:Ad}
def WJ(t am ch:Addr):.a7:=[("tree",.ref t),("amount",.ref am),("chance",.ref ch)]
theorem yC{t am ch:Addr}:(WJ t am ch).lookup ("tree":Str)=some (.ref t):=rfl
theorem yB{t am ch:Addr}:(WJ t am ch).lookup ("amount":Str)=some (.ref am):=rfl
theorem t_{t am ch:Addr}:(WJ t am ch).lookup ("chance":Str)=some (.ref ch):=rfl
theorem Na{C C' dx GY:Addr}{fs Xn:.a7}(h:fs.length≠Xn.length):HO.cH C dx fs≠HO.cH C' GY Xn:=fun z=>h (by rw[.yJ])
theorem ig.aN{H:Hp}{p a:Addr}{u o:HO}{xs:.aj}(hp:H p=.aP)(h1:∀ys,u≠.fL ys)(h2:∀o ys,u≠.lu o ys)(h:.fg):ig K (aN H p o) a xs:=by rw[118];{exact .inl (.inl (by rw[ai (cv h hp (fun z=>h1 xs z.symm))];exact h))};{exact .inl (.inr ⟨ob,by rw[ai (cv h hp (fun z=>h2 _ _ z.symm))];exact h⟩)};rw[29]
theorem ig.Eb{H:Hp}{p a C dx:Addr}{fs:.a7}{o:HO}{xs:.aj}(hp:H p=.cS)(h:.fg):ig K (L2.aN H p o) a xs:=ig.aN hp .ir .rK h
theorem ig.Jo{H:Hp}{p a:Addr}{ys:.aj}{o:HO}{xs:.aj}(hp:H p=some (.bJ ys))(h:.fg):ig K (L2.aN H p o) a xs:=ig.aN hp .ir .rK h
def DN(K:ae)(ad:Ad):Sp:=fun vs H Q _=>∃(p dx a c:Addr)(n:jd)(g:GT)(f:Rat),vs=[.bO,.dB,.b2,.ref c]/\H p=some (.cH ad.iw dx [])/\.aY/\.bo/\.i8/\Rb f 1000000/\∀am H',H am=none->H' p=.ES->H' am=some (sJ (f+g.nQ))->(∀b o,b≠p->.fR)->Q .jD H'
theorem Zq{g:GT}(h:.aY):Rb g.nQ 30:=by cases g with|worth x f=>exact pS.rb h|plus x f t=>exact pS.rb h.1|_=>exact Rb.zero.aI .aD
theorem TR(T:.U)(S0:.te):.BF:=by have sc:a9 .uW .uW (aL xO):=.af;refine T.Yi.dc .C6 sc .ae .ag;{obtain⟨p,dx,a,c,n,g,f,rfl,_⟩:=h;rfl};{obtain⟨p,dx,a,c,n,g,f,rfl,hp,hk,hT,hf,hb,q⟩:=h;refine⟨_,(aj .h8 (aj (dW .au (bx S0 .I bQ (af .ay (af (aP .ak rfl) ao))) rfl) (aD .yn))),? _⟩;rw[148];have mi:g.bB≠p:=cv N.obj hp (Na (by show 12≠0;decide));have hs:=Zq hk;ktd_call vc [hp,ah,gJ,T.i6,T.jK,T.jA,T.iC];have hN:aN H p (.cH ad.iw dx (kY "tree" (.dB) [])) g.bB=_:=(ai mi).trans N.obj;refine⟨.aW,_,_,_,hN,T.cZ,T.gP,_,Dk,a,am,f,g.nQ,rfl,ig.Eb hp hf,ig.Eb hp N.nQ,f_ (by have:=hb.1;have:=hs.2;omega),f_ (by have:=hb.2;have:=hs.1;omega),f_ (by have:=hb.2;have:=hs.2;omega),fun u nu=>? _⟩;(have hup:u≠p:=by rw[2];rw[ah]at nu;cases nu);(have nu0:H u=none:=by rw[ai hup]at nu;exact nu);refine⟨ad.iw,dx,[("tree",.dB)],by rw[ai hup.symm,ah];rfl,T.i6,T.jA,.gQ,T.i6,T.iC,.gR,? _⟩;refine q u _ nu0 ah (by rw[ai hup,ah]) .dO;rw[ai hb,ai (aq e nu0),ai hb];exact e}
theorem aa3(T:.U)(H:Hp):gO K H ad.RE 1:=T.av8 H
theorem LB{g:GT}(h:.aY):.nI↔∃a ws,g=.lot a ws:=by cases g with|lot a ws=>exact⟨fun _=>⟨a,ws,rfl⟩,.bQ⟩|worth a f=>exact⟨fun z=>absurd z (by show .nW≠"lots";decide),.jW⟩|plus a f t=>exact⟨fun z=>absurd z (by show .oi≠"lots";decide),.jW⟩|station a p n bs=>exact⟨fun z=>absurd z (by show .hr≠"lots";decide),.jW⟩|_=>rw[0]
theorem Oi{l:.bG}(h:∀w∈l,pS w):Rb l.sum (1+31*l.length):=by induction l with|nil=>exact Rb.zero|cons w l ih=>rw[cS,aw];exact((h w .aK).rb.add (ih .mm)).aI .C
theorem adm(l:.bG)(w:Rat):(l++[w]).sum=l.sum+w:=by rw[xf,cS,List.sum_nil,mO]
theorem gB{α β:Type}{f:α->β}{l:.aT}{i:Nat}{y:β}(h:(l.map f)[i]?=some y):∃x,l[i]?=.bu/\y=f x:=by rw[aS]at h;cases e:l[i]? with|none=>rw[30]|some x=>rw[e]at h;exact⟨x,rfl,(aB h).symm⟩
theorem Paired.const{α β:Type}{F:.eI}{a:α}{b:β}(h:F a b):∀{γ:Type}(l:List γ),Paired F (l.map fun _=>a) (l.map fun _=>b)|_,[]=>.nil|_,_::l=>.cons h (Paired.const h l)
theorem KY{g:GT}(h:.aY)(hk:¬.nI):SR g=g.fe.map fun _=>1:=by cases g with|lot x ws=>exact absurd rfl hk|_=>rfl
def yV(K:ae)(ad:Ad):Sp:=fun vs H Q _=>∃(n:jd)(g:GT),.iS/\.aY/\.bo/\∀(H':Hp)(p:Addr)(as:.ao),.aq->.bM->H' p=.di->Paired (gO K H') as (SR g)->.ej
theorem Av(T:.U)(S0:.te)(Xb:.Di):.o9:=by have sc:a9 ["tree","together","share","way"] .bT (aL sU):=.af;refine T.BQ.dn .aO sc .ae .ag;rw[80];{obtain⟨n,g,rfl,hk,hT,q⟩:=h;refine⟨_,(aj (dG (cb QM .aG (fF T.Te) .aB) (aD (ba (wu rfl sc.nd .lr (own:=[("way",3)]) .ck .o4 .cu (fun _ _ _ _ _=>(vG T.ak2))))) bZ) (aj (bP (i:=1) sc.nd rfl (JA rfl) (vG T.C6)) (aj (j5 PassesOwn.never rfl .lr .ig (aD (bP (i:=1) sc.nd rfl (JA rfl) (bx S0 .I bQ .rL)))) (aD (ba (wu rfl sc.nd .lr (own:=[("share",2)]) .ck .l3 .cu (fun _ _ _ _ _=>(bx Xb .I bQ (af .ay .a9))))))))),? _⟩;rw[148];ktd_call vc [N.obj,pP,kQ,rE,T.cZ,T.fS,T.dX,T.gu];rw[28];{have hn:¬.nI:=.j7;rw[KY hk hn]at q;refine⟨_,rfl,_,_,_,_,_,rfl,N.obj,T.cZ,T.dX,kQ,wl,rfl,⟨_,.kY⟩,fun D nD=>oj (K:=K) (a:=wl) (xs:=.mT) (fun i H'=>H' D=some (.bJ ((g.fe.take i).map fun _=>V.ref ad.RE))/\.aq) .fW .uR .kv .dX⟩;{rw[15];rw[aQ]at hy;obtain⟨t,ht,rfl⟩:=gB hy;have h8:=nG hk;show gy 3 _ _ _ _;ktd_call vc [fU,vQ];refine .z5;rw[ah,a8,ht,aG];rfl};{rw[15];rw[aa,aa,bf]at g1;exact q H' D (g.fe.map fun _=>ad.RE) g2 nD .wj (Paired.const (aa3 T H') g.fe)}};{have hl:.nI:=.j7;obtain⟨x,ws,rfl⟩:=(LB hk).mp hl;have N:CP K ad H n x "lots" (ws.df.map GT.bB) 0 ws.bq [] 0 [] [] dn wl am sl ll pl sas:=N;have sal:sas.length=ws.bq.length:=N.Rj.length;(have h8:ws.bq.length<=8:=by rw[<-uU hk.1];exact nG hk);have VF:=Ok.small hk.1;have Hv:=vz hk;refine⟨_,rfl,_,_,_,_,_,rfl,N.obj,T.cZ,T.gu,rE,sl,rfl,⟨_,cM.of N.AG⟩,mS (K:=K) (a:=sl) (xs:=.fm) (fun i σ H'=>∃tg y,σ=[some .aR,some (.ref tg),y,none]/\.aq/\gO K H' tg (.n0).sum) ⟨_,_,rfl,aT.refl H,vx T H⟩ (fun i σ H' _ h=>by obtain⟨_,_,_,s1,_⟩:=h;exact s1.seq (cM.of N.AG)) .iZ .cv⟩;{obtain⟨tg,y,rfl,s1,f1⟩:=h;rw[248];have b1:=Oi (l:=.n0) fun z hz=>VF z (gN hz);have b2:=(VF wq (aE hw)).rb;rw[be]at b1;show .n4;ktd_call vc [N_];refine⟨_,f1,_,s1.fL fw,f_ (.Gw),f_ (.Gx),f_ (by have:=b1.2;have:=b2.2;omega),fun p np=>⟨s1.trans (aT.aN np),? _⟩⟩;rw[a8,hw];show gO K _ p (.n0++[wq]).sum;rw[adm];exact gO.of ah};{obtain⟨tg,y,rfl,s1,f1⟩:=h;rw[aa,sal,bf]at f1;have b1:=Oi (l:=ws.bq) VF;refine⟨_,rfl,_,_,_,_,_,rfl,s1 _ _ N.obj,T.cZ,T.gu,rE,sl,rfl,⟨_,cM.of (s1 _ _ N.AG)⟩,fun D nD=>oj (K:=K) (a:=sl) (xs:=.fm) (fun i H2=>∃as:.ao,H2 D=.di/\aT H' H2/\Paired (gO K H2) as ((.n0).map .yI)) ⟨[],ah,.gF,.nil⟩ (fun i H2 _ h=>by obtain⟨_,_,s2,_⟩:=h;exact s2.seq (cM.of (s1 _ _ N.AG))) (fun i v H2 hv h=>? _) fun H2 h=>? _⟩;{obtain⟨as,g1,s2,pr⟩:=h;rw[248];have b2:=(VF wq (aE hw)).rb;(have hal:as.length=i:=by rw[pr.length,aa,be];omega);show .n4;ktd_call vc [fU,vQ,DQ];refine⟨_,(.eu).fL fw,_,s2.fL f1,Hv,.Gx,.Gw,fun H3 u s3 e3=>? _⟩;have g3:=s3 _ _ g1;have uD:u≠D:=cv e3 g3 .aw;refine⟨_,g3,by rw[aa,hal,sizeLine_eq];omega,as++[u],? _,.cM,? _⟩;{rw[ah,aG];rfl};{rw[35];exact s3 _ _ (s2 _ _ e)};{rw[a8,hw,aG];exact Paired.snoc (Paired.ab4 pr fun a b zL=>ig.Jo g3 (s3.fL zL)) (ig.Jo g3 (ig.of e3))}};{obtain⟨as,g1,s2,pr⟩:=h;rw[aa,sal,bf]at pr;exact q H2 D as (.eu) (s1.free nD) g1 pr}}}}
end
section
variable{P:Program}{w:World}{K:ae}{mg:Str->Option Value}{base:Heap}{ad:Ad}
theorem aau{c:Bool}{F:.a3}{A:Prop}{H2:Hp}(R:.a3)(h1:c=true->(∀H3,R H3->F H3)->A)(h2:c=false->R H2)(k:∀H3,R H3->F H3):if c=true then A else F H2:=by cases c with|true=>rw[.aJ];exact h1 rfl k|false=>rw[.aE];exact k _ (h2 rfl)
def wA(K:ae)(ad:Ad)(H:Hp)(x:Addr)(y:.eQ):Prop:=∃dx am ch,H x=some (.cH ad.iw dx (WJ y.1 am ch))/\gO K H am y.2.1/\gO K H ch y.2.2
theorem wA.Dq{H H':Hp}{x:Addr}{y:.eQ}(h:wA K ad H x y)(k:∀b o,.g4->.fR):wA K ad H' x y:=by obtain⟨dx,am,ch,h1,h2,h3⟩:=h;(have kt:∀{a xs},.qh:=fun{a xs}z=>by rcases z with(z|⟨ob,z⟩)|z;{exact .inl (.inl (k _ _ .dn z))};{exact .inl (.inr ⟨ob,k _ _ .dn z⟩)};{exact .inr z});exact⟨dx,am,ch,k _ _ .dn h1,kt h2,kt h3⟩
theorem adj{H:Hp}{Q:.a3}{x dx a c:Addr}{n:jd}{g:GT}{f:Rat}(nx:.hR)(nd:H dx=none)(hk:.aY)(hT:.bo)(hf:.i8)(hb:Rb f 1000000)(h:∀(H':Hp)am,.aq->H' x=.ES->H' am=some (sJ (f+g.nQ))->Q H'):DN K ad [.dE,.dB,.b2,.ref c] (aN .kj x (.cH ad.iw dx [])) (fun v H2=>v=.jD/\Q H2) E0:=by have s1:aT H (aN .kj x (.cH ad.iw dx [])):=.ta;refine⟨x,dx,a,c,n,g,f,rfl,ah,hk,bF.same s1 hT,s1.fL hf,hb,fun am H' na hx ha kp=>⟨rfl,h H' am (fun b o e=>kp b o .jn (s1 _ _ e)) hx ha⟩⟩
theorem ZN{g:GT}(h:.aY):∀c∈SR g,Rb c 300:=by intro c hc;by_cases hl:.nI;{obtain⟨x,ws,rfl⟩:=(LB h).mp hl;obtain⟨q,hq,rfl⟩:=aX.mp hc;(have h8:ws.bq.length<=8:=by rw[<-uU h.1];exact nG h);have VF:=Ok.small h.1;exact((VF q hq).rb.div (Oi VF) (vz h)).aI .C};{rw[KY h hl]at hc;obtain⟨_,_,rfl⟩:=aX.mp hc;exact Rb.one.aI .aD}
structure Sz(K:ae)(ad:Ad)(H Hc:Hp)(n:jd)(z:Addr×GT×Rat×Rat):Prop where
at_:wA K ad Hc z.1 (z.2.1.bB,z.2.2.1+z.2.1.nQ,z.2.2.2)
ok:z.2.1.Ok 0
tree:bF K ad H n z.2.1
rb:∃m k,Rb z.2.2.1 m/\Rb z.2.2.2 k/\m+31*z.2.1.ht<=1000/\k+300*z.2.1.ht<=10000
theorem Sz.Dq{H Hc H':Hp}{n:jd}{z:.nJ}(h:Sz K ad H Hc n z)(k:∀b o,.g4->Hc b=.ah->.gj):Sz K ad H H' n z:=⟨h.at_.Dq k,h.ok,h.tree,h.rb⟩
def ac4(z:.nJ):List (.eQ):=vk z.2.1 z.2.2.1 z.2.2.2
def Az(l:List (.nJ)):.ao:=dy (l.map .rM)
def ada(K:ae)(ad:Ad):Sp:=fun vs H Q _=>∃(n:jd)(g:GT),.iS/\.aY/\.bo/\.iT/\g.ht<=24/\∀(H':Hp)(p:Addr)(xs:.ao)(L:List (.eQ)),.aq->.bM->H' p=some (.bJ (xs.map V.ref))->L.Perm (vk g 0 1)->Paired (wA K ad H') xs L->.ej
theorem T2(T:.U)(KZ:.BF)(i8:.o9)(MD:.tf):.DH:=by have sc:a9 ["tree","ends","waiting","here","way","chance"] .bT (aL Ld):=.af;refine T.Yo.dn .aO sc .ae .ag;rw[80];{obtain⟨n,g,rfl,hk,hT,hg,hh,q⟩:=h;refine⟨_,(aj .oZ (aj (bP (i:=2) sc.nd rfl .ai (eU (af (jj KZ .I bQ (af .au (af (vG T.C6) (af (vG T.ak2) ao)))) ao))) (aj (lW PassesOwn.never (cb xW .vW bH .aB) (aj .Dp (aj (dG (cb gH .ma (fF T.Bv) .aB) (aD .Gc) bZ) (aD (j5 PassesOwn.never rfl (Ig rfl T.Pe (af .ma (af (bx i8 .I bQ (af .cm ao)) ao))) (pH rfl (ff .jQ (ff .tb mm))) (aD (dO (mW bj b6 b7 iB .ay (af (jj KZ .I bQ (af .d9 (af .cm (af (bx MD .I bQ (af .cm .rE)) ao)))) ao))))))))) .fT))),? _⟩;rw[1];refine⟨bw _,fun fp nf x dx nx nd ne=>? _⟩;have s0:aT H (aN H fp .bN):=aT.aN nf;refine adj nx nd hk (bF.same s0 hT) (vx T _) (Rb.zero.aI .aD) fun H1 am s1 hx ha=>? _;refine⟨.bg,fun wp nw=>? _⟩;have at6:H1 fp=.en:=s1 _ _ ah;have Y6:H wp=none:=(s0.trans s1).free nw;(have OS:wp≠fp:=by rw[2];rw[at6]at nw;cases nw);have nf0:H fp=none:=nf;refine⟨fun m σ Hc=>∃(done:List (Addr×.eQ))(pend:List (.nJ))(y3 y4 y5:.bL),m=(Az pend).length/\σ=[.iU,.nD,.nE,y3,y4,y5]/\aT H Hc/\Hc fp=some (.bJ .wk)/\Hc wp=some (.bJ ((pend.map .nK).reverse))/\(done.map .bA++pend.flatMap ac4).Perm (vk g 0 1)/\(∀z∈pend,Sz K ad H Hc n z)/\(∀d∈done,wA K ad Hc d.1 d.2)/\(Az pend).length<=8192,⟨_,[],[(x,g,0,1)],none,none,none,rfl,rfl,? _,? _,ah,? _,? _,? _,? _⟩,? _⟩;{exact(s0.trans s1).trans (aT.aN nw)};{rw[ai OS.symm];exact at6};{show(vk g 0 1++[]).Perm _;rw[bM]};{intro z hz;rw[aA.mp hz];refine⟨⟨dx,am,_,(aT.aN nw) _ _ hx,ig.of ((aT.aN nw) _ _ ha),aa3 T _⟩,hk,hT,1,1,Rb.zero,Rb.one,? _,? _⟩;{show 1+31*g.ht<=1000;omega};{show 1+300*g.ht<=10000;omega}};{intro d hd;cases hd};{show(dy [g]).length<=8192;rw[dy,cK,vW,bM];exact hg};rintro m σ Hc⟨done,pend,y3,y4,y5,rfl,rfl,sm,Qc,F6,hpm,Sk,MX,tZ⟩;rw[1];refine⟨_,.inl (cM.of F6),fj (fun h1=>.gg) .ey⟩;{cases pend with|nil=>simp at h1|cons z rest=>obtain⟨zx,t,a,qz⟩:=z;have pz:=Sk _ .aK;obtain⟨⟨dz,amz,chz,ez,fa,fc⟩,tok,tat,mz,kz,rba,rbq,lm,lk⟩:=pz;obtain⟨⟨dn,wl,ama,sl,ll,pl,sas,N⟩,tw⟩:=Ok.iN tok tat;simp only[]at ez fa fc tok tat rba rbq lm lk;(have aaq:(((zx,t,a,qz)::rest).map .nK).reverse=.j1++[V.ref zx]:=by rw[aO,c_]);rw[aaq]at F6;(have hn:Az ((zx,t,a,qz)::rest)=t.bB::dy (t.fe++.xr):=by unfold Az dy;rw[aO,cK,Ok.bN tok,cJ];rfl);have hlen:=hpm.length_eq;(have hal:(vk g 0 1).length<=8192:=by rw[<-aa (f:=fun y:.eQ=>y.1),vm];exact br (om g).length_le hg);(have hrl:rest.length<=8192:=by(have:=mj (l:=.xr) fun u hu=>by obtain⟨z,hz,rfl⟩:=aX.mp hu;exact(Sk z .fB).ok);rw[hn,aw,dy,cJ,ag]at tZ;rw[aa,dy]at this;omega);(have hdl:done.length<=8192:=by rw[ag,aa]at hlen;omega);ktd_call vc [F6];have Qi:(.j1++[V.ref zx])[(.j1++[V.ref zx]).length-1]?=some (V.ref zx):=.ET;rw[zy];refine⟨.vY,_,Qi,? _⟩;(have kl:∀b o,.g4->Hc b=.ah->aN Hc wp .iu b=.ah:=fun b o ho e=>by rw[ai (cv e F6 (ho _))];exact e);have sm1:aT H (aN Hc wp .iu):=.DI;have hf1:aN Hc wp .iu fp=some (.bJ .wk):=.Gy;have hw1:aN Hc wp .iu wp=some .iu:=ah;generalize aN Hc wp .iu=H2 at*;have ez1:=kl _ _ .dn ez;have az1:wA K ad H2 zx .q0:=wA.Dq ⟨dz,amz,chz,ez,fa,fc⟩ kl;ktd_call vc [ez1,yC,sm1 _ _ N.obj,pP,T.i6,T.jK,T.cZ,T.fS];have N:CP K ad H n t.bB t.kind (t.fe.map GT.bB) t.nQ t.Rj t.nm t.pl t.nV t.LC dn wl ama sl ll pl sas:=N;have tw:∀u∈t.fe,bF K ad H n u:=tw;have pr1:∀z∈rest,Sz K ad H H2 n z:=fun z hz=>(Sk z .fB).Dq kl;have dn1:∀d∈done,wA K ad H2 d.1 d.2:=fun d hd=>(MX d hd).Dq kl;refine aau (fun H3=>∃K6:List (Addr×.eQ),aT H H3/\H3 fp=.EU/\H3 wp=some .iu/\(∀z∈rest,Sz K ad H H3 n z)/\(∀d∈K6,wA K ad H3 d.1 d.2)/\wA K ad H3 zx .q0/\K6.map .bA=done.map .bA++.DJ) (fun hc k=>? _) (fun hc=>? _) fun H3 r=>? _;{rw[decide_eq_true_eq]at hc;(have kf:∀b o,.g4->H2 b=.ah->aN H2 fp (.bJ (.wk++[V.ref zx])) b=.ah:=fun b o ho e=>by rw[ai (cv e hf1 (ho _))];exact e);refine⟨.vZ,_,hf1,.e9,k _ ⟨done++[(zx,t.bB,a+t.nQ,qz)],.cM,? _,? _,fun z hz=>(pr1 z hz).Dq kf,fun d hd=>? _,az1.Dq kf,? _⟩⟩;{rw[.sf];exact sm1 _ _ e};{rw[ah,aG];rfl};{rw[ai OS];exact hw1};{rcases aW.mp hd with hd|hd;{exact(dn1 d hd).Dq kf};{rw[aA.mp hd];exact az1.Dq kf}};{rw[aG,.dQ];rfl}};{rw[decide_eq_false_iff_not]at hc;exact⟨done,sm1,hf1,hw1,pr1,dn1,az1,by rw[.fq,bM]⟩};{obtain⟨K6,sm3,hf3,hw3,pr3,dn3,az3,ed2⟩:=r;obtain⟨dz3,azq,ary,ez3,fa3,fc3⟩:=az3;simp only[]at ez3 fa3 fc3;have h8:=nG tok;refine⟨_,rfl,_,_,_,_,_,rfl,ez3,T.i6,T.jK,yC,_,_,_,_,_,rfl,sm3 _ _ N.obj,T.cZ,T.dX,kQ,_,rfl,_,_,_,_,_,rfl,ez3,T.i6,T.jK,yC,n,t,rfl,tok,bF.same sm3 tat,fun H4 cl ZJ s4 ncl Tj hcs=>? _⟩;have s34:=sm3.trans s4;have n4:H cl=none:=sm3.free ncl;have wcl:wp≠cl:=aq hw3 ncl;have fcl:fp≠cl:=aq hf3 ncl;(have azx:ZJ.length=t.fe.length:=by rw[hcs.length,Bh tok]);refine⟨wl,cl,_,_,rfl,cM.of (s34 _ _ N.ways),cM.of Tj,Vt (K:=K) (a:=wl) (b:=cl) (xs:=.jS) (ys:=ZJ.map V.ref) (by rw[aa,aa,aa,azx]) (fun i σ H5=>∃(new:List (.nJ))(z4 z5:.bL),σ=[.iU,.nD,.nE,some (.ref zx),z4,z5]/\aT H H5/\(∀b o,.g4->.hN->H5 b=.ah)/\H5 fp=.EU/\H5 wp=some (.bJ (.j1++new.map .nK))/\H5 cl=some (.bJ (ZJ.map V.ref))/\(∀z∈new,Sz K ad H H5 n z)/\new.map (fun z=>z.2)=((.nL).take i).map fun k=>(k.1,a+t.nQ,qz*k.2)) ⟨[],y4,y5,rfl,s34,.n5,s4 _ _ hf3,(by rw[eX,bM];exact s4 _ _ hw3),Tj,(fun z hz=>nomatch hz),rfl⟩ (fun i σ H5 _ h=>? _) (fun i x y σ H5 TT hx hy h nT=>? _) fun σ H5 h=>? _⟩;{rw[149];exact⟨cM.of (s5 _ _ N.ways),cM.of c5⟩};{rw[149];rw[aQ]at hx;obtain⟨kd,hkd,ekd⟩:=gB hx;have ekd:x=V.ref kd.bB:=ekd;subst ekd;obtain⟨ca,hca,rfl⟩:=gB hy;obtain⟨cq,hcq,fcq⟩:=Paired.uj hcs hca;have kdm:=aE hkd;have hi:i<t.fe.length:=(ay.mp hkd).1;(have nl:new.length=i:=by have:=congrArg jF e5;rw[aa,aa,be,nH,Bh tok,Fd]at this;omega);have kt:aT H5 (aN H5 TT .uX):=aT.aN nT;rw[25];have hT6:∀b o,H5 b=.ah->aN H5 TT .uX b=.ah:=kt;generalize aN H5 TT .uX=H6 at*;have k6:∀b o,.g4->H3 b=.ah->H6 b=.ah:=fun b o ho e=>kt _ _ (.xt);have az6:wA K ad H6 zx .q0:=wA.Dq ⟨dz3,azq,ary,ez3,fa3,fc3⟩ k6;have ez6:=k6 _ _ .dn ez3;obtain⟨dz6,aJ2,aJb,e6,fa6,fc6⟩:=az6;rw[ez6]at e6;cases e6;have w6:=kt _ _ w5;have aA8:gO K H6 ca cq:=kt.fL (by rcases fcq with(z|⟨ob,z⟩)|z;{exact .inl (.inl (k5 _ _ .dn z))};{exact .inl (.inr ⟨ob,k5 _ _ .dn z⟩)};{exact .inr z});simp only[]at fa6 fc6;have hht:=F7 kd kdm;have rbt:=Zq tok;ktd_call vc [jS,wO,ez6,yB,t_,T.i6,T.jA,T.iC];have rbc:=ZN tok cq (aE hcq);have rb1:=rba.add rbt;refine⟨.inl ⟨rfl,_,cM.of w6⟩,ary,ca,qz,cq,rfl,fc6,aA8,by have:=rbq.1;have:=rbc.1;omega,by have:=rbq.2;have:=rbc.2;omega,fun H7 u s7 e7 x' GY nx' nd' ne'=>? _⟩;have s67:aT H5 H7:=kt.trans s7;refine adj nx' nd' (Ok.fe tok kd kdm) (bF.same (s5.trans s67) (tw kd kdm)) (s7.fL fa6) (rb1.aI .C) fun H8 am8 s8 hx8 ha8=>? _;have s58:aT H5 H8:=s67.trans s8;have w8:=s58 _ _ w5;(have k9:∀b o,.g4->H8 b=.ah->aN H8 wp (.bJ ((.j1++new.map .nK)++[V.ref x'])) b=.ah:=fun b o ho e=>by rw[ai (cv e w8 (ho _))];exact e);refine⟨_,w8,by rw[ag,cj,aa,aa,sizeLine_eq];omega,.cM,fun b o ho e=>k9 _ _ ho (s58 _ _ (k5 _ _ ho e)),? _,new++[(x',kd,a+t.nQ,qz*cq)],? _,? _,fun z hz=>? _,? _⟩;{rw[.kV];exact s58 _ _ (s5 _ _ e)};{rw[ai OS.symm];exact s58 _ _ f5};{rw[ah,aG,eC];rfl};{rw[ai wcl.symm];exact s58 _ _ c5};{rw[123];{exact(p5 z hz).Dq fun b o ho e=>k9 _ _ ho (s58 _ _ e)};{rw[aA.mp hz];refine⟨⟨GY,am8,u,k9 _ _ .dn hx8,ig.of (k9 _ _ .dn ha8),ig.of (k9 _ _ .dn (s8 _ _ e7))⟩,Ok.fe tok kd kdm,tw kd kdm,mz+30+1,kz+300,rb1,rbq.mul rbc,? _,? _⟩;{show mz+30+1+31*kd.ht<=1000;omega};{show kz+300+300*kd.ht<=10000;omega}}};{(have aCm:(.nL)[i]?=some (kd,cq):=by rw[iy];exact⟨hkd,hcq⟩);rw[aG,e5,a8,aCm,aG];rfl}};{rw[149];(have zl:(.nL).length=(.jS).length:=by rw[nH,Bh tok,Fd,aa,aa]);rw[<-zl,bf]at e5;(have e51:new.map (.rM)=t.fe:=by have:new.map (.rM)=(new.map fun z=>z.2).map fun z=>z.1:=.qU;rw[this,e5,aQ];show(.nL).map (fun k=>k.1)=_;exact List.map_fst_zip (by rw[Bh tok];rw[13]));(have e52:new.flatMap ac4=(.nL).flatMap fun k=>vk k.1 (a+t.nQ) (qz*k.2):=by(have:new.flatMap ac4=(new.map fun z=>z.2).flatMap fun z=>vk z.1 z.2.1 z.2.2:=by rw[kC];rfl);rw[this,e5,kC]);(have en:(Az (.q1)).Perm (dy (t.fe++.xr)):=by unfold Az dy;rw[aG,iP,e51,cJ,cJ];exact .EV);rw[hn,aw]at tZ|-;refine⟨(Az (.q1)).length,.Gz,K6,.q1,rfl,_,_,_,rfl,s5,f5,? _,? _,fun z hz=>? _,fun d hd=>? _,.Gz⟩;{rw[w5,aG,rK,iP,i4]};{rw[ed2];refine List.Perm.trans ? _ hpm;rw[eC,cK];refine oJ _ ? _;show(.DJ++(.q1).flatMap ac4).Perm (vk t a qz++rest.flatMap ac4);rw[Zz tok,eC,cJ,<-e52];exact oJ _ (.EV)};{rw[123];{exact p5 z (fN.mp hz)};{exact(pr3 z hz).Dq fun b o ho e=>.xt}};{exact(dn3 d hd).Dq fun b o ho e=>.xt}}}};{rw[144];refine q Hc fp (done.map .aX) (done.map .bA) sm nf0 (by rw[Qc,aQ];rfl) (by simpa using hpm) ? _;clear hpm Qc;induction done with|nil=>exact .nil|cons d done ih=>exact .cons (MX d .aK) (ih fun z hz=>MX z .fB)}}
end
section
variable{P:Program}{w:World}{K:ae}{mg:Str->Option Value}{base:Heap}{ad:Ad}
theorem alf{g:GT}:∀{j m k:Nat}{a q:Rat},.de->Rb a m->Rb q k->∀y∈vk g a q,Rb y.2.1 (m+31*(g.ht+1))/\Rb y.2.2 (k+(if j=1 then 30 else 0)+300*g.ht):=by induction g with|worth x f=>(rw[57];match j,h with|0,h=>have hy:=aA.mp hy;subst hy;have h:pS f:=h;exact⟨(ha.add h.rb).aI .C,hq.aI .C⟩)|plus x f t ih=>(rw[57];match j,h with|0,h=>have hf:pS f:=h.1;obtain⟨h1,h2⟩:=ih h.2 (ha.add hf.rb) hq y hy;have e:(GT.plus x f t).ht=t.ht+1:=rfl;exact⟨.iv,h2.aI (by rw[e];omega)⟩)|lot x ws ih=>(rw[57];match j,h with|0,h=>(have h8:ws.bq.length<=8:=by rw[<-uU h.1];exact nG (g:=.lot x ws) h);have VF:=Ok.small h.1;have hs:=Oi VF;obtain⟨h1,h2⟩:=ih h.1 ha (hq.div hs (vz h)) y hy;have e:(GT.lot x ws).ht=ws.ht+1:=rfl;exact⟨.iv,h2.aI (by rw[e,.aJ];omega)⟩)|station x p n bs ih=>(rw[57];match j,h with|0,h=>obtain⟨h1,h2⟩:=ih .aI ha hq y hy;have e:(GT.station x p n bs).ht=bs.ht+1:=rfl;exact⟨.iv,h2.aI (by rw[e];simp only[if_neg (show¬(2=1)by decide),if_neg (show¬(0=1)by decide)];omega)⟩)|nil=>rw[57];cases hy|way t w r it ir=>(rw[57];match j,h with|1,h=>have e:(GT.way t w r).ht=.nZ:=rfl;have hw:pS w:=.aI;rw[48];{obtain⟨h1,h2⟩:=it h.1 ha (hq.mul hw.rb) y hy;exact⟨.iv,h2.aI (by rw[e,.aJ,.aE];omega)⟩};{obtain⟨h1,h2⟩:=ir .aZ ha hq y hy;exact⟨.iv,h2.aI (by rw[e];omega)⟩})|branch p l t r it ir=>rw[57];match j,h with|2,h=>have e:(GT.branch p l t r).ht=.nZ:=rfl;rw[48];{obtain⟨h1,h2⟩:=it .aI ha hq y hy;exact⟨.iv,h2.aI (by rw[e];simp only[if_neg (show¬(2=1)by decide),if_neg (show¬(0=1)by decide)];omega)⟩};{obtain⟨h1,h2⟩:=ir h.2.2 ha hq y hy;exact⟨.iv,h2.aI (by rw[e];omega)⟩}
theorem aiv{α β:Type}{f:α->β}{L:.aT}{i:Nat}{z z':α}(nd:(L.map f).Nodup)(hz:L[i]?=.cy)(Qn:z'∈L.take i):f z'≠f z:=fun e=>by obtain⟨j,hj⟩:=Su.mp Qn;(have hji:j<i:=by have:=(ay.mp hj).1;rw[be]at this;omega);rw[u5 hji]at hj;have hi:=(ay.mp hz).1;have:i=j:=(List.getElem?_inj (l:=L.map f) (by rw[aa];exact hi) nd).mp (by rw[aS,aS,hz,hj,je,je,e]);omega
def jd.qH(n:jd)(a:Addr)(i j k:Int):jd:=⟨n.st,fun b=>if b=a then i else n.sp b,fun b=>if b=a then j else n.wt b,fun b=>if b=a then k else n.tt b⟩
abbrev NK(i j k:Int)(fs:.a7):.a7:=kY "total" (.int k) (kY "weight" (.int j) (kY "steps" (.bp) fs))
theorem m9.qH{H:Hp}{n:jd}{a dx:Addr}{fs:.a7}{i j k:Int}(ha:.jU):∀{b:Addr}{kind:Str}{ways:.ao}{nQ:Rat}{bq:.bG}{name:aK}{place:Nat}{labels:.bS}{lplaces:.ab},.tr->m9 K ad .pa (n.qH a i j k) b kind ways nQ bq name place labels lplaces:=by rw[239];have tp:∀{c q},gO K H c q->gO K .pa c q:=fun{c q}e=>ig.Eb ha e;refine⟨GY,wl,am,sl,ll,pl,sas,⟨? _,.xe,tp h.nQ,.ys,Paired.pZ (fun _ _ e=>tp e) h.Rj,.yt,.yu⟩⟩;by_cases hb:b=a;{rw[291];rw[ah,NK,aca,Yc,acb];simp only[jd.qH,if_true]};{rw[ai hb];simp only[jd.qH,if_neg hb];exact h.obj}
theorem bF.qH{H:Hp}{n:jd}{a dx:Addr}{fs:.a7}{i j k:Int}(ha:.jU):∀{g:GT},.bo->bF K ad .pa (n.qH a i j k) g|.worth _ _,h=>m9.qH ha h|.plus _ _ _,h=>.uY|.lot _ _,h=>.uY|.station _ _ _ _,h=>.uY|.nil,_=>trivial|.way _ _ _,h=>.GA|.branch _ _ _ _,h=>.GA
theorem kK.qH{Hd:.hG}{H:Hp}{n:jd}{g:GT}{a dx:Addr}{fs:.a7}{i j k:Int}(h:.ky)(ha:.jU)(hd:Hd a):kK K ad Hd .pa (n.qH a i j k) g:=fun u4 s=>by rw[240];have t2:=bF.qH (i:=i) (j:=j) (k:=k) (ah) t;rw[gJ,RP e1]at t2;exact t2
def Gp(t:Addr)(u p:Int)(wd cd:Addr):.a7:=[("tree",.ref t),("unit",.int u),("parts",.int p),("worths",.ref wd),("chances",.ref cd)]
theorem FX{t:Addr}{u p:Int}{wd cd:Addr}:(.i0).lookup ("tree":Str)=some (.ref t):=rfl
theorem Bg{t:Addr}{u p:Int}{wd cd:Addr}:(.i0).lookup ("unit":Str)=some (.int u):=rfl
theorem uc{t:Addr}{u p:Int}{wd cd:Addr}:(.i0).lookup ("parts":Str)=.r9:=rfl
theorem yG{t:Addr}{u p:Int}{wd cd:Addr}:(.i0).lookup ("worths":Str)=some (.ref wd):=rfl
theorem rO{t:Addr}{u p:Int}{wd cd:Addr}:(.i0).lookup ("chances":Str)=some (.ref cd):=rfl
theorem afl{t:Addr}{u p x:Int}{wd cd:Addr}:kY ("unit":Str) .gC (.i0)=Gp t x p wd cd:=rfl
theorem ZS{t:Addr}{u p x:Int}{wd cd:Addr}:kY ("parts":Str) .gC (.i0)=Gp t u x wd cd:=rfl
def Jt(K:ae)(H:Hp)(u:Nat)(kvs:.az):Prop:=∀k v,.gz=.a4->∃(i:Int)(a:Addr),k=.inl i/\v=.b2/\gO K H a (.eE/u)
theorem Jt.nil{H:Hp}{u:Nat}:Jt K H u []:=fun k v e=>by cases e
theorem Jt.imp{H H':Hp}{u:Nat}{kvs:.az}(h:Jt K H u kvs)(f:∀a xs,.qh):Jt K H' u kvs:=fun k v e=>by obtain⟨i,a,e1,e2,e3⟩:=h k v e;exact⟨i,a,e1,e2,f _ _ e3⟩
theorem uW(kvs:.az)(k j:gx)(y:V):j6 (nW kvs k y) j=if j=k then some y else j6 kvs j:=by unfold nW;split;{next h=>rw[RQ];rw[uV]at h;by_cases e:j=k;{subst e;rw[.aJ];obtain⟨v,hv⟩:=iS.mp h;rw[hv,je,.aJ]};{rw[.cL];cases j6 kvs j with|none=>rfl|some v=>rw[je,.cL]}};{next h=>rw[uV]at h;refine Me k j y kvs ? _;cases e:j6 kvs k with|none=>rfl|some v=>rw[e]at h;exact .kW}
theorem BN(kvs:.az)(k:gx)(y:V):(nW kvs k y).length<=kvs.length+1:=by unfold nW;split;{rw[aa];exact z6 _};{rw[ag];rw[13]}
theorem Jt.put{H:Hp}{u:Nat}{kvs:.az}{i:Int}{a:Addr}(h:Jt K H u kvs)(ha:gO K H a (.eE/u)):Jt K H u (nW kvs (.inl i) .bY):=fun k v e=>by rw[uW]at e;by_cases hk:k=.inl i;{rw[.bP]at e;exact⟨i,a,hk,(aB e).symm,ha⟩};{rw[.bV]at e;exact h k v e}
structure aey(K:ae)(ad:Ad)(H:Hp)(p dx t:Addr)(u pp:Nat)(wd cd:Addr)(wk ck:List (gx×V)):Prop where
obj:H p=some (.cH ad.cA dx (Gp t u pp wd cd))
wd:H wd=some (.dK wk)
cd:H cd=some (.dK ck)
wf:Jt K H u wk
cf:Jt K H pp ck
structure Cnt(n:jd)(u pp:Nat)(g:GT):Prop where
up:0<u
pq:0<pp
an:tF n u pp g 0 1
bu:bt (u:Int)<=3500000
bp:bt (pp:Int)<=30000000
bs:∀x∈yO g,bt (n.sp x)<=3600000/\bt (n.wt x)<=30100000
theorem Tv{a b:Nat}(ha:0<a)(hb:0<b):bt ((AU a b:Nat):Int)<=bt (a:Int)+bt (b:Int):=by have h1:AU a b<=a*b:=vh (dq ha hb) (Nat.lcm_dvd_mul a b);have:=rA h1;have h2:=mB (a:Int) b;rw[dJ]at this;omega
theorem Th{a b:Nat}:bt .xb<=bt (a:Int):=rA (JM _ _)
theorem V4 (r : Rat) : (r.num : Rat) = r * r.den := by
  have h : (r.num : Rat) / (r.den : Nat) = r := by rw [← wH, dY]
  have hd : ((r.den : Nat) : Rat) ≠ 0 := by
    have := r.den_pos
    intro z
    have : r.den = 0 := by exact_mod_cast z
    omega
  calc (r.num : Rat) = (r.num : Rat) / (r.den : Nat) * (r.den : Nat) := (tM hd).symm
    _ = r * r.den := by rw [h]
theorem Ry{r:Rat}{u:Nat}(h:r.den∣u):((r.num*((u:Int)/(r.den:Int)):Int):Rat)=r*u:=by obtain⟨c,rfl⟩:=h;have hd:=r.den_pos;(have e:((r.den*c:Nat):Int)/(r.den:Int)=(c:Int):=by rw[dJ,OY _ .C]);rw[e,gE,V4,jn,apg];congr 1
theorem wA.av0{H H':Hp}{x:Addr}{y:.eQ}(h:wA K ad H x y)(k:∀b o,.hS->(∀C dx fs,o=.cH C dx fs->fs.length=3)->.g4->(∀ys,o≠.dK ys)->.gj):wA K ad H' x y:=by obtain⟨dx,am,ch,h1,h2,h3⟩:=h;(have kt:∀{a xs},.qh:=fun{a xs}z=>by rcases z with(z|⟨ob,z⟩)|z;{exact .inl (.inl (.DK))};{exact .inl (.inr ⟨ob,.DK⟩)};{exact .inr z});exact⟨dx,am,ch,k _ _ h1 (fun _ _ _ e=>by rw[<-(HO.cH.inj e).2.2];rfl) .dn .dn,kt h2,kt h3⟩
theorem uE{H:Hp}{n:jd}{g:GT}{j:Nat}(hk:.de)(hT:.bo){x:Addr}(hx:x∈g.bN):∃(kind:Str)(dx wl am sl:Addr)(nm:Str)(pl:Int)(ll lp:Addr),H x=some (.cH ad.cn dx (eP kind wl am sl nm pl ll lp (n.st x) (n.sp x) (.cB) (.df))):=by rw[ni]at hx;obtain⟨t,ht,rfl⟩:=aX.mp hx;obtain⟨⟨dn,wl,am,sl,ll,pl,sas,N⟩,-⟩:=Ok.iN (Ca hk t ht) (Og hT t ht);exact⟨_,_,_,_,_,_,_,_,_,N.obj⟩
def DP(K:ae)(ad:Ad):Sp:=fun vs H Q _=>∃(p dx:Addr)(Hd:.hG)(n:jd)(g:GT),vs=[.bO,.dB]/\H p=some (.cH ad.cA dx [])/\¬Hd p/\.aY/\.ky/\(∀b,Hd b->H b≠none)/\(∀a∈g.bN,Hd a)/\g.bN.Nodup/\.yK/\g.ht<=24/\(∀a∈g.bN,n.tt a=0)/\∀(H':Hp)(n':jd)(u pp:Nat)(wd cd:Addr)(wk ck:.az),(∀b o,b≠p->b∉g.bN->.fR)->H wd=none->H cd=none->wd≠cd->kK K ad Hd H' n' g->n'.st=n.st->aey K ad H' p dx g.bB u pp wd cd wk ck->Cnt n' u pp g->(∀x∈yO g,(j6 wk (.inl (n'.sp x))).isSome=true)->ck.length<=4097->Q .jD H'
theorem TU(T:.U)(ht:.hq)(Xc:.DH)(lx:.td):.BG:=by have sc:a9 ["self","tree","ends","end"] ["self","tree"] (aL xP):=.af;refine T.Yj.dc .aM sc .ae .ag;{obtain⟨p,dx,Hd,n,g,rfl,_⟩:=h;rfl};{obtain⟨p,dx,Hd,n,g,rfl,hp,Sk,hk,hT,hdm,M0,hnu,hg,hh,htt,q⟩:=h;refine⟨_,(aj (bP (i:=2) sc.nd rfl .ai (bx Xc .I bQ .a9)) (aj .h8 (aj .fc (aj .fc (aj .yL (aj .yL (aj (j5 PassesOwn.never rfl (iL .ay) .gX (aj .z6 (aD .z6))) (aD (j5 PassesOwn.never rfl (iL .ay) .gX (aj .z7 (aj .z7 (aj (dW .cm (de gI .ma .ma) rfl) (aj .GB (aD .GB)))))))))))))),? _⟩;ktd_call vc [hp,T.d9,T.ki,T.iU,T.gw,T.jB,T.gW];refine⟨n,g,rfl,hk,hT.now,.o,hh,fun H1 ep xs L s1 nep Y0 hL hpr=>? _⟩;have OT:=s1 _ _ hp;refine⟨_,_,_,OT,T.d9,T.ki,.aD,_,_,_,ah,T.d9,T.iU,.gQ,_,_,_,ah,T.d9,T.gw,.gR,? _⟩;rw[gJ,gJ];show UB _ .BH _;intro wd nwd;(have F6:wd≠p:=by rw[2];rw[ah]at nwd;cases nwd);refine⟨_,_,_,(ai F6.symm).trans ah,T.d9,T.jB,.gV,? _⟩;intro cd ncd;(have hcp:cd≠p:=by rw[2];rw[ah]at ncd;cases ncd);(have hcw:cd≠wd:=by rw[2];rw[ai F6,ah]at ncd;cases ncd);refine⟨_,_,_,(ai hcp.symm).trans ah,T.d9,T.gW,.vR,? _⟩;(have TN:H1 wd=none:=by rw[ai F6]at nwd;exact nwd);(have TK:H1 cd=none:=by rw[ai hcp,ai hcw,ai hcp]at ncd;exact ncd);(have hwe:wd≠ep:=fun z=>by rw[z,Y0]at TN;cases TN);(have hce:cd≠ep:=fun z=>by rw[z,Y0]at TK;cases TK);(have hpe:p≠ep:=fun z=>by rw[z,Y0]at OT;cases OT);(have k3:∀b o,b≠p->H1 b=.ah->aN .pb p .mb b=.ah:=fun b o hb e=>by rw[ai hb,ai (aq e TK),ai hb,ai (aq e TN),ai hb];exact e);have p3:aN .pb p .mb p=some .mb:=ah;(have w3:aN .pb p .mb wd=.iL:=by rw[ai F6,ai hcw.symm,ai F6,ah]);(have c3:aN .pb p .mb cd=.iL:=by rw[ai hcp,ah]);have hxl:xs.length=L.length:=hpr.length;(have hLl:L.length<=4097:=by rw[hL.length_eq,<-aa (f:=fun y:.eQ=>y.1),vm];exact br (om g).length_le hg);(have hrb:∀z∈L,Rb z.2.1 776/\Rb z.2.2 7201:=fun z hz=>by obtain⟨r1,r2⟩:=alf hk Rb.zero Rb.one z (hL.mem_iff.mp hz);exact⟨r1.aI .C,r2.aI (by rw[.aE];omega)⟩);refine⟨_,rfl,ep,rfl,⟨_,cM.of (k3 _ _ hpe.symm Y0)⟩,mS (K:=K) (a:=ep) (xs:=xs.map V.ref) (fun i σ H'=>∃(y:.bL)(u pp:Nat),.EW/\(∀b o,b≠p->H1 b=.ah->.gj)/\H' p=.j2/\H' wd=.iL/\H' cd=.iL/\0<u/\0<pp/\(∀z∈L.take i,z.2.1.den∣u/\z.2.2.den∣pp)/\bt (u:Int)<=1+800*i/\bt (pp:Int)<=1+7300*i) ⟨none,1,1,rfl,k3,p3,w3,c3,.aW,.aW,.DL,.aF,.aF⟩ .y3 .iZ fun σ H4 h=>? _⟩;{obtain⟨y,u,pp,rfl,k4,-⟩:=h;exact cM.of (k4 _ _ hpe.symm Y0)};{rw[296];rw[119];obtain⟨z,hz,⟨da,am,ch,ax,fa,fc⟩⟩:=Paired.uj hpr hx;have hzm:=aE hz;obtain⟨r1,r2⟩:=hrb z hzm;have axp:x≠p:=cv ax OT (Na (by show 3≠0;decide));have ax4:=k4 _ _ axp ax;(have kt4:∀{a xs},ig K H1 a xs->ig K H' a xs:=fun{a xs}e=>by rcases e with(e|⟨ob,e⟩)|e;{exact .inl (.inl (k4 _ _ (cv e OT .aw) e))};{exact .inl (.inr ⟨ob,k4 _ _ (cv e OT .aw) e⟩)};{exact .inr e});have fa4:=kt4 fa;have fc4:=kt4 fc;have hlu:0<AU u z.2.1.den:=WQ up .sm;have hlp:0<AU pp z.2.2.den:=WQ pq .so;have hb1:=Tv up .sm;have hb2:=Tv pq .so;have hi:i<L.length:=(ay.mp hz).1;have g1:=Th (a:=u) (b:=z.2.1.den);have g2:=Th (a:=pp) (b:=z.2.2.den);have r12:=r1.2;have r22:=r2.2;show gy 3 _ _ _ _;ktd_call vc [p4,Bg,uc,ax4,yB,t_,T.i6,T.jA,T.iC,T.d9,T.iU,T.gw];refine⟨_,fa4,_,rfl,u,z.2.1.den,rfl,up,.sm,.b8,_,_,_,p4,T.d9,T.iU,.vS,? _⟩;rw[afl];refine⟨_,_,_,ah,T.d9,T.gw,_,uc,_,_,_,(ai axp).trans ax4,T.i6,T.iC,_,t_,ch,rfl,_,ig.Eb p4 fc4,_,rfl,pp,z.2.2.den,rfl,pq,.so,.b8,_,_,_,ah,T.d9,T.gw,.vS,? _⟩;rw[ZS,gJ];refine⟨.dO,_,_,ah,? _,? _,hlu,hlp,fun z' Qn=>? _,.o,.o⟩;{rw[ai hb];exact k4 b o hb e};{rw[ai F6];exact w4};{rw[ai hcp];exact c4};{rw[a8,hz]at Qn;rcases aW.mp Qn with Qn|Qn;{obtain⟨d1,d2⟩:=dv z' Qn;exact⟨Cz d1 (Gx ..),Cz d2 (Gx ..)⟩};{rw[aA.mp Qn];exact⟨Fb ..,Fb ..⟩}}};{rw[296];rw[aa,hxl,bf]at dv;rw[aa,hxl]at bu bp;have bu:bt (u:Int)<=3500000:=.o;have bp:bt (pp:Int)<=30000000:=.o;have akj:∀a∈g.bN,a≠p:=fun a ha z=>Sk (z▸M0 a ha);have auq:∀a∈g.bN,a≠wd:=fun a ha z=>hdm _ (M0 a ha) .GC;have auo:∀a∈g.bN,a≠cd:=fun a ha z=>hdm _ (M0 a ha) .GD;have aup:∀a∈g.bN,a≠ep:=fun a ha z=>hdm _ (M0 a ha) (by rw[z];exact nep);have hdW:∀a,Hd a->a≠wd:=fun a ha z=>hdm _ ha .GC;have hdC:∀a,Hd a->a≠cd:=fun a ha z=>hdm _ ha .GD;have hT4:kK K ad Hd H4 n g:=hT.Dq fun b o hb e=>k4 _ _ (fun z=>Sk (z▸hb)) (s1 _ _ e);have hLv:.jh=.jh:=rfl;have hLn:∀z∈L,z.1∈g.bN:=fun z hz=>(om g).subset (by rw[<-vm 0 1];exact rJ (hL.mem_iff.mp hz));(have hLd:(.jh).Nodup:=by refine(List.Perm.nodup_iff (hL.map _)).mpr ? _;rw[vm];exact(om g).nodup hnu);have aBw:Paired (wA K ad H4) xs L:=Paired.pZ (fun x z hz=>hz.av0 fun b o e h1 h2 h3=>k4 _ _ (fun zz=>by subst zz;rw[OT]at e;have:=h1 _ _ _ (aB e).symm;exact absurd this .aD) e) hpr;have ep4:=k4 _ _ hpe.symm Y0;refine⟨_,rfl,ep,rfl,⟨_,cM.of ep4⟩,mS (K:=K) (a:=ep) (xs:=xs.map V.ref) (fun i σ H'=>∃(y:.bL)(m:jd)(wk ck:.az),.EW/\(∀b o,b∉g.bN->b≠wd->b≠cd->.hN->.gj)/\kK K ad Hd H' m g/\m.st=n.st/\H' wd=some (.dK wk)/\H' cd=.sp/\Jt K H' u wk/\Jt K H' pp ck/\wk.length<=i/\ck.length<=i/\(∀z∈L.take i,((m.sp z.1:Int):Rat)=z.2.1*u/\((m.wt z.1:Int):Rat)=z.2.2*pp/\m.tt z.1=m.sp z.1*m.wt z.1/\(j6 wk (.inl (m.sp z.1))).isSome=true/\bt (m.sp z.1)<=3600000/\bt (m.wt z.1)<=30100000)/\∀a∈g.bN,a∉(L.take i).map .aX->m.tt a=0) ⟨_,n,[],[],rfl,(fun b o _ _ _ e=>e),hT4,rfl,w4,c4,Jt.nil,Jt.nil,aF _,aF _,.DL,fun a ha _=>htt a ha⟩ .y3 .iZ fun σ H5 h=>? _⟩;{obtain⟨y,m,wk,ck,rfl,k5,-⟩:=h;exact cM.of (k5 _ _ (fun z=>aup _ z rfl) hwe.symm hce.symm ep4)};{rw[249];rw[119];obtain⟨z,hz,az⟩:=Paired.uj aBw hx;have hzm:=aE hz;have hzn:=hLn z hzm;have hi:i<L.length:=(ay.mp hz).1;(have aD7:∀a∈g.bN,∃dt fs,H4 a=some (.cH ad.cn dt fs)/\fs.length=12:=fun a ha=>by obtain⟨_,_,_,_,_,_,_,_,_,e⟩:=uE hk hT4.now ha;exact⟨_,_,e,rfl⟩);have kk5:∀b o,.hN->.DM->(∀ys,o≠.dK ys)->.gj:=fun b o e h1 h2=>k5 _ _ (fun hb=>by obtain⟨dt,fs,e',l⟩:=aD7 b hb;rw[e']at e;exact h1 _ _ _ (aB e).symm l) (cv e w4 (h2 _)) (cv e c4 (h2 _)) e;have az5:wA K ad H' x z:=az.av0 fun b o e h1 h2 h3=>kk5 b o e (fun C dx fs e=>by rw[h1 C dx fs e];decide) h3;obtain⟨da,am,ch,ax,fa,fc⟩:=az5;have p5:=kk5 _ _ p4 (fun C dx fs e=>by rw[<-(HO.cH.inj e).2.2];show 5≠12;decide) (fun _ e=>by cases e);obtain⟨kd,dt,wl,ama,sl,nm,pl,ll,lp,N⟩:=uE hk hT5.now hzn;obtain⟨r1,r2⟩:=hrb z hzm;obtain⟨dv1,dv2⟩:=dv z hzm;have axn:x≠z.1:=cv ax N (Na (by show 3≠12;decide));have apn:p≠z.1:=(akj _ hzn).symm;have awn:wd≠z.1:=(auq _ hzn).symm;have acn:cd≠z.1:=(auo _ hzn).symm;have f1:∀o,aN H' z.1 o x=_:=fun o=>(ai axn).trans ax;have f2:∀o,aN H' z.1 o p=_:=fun o=>(ai apn).trans p5;have f3:∀o,aN H' z.1 o wd=_:=fun o=>(ai awn).trans w5;have f4:∀o,aN H' z.1 o cd=_:=fun o=>(ai acn).trans c5;have t1:∀o,gO K (aN H' z.1 o) am z.2.1:=fun o=>ig.Eb N fa;have t2:∀o,gO K (aN H' z.1 o) ch z.2.2:=fun o=>ig.Eb N fc;have b1:=r1.1;have b2:=r2.1;have q1:bt .wm<=3500000:=br (rA (JM u z.2.1.den)) bu;have q2:bt .wo<=30000000:=br (rA (JM pp z.2.2.den)) bp;have m1:=mB z.2.1.num .wm;have m2:=mB z.2.2.num .wo;have eS:=Ry dv1;have eW:=Ry dv2;show gy 3 _ _ _ _;ktd_call vc [ax,p5,yC,yB,t_,Bg,uc,yG,rO,N,ah,gJ,f1,f2,f3,f4,T.i6,T.jK,T.jA,T.iC,T.d9,T.iU,T.gw,T.jB,T.gW,T.cZ,T.iJ,T.jv,T.jZ];refine⟨_,fa,_,rfl,_,fa,_,rfl,_,rfl,yw.mpr .sm,_,rfl,.b8,.gW,_,t2 _,_,rfl,_,t2 _,_,rfl,_,rfl,yw.mpr .so,_,rfl,.b8,.gW,? _⟩;generalize hS:z.2.1.num*.wm=S at*;generalize hW:z.2.2.num*.wo=W at*;refine⟨_,rfl,_,rfl,S,rfl,W,rfl,.b8,.gW,? _⟩;have e6:aN H' z.1 .pd z.1=some (.cH ad.cn dt (eP kd wl ama sl nm pl ll lp (m.st z.1) S W (S*W))):=ah;have hT6:=hT5.qH (i:=S) (j:=W) (k:=S*W) N (M0 _ hzn);have k6:∀b o,b≠z.1->.gj->aN H' z.1 .pd b=.ah:=.dp;have kt6:∀a xs,ig K H' a xs->ig K (aN H' z.1 .pd) a xs:=fun a xs e=>ig.Eb N e;clear t1 t2 f1 f2 f3 f4;generalize aN H' z.1 .pd=H6 at*;have ax6:=k6 _ _ axn ax;have p6:=k6 _ _ apn p5;have w6:=k6 _ _ awn w5;have c6:=k6 _ _ acn c5;(have eu:z.2.1=(S:Rat)/u:=by rw[eS];(have:(u:Rat)≠0:=by intro zz;(have:u=0:=by exact_mod_cast zz);omega);exact(CS this).symm);(have ep:z.2.2=(W:Rat)/pp:=by rw[eW];(have:(pp:Rat)≠0:=by intro zz;(have:pp=0:=by exact_mod_cast zz);omega);exact(CS this).symm);(have fa6:gO K H6 am ((S:Rat)/u):=by rw[<-eu];exact kt6 _ _ fa);(have fc6:gO K H6 ch ((W:Rat)/pp):=by rw[<-ep];exact kt6 _ _ fc);have hwx:x≠wd:=cv ax6 w6 .aw;have hcx:x≠cd:=cv ax6 c6 .aw;have ktw:∀a xs o,ig K H6 a xs->ig K (aN H6 wd o) a xs:=fun a xs o e=>ig.aN w6 .ir .rK e;have c7:∀o,aN H6 wd o cd=.sp:=fun o=>(ai hcw).trans c6;have ktc:∀a xs o o',ig K H6 a xs->ig K (aN (aN H6 wd o) cd o') a xs:=fun a xs o o' e=>ig.aN (c7 o) .ir .rK (ktw _ _ _ e);have aCb:wk.length<sizeLine:=.cQ;have aCa:ck.length<sizeLine:=.cQ;refine⟨_,rfl,_,_,_,_,_,rfl,ax6,T.i6,T.jA,yB,_,rfl,_,_,_,_,_,rfl,p6,T.d9,T.jB,yG,_,rfl,_,_,_,_,_,rfl,ax6,T.i6,T.jK,yC,_,_,_,_,_,rfl,e6,T.cZ,T.iJ,BG,wd,_,rfl,Gq.k (k:=.inl S) w6 aCb,? _⟩;refine⟨_,rfl,_,_,_,_,_,rfl,(ai hwx).trans ax6,T.i6,T.iC,t_,_,rfl,_,_,_,_,_,rfl,(ai F6.symm).trans p6,T.d9,T.gW,rO,_,rfl,_,_,_,_,_,rfl,(ai hwx).trans ax6,T.i6,T.jK,yC,_,_,_,_,_,rfl,(ai awn.symm).trans e6,T.cZ,T.jv,LJ,cd,_,rfl,Gq.k (k:=.inl W) (c7 _) aCa,? _⟩;refine⟨_,rfl,fun b o hb hbw hbc e=>? _,m.qH z.1 S W (S*W),hT6.Dq .dO,YA,nW wk (.inl S) (.ref am),? _,nW ck (.inl W) (.ref ch),ah,? _,? _,br (BN ..) .C,br (BN ..) .C,fun z' Qn=>? _,fun a ha hn=>? _⟩;{rw[ai hbc,ai hbw];exact k6 _ _ (fun zz=>hb (zz▸hzn)) (k5 _ _ hb hbw hbc e)};{rw[ai (hdC _ hb),ai (hdW _ hb)];exact e};{rw[ai hcw.symm,ah]};{exact((wf5.imp kt6).put fa6).imp fun a xs e=>ktc a xs _ _ e};{exact((cf5.imp kt6).put fc6).imp fun a xs e=>ktc a xs _ _ e};{rw[a8,hz]at Qn;rcases aW.mp Qn with Qn|Qn;{have mi:z'.1≠z.1:=aiv (f:=fun y:.eQ=>y.1) hLd hz Qn;obtain⟨g1,g2,g3,g4,g5⟩:=hz5 z' Qn;simp only[jd.qH,if_neg mi];refine⟨g1,g2,g3,? _,g5⟩;rw[uW];split;{rfl};{exact g4}};{rw[aA.mp Qn];simp only[jd.qH,if_true];refine⟨eS,eW,trivial,? _,.o,.o⟩;rw[uW,.aJ];rfl}};{rw[a8,hz,aG,aW,not_or]at hn;have mi:a≠z.1:=fun e=>hn.2 (by rw[e];exact aA.mpr rfl);simp only[jd.qH,if_neg mi];exact ht5 a ha hn.1}};{rw[249];rw[aa,hxl,bf]at hz5 ht5;rw[aa,hxl]at wl5 cl5;have p5:=k5 _ _ (fun z=>akj _ z rfl) F6.symm hcp.symm p4;refine q H5 m u pp wd cd wk ck (fun b o hb hn e=>k5 _ _ hn (aq e (s1.free TN)) (aq e (s1.free TK)) (k4 _ _ hb (s1 _ _ e))) (s1.free TN) (s1.free TK) hcw.symm hT5 YA ⟨p5,w5,c5,wf5,cf5⟩ ⟨up,pq,? _,bu,bp,.fk⟩ (.fk) .C;{refine Zr hnu (fun x hx hn=>ht5 x hx fun z=>hn ? _) .cg;{rw[<-vm 0 1];exact(hL.map _).mem_iff.mp z};{obtain⟨e1,e2,e3,-⟩:=.wq;exact⟨e1,e2,e3⟩}};{rw[<-vm 0 1]at hx;rw[177];exact(.wq).2.2.2.2};{rw[<-vm 0 1]at hx;rw[177];exact(.wq).2.2.2.1}}}}
end
open Sm
theorem Mz{x:Int}{B:Nat}:bt x<=B↔x.natAbs<2^B:=by unfold bt Builtin.Int.intBits;by_cases h:x=0;{subst h;rw[.hy];exact⟨fun _=>rL B,fun _=>bw _⟩};{rw[.jL];rw[Nat.succ_le_iff];exact awe .C}
theorem U1{M:Nat}:∀{l:.J},(∀x∈l,x.natAbs<=M)->l.sum.natAbs<=l.length*M|[],_=>.aN|x::l,h=>by have h1:=h x .aK;have h2:=U1 .pP;rw[cS,aw,u6,u9];have:=ae5 x l.sum;omega
theorem adk{B k:Nat}{l:.J}(h:∀x∈l,bt x<=B)(hl:l.length<=2^k):bt l.sum<=B+k+1:=by rw[Mz];have h1:=U1 (M:=2^B) (l:=l) fun x hx=>mJ (Mz.mp (h x hx));have h2:l.length*2^B<=2^k*2^B:=z7 _ hl;rw[297];omega
theorem O8{M:Nat}(k:Int):∀{d:Di},(∀y∈d,y.2.natAbs<=M)->(di d k).natAbs<=d.length*M|[],_=>by show(0:Int).natAbs<=_;simp|y::d,h=>by have h1:=.gE;have h2:=O8 k .pP;show(.jZ).natAbs<=_;rw[aw,u6,u9];have:=ae5 (if y.1=k then y.2 else 0) (di d k);split at*<;>omega
theorem agv{B k:Nat}{d:Di}(h:∀y∈d,bt y.2<=B)(hl:d.length<=2^k)(i:Int):bt (di d i)<=B+k+1:=by rw[Mz];have h1:=O8 (M:=2^B) i (d:=d) fun x hx=>mJ (Mz.mp (h x hx));have h2:d.length*2^B<=2^k*2^B:=z7 _ hl;rw[297];omega
def dk(d:Di):.az:=d.map fun y=>(dH y.1,V.int y.2)
theorem qB(d:Di):(dk d).length=d.length:=aa ..
theorem F0(d:Di):(dk d).map .aX=(.fX).map dH:=.GF
theorem Vi(d:Di):(dk d).map .bA=(d.map .bA).map V.int:=.GF
theorem MI(k:Int):∀d:Di,j6 (dk d) (dH k)=(d.find? .oo).map fun y=>V.int y.2|[]=>rfl|y::d=>by have ih:=MI k d;unfold j6 dk at*;rw[aO,gC,gC];by_cases h:y.1=k;{(have:decide ((dH y.1:gx)=dH k)=true:=by rw[h];simp);rw[this,.nA];rfl};{(have:decide ((dH y.1:gx)=dH k)=false:=by rw[decide_eq_false_iff_not];intro z;exact h (sR z));rw[this,.iC];exact ih}
theorem GW(d:Di)(k:Int):(j6 (dk d) (dH k)).getD (V.int 0)=V.int (MU d k):=by rw[MI];unfold MU;cases d.find? fun y=>y.1=k<;>rfl
theorem Vh{d:Di}(h:.n2){y:.fD}(hy:y∈d):j6 (dk d) (dH y.1)=some (V.int (di d y.1)):=by rw[MI,<-yM h];unfold MU;cases e:d.find? fun z=>z.1=y.1 with|none=>have:=YU.mp e y hy;simp at this|some z=>rfl
theorem am0(d:Di)(k v:Int):nW (dk d) (dH k) (V.int v)=dk (ahw d k v):=by unfold nW ahw;(have:((dk d).any fun kv=>decide (kv.1=dH k))=d.any .oo:=by unfold dk;rw[ape];congr 1;funext y;rw[298]);rw[this];split;{unfold dk;rw[49];rw[298]};{unfold dk;rw[aG];rfl}
def R'(n:jd)(l:.J)(c:uY)(g:GT):Prop:=∀t∈g.iD,∀a p nm bs,t=.eN->∃j:Nat,n.st a=.eB/\l[j]?=some ((c nm:Nat):Int)/\c nm<bs.cU.length
theorem Jl{g:GT}:∀u∈g.df,∀s∈u.iD,s∈g.iD:=by induction g with|way t w r _ ih=>rw[350]|branch p l t r _ ih=>rw[350]|_=>rw[41]
theorem XE{g:GT}:∀u∈g.fe,∀s∈u.iD,s∈g.iD:=by intro u hu s hs;cases g with|plus x f t=>rw[aA.mp hu]at hs;exact ak _ hs|lot x ws=>exact ak _ (Jl u hu s hs)|station x p n bs=>exact ak _ (Jl u hu s hs)|_=>cases hu
theorem Yw{g:GT}(h:.aY):g∈g.iD:=by cases g with|worth x f=>exact au ..|plus x f t=>exact au ..|lot x ws=>exact au ..|station x p n bs=>exact au ..|_=>rw[0]
theorem R'.fe{n:jd}{l:.J}{c:uY}{g:GT}(h:.gw):∀u∈g.fe,R' n l c u:=fun u hu t ht=>h t (XE u hu t ht)
theorem R'.vc{n:jd}{l:.J}{c:uY}:∀{g:GT},.gw->VC c g:=by intro g;induction g with|worth x f=>intro _;trivial|plus x f t ih=>intro h;exact ih .kA|lot x ws ih=>intro h;exact ih .kA|station x p nm bs ih=>intro h;obtain⟨j,_,_,h3⟩:=h _ .aK x p nm bs rfl;exact⟨h3,ih .kA⟩|nil=>intro _;trivial|way t w r it ir=>intro h;exact .BI|branch p l t r it ir=>intro h;exact .BI
def z3(c:uY):GT->.da|.station _ _ n bs=>.xu|t=>t.fe
theorem D5(c:uY)(g:GT):(z3 c g).Sublist g.fe:=by cases g with|station x p n bs=>(show(.xu).Sublist bs.df;cases e:bs.df[c n]? with|none=>exact List.nil_sublist _|some t=>exact RZ.mpr (aE e))|_=>exact yx _
theorem Xk(c:uY){g:GT}(h:g.Ok 1):.bR=g.df.reverse.flatMap (cT c 0):=by induction g with|nil=>rfl|way t w r _ ih=>show .mV=(t::r.df).reverse.flatMap (cT c 0);rw[ih .aZ,c_,cJ];simp|_=>rw[0]
theorem PM(c:uY){g:GT}:∀{k:Nat}{t:GT},g.Ok 2->g.df[k]?=some t->cT c k g=cT c 0 t:=by induction g with|branch p l t r _ ih=>(intro k u h e;show(.l6)=_;cases k with|zero=>rw[.aJ];cases(aB e);rfl|succ k=>rw[if_neg (Nat.succ_ne_zero k)];exact ih h.2.2 e)|nil=>intro k u h e;cases e|_=>intro k u h;rw[0]
theorem S9(c:uY){g:GT}(h:.aY)(v:VC c g):.bR=(if g.kind="worth"then[g.bB]else[])++(z3 c g).reverse.flatMap (cT c 0):=by cases g with|worth x f=>rw[.fG];rfl|plus x f t=>rw[.DE];show cT c 0 t=[]++(cT c 0 t++[]);simp|lot x ws=>rw[.DF,ee];exact Xk c h.1|station x p n bs=>rw[.DG,ee];have hv:=v.1;rw[hX,aa]at hv;have e:bs.df[c n]?=some bs.df[c n]:=aV hv;show cT c (c n) bs=(.xu).reverse.flatMap (cT c 0);rw[PM c .aI e,e];simp|_=>rw[0]
theorem Bn(c:uY){g:GT}:∀{k:Nat},(∀x∈cT c k g,x∈yO g)/\(cT c k g).length<=(yO g).length:=by induction g with|worth b f=>intro k;exact⟨fun x hx=>hx,aF _⟩|plus b f t ih=>intro k;exact ih (k:=0)|lot b ws ih=>intro k;exact ih (k:=0)|station b pl nm bs ih=>intro k;exact ih (k:=c nm)|nil=>intro k;exact⟨fun x hx=>hx,aF _⟩|way t w r it ir=>intro k;refine⟨.fk,? _⟩;{rw[90];{exact bC _ ((ir (k:=0)).1 x hx)};{exact bR _ ((it (k:=0)).1 x hx)}};{show(.mV).length<=.q2;rw[ag,ag];have:=(it (k:=0)).2;have:=(ir (k:=0)).2;omega}|branch pl l t r it ir=>intro k;show(∀x∈(.l6),x∈yO t++yO r)/\(.l6).length<=.q2;rw[ag];split;{exact⟨fun x hx=>bR _ ((it (k:=0)).1 x hx),br (it (k:=0)).2 (iT _ _)⟩};{exact⟨fun x hx=>bC _ ((ir (k:=k-1)).1 x hx),br (ir (k:=k-1)).2 (Nat.le_add_left _ _)⟩}
section
variable{P:Program}{w:World}{K:ae}{mg:Str->Option Value}{base:Heap}{ad:Ad}
def Uv(K:ae)(ad:Ad):Sp:=fun vs H Q _=>∃(n:jd)(g:GT)(pa:Addr)(l:.J)(c:uY),vs=[.dB,.ref pa]/\.aY/\.bo/\.fZ/\.gw/\∀(H':Hp)(p:Addr),.aq->H' p=some (.bJ ((z3 c g).map fun t=>.d0))->.ej
theorem Kg(T:.U):.BJ:=by have sc:a9 .mZ .mZ (aL Bt):=.af;refine T.NY.dn .aM sc .ae .ag;{obtain⟨n,g,pa,l,c,rfl,_⟩:=h;rfl};{obtain⟨n,g,pa,l,c,rfl,hk,hT,hl,hp,q⟩:=h;refine⟨_,(aj (dG .wt (aD (ba (eU (af (eZ j' .aG (eZ j' .ak .aG .a5) .a5) ao)))) bZ) (aD (ba .aG))),? _⟩;rw[148];ktd_call vc [N.obj,pP,kQ,Au,T.cZ,T.fS,T.dX,T.gY];rw[28];{rw[decide_eq_true_eq,qV hk]at h1;obtain⟨x,pp,nm,bs,rfl⟩:=h1;obtain⟨j,e1,e2,e3⟩:=hp _ (Yw hk) x pp nm bs rfl;(have hb:c nm<bs.df.length:=by rw[hX,aa]at e3;exact e3);have e:bs.df[c nm]?=some bs.df[c nm]:=aV hb;refine⟨_,hl,V.int (c nm:Nat),? _,_,_,rfl,.kY,V.ref (bs.df[c nm]).bB,? _,.bg,fun p np=>q _ p (aT.aN np) ? _⟩;{show W4 _ (n.st x)=_;rw[e1];exact gT (by rw[aS,e2];rfl)};{refine gT ? _;show((bs.df.map GT.bB).map V.ref)[c nm]?=_;rw[aS,aS,e];rfl};{rw[ah];show _=some (HO.bJ (((bs.df[c nm]?).toList).map fun t=>.d0));rw[e];rfl}};{rw[6];(have:z3 c g=g.fe:=by cases g with|station x p nm bs=>exact absurd rfl h1|_=>rfl);rw[this]at q;refine q H wl .kX ? _;rw[N.ways,aQ];rfl}}
theorem PZ{α β:Type}{f:α->.dD}{l l':.aT}(h:l.Sublist l'):(l.flatMap f).length<=(l'.flatMap f).length:=by induction h with|slnil=>rw[13]|cons a _ ih=>rw[cK,ag];omega|cons_cons a _ ih=>rw[cK,cK,ag,ag];omega
theorem RF(c:uY)(g:GT):(dy (z3 c g)).length<=(dy g.fe).length:=PZ (D5 c g)
def N6(K:ae)(ad:Ad):Sp:=fun vs H Q _=>∃(n:jd)(g:GT)(pa:Addr)(l:.J)(c:uY),vs=[.dB,.ref pa]/\.aY/\.bo/\.iT/\.fZ/\.gw/\∀(H':Hp)(p:Addr),.aq->.bM->H' p=some (.bJ (.q3))->.ej
theorem Ka(T:.U)(ME:.BJ):.tw:=by have sc:a9 ["tree","policy","ends","waiting","here"] .mZ (aL Bp):=.af;refine T.NV.dn .aM sc .ae .ag;{obtain⟨n,g,pa,l,c,rfl,_⟩:=h;rfl};{obtain⟨n,g,pa,l,c,rfl,hk,hT,hg,hl,hp,q⟩:=h;refine⟨_,(aj .oR (aj (bP (i:=3) sc.nd rfl .ai (eU .cb)) (aj (lW PassesOwn.never (cb xW (bT cC rfl T.gU fg .fV) bH .aB) (aj (bP (i:=4) sc.nd rfl .ai (Ud bj wF wG TH .bq)) (aj (dG (cb gH (aP .d9 rfl) (fF T.Bv) .aB) (aD .uE) bZ) (aD (dO (mW bj mL mM Dg .bq (af (bx ME .I bQ (af .d9 .a9)) ao))))))) .fb))),? _⟩;rw[1];rw[236];refine⟨fun m σ Hc=>∃(done:.ao)(pend:.da)(y4:.bL),m=(dy pend).length/\σ=[.iU,.rN,.nD,.nE,y4]/\aT H Hc/\Hc fp=.vX/\Hc wp=some (.bJ (.ie))/\done++pend.flatMap (cT c 0)=.bR/\(∀t∈pend,t.Ok 0/\.hs/\R' n l c t)/\(dy pend).length<=8192,⟨_,[],[g],none,rfl,rfl,? _,? _,ah,? _,? _,? _⟩,? _⟩;rw[290];{simp};{intro t ht;rw[aA.mp ht];exact⟨hk,hT,hp⟩};{simpa[dy]using hg};rintro m σ Hc⟨done,pend,y4,rfl,rfl,sm,Qc,F6,MX,Sk,tZ⟩;rw[1];refine⟨_,.inl (cM.of F6),fj (fun h1=>.gg) .ey⟩;{cases pend with|nil=>simp at h1|cons t pend=>obtain⟨tok,tat,tp⟩:=Sk t .aK;rw[237];(have hl2:done.length<=8192:=by have h1:=congrArg jF MX;rw[ag]at h1;have h2:=.yM;omega);rw[238];have sm1:aT H (aN Hc wp .e5):=.DI;have hw1:aN Hc wp .e5 wp=some .e5:=ah;refine⟨.vY,_,Qi,? _⟩;generalize aN Hc wp .e5=H2 at*;ktd_call vc [sm1 _ _ N.obj,pP,T.cZ,T.fS];refine aau (F:=fun H3=>tyV K "list" (V.ref wp) H3/\Uv K ad [.d0,V.ref pa] H3 _ E0) (fun H3=>aT H H3/\H3 fp=some (.bJ ((done++(if t.kind="worth"then[t.bB]else[])).map V.ref))/\H3 wp=some .e5) (fun hc k=>? _) (fun hc=>? _) fun H3 r=>? _;{rw[decide_eq_true_eq]at hc;refine⟨.vZ,_,hf1,.e9,k _ ⟨.cM,? _,? _⟩⟩;{rw[.sf];exact sm1 _ _ e};{rw[ah,.dQ,aG];rfl};{rw[ai OS];exact hw1}};{rw[decide_eq_false_iff_not]at hc;exact⟨sm1,by rw[.fq,bM];exact hf1,hw1⟩};{obtain⟨s3,f3,w3⟩:=r;have htn:=RF c t;refine⟨.inl ⟨rfl,_,cM.of w3⟩,n,t,pa,l,c,rfl,tok,bF.same s3 tat,s3.seq hl,tp,fun H4 p4 s4 e4=>? _⟩;have w4:=s4 _ _ w3;(have MZ:(dy (t::pend)).length=.BK+1:=by rw[hn,aw,dy,cJ,ag]);rw[MZ]at tZ;(have hl3:(z3 c t).length<=8192:=by have h1:=(D5 c t).length_le;have h2:=nG tok;omega);(have hl4:pend.length<=8192:=by have:=mj (l:=pend) fun u hu=>(.sg).1;rw[dy]at this;omega);(have en:(dy (.wu)).length<=.BK:=by rw[dy,cJ,ag,((t6 (z3 c t)).flatMap_right _).length_eq];exact Nat.add_le_add_right htn _);refine⟨_,rfl,_,w4,_,e4,by rw[cj,aa,aa,sizeLine_eq];omega,(dy (.wu)).length,? _,_,.wu,rfl,.cM,(ai (cW OS)).trans (s4 _ _ f3),? _,? _,fun u hu=>? _,.o⟩;{rw[MZ];omega};{rw[.kV];exact s4 _ _ (s3 _ _ e)};{rw[ah,aG,rK,iP,i4]};{rw[eC,<-MX,cK,S9 c tok tp.vc,cJ,eC]};{rw[47];{have hu:=(D5 c t).subset (fN.mp hu);exact⟨Ok.fe tok u hu,tw u hu,tp.fe u hu⟩};{exact .sg}}}};{rw[144];have MX:done++[]=.bR:=MX;rw[bM]at MX;refine q Hc fp sm nf0 ? _;rw[<-MX];exact Qc}}
end
section
variable{P:Program}{w:World}{K:ae}{mg:Str->Option Value}{base:Heap}{ad:Ad}
structure YR(n:jd)(u pp:Nat)(g:GT):Prop where
nR:Cnt n u pp g
ok:g.Ok 0
nds:g.bN.length<=4097
ht:g.ht<=24
lv:(yO g).length<=1100
def Mt(n:jd)(c:uY)(g:GT):Di:=nE (.lh) []
theorem QT(n:jd)(l:.ao):(qe n l).length<=l.length:=by unfold qe;rw[aa];exact List.length_filter_le ..
theorem LX(n:jd)(l:.ao)(x:Addr):qe n (l++[x])=qe n l++if 0<.cB then[(n.sp x,.cB)]else[]:=by unfold qe;rw[Cw,aG];by_cases h:0<.cB;{rw[.cn];simp[h]};{rw[.cp];simp[h]}
theorem C4(E F d:Di):nE (E++F) d=nE F (nE E d):=Ze ..
theorem Lj(n:jd)(l:.ao):(nE (qe n l) []).length<=l.length:=by have h:=(pY Ky.nil (QU n l)).2.2;have:=QT n l;simp only[cg]at h;omega
theorem Hy{H:Hp}{D:Addr}{d:Di}(h:H D=some (.dK (dk d))):IsD H D:=.inl ⟨_,.inl h⟩
theorem Uj{H:Hp}{D:Addr}{d:Di}(h:H D=some (.dK (dk d)))(k w:Int)(hl:d.length<sizeLine):Gq H D (.int k) (.int (MU d k+w)) (aN H D (.dK (dk (O9 d k w)))):=by have:=Gq.k (k:=.cz) (v:=.int (MU d k+w)) h (by rw[qB];exact hl);rw[am0]at this;rw[5]
def Ww(K:ae)(ad:Ad):Sp:=fun vs H Q _=>∃(p dx:Addr)(n:jd)(g:GT)(u pp:Int)(wd cd pa:Addr)(l:.J)(c:uY),.q4/\H p=.j2/\.aY/\.iT/\.bo/\.fZ/\.gw/\∀(H':Hp)(d:Addr),.aq->H d=none->H' d=some .uZ->Q .dZ H'
theorem zt(T:.U)(vt:.tw):.pe:=by have sc:a9 ["courses","policy","found","end"] .g5 (aL rS):=.af;refine T.AF.dn .aM sc .ae .ag;rw[150];{rw[250];refine⟨_,(aj .GG (aj (j5 PassesOwn.never rfl .z8 .gX (aD (dG (cb xW .cm bH .aB) (aD (tq .b4 .ay .cm (de sj (xX .b4 .ay .cm bH .m1) .cm) rfl)) bZ))) .fb)),? _⟩;rw[1];intro D nD;have s0:aT H .kH:=.gF;have hD0:aN H D .cX D=.iL:=ah;generalize aN H D .cX=H0 at*;refine⟨_,rfl,_,_,_,_,_,rfl,s0 _ _ hp,T.d9,T.ki,FX,_,rfl,n,g,pa,l,c,rfl,hk,bF.same s0 hT,hg,s0.seq hl,M1,fun H1 ep s1 nep Y0=>? _⟩;have s01:=s0.trans s1;(have hDe:D≠ep:=fun z=>by rw[z]at hD0;rw[hD0]at nep;cases nep);have aNz:H ep=none:=s0.free nep;refine⟨ep,rfl,⟨_,cM.of Y0⟩,mS (K:=K) (a:=ep) (xs:=.q3) (fun i σ H'=>∃y,σ=[some .b6,.rN,some .dW,y]/\.aq/\H' ep=some (.bJ (.q3))/\H' D=some (.dK (dk (nE (qe n (.sq)) [])))) ⟨_,rfl,s01,Y0,s1 _ _ hD0⟩ (fun i σ H' _ h=>by obtain⟨_,_,_,e,_⟩:=h;exact cM.of e) .iZ .cv⟩;{obtain⟨y,rfl,s2,e2,d2⟩:=h;rw[119];have hxm:=aE hx;obtain⟨kd,dt,wl,ama,sl,nm,pl,ll,lp,N⟩:=uE hk (bF.same s2 hT) (G6 c x hxm);have hlen:=Lj n (.sq);have h1:=.yM;rw[be]at hlen;show gy 3 _ _ _ _;ktd_call vc [N,LJ,BG,T.cZ,T.jv,T.iJ,Iq,Je];rw[show(.bR).take .aH=.sq++[x]by rw[a8,hx];rfl];rw[28];{rw[6];refine⟨Hy d2,_,pf.k (k:=.m2) d2,_,GW _ _,_,Uj d2 _ _ (.cQ),.cM,? _,? _⟩;{rw[35];exact s2 _ _ e};{rw[ai hDe.symm];exact e2};{rw[ah,LX,.jr,C4];rfl}};{rw[6];rw[LX,.ep,bM];exact⟨s2,e2,d2⟩}};{obtain⟨y,rfl,s2,e2,d2⟩:=h;rw[aa,bf]at d2;exact⟨_,rfl,q H' D s2 nD d2⟩}}
def Oc(K:ae)(ad:Ad):Sp:=fun vs H Q _=>∃(p dx:Addr)(n:jd)(g:GT)(u pp:Int)(wd cd pa:Addr)(l:.J)(c:uY),.q4/\H p=.j2/\.aY/\.iT/\.bo/\.fZ/\.gw/\∀(H':Hp),.aq->Q (.int (kr n.tt (.bR))) H'
theorem QL(T:.U)(vt:.tw):.tx:=by have sc:a9 ["courses","policy","end"] .g5 (aL Hj):=.af;refine T.Us.dn .aM sc .ae .ag;rw[150];{rw[250];refine⟨_,(aD (ba (bT (SU rfl) rfl T.Pd GL (af (wu rfl sc.nd .z8 (own:=[("end",2)]) .ck .l3 .cu (fun _ _ _ _ _=>(show .y4 from aP .ay rfl))) ao)))),? _⟩;rw[1];refine⟨_,rfl,_,_,_,_,_,rfl,hp,T.d9,T.ki,FX,_,rfl,n,g,pa,l,c,rfl,hk,hT,hg,hl,M1,fun H1 ep s1 nep Y0=>? _⟩;refine⟨ep,rfl,⟨_,cM.of Y0⟩,fun D nD=>oj (K:=K) (a:=ep) (xs:=.q3) (fun i H'=>H' D=some (.bJ ((.sq).map fun x=>V.int (.df)))/\aT H1 H') .fW (fun i H' _ h=>h.2.seq (cM.of Y0)) .kv .dX⟩;{rw[15];obtain⟨x,hx,rfl⟩:=gB hy;obtain⟨kd,dt,wl,ama,sl,nm,pl,ll,lp,N⟩:=uE hk (bF.same (s1.trans g2) hT) (G6 c x (aE hx));have h1:=.yM;show .n4;ktd_call vc [fU,vQ,N,Qz,T.cZ,T.jZ];refine .z5;rw[ah,a8,hx,aG];rfl};{rw[15];rw[aa,bf]at g1;refine⟨D,(.bR).map n.tt,rfl,cM.of .wj,q H' (s1.trans g2)⟩}}
def BZ(ad:Ad):Sp:=fun vs H Q _=>∃(p dx t:Addr)(u pp:Nat)(wd cd:Addr)(i:Int),vs=[.bO,.bp]/\.DN/\0<u/\0<pp/\bt (u:Int)+bt (pp:Int)<=134217728/\∀r,.d5->Q .e4 (aN H r (sJ (mkRat i (u*pp))))
theorem BL(T:.U)(ip:.gT):.pf:=by have sc:a9 .xv .xv (aL uf):=.af;refine T.DI.dn .aM sc .ae .ag;{obtain⟨p,dx,t,u,pp,wd,cd,i,rfl,_⟩:=h;rfl};{obtain⟨p,dx,t,u,pp,wd,cd,i,rfl,hp,up,pq,hb,q⟩:=h;refine⟨_,(aD (ba (bx ip .I bQ (af .ak (af (de gI .aG .aG) ao))))),? _⟩;ktd_call vc [hp,Bg,uc,T.d9,T.iU,T.gw];refine⟨f_ hb,i,u*pp,by rw[dJ],dq up pq,q⟩}
end
section
variable{P:Program}{w:World}{K:ae}{mg:Str->Option Value}{base:Heap}{ad:Ad}
def numAt:.aL->Nat->Nat->Nat|s::r,k,i+1=>numAt r .mY i|_,k,_=>k
theorem Wh:∀{l:.aL}{k i:Nat}{s:aM},l[i]?=some s->(x_ l k)[i]?=some (numAt l k i %s.labels.length)/\numAt l k .aH=numAt l k i/s.labels.length|[],_,_,_,h=>.dI|t::l,k,0,s,h=>by rw[44];exact⟨rfl,by cases l<;>rfl⟩|t::l,k,i+1,s,h=>Wh (l:=l) (k:=k/t.labels.length) (i:=i) h
theorem Ii:∀(l:.aL)(k:Nat),(x_ l k).length=l.length|[],_=>rfl|s::l,k=>by show(_::x_ l _).length=_;rw[aw,Ii l,aw]
def Gg(ad:Ad):Sp:=fun vs H Q _=>∃(SL:Addr)(ss:.aL)(k:Nat),vs=[.ref SL,.int k]/\O5 ad H SL ss/\.sh/\(∀s∈ss,.m3)/\∀(H':Hp)(p:Addr),.aq->.bM->H' p=some (.bJ ((iq ss k).map fun x:Nat=>V.int x))->.ej
theorem Nr(T:.U)(ht:.hq):.pg:=by have sc:a9 ["stations","number","choices","station"] ["stations","number"] (aL EB):=.af;refine T.Q9.dn .aM sc .ae .ag;{obtain⟨SL,ss,k,rfl,_⟩:=h;rfl};{obtain⟨SL,ss,k,rfl,⟨as,hS,hP⟩,CK,h0,q⟩:=h;refine⟨_,(aj .oR (aj (j5 PassesOwn.never rfl (tf rfl T.px .cb) .gX (aj (dO (mW bj b6 b7 iB .ay (af (de abz .ak .EX) ao))) (aD (bP (i:=1) sc.nd rfl .ai (de .jM .ak .EX))))) (aD (ba (Ic rfl T.Ae T.px .ay))))),? _⟩;rw[115];rw[1];refine⟨bw _,fun C nC=>? _⟩;have s0:aT H (aN H C .bN):=aT.aN nC;have hC0:aN H C .bN C=.en:=ah;generalize aN H C .bN=H0 at*;refine⟨_,rfl,SL,.cE,rfl,cM.of (s0 _ _ hS),MQ (K:=K) (a:=SL) (xs:=.cE) (fun i σ H'=>∃y,σ=[.nF,some (.int (numAt ss.reverse k i:Nat)),.eh,y]/\.aq/\H' C=some (.bJ (((x_ ss.reverse k).take i).map fun x:Nat=>V.int x))) ⟨_,by rw[show numAt ss.reverse k 0=k by cases ss.reverse<;>rfl],s0,hC0⟩ (fun i σ H' _ h=>by obtain⟨_,_,s1,_⟩:=h;exact cM.of (s1 _ _ hS)) .kx .cv⟩;{obtain⟨y,rfl,s1,c1⟩:=h;rw[<-iP]at hx;obtain⟨a,ha,rfl⟩:=gB hx;(obtain⟨st,hs,c,d1,l1,g1,g2⟩:∃st,ss.reverse[i]?=some st/\∃c,Zl ad H a st c:=by(have hi:i<as.length:=by have:=(ay.mp ha).1;rwa[cj]at this);rw[lJ hi]at ha;obtain⟨st,hst,c,hc⟩:=Paired.uj hP ha;exact⟨st,by rw[lJ .C,<-zj];exact hst,c,hc⟩);have f1:=s1 _ _ g1;have f2:=s1 _ _ g2;have hst:=h0 st (fN.mp (aE hs));obtain⟨e1,e2⟩:=Wh (k:=k) hs;show gy 3 _ _ _ _;ktd_call vc [f1,pI,T.jV,T.gG];(have jc:i<ss.length:=by have:=(ay.mp hs).1;rwa[cj]at this);refine⟨.inl ⟨rfl,_,cM.of c1⟩,_,.inl (cM.of f2),.g0,_,c1,.gY,_,_,_,(ai (aq g1 nC)).trans f1,T.jV,T.gG,_,pI,_,rfl,_,.inl (cM.of ((ai (aq g2 nC)).trans f2)),.g0,? _,.cM,? _⟩;{rw[aa,e2,Int.natCast_ediv]};{rw[ai (aq e nC)];exact s1 _ _ e};{rw[ah,a8,e1,aG,aa,<-Int.natCast_emod];rfl}};{obtain⟨y,rfl,s1,c1⟩:=h;rw[aa,zj,<-cj,<-Ii ss.reverse k,bf]at c1;ktd_call vc [RD];refine⟨_,cM.of c1,fun p np=>q _ p (s1.trans (aT.aN np)) (s1.free np) ? _⟩;rw[ah,<-iP];rfl}}
end
theorem Js(n:jd)(c:uY)(g:GT):Ky (.ez)/\∀k,di (.ez) k=di (.lh) k:=by obtain⟨h1,h2,_⟩:=pY Ky.nil (QU n (.bR));refine⟨h1,fun k=>? _⟩;have:=h2 k;rw[show di [] k=0 from rfl,E_]at this;rw[5]
theorem iK{u:Nat}(h:0<u):.bH<(u:Rat):=.kD
theorem Jr{n:jd}{u pp:Nat}{g:GT}(F:.eZ)(c:uY):Lk u 0 pp (.ez) .oq:=by obtain⟨h1,h2⟩:=Js n c g;exact⟨h1,OG c (iK F.nR.up) (iK F.nR.pq) F.ok F.nR.an h1 h2⟩
theorem Cu{n:jd}{u pp:Nat}{g:GT}(F:.eZ)(c:uY):(.ez).length<=1100:=by have h1:=Lj n (.bR);have h2:=(.q5).2;have h3:=F.lv;unfold Mt;omega
theorem OH{n:jd}{u pp:Nat}{g:GT}(F:.eZ){c:uY}{y:.fD}(hy:y∈.ez):(∃x∈yO g,y.1=n.sp x)/\bt y.1<=3600000/\0<y.2/\bt y.2<=30100012:=by obtain⟨h1,h2⟩:=Js n c g;have hm:=h1.at_ hy;have hp:=h1.pos y hy;rw[h2]at hm;(have hE:∃z∈.lh,z.1=y.1:=by cases e:decide (∃z∈qe n (cT c 0 g),z.1=y.1)with|true=>exact .qW|false=>have e:=.xk;have:=rD (d:=.lh) (k:=y.1) fun z hz he=>e ⟨z,hz,he⟩;omega);obtain⟨z,hz,ez⟩:=hE;obtain⟨x,hx,rfl⟩:=aX.mp hz;have hx:=(.q5).1 x (nI.mp hx).1;refine⟨⟨x,hx,ez.symm⟩,? _,hp,? _⟩;{rw[<-ez];exact(F.nR.bs x hx).1};{rw[<-hm];have:=agv (B:=30100000) (k:=11) (d:=.lh) (fun z hz=>? _) ? _ y.1;{omega};{obtain⟨x,hx,rfl⟩:=aX.mp hz;exact(F.nR.bs x ((.q5).1 x (nI.mp hx).1)).2};{have h1:=QT n (.bR);have h2:=(.q5).2;have h3:=F.lv;show _<=2048;omega}}
theorem LI{i:Int}{d:Nat}{q:Rat}(hd:0<d)(h:.eE=(d:Rat)*q):mkRat i d=q:=by rw[wH,h,pj];(have:((d:Nat):Rat)≠0:=by have:=iK hd;grind);exact CS this
def adz(t:Tb):Rat:=eV (fun y=>y.1*y.1*y.2) t-.iq*.iq
theorem Uw{u pp:Nat}{d:Di}{t:Tb}(hu:0<u)(hp:0<pp)(h:Lk u 0 pp d t):mkRat (kr (fun y=>y.1*y.1*y.2) d*(pp:Int)-kr (.eP) d*kr (.eP) d) (u*pp*(u*pp))=adz t:=by refine LI (dq (dq hu hp) (dq hu hp)) ? _;have h1:=h.avq (iK hu) (iK hp);have h2:=h.aE8 (iK hu) (iK hp);rw[Rat.intCast_sub,gE,gE,h1,h2];unfold adz;simp only[jn];have:((pp:Int):Rat)=(pp:Rat):=rfl;rw[this];grind
theorem uP{α:Type}(f:α->Int)(l:.aT)(x:α):kr f (l++[x])=kr f l+f x:=by unfold kr;rw[aG,xf];simp
section
variable{P:Program}{w:World}{K:ae}{mg:Str->Option Value}{base:Heap}{ad:Ad}
def Rw(K:ae)(ad:Ad):Sp:=fun vs H Q _=>∃(p dx:Addr)(n:jd)(g:GT)(u pp:Nat)(wd cd pa:Addr)(l:.J)(c:uY),.q4/\H p=.j2/\.eZ/\.bo/\.fZ/\.gw/\∀(H':Hp)(r:Addr),.aq->.d5->H' r=some (sJ (adz .oq))->.ba
theorem Nv(T:.U)(iA:.pe)(ip:.gT):.DO:=by have sc:a9 ["courses","policy","total","squares","under","steps","weight"] .g5 (aL ED):=.af;refine T.Ra.dn .aM sc .ae .ag;rw[150];{obtain⟨p,dx,n,g,u,pp,wd,cd,pa,l,c,rfl,hp,hF,hT,hl,M1,q⟩:=h;refine⟨_,(aj (bP (i:=2) sc.nd rfl .ai bH) (aj .GH (aj (j5 PassesOwn.never rfl (xY (ao5 .tz)) (.tA) (aj (ya (i:=2) sc.nd rfl .ai (de gI .d7 (pv 6)) Ap) (aD (ya (i:=3) sc.nd rfl .ai (de gI (de gI .d7 .d7) (pv 6)) Ap)))) (aj (bP (i:=4) sc.nd rfl .ai (de gI .aG .aG)) (aD (ba (bx ip .I bQ (af (de Dv (de gI .bq .aG) (de gI .ay .ay)) (af (de gI .d9 .d9) ao))))))))),? _⟩;rw[151];rw[1];refine⟨_,rfl,_,rfl,p,dx,n,g,u,pp,wd,cd,pa,l,c,rfl,hp,hF.ok,hg,hT,hl,M1,fun H1 d s1 nd hd=>⟨d,_,rfl,hd,fun od=>? _⟩⟩;(have sA:aT H (aN H1 d .qi):=fun b o e=>by rw[.nU];exact s1 _ _ e);have dA:aN H1 d .qi d=some .qi:=ah;generalize aN H1 d .qi=H2 at*;generalize hW:.ez=W at*;refine⟨d,od,dk W,rfl,dA,yL (d:=d) (o:=od) (kvs:=dk W) (fun i σ H'=>∃y5 y6,σ=[some .b6,.rN,some (.int (kr (.eP) (W.take i))),some (.int (kr (fun y=>y.1*y.1*y.2) (W.take i))),none,y5,y6]/\aT H2 H') ⟨_,_,rfl,aT.refl _⟩ (fun i σ H' _ h=>by obtain⟨_,_,_,s3⟩:=h;exact s3 _ _ dA) (fun i k v σ H' TT hi h nT=>? _) .cv⟩;{obtain⟨y5,y6,rfl,s3⟩:=h;obtain⟨y,hy,ey⟩:=gB hi;obtain⟨rfl,rfl⟩:=hG ey;obtain⟨-,b1,-,b2⟩:=OH hF (c:=c) (y:=y) (by rw[hW];exact aE hy);rw[25];have sT:aT H2 (.g6):=s3.trans .jc;generalize .g6=H3 at*;have b3:=mB y.1 y.1;rw[show W.take .aH=W.take i++[y]by rw[a8,hy];rfl];show jS _ _ _ _ _ _;ktd_call vc [jS,wO,kV];exact⟨.b8,.b8,.b8,(uP ..).symm,(uP ..).symm,sT⟩};{obtain⟨y5,y6,rfl,s3⟩:=h;rw[qB,bf];have k1:bt (kr (fun y:.fD=>y.1*y.2) W)<=33700024:=adk (B:=33700012) (k:=11) (fun x hx=>by rw[251];have:=mB y.1 y.2;omega) .EY;have k2:bt (kr (fun y:.fD=>y.1*y.1*y.2) W)<=37300024:=adk (B:=37300012) (k:=11) (fun x hx=>by rw[251];have:=mB y.1 y.1;have:=mB (y.1*y.1) y.2;omega) .EY;have hp3:=s3 _ _ (sA _ _ hp);have bu:=hF.nR.bu;have bp:=hF.nR.bp;have k3:=mB (u:Int) pp;have hv:=Uw hF.nR.up hF.nR.pq Xu;ktd_call vc [hp3,Bg,uc,T.d9,T.iU,T.gw];refine⟨.b8,.b8,.b8,.b8,_,u*pp*(u*pp),by rw[dJ,dJ],dq (dq hF.nR.up hF.nR.pq) (dq hF.nR.up hF.nR.pq),fun r nr=>q _ r ? _ ((sA.trans s3).free nr) ? _⟩;{exact(sA.trans s3).trans .jd};{rw[ah,hv]}}}
def kG(a:Addr)(H H':Hp):Prop:=∀b o,b≠a->.fR
theorem kG.trans{a:Addr}{H H1 H2:Hp}(h:kG a H H1)(k:kG a H1 H2):kG a H H2:=fun b o hb e=>k b o hb (h b o hb e)
theorem uG{a:Addr}{H H':Hp}(h:.aq):kG a H H':=fun b o _ e=>h b o e
theorem kG.fL{a:Addr}{H H':Hp}{kvs:.az}(h:kG a H H')(ha:H a=.ei){b:Addr}{xs:.aj}(t:ig K H b xs):ig K H' b xs:=.z9
def Rt(K:ae)(ad:Ad):Sp:=fun vs H Q _=>∃(p dx t:Addr)(u pp:Nat)(wd cd:Addr)(ck:.az)(i:Int),vs=[.bO,.bp]/\.DN/\H cd=.sp/\Jt K H pp ck/\0<pp/\ck.length<sizeLine/\∀(H':Hp)(w9:.az)(a:Addr),kG cd H H'->H' cd=.k1->Jt K H' pp w9->w9.length<=ck.length+1->gO K H' a (.eE/pp)->.jv
theorem Nl(T:.U)(ip:.gT):.BL:=by have sc:a9 .xw .xw (aL Ew):=.af;refine T.Q4.dn .aM sc .ae .ag;{obtain⟨p,dx,t,u,pp,wd,cd,ck,i,rfl,_⟩:=h;rfl};{obtain⟨p,dx,t,u,pp,wd,cd,ck,i,rfl,hp,hc,hf,pq,hl,q⟩:=h;refine⟨_,(aj (dG (tU (LO .b4 .ak .aG)) (aD (tq .b4 .aG .ak (bx ip .I bQ (af .ak .cw)) rfl)) bZ) .EZ),? _⟩;have hpc:p≠cd:=cv hp hc .aw;ktd_call vc [hp,rO,uc,T.d9,T.gW,T.gw,Iq,RC,Oo];refine⟨_,pf.k (k:=.inl i) hc,? _⟩;(have hpq:(pp:Rat)≠0:=by have:=iK pq;grind);rw[28];{(have hn:j6 ck (.inl i)=none:=by cases e:j6 ck (.inl i)with|none=>rfl|some v=>rw[e]at h1;cases h1);refine⟨i,pp,rfl,pq,fun r nr=>⟨_,_,_,(ai (aq hp nr)).trans hp,T.d9,T.gW,_,rO,_,rfl,? _⟩⟩;have sr:aT H (aN H r .q6):=aT.aN nr;have er:aN H r .q6 r=some .q6:=ah;generalize aN H r .q6=H1 at*;have c1:=sr _ _ hc;have hrc:r≠cd:=cv er c1 .aw;(have fr:gO K H1 r (.eE/pp):=by rw[<-wH];exact gO.of er);have o2:kG cd H1 (aN H1 cd (.dK (nW ck (.inl i) .e4))):=.dp;(have ams:j6 (nW ck (.inl i) .e4) (.inl i)=some .e4:=by rw[uW,.aJ]);refine⟨_,Gq.k (k:=.inl i) c1 hl,_,_,_,(ai hpc).trans (sr _ _ hp),T.d9,T.gW,_,rO,_,rfl,_,by rw[<-ams];exact pf.k (k:=.inl i) ah,? _⟩;exact q _ _ r ((uG sr).trans o2) ah (((hf.imp fun _ _ t=>sr.fL t).put fr).imp fun _ _ t=>o2.fL c1 t) (BN ..) (o2.fL c1 fr)};{cases e:j6 ck (.inl i)with|none=>rw[e]at h1;exact absurd rfl h1|some v=>obtain⟨j,a,ej,rfl,fa⟩:=hf _ _ e;cases ej;exact⟨_,by rw[<-e];exact pf.k (k:=.inl i) hc,q H ck a (uG .kX) hc hf (z6 _) fa⟩}}
def O1(K:ae)(H:Hp)(a:Addr)(y:.b7):Prop:=∃x z,ig K H a [.dE,.ref z]/\gO K H x y.1/\gO K H z y.2
theorem O1.imp{H H':Hp}{a:Addr}{y:.b7}(h:O1 K H a y)(f:∀a xs,.qh):O1 K H' a y:=by obtain⟨x,z,h1,h2,h3⟩:=h;exact⟨x,z,f _ _ h1,f _ _ h2,f _ _ h3⟩
def IS(K:ae)(ad:Ad):Sp:=fun vs H Q _=>∃(p dx:Addr)(n:jd)(g:GT)(u pp:Nat)(wd cd pa:Addr)(wk ck:.az)(l:.J)(c:uY),.q4/\.E0/\wd≠cd/\.eZ/\.DP/\.i1<sizeLine/\.bo/\.fZ/\.gw/\∀(H':Hp)(r:Addr)(w9:.az)(as:.ao),kG cd H H'->.d5->H' cd=.k1->Jt K H' pp w9->w9.length<=.i1->H' r=.di->Paired (O1 K H') as .oq->.ba
theorem HY(T:.U)(iA:.pe)(Pw:.BL):.DQ:=by have sc:a9 ["courses","policy","found","steps"] .g5 (aL zJ):=.af;refine T.Kn.dn .aM sc .ae .ag;{obtain⟨p,dx,n,g,u,pp,wd,cd,pa,wk,ck,l,c,rfl,_⟩:=h;rfl};{obtain⟨p,dx,n,g,u,pp,wd,cd,pa,wk,ck,l,c,rfl,C,hwc,hF,hkn,hck,hT,hl,M1,q⟩:=h;refine⟨_,(aj (bP (i:=2) sc.nd rfl (JA rfl) .tz) (aD (ba (wu rfl sc.nd (iL (bT (xp rfl) rfl T.GK CV .dk)) (own:=[("steps",3)]) .ck .o4 .cu (fun _ _ _ _ _=>(AA (af (yR .b4 .j3 .bq .a5) (af (bx Pw .I bQ (af .au (af (yR .b4 .ay .bq .a5) ao))) ao)))))))),? _⟩;rw[151];have amh:=(ac2 c (g:=g) 0 hF.ok).1;rw[1];refine⟨p,dx,n,g,u,pp,wd,cd,pa,l,c,rfl,C.obj,hF.ok,hg,hT,hl,M1,fun H1 d s1 nd hd=>? _⟩;refine⟨_,rfl,d,dk (.ez),(.ez).map .aX,rfl,.inl hd,F0 _,fun ks sp hks hso nsp=>? _⟩;have Xz:=IH (iK hF.nR.up) (iK hF.nR.pq) Xu amh hks hso;(have kl:ks.length=(.ez).length:=by rw[hks.length_eq,aa]);have hD1:(aN H1 sp .dq) d=some .uZ:=(aT.aN nsp) _ _ hd;have s2:aT H (aN H1 sp .dq):=s1.trans (aT.aN nsp);have esp:aN H1 sp .dq sp=some .dq:=ah;have aDc:H sp=none:=s1.free nsp;generalize aN H1 sp .dq=H2 at*;have ami:=s2 _ _ C.cd;have hdc:d≠cd:=(aq C.cd nd).symm;have hsc:sp≠cd:=(aq C.cd aDc).symm;refine⟨sp,rfl,⟨_,cM.of esp⟩,fun D nD=>? _⟩;have hDc:D≠cd:=(aq ami nD).symm;refine oj (K:=K) (a:=sp) (xs:=.n6) (fun i H'=>∃(as:.ao)(w9:.az),H' D=.di/\kG cd H2 H'/\H' cd=.k1/\Jt K H' pp w9/\w9.length<=ck.length+i/\Paired (O1 K H') as ((ks.take i).map fun k:Int=>(.gv,(di (.ez) k:Rat)/pp))) ⟨[],ck,ah,uG (.gF),(.gF) _ _ ami,C.cf.imp (fun _ _ t=>(s2.trans (.gF)).fL t),aF _,.nil⟩ (fun i H' _ h=>? _) (fun i v H' hv h=>? _) .dX;{obtain⟨as,w9,h1,h2,h3⟩:=h;exact cM.of (h2 _ _ hsc esp)};{obtain⟨as,w9,h1,h2,h3,h4,h5,h6⟩:=h;rw[299];obtain⟨⟨x,hx,ex⟩,b1,-,b2⟩:=OH hF hy;have hi:i<ks.length:=(ay.mp hk).1;rw[300];(have al:as.length=i:=by rw[h6.length,aa,be];omega);have p3:=h2 _ _ (cv C.obj C.cd .aw) (s2 _ _ C.obj);have w3:=h2 _ _ hwc (s2 _ _ C.wd);have d3:=h2 _ _ hdc hD1;have fa3:gO K H' wa (.fp/u):=h2.fL ami (s2.fL fa);show gy 3 _ _ _ _;ktd_call vc [fU,vQ,p3,yG,T.d9,T.jB,RC];have hyd:=Vh (Js n c g).1.nd hy;rw[ex]at hyd|-;refine⟨V.ref wa,.DR,_,.DS,p,dx,g.bB,u,pp,wd,cd,w9,_,rfl,p3,h3,h4,hF.nR.pq,.o,fun H4 ck4 a4 o4 c4 f4 l4 fr4=>? _⟩;refine .tB;have D4:=o4 _ _ hDc h1;have tD:tp≠D:=(aq D4 ntp).symm;have tc:cd≠tp:=aq c4 ntp;(have o5:kG D H4 .tC:=fun b o hb e=>by rw[ai hb,ai (aq e ntp)];exact e);have t5:∀b xs,ig K H4 b xs->ig K .tC b xs:=fun b xs e=>ig.Jo ((ai tD.symm).trans D4) ((aT.aN ntp).fL e);have et:ig K .tC tp [V.ref wa,V.ref a4]:=ig.of ((ai tD).trans ah);refine⟨_,(ai tD.symm).trans D4,.E1,as++[tp],.wx,.dO,ck4,(ai hDc.symm).trans ((ai tc).trans c4),f4.imp t5,.o,? _⟩;{by_cases hbD:b=D;{subst hbD;rw[e]at nD;cases nD};{exact o5 _ _ hbD (o4 _ _ hb (h2 _ _ hb e))}};{rw[a8,hk,aG,ex];exact Paired.snoc (Paired.pZ (fun _ _ e=>(e.imp fun _ _ t=>o4.fL h3 t).imp t5) h6) ⟨wa,a4,et,t5 _ _ (o4.fL h3 fa3),t5 _ _ fr4⟩}};{obtain⟨as,w9,h1,h2,h3,h4,h5,h6⟩:=h;rw[aa]at h5 h6;rw[bf,<-Xz]at h6;exact q H' D w9 as ((uG s2).trans h2) (s2.free nD) h3 h4 .C h1 h6}}
end
section
variable{P:Program}{w:World}{K:ae}{mg:Str->Option Value}{base:Heap}{ad:Ad}
def Wo(K:ae)(ad:Ad):Sp:=fun vs H Q _=>∃(p dx:Addr)(n:jd)(g:GT)(u pp:Nat)(wd cd pa pb:Addr)(l l':.J)(c c':uY),vs=[.bO,.ref pa,.ref pb]/\H p=.j2/\.eZ/\.bo/\.fZ/\.gw/\cM K H pb (l'.map V.int)/\R' n l' c' g/\∀(H':Hp),.aq->Q (.bl (rq (mh .oq) (mh (kX c' 0 g)))) H'
theorem QE(T:.U)(iA:.pe):.BM:=by have sc:a9 ["courses","policy","other","weights","others","ahead","steps"] ["courses","policy","other"] (aL Hf):=.af;refine T.Uo.dn .lW sc .ae .ag;{obtain⟨p,dx,n,g,u,pp,wd,cd,pa,pb,l,l',c,c',rfl,_⟩:=h;rfl};{obtain⟨p,dx,n,g,u,pp,wd,cd,pa,pb,l,l',c,c',rfl,hp,hF,hT,hl,M1,Xt,atn,q⟩:=h;refine⟨_,(aj (bP (i:=3) sc.nd rfl .ai .tz) (aj (bP (i:=4) sc.nd rfl .ai (bx iA .I bQ (af .au .dk))) (aj (bP (i:=5) sc.nd rfl .ai bH) (aj (j5 PassesOwn.never rfl (tf rfl T.px (af (bT (show mr _ _ (QX w)from JU rfl) rfl T.GK CV (af (de (show A2 _ _ (ava w)from ao0) (kj (show mr _ _ (aoe w)from ZU) rfl T.ajq ZG .fV) (kj (show mr _ _ (aoe w)from ZU) rfl T.ajq ZG .kT)) ao)) ao)) .wy (aj (ya (i:=5) sc.nd rfl .ai (de Dv (xX .b4 .bq (pv 6) bH .m1) (xX .b4 .d9 (pv 6) bH .m1)) Ap) (aD (dG (cb wj .d7 bH .aB) .la bZ)))) .la)))),? _⟩;rw[151];have aGm:=Cu hF c';have aBe:=Jr hF c';have M0:=(Js n c g).1.nd;have atf:=(Js n c' g).1.nd;rw[1];refine⟨p,dx,n,g,u,pp,wd,cd,pa,l,c,rfl,hp,hF.ok,hg,hT,hl,M1,fun H1 d s1 nd hd=>? _⟩;refine⟨p,dx,n,g,u,pp,wd,cd,pb,l',c',rfl,s1 _ _ hp,hF.ok,hg,bF.same s1 hT,s1.seq Xt,atn,fun H2 e s2 ne he=>? _⟩;have d2:=s2 _ _ hd;have s12:=.eu;generalize hW:.ez=W at*;generalize hW':Mt n c' g=W' at*;refine⟨_,rfl,d,dk W,W.map .aX,rfl,.inl d2,F0 _,.g0,fun sa ka nsa hka lka=>? _⟩;have s3:aT H2 (aN H2 sa .sr):=aT.aN nsa;have ea:aN H2 sa .sr sa=some .sr:=ah;generalize aN H2 sa .sr=H3 at*;refine⟨_,rfl,e,dk W',W'.map .aX,rfl,.inl (s3 _ _ he),F0 _,.g0,fun sb kb nsb hkb lkb=>? _⟩;have s4:aT H3 (aN H3 sb .su):=aT.aN nsb;have eb:aN H3 sb .su sb=some .su:=ah;have zL:sa≠sb:=aq ea nsb;generalize aN H3 sb .su=H4 at*;rw[aa]at lka lkb;refine⟨sa,sb,ka,kb,rfl,rfl,zL,s4 _ _ ea,eb,.o,fun so ko nso hko lko=>? _⟩;have s5:aT H4 (aN H4 so .sv):=aT.aN nso;have eo:aN H4 so .sv so=some .sv:=ah;generalize aN H4 so .sv=H5 at*;refine⟨so,ko,rfl,eo,.o,fun ks sp hks hkn hso nsp=>? _⟩;have s6:aT H5 (aN H5 sp .dq):=aT.aN nsp;have es:aN H5 sp .dq sp=some .dq:=ah;generalize aN H5 sp .dq=H6 at*;have s46:aT H2 H6:=s3.trans (s4.trans (s5.trans s6));have sH:=s12.trans s46;have d6:=s46 _ _ d2;have e6:=s46 _ _ he;(have tS:∀k,k∈ks↔k∈W.map .aX\/k∈W'.map .aX:=fun k=>by rw[hks.mem_iff,hko,hka,hkb]);have zL:=Zm (iK hF.nR.up) (iK hF.nR.pq) Xu aBe tS;(have ak4:ks.reverse.Pairwise (fun a b=>b<a):=by rw[List.pairwise_reverse];exact L9 hso hkn);have tk:∀{i k},ks.reverse[i]?=.dG->kr (fun j=>di W j) (.xx)=JH W k:=fun h=>WA M0 ak4 (fun k hk=>fN.mpr ((tS k).mpr (.inl hk))) h;have tk':∀{i k},ks.reverse[i]?=.dG->kr (fun j=>di W' j) (.xx)=JH W' k:=fun h=>WA atf ak4 (fun k hk=>fN.mpr ((tS k).mpr (.inr hk))) h;refine⟨sp,.n6,rfl,cM.of es,MQ (K:=K) (a:=sp) (xs:=.n6) (fun i σ H'=>∃y,σ=[some .b6,.rN,some (.ref pb),some .dZ,some (.ref e),some (.int (kr (fun j=>di W j) (.q7)-kr (fun j=>di W' j) (.q7))),y]/\H'=H6/\∀k∈.q7,JH W' k<=JH W k) ⟨_,rfl,rfl,fun k hk=>nomatch hk⟩ (fun i σ H' _ h=>by obtain⟨_,_,rfl,_⟩:=h;exact cM.of es) .kx .cv⟩;{obtain⟨y,rfl,rfl,uk⟩:=h;rw[<-iP]at hx;obtain⟨k,hk,rfl⟩:=gB hx;have t1:=tk hk;have t2:=tk' hk;(have et:.xx=.q7++[k]:=by rw[a8,hk];rfl);rw[et,uP]at t1 t2;rw[et,uP,uP];show gy 6 _ _ _ _;ktd_call vc [Je];refine⟨Hy d6,_,pf.k (k:=.cz) d6,Hy e6,_,pf.k (k:=.cz) e6,? _⟩;rw[GW,GW,yM M0,yM atf];refine⟨_,rfl,_,rfl,.lP⟩;{rw[6];(have hf:¬∀k∈ks,JH W' k<=JH W k:=fun z=>by have:=z k (fN.mp (aE hk));omega);rw[decide_eq_false hf]at zL;rw[<-zL];exact q _ sH};{rw[6];refine⟨.o,fun j hj=>? _⟩;rcases aW.mp hj with hj|hj;{exact uk j hj};{rw[aA.mp hj];omega}}};{obtain⟨y,rfl,rfl,uk⟩:=h;rw[aa,<-cj,bf]at uk;rw[1];rw[decide_eq_true fun k hk=>uk k (fN.mpr hk)]at zL;rw[<-zL];exact q _ sH}}
end
section
variable{P:Program}{w:World}{K:ae}{mg:Str->Option Value}{base:Heap}{ad:Ad}
def Gf(K:ae)(ad:Ad)(h:Nat):Sp:=fun vs H Q _=>∃(n:jd)(g:GT),.iS/\.aY/\.bo/\g.ht<h/\∀H',.aq->Q (.int (qU n g)) H'
theorem Ax(T:.U):Dn P w K mg base dD "greatest_total" 1 .bT (Gf K ad 0):=by rw[252];refine T.uJ.dn .aO sc .ae .ag;rw[100];rw[100]
theorem E6{x:Addr}{p:Nat}{nm:aK}{bs:GT}(h:(GT.station x p nm bs).Ok 0):bs≠.nil:=fun z=>by subst z;exact absurd h.2.2.1 .aD
theorem BJ(T:.U)(h:Nat)(pB:.BN):Dn P w K mg base dD "greatest_total" (h+2) .bT (Gf K ad (h+1)):=by rw[252];refine T.uJ.dn .aO sc .ae .wc;rw[80];{obtain⟨n,g,rfl,hk,hT,hh,q⟩:=Ft;refine⟨_,(aj (yc (i:=1) rfl sc.nd rfl rfl .kB .lr (own:=[("way",2)]) .ck .l3 .cu (fun _ _ _ _ _=>(bx pB .I bQ .dk))) (aj (dG .wt (aD (ba .GI)) bZ) (aD (ba (de sj .aG (bT (SU rfl) rfl T.Pd GL .a9)))))),? _⟩;rw[146];have auc:=nG hk;rw[1];refine⟨_,rfl,_,_,_,_,_,rfl,N.obj,T.cZ,T.dX,kQ,wl,rfl,⟨_,.kY⟩,fun D nD=>oj (K:=K) (a:=wl) (xs:=.mT) (fun i H'=>H' D=some (.bJ ((g.fe.take i).map fun t=>V.int (qU n t)))/\.aq) .fW .uR .kv .dX⟩;{rw[15];rw[aQ]at hy;rw[334];have J8:=aE ht;have e1:=F7 t J8;rw[173];refine⟨n,t,rfl,Ok.fe hk t J8,bF.same g2 (tw t J8),.o,fun H3 s3=>? _⟩;rw[242];rfl};{rw[15];rw[aa,aa,bf]at g1;have N':=g2 _ _ N.obj;have sq:cM K H' D ((g.fe.map (qU n)).map V.int):=cM.of .wj;ktd_call vc [N',pP,Qz,T.cZ,T.fS,T.jZ,av9,avb];cases g with|nil=>rw[33]|way t w r=>rw[33]|branch p l t r=>rw[33]|worth a f=>rw[if_neg (by show¬decide (.nW="station")=true;decide)];rw[188];rw[show qU n (.worth a f)=n.tt a+((GT.worth a f).fe.map (qU n)).sum by show n.tt a=n.tt a+0;omega]at this;rw[5]|plus a f t=>rw[if_neg (by show¬decide (.oi="station")=true;decide)];rw[188];rw[show qU n (.plus a f t)=n.tt a+((GT.plus a f t).fe.map (qU n)).sum by show n.tt a+qU n t=n.tt a+(qU n t+0);omega]at this;rw[5]|lot a ws=>rw[if_neg (by show¬decide (.nX="station")=true;decide)];rw[188];rw[show qU n (.lot a ws)=n.tt a+(ws.df.map (qU n)).sum by show n.tt a+qU n ws=_;rw[aaa hk.1]]at this;rw[5]|station a p nm bs=>rw[.fG];obtain⟨m1,m2⟩:=amd (n:=n) hk.2.1 (E6 hk);refine⟨_,sq,? _,fun m hm hle=>? _⟩;{rw[aa];show 0<bs.df.length;have:=hk.2.2.1;rw[hX,aa]at this;omega};{have e:m=qU n bs:=Int.le_antisymm (m2 m hm) (hle _ m1);rw[e];exact q H' g2}}}
theorem wb(T:.U):∀h,.BN|0=>Ax T|h+1=>BJ T h (wb T h)
theorem aa4{n:jd}{u pp:Nat}{g:GT}(F:.eZ):mkRat (qU n g) (u*pp)=fR g:=by refine LI (dq F.nR.up F.nR.pq) ? _;have h1:.bH<=(u:Rat):=Fi (iK F.nR.up);have h2:.bH<=(pp:Rat):=Fi (iK F.nR.pq);have:=ag5 h1 h2 (j:=0) F.ok .j0 .aD F.nR.an;rw[this,jn,.aE];grind
def Ws(K:ae)(ad:Ad):Sp:=fun vs H Q _=>∃(p dx:Addr)(n:jd)(g:GT)(u pp:Nat)(wd cd:Addr),vs=[.bO]/\H p=.j2/\.eZ/\.bo/\∀(H':Hp)(r:Addr),.aq->.d5->H' r=some (sJ (fR g))->.ba
theorem uH(T:.U)(kh:.pf):.BO:=by have sc:a9 .ou .ou (aL og):=.af;have pB:=wb (P:=P) (w:=w) (base:=base) T 25;refine T.vI.dn .aO sc .ae .ag;{obtain⟨p,dx,n,g,u,pp,wd,cd,rfl,_⟩:=h;rfl};{obtain⟨p,dx,n,g,u,pp,wd,cd,rfl,hp,hF,hT,q⟩:=h;refine⟨_,(aD (ba (bx kh .I bQ (af .au (af (bx pB .I bQ .cw) ao))))),? _⟩;have hh:=hF.ht;have bu:=hF.nR.bu;have bp:=hF.nR.bp;ktd_call vc [hp,FX,T.d9,T.ki];refine⟨n,g,rfl,hF.ok,hT,.o,fun H1 s1=>⟨p,dx,g.bB,u,pp,wd,cd,_,rfl,s1 _ _ hp,hF.nR.up,hF.nR.pq,.o,fun r nr=>q _ r .u0 (s1.free nr) ? _⟩⟩;rw[ah,aa4 hF]}
end
structure It where
t:Tb
D:Di
c:Nat
B:Nat
structure sE(u a:Rat)(i:It):Prop where
can:rG i.t
lk:Lk u a i.c i.D i.t
pos:0<i.c
bts:bt (i.c:Int)<=i.B
ve:ve i.t=1
few:i.t.length<=512
theorem sf{u:Nat}(h:0<u):.bH<(u:Rat):=.kD
theorem sE.j9{u a:Rat}{i:It}(h:.gG):i.D.length<=512:=by rw[h.lk.j9];exact h.few
theorem sE.sum{u a:Rat}{i:It}(h:.gG):kr (fun y=>y.2) i.D=(i.c:Int):=by have:=h.lk.ve (sf h.pos);rw[h.ve,JD]at this;exact_mod_cast this
theorem ang{l:.J}(h:∀x∈l,0<=x):(0:Int)<=l.sum/\∀x∈l,x<=l.sum:=by induction l with|nil=>exact⟨Ju _,fun x hx=>nomatch hx⟩|cons y l ih=>obtain⟨h1,h2⟩:=ih .mm;have h3:=.gE;rw[cS];refine⟨.o,.fk⟩;rw[190];{omega};{have:=h2 x hx;omega}
theorem sE.wt{u a:Rat}{i:It}(h:.gG){y:.fD}(hy:y∈i.D):0<y.2/\bt y.2<=i.B:=by have hp:=h.lk.1.pos y hy;have h1:=(ang (l:=i.D.map fun y=>y.2) fun x hx=>by obtain⟨z,hz,rfl⟩:=aX.mp hx;exact Int.le_of_lt (h.lk.1.pos z hz)).2 y.2 (rJ hy);have h2:(i.D.map fun y=>y.2).sum=(i.c:Int):=h.sum;rw[h2]at h1;exact⟨hp,br (KW .C) h.bts⟩
def It.best(i j:It):It:=⟨BF j.t i.t,nE (ou i.D j.D) [],i.c*j.c,i.B+j.B⟩
theorem QS(d e:Di):(ou d e).length=d.length*e.length:=by unfold ou;induction d with|nil=>simp|cons x d ih=>rw[cK,ag,ih,aa,aw,u6];omega
theorem ach{d e:Di}(hd:Ky d)(he:Ky e):∀v∈ou d e,0<v.2:=fun v hv=>by rw[147];exact qN (hd.pos p hp) (he.pos q hq)
theorem sE.best{u a:Rat}{i j:It}(hu:0<u)(hi:.gG)(hj:sE u a j)(h:¬512<.qj):sE u a (i.best j):=by(have lk:Lk u a ((i.c*j.c:Nat):Rat) (nE (ou i.D j.D) []) (BF j.t i.t):=by rw[jn];exact Lk.best hu (sf hi.pos) (sf hj.pos) hi.can hj.can hi.lk hj.lk);refine⟨(Ng hj.can hi.can).1,lk,dq hi.pos hj.pos,? _,? _,? _⟩;{have:=mB (i.c:Int) j.c;have h1:=hi.bts;have h2:=hj.bts;show bt ((i.c*j.c:Nat):Int)<=i.B+j.B;rw[dJ];omega};{show Lc.ve (iF (tj j.t i.t))=1;rw[ym,RJ,hi.ve,hj.ve,JD]};{show(BF j.t i.t).length<=512;rw[<-lk.j9];have h1:=(pY (E:=ou i.D j.D) Ky.nil (ach hi.lk.1 hj.lk.1)).2.2;rw[QS,hi.lk.j9,hj.lk.j9,cg,h_]at h1;omega}
def iI:It->.d6->Option It|y,[]=>some y|y,x::xs=>.BP
theorem vp(x:It):∀(xs:.d6)(y:It),iI y (xs++[x])=(iI y xs).bind fun z=>.BQ|[],y=>by show(if _ then none else iI (y.best x) [])=_;rfl|z::xs,y=>by show(if _ then none else iI (y.best z) (xs++[x]))=_;rw[vp x xs];show _=(if _ then none else iI (y.best z) xs).bind _;split<;>rfl
theorem Pn{g:GT}:∀{ts:.d6},g.Ok 2->g≠.nil->Paired .g7 g.df ts->∃y xs,ts.reverse=y::xs/\lD g=(iI y xs).map (·.t):=by induction g with|branch p l t r _ ih=>(intro ts h _ hp;have hp:Paired .g7 (t::r.df) ts:=hp;cases hp with|cons h1 h2=>rename_i x ts;rw[43];{subst hr;cases h2;exact⟨x,[],rfl,h1⟩};{obtain⟨y,xs,e1,e2⟩:=ih h.2.2 hr h2;refine⟨y,xs++[x],by rw[c_,e1];rfl,? _⟩;rw[sy hr,h1,e2,vp];cases e:iI y xs with|none=>rfl|some z=>show(if 512<x.t.length*z.t.length then none else some (BF x.t z.t))=(if _ then none else some (z.best x)).map _;split<;>rfl})|nil=>intro ts h hn;rw[37]|_=>intro ts h;rw[0]
theorem Af{u a:Rat}(hu:0<u):∀{xs:.d6}{y z:It},sE u a y->(∀x∈xs,sE u a x)->iI y xs=.cy->sE u a z/\z.B=y.B+.xy|[],y,z,hy,_,h=>by rw[44];exact⟨hy,rfl⟩|x::xs,y,z,hy,hx,h=>by have h:(.BP)=.cy:=h;rw[10];{next h5=>obtain⟨h1,h2⟩:=Af hu (hy.best hu (hx x .aK) h5) (fun v hv=>hx v (ak _ hv)) h;refine⟨h1,? _⟩;rw[h2,aO,cS];show y.B+x.B+_=_;omega}
def lU:Tb->.rO->Option Tb|z,[]=>.cy|z,x::xs=>if 512<(.q8).length then none else lU (.q8) xs
theorem Ai(x:Tb×Rat):∀(xs:.rO)(z:Tb),lU z (xs++[x])=(lU z xs).bind fun z=>if 512<(.q8).length then none else some (.q8)|[],z=>rfl|y::xs,z=>by show(if _ then none else lU _ (xs++[x]))=_;rw[Ai x xs];show _=.GJ;split<;>rfl
theorem Xj{g:GT}:∀{ts:.d6},g.Ok 1->Paired .g7 g.df ts->lD g=lU [] ((ts.zip g.bq).reverse.map .q9):=by induction g with|way t w r _ ih=>(intro ts h hp;have hp:Paired .g7 (t::r.df) ts:=hp;cases hp with|cons h1 h2=>rename_i x ts;show(lD t).bind (.o5)=lU [] ((((x,w)::ts.zip r.bq).reverse).map .q9);rw[h1,ih .aZ h2,c_,aG,aO,eX,Ai];rfl)|nil=>intro ts h hp;cases hp;rfl|_=>intro ts h;rw[0]
section
variable{P:Program}{w:World}{K:ae}{mg:Str->Option Value}{base:Heap}{ad:Ad}
def Rr(ad:Ad):Sp:=fun vs H Q E=>∃(d e:Addr)(i j:It)(u a:Rat),vs=[.ref d,.ref e]/\0<u/\.gG/\sE u a j/\i.B+j.B<=134217728/\H d=some .eR/\H e=some (.dK (dk j.D))/\d≠e/\(512<.qj->.mc)/\(¬512<.qj->∀H' r,.aq->.d5->H' r=some (.dK (dk (i.best j).D))->.ba)
theorem Nk(T:.U):.BR:=by have sc:a9 ["first","second","found","steps","weight","other_steps","other_weight","better"] .cU (aL Eu):=.af;refine T.Q3.JG .aM sc .ae .ag;{obtain⟨d,e,i,j,u,a,rfl,_⟩:=h;rfl};{obtain⟨d,e,i,j,u,a,rfl,hu,hi,hj,hB,hd,he,hde,qE,qQ⟩:=h;refine⟨_,(aj (dG (cb xW (de gI (bT CW rfl T.gU fg .cb) (bT CW rfl T.gU fg .a9)) (dI T.MS) .aB) .E2 bZ) (aj .GG (aj (NJ (j5 PassesOwn.leaving rfl (xY .au) (pH rfl (ff .gX (ff .jQ mm))) (aD (NJ (j5 PassesOwn.leaving rfl (xY .ak) (.tA) (aj (bP (i:=7) sc.nd rfl .ai (bT (afm rfl) rfl T.ZF SO (af .bq .rE))) (aD (tq .b4 .ay (pv 7) (de sj (xX .b4 .ay (pv 7) bH .m1) (de gI .d9 (pv 6))) rfl)))))))) .fb))),? _⟩;have il:=hi.j9;have jl:=hj.j9;(have hm:((dk i.D).length:Int)*((dk j.D).length:Int)=((.qj:Nat):Int):=by rw[qB,qB,hi.lk.j9,hj.lk.j9,<-dJ,h_]);have ari:∀k:Nat,k<=512->bt (k:Int)<=10:=fun k hk=>br (rA hk) .bk;ktd_call vc [hd,he];refine⟨_,rfl,_,rfl,f_ (by have:=ari _ (br (lj (qB i.D)) il);have:=ari _ (br (lj (qB j.D)) jl);omega),? _⟩;rw[hm];rw[28];{rw[6];exact qE .C H .kX};{rw[6];intro D nD;have hDd:d≠D:=aq hd nD;have hDe:e≠D:=aq he nD;refine⟨d,.dK (dk i.D),(ai hDd).trans hd,trivial,fun od=>? _⟩;have dA:aN .kH d .fe d=some .fe:=ah;(have eA:aN .kH d .fe e=some (.dK (dk j.D)):=by rw[ai hde.symm,ai hDe];exact he);(have DA:aN .kH d .fe D=some (.dK (dk (nE (ou (i.D.take 0) j.D) []))):=by rw[ai hDd.symm,ah];rfl);(have kA:∀b o,b≠d->.hS->aN .kH d .fe b=.ah:=fun b o hb e=>by rw[ai hb,ai (aq e nD)];exact e);generalize aN .kH d .fe=HA at*;refine⟨_,rfl,d,od,dk i.D,rfl,dA,yL (d:=d) (o:=od) (kvs:=dk i.D) (fun m σ H'=>(∃y3 y4 y5 y6 y7,σ=[some .dZ,some (.ref e),some .dW,y3,y4,y5,y6,y7])/\kG D HA H'/\H' D=some (.dK (dk (nE (.ra) [])))) ⟨.xA,.n5,DA⟩ (fun m σ H' _ h=>h.2.1 _ _ hDd dA) (fun m k v σ H' TT hk h nT=>? _) .cv⟩;{obtain⟨⟨y3,y4,y5,y6,y7,rfl⟩,o1,D1⟩:=h;rw[152];have aGn:m<i.D.length:=(ay.mp hy).1;obtain⟨yp,yb⟩:=hi.wt (aE hy);rw[25];have oT:kG D HA (.g6):=o1.trans (uG .jc);have DT:=(.u1) _ _ D1;generalize .g6=H2 at*;(have epr:ou (i.D.take (m+1)) j.D=.ra++j.D.map .u2:=by rw[a8,hy];unfold ou;rw[cJ];simp);rw[epr];show jS _ _ _ _ _ _;ktd_call vc [jS,wO,kV];have e2:=oT _ _ hDe eA;refine⟨e,.dK (dk j.D),e2,trivial,fun oe=>? _⟩;have eB:aN H2 e .m4 e=some .m4:=ah;(have DB:aN H2 e .m4 D=some (.dK (dk (nE (.ra++(j.D.take 0).map .u2) []))):=by rw[ai hDe.symm,DT,kD,eX,bM]);have kB:∀b o,b≠e->H2 b=.ah->aN H2 e .m4 b=.ah:=.dp;generalize aN H2 e .m4=HB at*;refine⟨_,rfl,e,oe,dk j.D,rfl,eB,yL (d:=e) (o:=oe) (kvs:=dk j.D) (fun m' σ H'=>(∃y5 y6 y7,σ=[some .dZ,some (.ref e),some .dW,some (.int y.1),some (.int y.2),y5,y6,y7])/\kG D HB H'/\H' D=some (.dK (dk (nE (.BS) [])))) ⟨⟨_,_,_,rfl⟩,.n5,DB⟩ (fun m' σ H' _ h=>h.2.1 _ _ hDe eB) (fun m' k v σ H' TT hk h nT=>? _) .cv⟩;{obtain⟨⟨y5,y6,y7,rfl⟩,o3,D3⟩:=h;obtain⟨z,hz,ez⟩:=gB hk;obtain⟨rfl,rfl⟩:=hG ez;obtain⟨zp,zb⟩:=hj.wt (aE hz);have hm2:m'<j.D.length:=(ay.mp hz).1;rw[25];have oU:kG D HB (aN H' TT (.u3)):=o3.trans (uG .jc);have DU:=(aT.aN (o:=.u3) nT) _ _ D3;generalize aN H' TT (.u3)=H3 at*;have fl:=(pY (E:=.BS) Ky.nil fun v hv=>by rcases aW.mp hv with hv|hv;{rw[147];exact qN (hi.lk.1.pos p (gN hp)) (hj.lk.1.pos q hq)};{obtain⟨q,hq,rfl⟩:=aX.mp hv;exact qN yp (hj.lk.1.pos q (gN hq))}).2.2;rw[ag,QS,aa,be,be,cg]at fl;have fm:min m i.D.length*j.D.length<=512*512:=Nat.mul_le_mul .C jl;rw[show j.D.take (m'+1)=j.D.take m'++[z]by rw[a8,hz];rfl,aG,<-eC,C4];show jS _ _ _ _ _ _;ktd_call vc [jS,wO,kV,Iq,Je,akn];refine⟨Hy DU,_,pf.k (k:=.inl (max y.1 z.1)) DU,.b8,_,GW _ _,_,Uj DU _ _ (.cQ),.aU,.dO,? _⟩;{rw[ai hb];exact oU _ _ hb e};{rw[ah];rfl}};{obtain⟨⟨y5,y6,y7,rfl⟩,o3,D3⟩:=h;rw[qB,bf]at D3;refine⟨o3 _ _ hDe eB,.xA,fun b o hb eb=>? _,(ai hDe.symm).trans D3⟩;by_cases Ti:b=e;{subst Ti;rw[ah];rw[eA]at eb;exact eb};{rw[ai Ti];exact o3 _ _ hb (kB _ _ Ti (oT _ _ hb eb))}}};{obtain⟨⟨y3,y4,y5,y6,y7,rfl⟩,o1,D1⟩:=h;rw[qB,bf]at D1;refine⟨o1 _ _ hDd dA,? _⟩;rw[1];refine qQ .C _ D (fun b o eb=>? _) nD ((ai hDd.symm).trans D1);by_cases hbd:b=d;{subst hbd;rw[ah,<-hd,eb]};{rw[ai hbd];exact o1 _ _ (aq eb nD) (kA _ _ hbd eb)}}}}
end
theorem El:∀(xs ys:.d6)(y:It),iI y .jq=(iI y xs).bind fun z=>iI z ys|[],ys,y=>rfl|x::xs,ys,y=>by show(if _ then none else iI (y.best x) .jq)=(if _ then none else iI (y.best x) xs).bind _;rw[El xs ys];split<;>rfl
theorem Cp{l:.ab}{i b:Nat}(h:l[i]?=some b):(l.take i).sum+b<=l.sum:=by(have e:l=l.take i++b::l.drop .aH:=by have hi:=(ay.mp h);obtain⟨hi,hb⟩:=hi;rw[<-hb,List.getElem_cons_drop,lK]);have:=congrArg List.sum e;rw[xf,cS]at this;omega
theorem W9(x:V)(l:.aj):Pr (x::l) (some 1) none=l:=by unfold Pr;(have e1:HT.qG (x::l).length 0 (some 1)=1:=by unfold HT.qG;simp);have e2:HT.qG (x::l).length (x::l).length none=l.length+1:=rfl;rw[e1,e2];show List.take l.length l=l;exact bf
section
variable{P:Program}{w:World}{K:ae}{mg:Str->Option Value}{base:Heap}{ad:Ad}
def Gu(H:Hp)(ds:.ao)(ts:.d6):Prop:=Paired (fun d(i:It)=>H d=some .eR) ds ts
theorem Gu.same{H H':Hp}{ds:.ao}{ts:.d6}(h:Gu H ds ts)(s:.aq):Gu H' ds ts:=Paired.pZ (fun _ _ e=>s _ _ e) h
def II(ad:Ad):Sp:=fun vs H Q E=>∃(L d:Addr)(ds:.ao)(y:It)(xs:.d6)(u a:Rat),vs=[.ref L]/\0<u/\H L=some (.bJ ((d::ds).map V.ref))/\Gu H (d::ds) (y::xs)/\(d::ds).Nodup/\(∀i∈y::xs,.gG)/\((y::xs).map (·.B)).sum<=134217728/\ds.length<=8/\(iI y xs=none->.mc)/\(∀z,iI y xs=.cy->∀H' r,.aq->H' r=some (.dK (dk z.D))->(r=d\/.d5)->.ba)
theorem HV(T:.U)(Pu:.BR):.tD:=by have sc:a9 ["lists","found","weights"] ["lists"] (aL zI):=.af;refine T.Kl.JG .aO sc .ae .ag;{obtain⟨L,d,ds,y,xs,u,a,rfl,_⟩:=h;rfl};{obtain⟨L,d,ds,y,xs,u,a,rfl,hu,hL,hI,M0,fb,hB,h8,qE,qQ⟩:=h;refine⟨_,(aj (bP (i:=1) sc.nd rfl .ai (eZ j' .au bH .a5)) (aj (j5 PassesOwn.leaving rfl (iL (uI Wn .au (pQ bH) We)) .ig (aD (bP (i:=1) sc.nd rfl .ai (bx Pu .I .a8 .rL)))) .fT)),? _⟩;(obtain⟨hd,hds⟩:H d=some (.dK (dk y.D))/\Gu H ds xs:=by cases hI with|cons a b=>exact⟨a,b⟩);obtain⟨MX,aMg⟩:=cI.mp M0;have xl:xs.length=ds.length:=hds.length.symm;rw[aO,cS]at hB;rw[1];refine⟨_,cM.of hL,V.ref d,.hA,? _⟩;refine⟨_,rfl,1,rfl,L,_,rfl,cM.of hL,.i7⟩;rw[aO,W9];have sp:aT H (aN H p .kI):=aT.aN np;have ep:aN H p .kI p=some .kI:=ah;generalize aN H p .kI=H1 at*;refine⟨p,rfl,⟨_,cM.of ep⟩,mS (K:=K) (a:=p) (xs:=.n7) (fun i σ H'=>∃(r:Addr)(z:It)(v:.bL),σ=[.k2,some .e4,v]/\aT H1 H'/\iI y (xs.take i)=.cy/\H' r=some (.dK (dk z.D))/\(r=d\/.d5)) ⟨d,y,none,rfl,aT.refl _,rfl,sp _ _ hd,.fu⟩ (fun i σ H' _ h=>by obtain⟨_,_,_,_,s1,_⟩:=h;exact cM.of (s1 _ _ ep)) .kx .cv⟩;{obtain⟨r,z,v,rfl,s1,hz,er,hr⟩:=h;obtain⟨e,he,rfl⟩:=gB hx;obtain⟨x,Lu,hxe⟩:=Paired.uj hds he;have hxm:=aE Lu;have hem:=aE he;(have hre:r≠e:=by rcases hr with rfl|hr;{intro z;subst z;exact MX hem};{exact(aq hxe hr).symm});obtain⟨okz,bz⟩:=Af hu (fb y .aK) (fun v hv=>fb v (ak _ (gN hv))) hz;have hsB:((xs.take i).map (·.B)).sum+x.B<=.xy:=.DT;(have Bw:iI y (xs.take .aH)=.BQ:=by rw[a8,Lu];show iI y (xs.take i++[x])=_;rw[vp,hz];rfl);show .n4;rw[1];refine⟨r,e,z,x,u,a,rfl,hu,okz,fb x (ak _ hxm),.o,er,s1 _ _ (sp _ _ hxe),hre,fun h5 H2 s2=>? _,fun h5 H2 r2 s2 nr2 er2=>? _⟩;{refine qE ? _ H2 (sp.trans (.eu));rw[if_pos h5]at Bw;have:=El (xs.take .aH) (xs.drop .aH) y;rw[lK,Bw]at this;rw[5]};{rw[if_neg h5]at Bw;exact⟨r2,rfl,.eu,z.best x,Bw,er2,.inr ((sp.trans s1).free nr2)⟩}};{obtain⟨r,z,v,rfl,s1,hz,er,hr⟩:=h;rw[aa,<-xl,bf]at hz;rw[1];exact qQ z hz H' r (sp.trans s1) er hr}}
end
theorem K7:∀(xs ys:.rO)(z:Tb),lU z .jq=(lU z xs).bind fun z=>lU z ys|[],ys,z=>rfl|x::xs,ys,z=>by show(if _ then none else lU _ .jq)=.GJ;rw[K7 xs ys];split<;>rfl
theorem Lk.nil(u a c:Rat):Lk u a c [] []:=⟨Ky.nil,jw _⟩
def WE(q:Rat)(i:It):Nat:=q.den*i.c
section
variable{P:Program}{w:World}{K:ae}{mg:Str->Option Value}{base:Heap}{ad:Ad}
def Ge(K:ae)(ad:Ad):Sp:=fun vs H Q E=>∃(L C:Addr)(ds cs:.ao)(ts:.d6)(ws:.bG)(S u a:Rat),vs=[.ref L,.ref C]/\0<u/\0<S/\H L=some .kI/\Gu H ds ts/\(∀i∈ts,.gG)/\H C=some (.bJ (cs.map V.ref))/\Paired (gO K H) cs (ws.map fun w=>w/S)/\(∀w∈ws,0<=w/\Rb (w/S) 300)/\ws.length=ts.length/\ts.length<=8/\.iw<=10000000/\(.ph=none->.mc)/\(∀(z:Tb)(D:Di)(c:Nat),.ph=.cy->rG z->0<c->Lk u a ((c:Rat)/S) D z->bt (c:Int)<=1+.iw->∀H' r,.aq->.d5->H' r=.rb->.ba)
theorem J_(T:.U)(ht:.hq)(lx:.td):.tE:=by have sc:a9 ["lists","chances","under","parts","each","found","place","weights","factor","chance","steps","weight"] ["lists","chances"] (aL Bo):=.af;refine T.NU.JG .aM sc .ae .ag;{obtain⟨L,C,ds,cs,ts,ws,S,u,a,rfl,_⟩:=h;rfl};{obtain⟨L,C,ds,cs,ts,ws,S,u,a,rfl,hu,hS,hL,hI,fb,hC,hcs,hws,M3,h8,hB,qE,qQ⟩:=h;refine⟨_,(aj (yc (i:=2) rfl sc.nd rfl rfl .kB .yx (own:=[("weights",7),("chance",9)]) .ck (fun _ _ _ _ _=>(show PG _ _ (aa5 K 2 (jS (gy 7) (jS (gy 9) wO)))from pH rfl (ff (cD (i:=7) sc.nd rfl .ai) (ff (cD (i:=9) sc.nd rfl .ai) mm)))) .cu (fun _ _ _ _ _=>(de gI (eZ (show IxR _ (Fz K)from gr) (pv 9) bH .a5) (bT (zD rfl) rfl T.Pd GL (af (LP (pv 7)) ao))))) (aj .GH (aj (j5 PassesOwn.leaving rfl (iL .ay) .jQ (aD (bP (i:=3) sc.nd rfl .ai (bx lx .I bQ (af .bq .kT))))) (aj (bP (i:=5) sc.nd rfl .ai sv) (aj (j5 PassesOwn.leaving rfl (Wa rfl T.Ei .cb) (pH rfl (ff .wy (ff (cD (i:=7) sc.nd rfl .ai) mm))) (aj (bP (i:=8) sc.nd rfl .ai (de gI (eZ gr (eZ j' .ak (pv 6) .a5) bH .a5) (de .jM .bq (eZ j' .ay (pv 6) .a5)))) (aj (dG (cb xW (pv 8) bH .aB) (aD (NJ (j5 PassesOwn.leaving rfl (xY (pv 7)) (pH rfl (ff (cD (i:=10) sc.nd rfl .ai) (ff (cD (i:=11) sc.nd rfl .ai) mm))) (aD (tq .b4 .d7 (pv 10) (de sj (xX .b4 .d7 (pv 10) bH .m1) (de gI (pv 8) (pv 11))) rfl))))) bZ) (aD (dG (cb xW (bT CW rfl T.gU fg .rE) (dI T.J5) .aB) .E2 bZ))))) (aD (ba .d7))))))),? _⟩;have dl:ds.length=ts.length:=hI.length;(have cl:cs.length=ts.length:=by rw[hcs.length,aa,M3]);(have ql:(ws.map fun w=>w/S).length=ts.length:=by rw[aa,M3]);generalize hq:(ws.map fun w=>w/S)=qs at*;(have hqs:∀(i:Nat)(q:Rat),qs[i]?=some q->∃w,ws[i]?=some w/\q=w/S:=fun i q h=>by rw[<-hq]at h;exact gB h);rw[1];refine⟨_,rfl,_,rfl,L,C,_,_,rfl,cM.of hL,cM.of hC,fun U nU=>Tu (K:=K) (a:=L) (b:=C) (xs:=.n7) (ys:=cs.map V.ref) (by rw[aa,aa,cl,dl]) (fun i H'=>.aq/\H' U=some (.bJ (((ts.zip qs).take i).map .wz))) ⟨aT.aN nU,ah⟩ (fun i H' _ h=>⟨cM.of (h.1 _ _ hL),cM.of (h.1 _ _ hC)⟩) .v9 fun H1 h=>? _⟩;{obtain⟨s1,u1⟩:=h;obtain⟨d,hd,rfl⟩:=gB hx;obtain⟨cc,hc,rfl⟩:=gB hy;obtain⟨x,Lu,ed⟩:=Paired.uj hI hd;obtain⟨q,hqi,fq⟩:=Paired.uj hcs hc;rw[153];have hi:i<ts.length:=(ay.mp Lu).1;rw[25];have sT:aT H (aN H' TT (.wA)):=s1.trans .jc;have uT:=(aT.aN (o:=.wA) nT) _ _ u1;generalize aN H' TT (.wA)=H2 at*;have fq2:gO K H2 cc q:=sT.fL fq;have d2:=sT _ _ ed;show jS _ _ _ _ _ _;ktd_call vc [jS,wO,fU,vQ,aks,ako];refine⟨_,fq2,_,.sx,_,.inl d2,fun v nv=>⟨d,ah,_,.inl ((ai (aq d2 nv)).trans d2),x.D.map .bA,Vi _,_,rfl,? _,_,(ai (aq uT nv)).trans uT,by rw[aa,be,nH,sizeLine_eq];omega,.cM,? _⟩⟩;{have aas:(x.D.map .bA).sum=(x.c:Int):=Sn.sum;rw[aas];have h1:=Sn.bts;have h2:=rbw.2;have h3:x.B+300<=.iw:=.BU;rw[<-eq]at h2;exact .b8};{rw[ai (aq e nU),ai (aq (sT _ _ e) nv)];exact sT _ _ e};{have aas:(x.D.map .bA).sum=(x.c:Int):=Sn.sum;(have hz:(ts.zip qs)[i]?=some (x,q):=by rw[iy];exact⟨Lu,hqi⟩);rw[ah,aas,a8,hz,aG,<-dJ];rfl}};{obtain⟨s1,u1⟩:=h;(have zl:(ts.zip qs).length=ts.length:=by rw[nH,ql,Fd]);rw[aa,dl,<-zl,bf]at u1;(have ap2:∀(i:Nat)(x:It)(q:Rat),ts[i]?=.bu->qs[i]?=some q->(ts.zip qs)[i]?=some (x,q):=fun i x q h1 h2=>by rw[iy];exact .ob);refine⟨_,rfl,U,rfl,⟨_,cM.of u1⟩,mS (K:=K) (a:=U) (xs:=(ts.zip qs).map .wz) (fun i σ H'=>∃(pn:Nat)(y4:.bL),σ=[.k2,.eh,some (.ref U),some (.int pn),y4,none,none,none,none,none,none,none]/\H'=H1/\0<pn/\(∀k∈(ts.zip qs).take i,WE k.2 k.1∣pn)/\bt (pn:Int)<=1+((ts.take i).map .k3).sum) ⟨1,none,rfl,rfl,JN,(fun k hk=>nomatch hk),by show bt ((1:Nat):Int)<=1;rw[17]⟩ (fun i σ H' _ h=>by obtain⟨_,_,_,rfl,_⟩:=h;exact cM.of u1) .iZ .cv⟩;{obtain⟨pn,y4,rfl,rfl,pp,dv,pb⟩:=h;obtain⟨⟨x,q⟩,hk,rfl⟩:=gB hv;obtain⟨Lu,hqi⟩:=iy.mp hk;rw[153];have up:0<WE q x:=dq q.den_pos Sn.pos;(have ub:bt ((WE q x:Nat):Int)<=300+x.B:=by have h1:=Sn.bts;have h2:=rbw.2;rw[<-eq]at h2;have h3:=mB (q.den:Int) x.c;show bt ((q.den*x.c:Nat):Int)<=_;rw[dJ];omega);have h3:((ts.take i).map .k3).sum+(x.B+300)<=.iw:=.DT;have hg:=Th (a:=pn) (b:=WE q x);have hl:=Tv pp up;show gy 4 _ _ _ _;rw[1];refine⟨pn,WE q x,rfl,pp,up,.b8,AU pn (WE q x),rfl,rfl,WQ pp up,fun k hk=>? _,? _⟩;{rw[a8,ap2 i x q Lu hqi]at hk;rcases aW.mp hk with hk|hk;{exact Cz (dv k hk) (Gx ..)};{rw[aA.mp hk];exact Fb ..}};{rw[a8,Lu,aG,xf];show _<=1+(_+(x.B+300+0));omega}};{obtain⟨pn,y4,rfl,rfl,pp,dv,pb⟩:=h;rw[aa,bf]at dv;rw[aa,zl,bf]at pb;rw[1];intro F nF;have s1F:aT H' (aN H' F .cX):=aT.aN nF;have eF:aN H' F .cX F=some (.dK (dk [])):=ah;have nF0:H F=none:=s1.free nF;generalize aN H' F .cX=HF at*;have sF:aT H HF:=s1.trans s1F;have uF:=s1F _ _ u1;have LF:=sF _ _ hL;have CF:=sF _ _ hC;have hFL:L≠F:=aq hL nF0;have hFC:C≠F:=aq hC nF0;have hFU:U≠F:=aq u1 nF;refine⟨_,rfl,L,_,rfl,cM.of LF,P5 (K:=K) (a:=L) (xs:=.n7) (fun i σ H2=>(∃y6 y7 y8 y10 y11,σ=[.k2,.eh,some (.ref U),some (.int pn),y4,some (.ref F),y6,y7,y8,none,y10,y11])/\kG F HF H2/\∃(z:Tb)(D:Di),H2 F=.rb/\lU [] ((.j4).take i)=.cy/\.DU) ⟨.xA,.n5,[],[],eF,rfl,FW,Lk.nil _ _ _,bw _⟩ (fun i σ H2 _ h=>cM.of (h.2.1 _ _ hFL LF)) (fun i x σ H2 TT hx h nT=>? _) fun σ H2 h=>? _⟩;{rw[301];obtain⟨d,hd,rfl⟩:=gB hx;obtain⟨x,Lu,ed⟩:=Paired.uj hI hd;have hi:i<ts.length:=(ay.mp Lu).1;obtain⟨q,hqi⟩:∃q,qs[i]?=some q:=⟨_,aV .C⟩;obtain⟨cc,hc,fq⟩:=Paired.get hcs hqi;rw[153];have hdF:d≠F:=aq ed nF0;have up:0<WE q x:=dq q.den_pos Sn.pos;obtain⟨m,hm⟩:=dv (x,q) (aE (ap2 i x q Lu hqi));have hm:pn=WE q x*m:=hm;(have mp:0<m:=by rcases nY m with h0|h0;{subst h0;omega};{exact h0});have hBx:x.B+300<=.iw:=.BU;(have hdiv:(pn:Int)/((WE q x:Nat):Int)=(m:Int):=by rw[hm,dJ,OY _ .C]);have mb:bt (m:Int)<=bt (pn:Int):=rA (by rw[hm];exact Nat.le_mul_of_pos_left m up);(have qb:bt q.num<=300:=by rw[eq];exact rbw.1);have kb:=mB q.num m;(have hkw:((q.num*(m:Int):Int):Rat)*(x.c:Rat)=(pn:Rat)/S*wq:=by rw[gE,V4,hm];unfold WE;rw[jn,jn];have hS0:S≠0:=.a6;(have e1:q*S=wq:=by rw[eq];exact tM hS0);rw[<-e1];have e2:((m:Int):Rat)=(m:Rat):=rfl;rw[e2];grind);rw[25];have oT:kG F HF (aN H2 TT (.xB)):=o2.trans (uG .jc);have FT:=(aT.aN (o:=.xB) nT) _ _ F2;generalize aN H2 TT (.xB)=H3 at*;have dT:=oT _ _ hdF (sF _ _ ed);have fqT:gO K H3 cc q:=oT.fL eF (sF.fL fq);have aU:W4 ((ts.zip qs).map .wz) .fF=some (V.int (WE q x:Nat)):=gT (by rw[aS,ap2 i x q Lu hqi];rfl);have aC:W4 (cs.map V.ref) .fF=some (V.ref cc):=gT (by rw[aS,hc];rfl);(have tZ:(.j4)[i]?=some (x.t,wq):=by rw[aS,show(ts.zip ws)[i]?=some (x,wq)by rw[iy];exact⟨Lu,hwi⟩];rfl);(have Bw:lU [] .xC=if .u5 then none else some (.u4):=by rw[a8,tZ];show lU [] (_++[(x.t,wq)])=_;rw[Ai,hz];rfl);have cz2:=(Cs Sn.can cz w0).1;show jS _ _ _ _ _ _;ktd_call vc [jS,wO,Kh,Fz];refine⟨_,cM.of (oT _ _ hFC CF),_,aC,cc,rfl,_,fqT,_,.hA,_,cM.of (oT _ _ hFU uF),_,aU,_,rfl,yw.mpr up,_,rfl,by rw[hdiv];exact .b8,? _⟩;rw[hdiv];(have fin:∀(H4:Hp)(D':Di),H4 F=some (.dK (dk D'))->kG F HF H4->Lk u a ((pn:Rat)/S) D' (.u4)->∃kvs,H4 F=.ei/\(((512:Int)<kvs.length->E (.ref ad.dU) none H4)/\(¬(512:Int)<kvs.length->∃z D,H4 F=.rb/\lU [] .xC=.cy/\.DU)):=fun H4 D' F4 o4 lk4=>by refine⟨_,F4,fun h5=>? _,fun h5=>? _⟩;{rw[qB]at h5;(have h6:.u5:=by rw[<-lk4.j9];omega);rw[if_pos h6]at Bw;refine qE ? _ H4 fun b o e=>o4 _ _ (aq e nF0) (sF _ _ e);have:=K7 .xC ((.j4).drop .aH) [];rw[lK,Bw]at this;rw[5]};{rw[qB]at h5;(have h6:¬.u5:=by rw[<-lk4.j9];omega);rw[if_neg h6]at Bw;exact⟨_,D',F4,Bw,cz2,lk4,.o⟩});rw[28];{rw[6];have lk4:=Lk.way hu (FZ (sf pp) hS) (sf Sn.pos) cz Sn.can w0 lk Sn.lk h1 hkw;refine⟨d,.dK (dk x.D),dT,trivial,fun od=>? _⟩;have dA:aN H3 d .m5 d=some .m5:=ah;have FA:aN H3 d .m5 F=.rb:=(ai hdF.symm).trans FT;have kA:∀b o,b≠d->H3 b=.ah->aN H3 d .m5 b=.ah:=.dp;generalize aN H3 d .m5=HA at*;refine⟨_,rfl,d,od,dk x.D,rfl,dA,yL (d:=d) (o:=od) (kvs:=dk x.D) (fun m' σ H'=>(∃y10 y11,σ=[.k2,.eh,some (.ref U),some (.int pn),y4,some (.ref F),some (.bp),some .dZ,some (.int (q.num*m)),none,y10,y11])/\kG F HA H'/\H' F=some (.dK (dk (nE (.DV) D)))) ⟨⟨_,_,rfl⟩,.n5,FA⟩ (fun m' σ H' _ h=>h.2.1 _ _ hdF dA) (fun m' k v σ H' TT hk h nT=>? _) .cv⟩;{obtain⟨⟨y10,y11,rfl⟩,o5,F5⟩:=h;rw[152];obtain⟨yp,yb⟩:=Sn.wt (aE hy);have hm2:m'<x.D.length:=(ay.mp hy).1;have xl:=Sn.j9;rw[25];have oU:kG F HA (.g6):=o5.trans (uG .jc);have FU:=(.u1) _ _ F5;generalize .g6=H6 at*;have fl:=(pY (E:=.DV) lk.1 fun v hv=>by obtain⟨r,hr,rfl⟩:=aX.mp hv;exact qN h1 (Sn.lk.1.pos r (gN hr))).2.2;rw[aa,be]at fl;rw[show x.D.take (m'+1)=x.D.take m'++[y]by rw[a8,hy];rfl,aG,C4];show jS _ _ _ _ _ _;ktd_call vc [jS,wO,kV,Iq,Je];refine⟨Hy FU,_,pf.k (k:=.inl y.1) FU,.b8,_,GW _ _,_,Uj FU _ _ (.cQ),.aU,.dO,? _⟩;{rw[ai hb];exact oU _ _ hb e};{rw[ah];rfl}};{obtain⟨⟨y10,y11,rfl⟩,o5,F5⟩:=h;rw[qB,bf]at F5;refine⟨o5 _ _ hdF dA,? _⟩;(have oV:kG F HF (aN H' d (.dK (dk x.D))):=fun b o hb eb=>by by_cases Ti:b=d;{subst Ti;rw[ah];have:=oT _ _ hb eb;rw[dT]at this;rw[5]};{rw[ai Ti];exact o5 _ _ hb (kA _ _ Ti (oT _ _ hb eb))});obtain⟨kvs,e1,e2,e3⟩:=fin (aN H' d (.dK (dk x.D))) _ ((ai hdF.symm).trans F5) oV lk4;rw[1];refine⟨kvs,e1,.mK⟩;{rw[decide_eq_true_eq]at h5;exact e2 h5};{rw[decide_eq_true_eq]at h5;exact⟨.aU,oV,e3 h5⟩}}};{rw[6];(have hw0:wq=0:=by cases e:decide (wq=0)with|true=>exact .qW|false=>have e:=.xk;(have hq0:0<q:=by rw[eq];refine FZ ? _ hS;grind);exact absurd (qN (V5 hq0) (yw.mpr mp)) h1);subst hw0;obtain⟨kvs,e1,e2,e3⟩:=fin H3 D FT oT (Lk.aEd cz Sn.can lk);refine⟨kvs,e1,.mK⟩;{rw[decide_eq_true_eq]at h5;exact e2 h5};{rw[decide_eq_true_eq]at h5;exact⟨.aU,oT,e3 h5⟩}}};{rw[301];rw[aa,dl,<-M3,show ws.length=(.j4).length by rw[aa,nH,M3,Fd],bf]at hz;rw[1];exact qQ z D pn hz cz pp lk pb H2 F (fun b o e=>o2 _ _ (aq e nF0) (sF _ _ e)) nF0 F2}}}}
end
theorem K8:∀{xs:.rO}{y z:Tb},y.length<=512->lU y xs=.cy->z.length<=512|[],y,z,hy,h=>by rw[44];exact hy|x::xs,y,z,hy,h=>by have h:(if 512<(iF (dC x.1 x.2++y)).length then none else lU (iF (dC x.1 x.2++y)) xs)=.cy:=h;rw[10];{next h5=>exact K8 .C h}
theorem Paired.app{α β:Type}{F:.eI}:∀{l:.aT}{l':.dD}{m:.aT}{m':.dD},.iQ->Paired F m m'->Paired F (l++m) (l'++m')|_,_,_,_,.nil,h=>h|_,_,_,_,.cons a b,h=>.cons a (Paired.app b h)
theorem Paired.rev{α β:Type}{F:.eI}:∀{l:.aT}{l':.dD},.iQ->Paired F l.reverse l'.reverse|_,_,.nil=>.nil|_,_,.cons a b=>by rw[c_,c_];exact Paired.app (Paired.rev b) (.cons a .nil)
theorem WI{α β:Type}:∀{l:.aT}{l':.dD},.yw->l.reverse.zip l'.reverse=(l.zip l').reverse|[],[],_=>rfl|a::l,b::l',h=>by have h:.yw:=.e6;rw[c_,c_,List.zip_append (.e6),WI h];show _=((a,b)::l.zip l').reverse;rw[c_];rfl
theorem GH{n:jd}{u p:Rat}{g:GT}:∀{j:Nat}{a q:Rat},g.Ok (j+1)->.iY->∀t∈g.df,∃q',tF n u p t a q':=by induction g with|way t w r _ ih=>(intro j a q h an v hv;match j,h with|0,h=>rw[89];{exact⟨_,an.1⟩};{exact ih .aZ an.2 v hv})|branch pl l t r _ ih=>(intro j a q h an v hv;match j,h with|1,h=>rw[89];{exact⟨_,an.1⟩};{exact ih h.2.2 an.2 v hv})|_=>intro j a q h an v hv;cases hv
theorem WZ{n:jd}{u p:Rat}{g:GT}{a q:Rat}(h:.aY)(an:.iY):∀t∈g.fe,∃q',tF n u p t (a+g.nQ) q':=by intro t ht;cases g with|plus x f t'=>rw[aA.mp ht];exact⟨_,an.2⟩|lot x ws=>show∃q',tF n u p t (a+0) q';rw[mO];exact GH h.1 an.2 t ht|station x pl nm bs=>show∃q',tF n u p t (a+0) q';rw[mO];exact GH .aI an.2 t ht|_=>cases ht
theorem Rn{g:GT}:∀{j:Nat},g.Ok (j+1)->∀t∈g.df,lD t=none->lD g=none:=by induction g with|way t w r _ ih=>(intro j h v hv e;match j,h with|0,h=>show(lD t).bind (fun x=>(lD r).bind fun y=>_)=none;rw[89];{rw[e];rfl};{rw[ih .aZ v hv e];cases lD t<;>rfl})|branch pl l t r _ ih=>(intro j h v hv e;match j,h with|1,h=>rw[43];{subst hr;have:v=t:=aA.mp hv;subst this;exact e};{rw[sy hr];rw[89];{rw[e];rfl};{rw[ih h.2.2 v hv e];cases lD t<;>rfl}})|_=>intro j h v hv;cases hv
theorem aii{g:GT}(h:.aY):∀t∈g.fe,lD t=none->lD g=none:=by intro t ht e;cases g with|plus x f t'=>rw[aA.mp ht]at e;show(lD t').map _=none;rw[e];rfl|lot x ws=>show .sl=none;rw[Rn h.1 t ht e];rfl|station x pl nm bs=>show lD bs=none;exact Rn .aI t ht e|_=>cases ht
theorem ahh{x:Tb}(h:rG x):iF (dC x 1++[])=x:=by obtain⟨c1,m1⟩:=Cs (w:=1) h FW .aD;refine c1.Kt h fun v=>? _;rw[m1];show dM x v*1+0=_;grind
theorem aj7:∀{l:.da}{ts:.d6},Paired .DW l ts->.iw<=600*(l.flatMap GT.bN).length|_,_,.nil=>bw _|_,_,.cons h r=>by have:=aj7 r;rw[aO,cS,cK,ag];omega
section
variable{P:Program}{w:World}{K:ae}{mg:Str->Option Value}{base:Heap}{ad:Ad}
def IL(K:ae)(ad:Ad)(h:Nat):Sp:=fun vs H Q E=>∃(n:jd)(g:GT)(u p a q:Rat),.iS/\.aY/\.bo/\g.ht<h/\0<u/\.iY/\.yK/\(lD g=none->.mc)/\(∀i:It,lD g=some i.t->.gG->i.B+300<=600*g.bN.length->∀H' r,.aq->.d5->H' r=some .eR->.ba)
theorem abr(T:.U):Dn P w K mg base .hz "list_knowing_lots" 41 .bT (IL K ad 0):=by rw[253];refine T.qM.JG .aO sc .ae .ag;rw[302];rw[302]
theorem ahb(T:.U)(h:Nat)(mC:.BV)(pM:.tD)(qT:.tE)(i8:.o9):Dn P w K mg base .hz "list_knowing_lots" (h+42) .bT (IL K ad (h+1)):=by rw[253];refine T.qM.JG .aO sc .ae .wc;{obtain⟨n,g,u,p,a,q,rfl,_⟩:=h;rfl};{obtain⟨n,g,u,p,a,q,rfl,hk,hT,hh,hu,an,hg,qE,qQ⟩:=Ft;refine⟨_,(aj (dG (cb gH .aG (fF T.Bv) .aB) (aD (ba (aho (acg .aG bH ahu) rfl rfl .aD .aD))) bZ) (aj (Yf (i:=1) bU rfl sc.nd rfl rfl rfl rfl rfl .kB (tf rfl T.px .cw) (own:=[("way",2)]) .ck (fun _ _ _ _ _ _=>.ig) (fun _ _ _ _ _ _=>jM) (fun _ _ _ _ _ _ hp=>(bx mC .I hp .dk))) (aj (dG .wt (aD (ba (bx pM .I .a8 .a9))) bZ) (aD (ba (bx qT .I .a8 (af .ak (af (Ic rfl T.Ae T.px (bx i8 .I bQ .cb)) ao)))))))),? _⟩;rw[146];have auc:=nG hk;have hN:=congrArg jF (Ok.bN hk);rw[aw]at hN;ktd_call vc [N.obj,pP,BG,T.cZ,T.fS,T.iJ];rw[28];{rw[decide_eq_true_eq,Jq hk]at h1;obtain⟨x,f,rfl⟩:=h1;intro pd npd;have ob:aN H pd .cX (GT.worth x f).bB=some (.cH ad.cn dx _):=(ai (aq N.obj npd)).trans N.obj;refine⟨_,rfl,_,_,_,_,_,rfl,ob,T.cZ,T.iJ,BG,ah,[(.m2,.int 1)],rfl,(show 1<=15 by decide),? _⟩;have an:.fp=(a+f)*u:=an.1;refine qQ ⟨[(f,1)],[(n.sp x,1)],1,1⟩ rfl ⟨? _,? _,JN,(show bt ((1:Nat):Int)<=1 by rw[17]),? _,by show 1<=512;decide⟩ (by show 1+300<=600*1;decide) _ pd (fun b o e=>by rw[gJ,ai (aq e npd)];exact e) npd (by rw[ah];rfl);{refine⟨nX ..,.cg⟩;rw[aA.mp hy];show .bH<1;decide};{exact Lk.leaf hu an};{show(1:Rat)+0=1;grind}};{rw[6];refine⟨_,rfl,_,_,_,_,_,rfl,N.obj,T.cZ,T.dX,kQ,wl,_,rfl,.kY,fun D nD=>ane (K:=K) (a:=wl) (xs:=.mT) (fun i H'=>∃(ds:.ao)(ts:.d6),.aq/\H' D=some .kI/\Gu H' ds ts/\ds.Nodup/\(∀d∈ds,H d=none)/\Paired .g7 (.xD) ts/\Paired .DW (.xD) ts/\∀i∈ts,sE u (a+g.nQ) i) ⟨[],[],.gF,ah,.nil,iZ,(fun d hd=>nomatch hd),.nil,.nil,fun i hi=>nomatch hi⟩ (fun i H' _ h=>by obtain⟨_,_,s1,_⟩:=h;exact cM.of (s1 _ _ N.ways)) .kv .dX⟩;{rw[303];rw[aQ,<-iP]at hy;rw[334];have J8:=fN.mp (aE ht);have e1:=F7 t J8;obtain⟨q',an'⟩:=WZ hk an t J8;(have dl:ds.length<=8:=by rw[I1.length,<-sn1.length,be,cj];omega);(have htn:t.bN.length<=4097:=by(have:t.bN.length<=(.yv).length:=by have:=PZ (f:=GT.bN) (RZ.mpr J8);rw[68]);omega);rw[173];refine⟨n,t,u,p,a+g.nQ,q',rfl,Ok.fe hk t J8,bF.same s1 (tw t J8),.o,hu,an',htn,fun hn H3 s3=>qE (aii hk t J8 hn) H3 (s1.trans s3),fun i' hs ok' B' H3 r s3 nr er=>? _⟩;have D3:=s3 _ _ D1;(have hrD:r≠D:=fun z=>by subst z;rw[D1]at nr;cases nr);have aDe:kG D H3 (aN H3 D (.bJ (.n7++[V.ref r]))):=.dp;(have et:g.fe.reverse.take .aH=.xD++[t]:=by rw[a8,ht];rfl);refine⟨_,D3,.e9,fun b o e=>aDe _ _ (aq e nD) (s3 _ _ (s1 _ _ e)),ds++[r],.wx,ts++[i'],? _,? _,? _,? _,? _,? _⟩;{exact Paired.snoc (Paired.pZ (fun d j e=>by rw[ai (cv (s3 _ _ e) D3 .aw)];exact s3 _ _ e) I1) ((ai hrD).trans er)};{rw[g9];refine⟨nd1,.aN,fun x hx y hy=>? _⟩;rw[aA.mp hy];rw[2];obtain⟨k,Fq⟩:=Su.mp hx;obtain⟨_,_,e⟩:=Paired.uj I1 Fq;rw[e]at nr;cases nr};{intro x hx;rw[90];{exact fr1 x hx};{rw[aA.mp hx];exact s1.free nr}};{rw[et];exact Paired.snoc sn1 hs};{rw[et];exact Paired.snoc B1 B'};{intro x hx;rw[90];{exact ok1 x hx};{rw[aA.mp hx];exact ok'}}};{rw[303];(have kl:(.mT).length=g.fe.reverse.length:=by rw[aa,aa,cj]);rw[kl,bf]at sn1 B1;(have tl:ts.length=g.fe.length:=by rw[<-sn1.length,cj]);have dl:ds.length=ts.length:=I1.length;have sn2:=Paired.rev sn1;rw[i4]at sn2;have Bs:=aj7 B1;rw[((t6 g.fe).flatMap_right _).length_eq]at Bs;have N':=s1 _ _ N.obj;ktd_call vc [N',pP,T.cZ,T.fS];have hN2:(.yv).length+1=g.bN.length:=hN.symm;refine .h9;{rw[decide_eq_true_eq,qV hk]at h2;obtain⟨x,pp,nm,bs,rfl⟩:=h2;have sn2:Paired .g7 bs.df ts.reverse:=sn2;obtain⟨y,xs,ey,es⟩:=Pn hk.2.1 (E6 hk) sn2;rw[i4]at ey;subst ey;have es:lD (.station x pp nm bs)=(iI y xs).map (·.t):=es;(have ok1:∀i∈y::xs,.gG:=fun i hi=>by have:sE u (a+0) i:=ok1 i hi;rwa[mO]at this);(obtain⟨d,ds,rfl⟩:∃d ds',ds=d::ds':=by cases ds with|nil=>cases I1|cons d ds=>exact⟨d,ds,rfl⟩);(have hBB:∀l:.d6,(l.map (·.B)).sum<=(l.map .k3).sum:=fun l=>by induction l with|nil=>rw[13]|cons i l ih=>rw[aO,aO,cS,cS];omega);have hb1:=hBB (y::xs);(have aH7:y.B+300+.xy<=((y::xs).map .k3).sum:=by have:=hBB xs;rw[aO,cS];omega);refine⟨D,d,ds,y,xs,u,a,rfl,hu,D1,I1,nd1,ok1,.o,? _,fun hn H2 s2=>qE (by rw[es,hn];rfl) H2 (.eu),fun z hz H2 r s2 er hrr=>? _⟩;{rw[aw]at dl;omega};{obtain⟨okz,bz⟩:=Af hu (ok1 y .aK) (fun v hv=>ok1 v (ak _ hv)) hz;refine qQ z (by rw[es,hz];rfl) okz .C H2 r (.eu) ? _ er;rcases hrr with rfl|hrr;{exact fr1 _ .aK};{exact s1.free hrr}}};{rw[24];refine⟨_,rfl,n,g,rfl,hk,bF.same s1 hT,fun H2 cp ZJ s2 ncp ecp hcs=>⟨cp,_,rfl,cM.of ecp,fun rp nrp=>? _⟩⟩;have s3:aT H' (.u6):=s2.trans (aT.aN nrp);(have erp:aN H2 rp .BW rp=some (.bJ (ZJ.reverse.map V.ref)):=by rw[ah,iP]);have aAu:Paired (gO K (.u6)) ZJ (SR g):=Paired.pZ (fun _ _ e=>(aT.aN nrp).fL e) hcs;generalize .u6=H3 at*;have hcr:=Paired.rev aAu;have s13:=s1.trans s3;(have drawn:∀(ws:.bG)(S:Rat),0<S->(SR g).reverse=ws.map (fun w=>w/S)->(∀w∈ws,0<=w)->(.ph=none->lD g=none)->(∀(z:Tb)(D':Di)(c:Nat),.ph=.cy->rG z->0<c->Lk u (a+g.nQ) ((c:Rat)/S) D' z->∃t,lD g=some t/\Lk u a (c:Rat) D' t)->Ge K ad [.ref D,.ref rp] H3 Q E:=fun ws S hS VA hnn h1 h2=>by(have M3:ws.length=ts.length:=by have:=congrArg jF VA;rw[cj,aa,Bh hk]at this;omega);refine⟨D,rp,ds,ZJ.reverse,ts,ws,S,u,a+g.nQ,rfl,hu,hS,s3 _ _ D1,I1.same s3,ok1,erp,by rw[<-VA];exact hcr,fun v hv=>⟨hnn v hv,? _⟩,M3,.o,.o,fun hn H4 s4=>qE (h1 hn) H4 (s13.trans s4),fun z D' c hz cz cp lk bc H4 r s4 nr er=>? _⟩;{exact ZN hk _ (fN.mp (by rw[VA];exact rJ hv))};{obtain⟨t,e1,e2⟩:=h2 z D' c hz cz cp lk;obtain⟨ct,tt⟩:=ad4 (j:=0) hk .j0 e1;rw[.aE]at tt;refine qQ ⟨t,D',c,1+.iw⟩ e1 ⟨ct,e2,cp,bc,tt,? _⟩ (by show 1+_+300<=_;omega) H4 r (s13.trans s4) (s13.free nr) er;show t.length<=512;rw[<-e2.j9,lk.j9];exact K8 (y:=[]) (bw _) hz});cases g with|nil=>rw[33]|way t w r=>rw[33]|branch p l t r=>rw[33]|worth a f=>exact absurd rfl h1|station x p nm bs=>exact absurd rfl h2|plus x f t=>have sn2:Paired .g7 [t] ts.reverse:=sn2;(obtain⟨i0,rfl⟩:∃i0,ts=[i0]:=by match ts,tl with|[i0],_=>exact⟨i0,rfl⟩);(have hs0:lD t=some i0.t:=by cases sn2 with|cons a b=>exact a);have ok0:=ok1 i0 .mL;(have hd0:lU [] (([i0].zip [(1:Rat)]).map .q9)=some i0.t:=by show(if 512<(iF (dC i0.t 1++[])).length then none else some (iF (dC i0.t 1++[])))=_;rw[ahh ok0.can,if_neg (by have:=ok0.few;omega)]);refine drawn [1] 1 .aD ? _ (fun w hw=>by rw[aA.mp hw];decide) (fun hn=>by rw[hd0]at hn;cases hn) fun z D' c hz cz cp lk=>? _;{show[(1:Rat)].reverse=[1/1];rw[17]};{rw[hd0]at hz;obtain rfl:=aB hz;refine⟨iF (i0.t.map .l4),by show(lD t).map _=_;rw[hs0];rfl,? _⟩;have hc1:(c:Rat)/1=(c:Rat):=.a6;rw[hc1]at lk;exact Lk.avn hu (sf cp) cz lk}|lot x ws=>have sn2:Paired .g7 ws.df ts.reverse:=sn2;have Xz:=Xj hk.1 sn2;have hS:=vz hk;(have lsh:ts.reverse.length=ws.bq.length:=by rw[cj,tl];exact uU hk.1);(have ez:(ts.zip ws.bq.reverse)=(ts.reverse.zip ws.bq).reverse:=by rw[<-WI lsh,i4]);refine drawn ws.bq.reverse ws.bq.sum hS ? _ (fun v hv=>hk.1.mY v (fN.mp hv)) (fun hn=>? _) fun z D' c hz cz cp lk=>? _;{show(ws.bq.map _).reverse=_;rw[iP]};{rw[ez,<-Xz]at hn;show .sl=none;rw[hn];rfl};{rw[ez,<-Xz]at hz;refine⟨dC z .kZ,by show .sl=_;rw[hz];rfl,? _⟩;have lk:Lk u (a+0) ((c:Rat)/ws.bq.sum) D' z:=lk;rw[mO]at lk;have:=Lk.avi hu (FZ (sf cp) hS) hS cz lk;rw[tM .dm]at this;rw[5]}}}}}
theorem akc(T:.U)(pM:.tD)(qT:.tE)(i8:.o9):∀h,.BV|0=>abr T|h+1=>ahb T h (akc T pM qT i8 h) pM qT i8
end
theorem VQ:∀{l t:Tb}{y:.b7},y∈.jX->(∃z∈l,z.1=y.1)\/∃z∈t,z.1=y.1|[],t,y,h=>.yA|x::l,t,y,h=>by rcases VQ (l:=l) h with⟨z,hz,e⟩|⟨z,hz,e⟩;{exact .inl .yz};{rcases A' hz with h1|⟨v,hv,e1⟩;{exact .inl ⟨x,au ..,by rw[<-e,h1]⟩};{exact .inr ⟨v,hv,by rw[e1,e]⟩}}
theorem By{l:Tb}{y:.b7}(h:y∈iF l):∃z∈l,z.1=y.1:=by rcases VQ h with h|⟨z,hz,_⟩;{exact h};{cases hz}
theorem Lx{t:Tb}{w:Rat}{y:.b7}(h:y∈dC t w):∃z∈t,z.1=y.1:=by obtain⟨z,hz,e⟩:=By h;obtain⟨v,hv,rfl⟩:=aX.mp hz;exact⟨v,hv,e⟩
theorem aih{n:jd}{u p:Rat}{g:GT}:∀{j:Nat}{a q:Rat}{t:Tb},.de->.iY->lD g=some t->∀y∈t,∃x∈yO g,.fp=(a+y.1)*u:=by induction g with|worth x f=>intro j a q t h an e y hy;obtain rfl:=aB e;rw[aA.mp hy];exact⟨x,aA.mpr rfl,an.1⟩|plus x f t ih=>(rw[66];match j,h with|0,h=>have e:(lD t).map (fun u=>iF (u.map .l4))=some t':=e;cases e1:lD t with|none=>rw[e1]at e;cases e|some v=>rw[e1]at e;rw[178];obtain⟨r,hr,rfl⟩:=aX.mp hz;obtain⟨k,hk,ek⟩:=ih h.2 an.2 e1 r hr;refine⟨k,hk,? _⟩;rw[ek,<-ez,O3])|lot x ws ih=>(rw[66];match j,h with|0,h=>have e:(lD ws).map (fun u=>dC u .kZ)=some t':=e;cases e1:lD ws with|none=>rw[e1]at e;cases e|some v=>rw[e1]at e;obtain rfl:=aB e;obtain⟨r,hr,er⟩:=Lx hy;obtain⟨k,hk,ek⟩:=ih h.1 an.2 e1 r hr;exact⟨k,hk,by rw[ek,er]⟩)|station x pl nm bs ih=>(rw[66];match j,h with|0,h=>exact ih .aI an.2 e y hy)|nil=>rw[66];obtain rfl:=aB e;cases hy|way t w r it ir=>(rw[66];match j,h with|1,h=>have e:(lD t).bind (.o5)=some t':=e;cases e1:lD t with|none=>rw[e1]at e;cases e|some v=>cases e2:lD r with|none=>rw[e1,e2]at e;cases e|some v2=>rw[e1,e2]at e;have e:(if 512<(iF (dC v w++v2)).length then none else some (iF (dC v w++v2)))=some t':=e;split at e;{cases e};{rw[178];rw[123];{obtain⟨r',hr,er⟩:=Lx hz;obtain⟨k,hk,ek⟩:=it h.1 an.1 e1 r' hr;exact⟨k,bR _ hk,by rw[ek,er,ez]⟩};{obtain⟨k,hk,ek⟩:=ir .aZ an.2 e2 z hz;exact .E3}})|branch pl l t r it ir=>rw[66];match j,h with|2,h=>rw[43];{subst hr;obtain⟨k,hk,ek⟩:=it .aI an.1 e y hy;exact⟨k,bR _ hk,ek⟩};{rw[sy hr]at e;cases e1:lD t with|none=>rw[e1]at e;cases e|some v=>cases e2:lD r with|none=>rw[e1,e2]at e;cases e|some v2=>rw[e1,e2]at e;have e:(if 512<v.length*v2.length then none else some (BF v v2))=some t':=e;split at e;{cases e};{rw[178];obtain⟨c,hc,hz⟩:=qm.mp hz;obtain⟨d,hd,rfl⟩:=aX.mp hz;have ez:mx c.1 d.1=y.1:=ez;unfold mx at ez;split at ez;{obtain⟨k,hk,ek⟩:=ir h.2.2 an.2 e2 d hd;exact .E3};{obtain⟨k,hk,ek⟩:=it .aI an.1 e1 c hc;exact⟨k,bR _ hk,by rw[ek,ez]⟩}}}
theorem XG{n:jd}{u pp:Nat}{g:GT}{i:It}(F:.eZ)(ok:sE u 0 i)(hs:lD g=some i.t){y:.fD}(hy:y∈i.D):∃x∈yO g,y.1=n.sp x:=by have h1:(.fo-0,.hP/i.c)∈vy (u:Rat) 0 i.c i.D:=rJ hy;obtain⟨x,hx,e⟩:=aih F.ok F.nR.an hs _ (ok.lk.2.mem_iff.mp h1);refine⟨x,hx,? _⟩;(have hu0:(u:Rat)≠0:=by have:=iK F.nR.up;grind);(have:.fp=.kC:=by rw[e];show(0+(.fo-0))*u=y.1;have:=tM (a:=.kC) hu0;grind);exact Ph this.symm
def LH(t:Tb):Rat:=.iq
theorem ab9{u c:Nat}{d:Di}{t:Tb}(hu:0<u)(hc:0<c)(h:.hx):mkRat (kr (.eP) d) (u*c)=LH t:=by refine LI (dq hu hc) ? _;rw[h.avq (iK hu) (iK hc),jn];rfl
section
variable{P:Program}{w:World}{K:ae}{mg:Str->Option Value}{base:Heap}{ad:Ad}
def Wr(K:ae)(ad:Ad):Sp:=fun vs H Q E=>∃(p dx:Addr)(n:jd)(g:GT)(u pp:Nat)(wd cd:Addr)(wk ck:.az),vs=[.bO]/\.E0/\.eZ/\.DP/\.bo/\(lD g=none->.mc)/\(∀t,lD g=some t->t.length<=512->∀H' r x y(as:.ao),.aq->ig K H' r [.dE,.ref y]->gO K H' x (LH t)->H' y=.di->Paired (O1 K H') as t->.ba)
theorem vF(T:.U)(mC:Dn P w K mg base .hz "list_knowing_lots" 66 .bT (IL K ad 25))(ip:.gT):.BX:=by have sc:a9 ["courses","weights","parts","total","found","steps","weight"] .ou (aL o_):=.af;refine T.wX.JG .aO sc .ae .ag;{obtain⟨p,dx,n,g,u,pp,wd,cd,wk,ck,rfl,_⟩:=h;rfl};{obtain⟨p,dx,n,g,u,pp,wd,cd,wk,ck,rfl,C,hF,hkn,hT,qE,qQ⟩:=h;refine⟨_,(aj (bP (i:=1) sc.nd rfl (JA rfl) (bx mC .I .a8 .cw)) (aj (bP (i:=2) sc.nd rfl (JA rfl) (bT (zD rfl) rfl T.Pd GL (af (LP .ak) ao))) (aj (bP (i:=3) sc.nd rfl .ai (bT (SU rfl) rfl T.Pd GL (af (V9 (wu rfl sc.nd (xY .ak) (own:=[("steps",5),("weight",6)]) .ck (fun _ _ _ _ _=>(show PG _ _ (aa5 K 2 (jS (gy 5) (jS (gy 6) wO)))from .tA)) .cu (fun _ _ _ _ _=>(de gI .d7 (pv 6))))) ao))) (aj (yc (i:=4) rfl sc.nd rfl rfl .kB (iL (bT (xp rfl) rfl T.GK CV .a9)) (own:=[("steps",5)]) .ck .yW .cu (fun _ _ _ _ _=>(AA (af (yR .b4 .j3 .d7 .a5) (af (bx ip .I bQ (af (yR .b4 .ak .d7 .a5) .dk)) ao))))) (aD (ba (AA (af (bx ip .I bQ (af .bq (af (de gI .aG .ay) ao))) .kT)))))))),? _⟩;have hh:=hF.ht;have M0:=hF.nds;ktd_call vc [C.obj,FX,T.d9,T.ki];refine⟨n,g,u,pp,0,1,rfl,hF.ok,hT,.o,iK hF.nR.up,hF.nR.an,M0,qE,fun i hs ok hB H1 d s1 nd hd=>? _⟩;refine⟨_,rfl,d,_,rfl,.inl hd,fun v nv=>⟨v,d,_,i.D.map .bA,rfl,ah,.inl ((ai (aq hd nv)).trans hd),Vi _,? _⟩⟩;have s2:aT H (.yF):=s1.trans (aT.aN nv);have d2:aN H1 v (VwO v d) d=some .eR:=(ai (aq hd nv)).trans hd;generalize .yF=H2 at*;have aas:(i.D.map .bA).sum=(i.c:Int):=ok.sum;rw[aas];have il:=ok.j9;refine⟨d,.dK (dk i.D),d2,trivial,fun od=>? _⟩;have sA:∀b o,b≠d->H2 b=.ah->aN H2 d .fe b=.ah:=.dp;have dA:aN H2 d .fe d=some .fe:=ah;generalize aN H2 d .fe=HA at*;have nd0:H d=none:=nd;(have key:∀y∈i.D,∃x∈yO g,y.1=n.sp x/\bt y.1<=3600000:=fun y hy=>by obtain⟨x,hx,e⟩:=XG hF ok hs hy;exact⟨x,hx,e,by rw[e];exact(hF.nR.bs x hx).1⟩);refine⟨_,rfl,d,od,dk i.D,rfl,dA,fun LD nLD=>ab0 (d:=d) (o:=od) (kvs:=dk i.D) (fun m H'=>aT HA H'/\H' LD=some (.bJ ((i.D.take m).map fun y=>V.int (y.1*y.2)))) ⟨aT.aN nLD,ah⟩ (fun m H' _ h=>h.1 _ _ dA) (fun m k v H' TT hk h nT=>? _) .dX⟩;{obtain⟨s3,l3⟩:=h;rw[152];have hym:=aE hy;obtain⟨_,_,_,yb1⟩:=key y hym;obtain⟨yp,yb⟩:=ok.wt hym;have hm2:m<i.D.length:=(ay.mp hy).1;rw[25];have sT:aT HA (.g6):=s3.trans .jc;have lT:=(.u1) _ _ l3;generalize .g6=H4 at*;show jS _ _ _ _ _ _;ktd_call vc [jS,wO,kV,fU,vQ];refine⟨.b8,_,lT,.gY,.cM,? _⟩;{rw[ai (aq e nLD)];exact sT _ _ e};{rw[ah,a8,hy,aG];rfl}};{obtain⟨s3,l3⟩:=h;rw[qB,bf]at l3;refine⟨s3 _ _ dA,? _⟩;have hLd:LD≠d:=(aq dA nLD).symm;(have s4:aT H (aN H' d .eR):=fun b o e=>by have hbd:=aq e nd0;rw[ai hbd];exact s3 _ _ (sA _ _ hbd (s2 _ _ e)));have d4:aN H' d .eR d=some .eR:=ah;have l4:aN H' d .eR LD=_:=(ai hLd).trans l3;generalize aN H' d .eR=H4 at*;refine⟨LD,i.D.map .eP,rfl,cM.of (by rw[l4,aQ];rfl),? _⟩;refine⟨_,rfl,d,dk i.D,i.D.map .aX,rfl,.inl d4,F0 _,fun ks sp hks hso nsp=>? _⟩;have Xz:=IH (iK hF.nR.up) (iK ok.pos) ok.lk ok.can hks hso;(have kl:ks.length=i.D.length:=by rw[hks.length_eq,aa]);have s5:aT H (aN H4 sp .dq):=s4.trans (aT.aN nsp);have d5:aN H4 sp .dq d=some .eR:=(aT.aN nsp) _ _ d4;have e5:aN H4 sp .dq sp=some .dq:=ah;generalize aN H4 sp .dq=H5 at*;refine⟨sp,rfl,⟨_,cM.of e5⟩,fun FD nFD=>oj (K:=K) (a:=sp) (xs:=.n6) (fun m H'=>∃as:.ao,aT H5 H'/\H' FD=.di/\Paired (O1 K H') as ((ks.take m).map fun k:Int=>(.gv,(di i.D k:Rat)/i.c))) ⟨[],aT.aN nFD,ah,.nil⟩ (fun m H' _ h=>by obtain⟨_,s6,_⟩:=h;exact cM.of (s6 _ _ e5)) (fun m v H' hv h=>? _) .dX⟩;{obtain⟨as,s6,f6,p6⟩:=h;rw[299];obtain⟨x,hx,ex,_⟩:=key y hy;have hm:m<ks.length:=(ay.mp hk).1;rw[300];(have al:as.length=m:=by rw[p6.length,aa,be];omega);have s56:=s5.trans s6;have p3:=s56 _ _ C.obj;have w3:=s56 _ _ C.wd;have d3:=s6 _ _ d5;have fa3:gO K H' wa (.fp/u):=s56.fL fa;show gy 5 _ _ _ _;ktd_call vc [fU,vQ,p3,yG,T.d9,T.jB,RC];have hyd:=Vh ok.lk.1.nd hy;rw[ex]at hyd|-;refine⟨V.ref wa,.DR,_,.DS,_,i.c,rfl,ok.pos,fun fr nfr=>.tB⟩;have s7:aT H' (.u7):=aT.aN nfr;(have e7:gO K (.u7) fr ((di i.D (n.sp x):Rat)/i.c):=by rw[<-wH];exact gO.of ah);generalize .u7=H7 at*;have D7:=s7 _ _ f6;have tD:tp≠FD:=(aq D7 ntp).symm;have t5:∀b xs,ig K H7 b xs->ig K .BY b xs:=fun b xs e=>ig.Jo ((ai tD.symm).trans D7) ((aT.aN ntp).fL e);have et:ig K .BY tp [V.ref wa,V.ref fr]:=ig.of ((ai tD).trans ah);refine⟨_,(ai tD.symm).trans D7,.E1,.cM,as++[tp],.wx,? _⟩;{rw[ai (aq e nFD),ai (aq (s7 _ _ (s6 _ _ e)) ntp)];exact s7 _ _ (s6 _ _ e)};{rw[a8,hk,aG,ex];exact Paired.snoc (Paired.pZ (fun _ _ e=>(e.imp fun _ _ t=>s7.fL t).imp t5) p6) ⟨wa,fr,et,t5 _ _ (s7.fL fa3),t5 _ _ e7⟩}};{obtain⟨as,s6,f6,p6⟩:=h;rw[aa,bf,<-Xz]at p6;have s56:=s5.trans s6;have bu:=hF.nR.bu;have bc:=ok.bts;have hm:=ab9 hF.nR.up ok.pos ok.lk;refine⟨_,_,_,s56 _ _ C.obj,T.d9,T.iU,_,Bg,_,rfl,_,rfl,.b8,_,u*i.c,by rw[dJ],dq hF.nR.up ok.pos,fun fr nfr=>.tB⟩;have s7:aT H' (.tF):=aT.aN nfr;have hm2:.Aa=LH i.t:=hm;(have e7:gO K (.tF) fr (LH i.t):=by rw[<-hm2];exact gO.of ah);generalize .tF=H7 at*;have s8:=(aT.aN (o:=.fL [V.ref fr,V.ref FD]) ntp);exact qQ i.t hs ok.few _ tp fr FD as (s56.trans (s7.trans s8)) (ig.of ah) (s8.fL e7) (s8 _ _ (s7 _ _ f6)) (Paired.pZ (fun _ _ e=>e.imp fun _ _ t=>s8.fL (s7.fL t)) p6)}}}
end
end Lc
namespace Gm
open VaprbBase Vaprbo
def JJ:Tree->Nat|.worth _=>0|.plus _ t=>JJ t+1|.lot ws=>JJ ws+1|.station _ _ bs=>JJ bs+1|.nil=>0|.way t _ r=>max (JJ t) (JJ r)|.branch _ _ t r=>max (JJ t) (JJ r)
def JI:Tree->Nat|.worth _=>1|.plus _ t=>JI t|.lot ws=>JI ws|.station _ _ bs=>JI bs|.nil=>0|.way t _ r=>JI t+JI r|.branch _ _ t r=>JI t+JI r
theorem WG{n:Nat}{R:z_}(hR:.B0):∀(F k:Nat)(l:Toks)(t:Tree)(l':Toks),takeWays R F k l=.gn->.E4|0,k,l,t,l',h=>.dI|F+1,k,l,t,l',h=>by unfold takeWays at h;rw[10];{rw[313];{rw[93];have e5:=WG hR F .bb _ _ _ h5;rw[69]};{rw[104];simp only[JJ,JI];omega}}
theorem Ek{n:Nat}{R:z_}(hR:.B0):∀(F k:Nat)(l:Toks)(t:Tree)(l':Toks),takeBranches R F k l=.gn->.E4|0,k,l,t,l',h=>.dI|F+1,k,l,t,l',h=>by unfold takeBranches at h;rw[10];{rw[336];{rw[93];have e5:=Ek hR F .bb _ _ _ h5;rw[69]};{rw[104];simp only[JJ,JI];omega}}
theorem WD:∀(n:Nat)(l:Toks)(t:Tree)(l':Toks),takeTree n l=.gn->.BZ|0,l,t,l',h=>.dI|n+1,l,t,l',h=>by have ih:=WD n;unfold takeTree at h;rw[4];{rename_i hx;rw[198];have e5:=eJ h5;rw[69]};{rw[4];{rename_i hx;have e0:=uB hx;rw[259];have e2:=WG ih _ _ _ _ _ h2;rw[21];rw[10];{rw[69]}};{rw[4];{rw[260];have e3:=Ek ih _ _ _ _ _ h3;rw[69]};{cases hf:takeFrac l with|error e=>rw[hf]at h;cases h|ok x=>rw[hf]at h;have:=oB (x:=x.1) (l':=x.2) hf;rw[69]}}}
end Gm
namespace Lc
open PySem PySem.Spec PyProof.Rows L2 Sm
theorem asc(g:GT):Gm.JJ g.er=g.ht:=by induction g with|worth a f=>rfl|plus a f t ih=>show _+1=_+1;rw[ih]|lot a t ih=>show _+1=_+1;rw[ih]|station a p n t ih=>show _+1=_+1;rw[ih]|nil=>rfl|way t w r i1 i2=>show max _ _=max _ _;rw[i1,i2]|branch p l t r i1 i2=>show max _ _=max _ _;rw[i1,i2]
theorem asd(g:GT):Gm.JI g.er=(yO g).length:=by induction g with|worth a f=>rfl|plus a f t ih=>exact ih|lot a t ih=>exact ih|station a p n t ih=>exact ih|nil=>rfl|way t w r i1 i2=>show _+_=.q2;rw[i1,i2,ag]|branch p l t r i1 i2=>show _+_=.q2;rw[i1,i2,ag]
theorem PQ(g:GT):JF g.er=g.bN.length:=by induction g with|worth a f=>rfl|plus a f t ih=>rw[186]|lot a t ih=>rw[186]|station a p n t ih=>rw[186]|nil=>rfl|way t w r i1 i2=>show _+_=.kE;rw[i1,i2,ag]|branch p l t r i1 i2=>show _+_=.kE;rw[i1,i2,ag]
theorem QY{tl:bE}{nm:aK}{t:eg}(h:qf tl=.ok (nm,t)):JF t+3<=tl.length/\Gm.JJ t<24/\4*Gm.JI t<=tl.length:=by unfold qf at h;obtain⟨l1,h1,h⟩:=Gm.cy h;obtain⟨⟨x,l2⟩,h2,h⟩:=Gm.cy h;obtain⟨l3,h3,h⟩:=Gm.cy h;obtain⟨⟨y,l4⟩,h4,h⟩:=Gm.cy h;have e1:=Gm.eJ h1;have e2:=Gm.mo h2;have e3:=Gm.eJ h3;have e4:=Gm.rj _ _ _ _ h4;have e5:=Gm.WD _ _ _ _ h4;rw[21];rw[10];{cases h;have:oM=24:=rfl;omega}
theorem am7{g:GT}:∀{j:Nat},.de->(bg g.er).length+(if j=0 then 30 else 0)<=60*g.bN.length:=by have wc:(.fA).length=3:=.aF;have wm:(aH ", ").length=2:=.aF;induction g with|worth a f=>(intro j h;match j,h with|0,h=>have:=rg (f:=f) h;show(cO (.bc)).length+30<=60*1;omega)|plus a f t ih=>(intro j h;match j,h with|0,h=>have h1:=rg (f:=f) h.1;have h2:=ih h.2;rw[.aJ]at h2;show(.uQ).length+30<=60*(t.bN.length+1);rw[ag,ag,ag,ag,show(aH "add(").length=4 by rw[17],wm,cF];omega)|lot a ws ih=>(intro j h;match j,h with|0,h=>have h2:=ih h.1;rw[.aE]at h2;show(.wb).length+30<=60*(ws.bN.length+1);rw[ag,ag,show(aH "pick(").length=5 by rw[17],cF];omega)|station a p n bs ih=>(intro j h;match j,h with|0,h=>have h1:=h.1.1;have h2:=ih .aI;rw[.aE]at h2;show(.Gi).length+30<=60*(bs.bN.length+1);rw[ag,ag,ag,ag,show(aH "if ").length=3 by rw[17],cF,cF];omega)|nil=>(intro j h;match j,h with|1,_=>rw[13]|2,_=>rw[13])|way t w r it ir=>(intro j h;match j,h with|1,h=>have h1:=rg (f:=w) .aI;have h2:=it h.1;have h3:=ir .aZ;rw[.aJ]at h2;rw[.aE]at h3;show(bg (.way t.er .c0 r.er)).length+0<=60*.kE;rw[ag];by_cases hr:r.er=.nil;{rw[hr];show(bg t.er++.fA++cO .c0).length+0<=_;rw[ag,ag,wc];omega};{rw[IE _ _ _ hr,ag,ag,ag,ag,wc,wm];omega})|branch p l t r it ir=>intro j h;match j,h with|2,h=>have h1:=h.1.1;have h2:=it .aI;have h3:=ir h.2.2;rw[.aJ]at h2;rw[.aE]at h3;show(bg (.branch p l t.er r.er)).length+0<=60*.kE;rw[ag];by_cases hr:r.er=.nil;{rw[hr];show(l++.fA++bg t.er).length+0<=_;rw[ag,ag,wc];omega};{rw[yi _ _ _ _ hr,ag,ag,ag,ag,wc,wm];omega}
theorem YB{ss Rx:.aL}{t:GT}(h:my ss t=.ok Rx):(∃tl,Rx=ss++tl)/\(.B1)/\∀s∈Rx,s∈ss\/∃a p nm bs,t=.eN/\s=.kz:=by cases t with|station a p nm bs=>(have h:.z3=.ok Rx:=h;obtain⟨_,_,h⟩:=Gm.cy h;obtain⟨i,h1,h⟩:=Gm.cy h;have hf:=.v7;unfold HS at h1;cases e:ss.findIdx? fun s=>s.name==nm with|some k=>rw[e]at h1 hf;obtain⟨s,g1,g2,g3⟩:=hf;simp only[g1,je,dj]at h1;split at h1;{next hl=>obtain rfl:=oX h1;rw[.cf]at h;obtain rfl:=oX h;refine⟨.xE,fun a' p' nm' bs' et=>? _,fun s hs=>.inl hs⟩;cases et;exact⟨s,g2,hl⟩};{cases h1}|none=>rw[e]at h1 hf;simp only[]at h1 hf;split at h1;{cases h1};{obtain rfl:=oX h1;rw[.aJ]at h;obtain rfl:=oX h;refine⟨.aU,fun a' p' nm' bs' et=>? _,fun s hs=>? _⟩;{cases et;refine⟨.kz,? _,rfl⟩;rw[Zd,hf];simp};{rcases aW.mp hs with hs|hs;{exact .inl hs};{rw[aA.mp hs];exact .inr ⟨a,p,nm,bs,rfl,rfl⟩}}})|_=>obtain rfl:=oX h;exact⟨.xE,(fun _ _ _ _ z=>.eo),fun s hs=>.inl hs⟩
theorem C5:∀{l:.da}{ss Rx:.aL},l.foldlM my ss=.ok Rx->(∃tl,Rx=ss++tl)/\(∀t∈l,.B1)/\∀s∈Rx,s∈ss\/∃t∈l,∃a p nm bs,t=.eN/\s=.kz|[],ss,Rx,h=>by obtain rfl:=oX h;exact⟨.xE,(fun t ht=>nomatch ht),fun s hs=>.inl hs⟩|t::l,ss,Rx,h=>by rw[List.foldlM_cons]at h;obtain⟨s1,h1,h2⟩:=Gm.cy h;obtain⟨⟨t1,e1⟩,a2,a3⟩:=YB h1;obtain⟨⟨t2,e2⟩,b2,b3⟩:=C5 h2;refine⟨⟨t1++t2,by rw[e2,e1,eC]⟩,fun u hu a p nm bs eu=>? _,fun s hs=>? _⟩;{rw[19];{obtain⟨s,g1,g2⟩:=a2 a p nm bs eu;refine⟨s,? _,g2⟩;rw[e2,Zd,g1];rfl};{exact b2 u hu a p nm bs eu}};{rcases b3 s hs with hs|⟨u,hu,a,p,nm,bs,eu,el⟩;{rcases a3 s hs with hs|⟨a,p,nm,bs,eu,el⟩;{exact .inl hs};{exact .inr ⟨t,au ..,a,p,nm,bs,eu,el⟩}};{exact .inr ⟨u,ak _ hu,a,p,nm,bs,eu,el⟩}}
theorem Wf:∀{ss:.aL}{l:.J}{p:fX}{j:Nat}{s:aM},.rP->ss[j]?=some s->∃k:Nat,p[j]?=.dG/\l[j]?=some (k:Int)/\k<s.labels.length|[],_,_,_,_,_,h=>.dI|s::ss,[],p,j,s',h,_=>.dI|s::ss,n::l,p,j,s',h,hj=>by have h:(gZ n s.labels.length).bind .E5=some p:=h;unfold gZ at h;rw[4];{next hn=>cases e:bI ss l with|none=>rw[30]|some q=>rw[e]at h;rw[44];cases j with|zero=>obtain rfl:=aB hj;exact⟨n.toNat,rfl,by show some n=some (n.toNat:Int);rw[AZ hn.1],.o⟩|succ j=>obtain⟨k,g1,g2,g3⟩:=Wf (ss:=ss) (l:=l) (p:=q) (j:=j) (s:=s') e hj;exact⟨k,g1,g2,g3⟩};{cases h}
theorem RA{g:GT}(h:.aY){a:Addr}{p:Nat}{nm:aK}{bs:GT}(ht:.xh∈g.iD):.Dn:=(Ca h _ ht).2
theorem Dz{n:jd}{g:GT}{ss:.aL}{l:.J}{p:fX}(hk:.aY)(hs:eh [] g.er=.ok ss)(hn:A1 ss n g.iD)(hp:.rP):R' n l (bG ss p) g:=by rw[qI [] hk]at hs;obtain⟨-,hf,-⟩:=C5 hs;intro t ht a pl nm bs et;obtain⟨j,h1,h2⟩:=hn t ht a pl nm bs et;obtain⟨s,h3,h4⟩:=hf t ht a pl nm bs et;have hi:=.v7;rw[h1]at hi;obtain⟨s',g1,g2,g3⟩:=hi;rw[h3]at g2;obtain rfl:=aB g2;obtain⟨k,k1,k2,k3⟩:=Wf hp g1;subst et;obtain⟨b1,b2,b3⟩:=RA hk ht;(have hc:bG ss p nm=k:=by unfold bG;rw[h1];show(p[j]?).getD 0=k;rw[k1];rfl);rw[hc];refine⟨j,h2,k2,? _⟩;rw[h4,(Ok.pG b1).1]at k3;exact k3
theorem pJ{g:GT}{ss:.aL}(hk:.aY)(hs:eh [] g.er=.ok ss):∀s∈ss,2<=s.labels.length/\.mS/\s.name.length<=16/\∀b∈s.labels,.nO:=by rw[qI [] hk]at hs;obtain⟨-,-,hf⟩:=C5 hs;intro s hs;rcases hf s hs with hs|⟨t,ht,a,p,nm,bs,rfl,rfl⟩;{cases hs};{obtain⟨b1,b2,b3⟩:=RA hk ht;have hn:Gw nm:=(Ca hk _ ht).1;refine⟨? _,? _,hn.1,Ok.VU b1⟩;{show 2<=bs.labels.length;rw[(Ok.pG b1).1];exact b2};{show bs.labels.length<=8;rw[(Ok.pG b1).1];exact b3}}
theorem zU{s:aM}{k:Nat}(hk:k<s.labels.length):∀{ss:.aL}{l:.J}{p:fX},.rP->bI (ss++[s]) (l++[(k:Int)])=some (p++[k])|[],[],p,h=>by rw[44];show(gZ (k:Int) s.labels.length).bind (fun k=>(some []).map fun p=>k::p)=_;unfold gZ;rw[if_pos .qe,l_];rfl|[],_::_,p,h=>.dI|_::_,[],p,h=>.dI|t::ss,n::l,p,h=>by have h:(gZ n t.labels.length).bind .E5=some p:=h;show(gZ n t.labels.length).bind (fun j=>(bI (ss++[s]) (l++[(k:Int)])).map fun p=>j::p)=_;cases e1:gZ n t.labels.length with|none=>rw[e1]at h;cases h|some j=>rw[e1]at h;cases e2:bI ss l with|none=>rw[e2]at h;cases h|some q=>rw[e2]at h;rw[44];rw[zU hk e2];rfl
theorem LU:∀(r:.aL)(k:Nat),(∀s∈r,.m3)->bI r.reverse ((iq r.reverse k).map .kJ)=some (iq r.reverse k)|[],k,_=>rfl|s::r,k,h=>by have ih:=LU r .mY .kA;rw[c_,Ih,aG];exact zU (n9 _ (h s .aK)) ih
theorem ace{ss:.aL}(k:Nat)(h:∀s∈ss,.m3):bI ss ((iq ss k).map .kJ)=some (iq ss k):=by have:=LU ss.reverse k fun s hs=>h s (fN.mp hs);rw[i4]at this;rw[5]
structure GD where
dx:Addr
SL:Addr
FL:Addr
cp:Addr
cx:Addr
wd:Addr
cd:Addr
kp:Addr
n:jd
g:GT
title:aK
ss:List aM
u:Nat
pp:Nat
wk:List (gx×V)
def GD.game(d:GD):iW:=⟨d.title,d.g.er⟩
def YT(t SL FL cp kp:Addr):.a7:=[("tree",.ref t),("stations",.ref SL),("form",.ref FL),("courses",.ref cp),("kept",.ref kp)]
section
variable{t SL FL cp kp:Addr}
theorem ag4:(.nM).lookup ("tree":Str)=some (.ref t):=rfl
theorem jX:(.nM).lookup ("stations":Str)=.nF:=rfl
theorem ag3:(.nM).lookup ("form":Str)=some (.ref FL):=rfl
theorem lV:(.nM).lookup ("courses":Str)=some (.ref cp):=rfl
theorem MV:(.nM).lookup ("kept":Str)=some (.ref kp):=rfl
end
structure m8(d:GD):Prop where
fix:YR d.n d.u d.pp d.g
D0:eh [] d.g.er=.ok d.ss
num:A1 d.ss d.n d.g.iD
j9:d.ss.length<=12
kn:∀x∈yO d.g,(j6 d.wk (.inl (d.n.sp x))).isSome=true
wc:d.wd≠d.cd
aa2:d.game.shown.length<=4096
kc:d.kp≠d.cd
kw:d.kp≠d.wd
structure gz(K:ae)(ad:Ad)(H:Hp)(gp:Addr)(d:GD)(ck kk:List (gx×V)):Prop where
obj:H gp=some (.cH ad.dh d.dx (YT d.g.bB d.SL d.FL d.cp d.kp))
tree:bF K ad H d.n d.g
D0:∃as,H d.SL=some (.bJ (as.map V.ref))/\Paired (fun a s=>Zl ad H a s (dF s.name d.g.er)) as d.ss
aa2:H d.FL=some (.bJ ((cd d.game.shown).map fun c:Nat=>V.int c))
co:aey K ad H d.cp d.cx d.g.bB d.u d.pp d.wd d.cd d.wk ck
ji:H d.kp=some (.dK kk)
abbrev Eg(d:GD)(c:cG):.J:=a_ (pT d.game d.ss c)
abbrev o6(l:.J):HO:=.bJ (l.map V.int)
section
variable{P:Program}{w:World}{K:ae}{mg:Str->Option Value}{base:Heap}{ad:Ad}
theorem gz.Ux{H:Hp}{gp:Addr}{d:GD}{ck kk:.az}(h:.cV):O5 ad H d.SL d.ss:=by obtain⟨as,h1,h2⟩:=h.D0;exact⟨as,h1,Paired.pZ (fun _ _ e=>⟨_,e⟩) h2⟩
def DR(K:ae)(ad:Ad)(c:cG):Sp:=fun vs H Q _=>∃(gp:Addr)(d:GD)(ck kk:.az),vs=[.eF]/\m8 d/\.cV/\∀(H':Hp)(r:Addr),.aq->H' r=some (o6 (Eg d c))->.ba
def Ru(K:ae)(ad:Ad)(c:Int->cG):Sp:=fun vs H Q _=>∃(gp:Addr)(d:GD)(ck kk:.az)(k:Int),vs=[.eF,.int k]/\m8 d/\.cV/\∀(H':Hp)(r:Addr),.aq->H' r=some (o6 (Eg d (c k)))->.ba
def IT(K:ae)(ad:Ad)(c:.J->cG):Sp:=fun vs H Q _=>∃(gp pa:Addr)(d:GD)(ck kk:.az)(l:.J)(p:fX),vs=[.eF,.ref pa]/\m8 d/\.cV/\.fZ/\.kK/\.i1<sizeLine/\∀(H':Hp)(r:Addr)(w9:.az),kG d.cd H H'->H' d.cd=.k1->Jt K H' d.pp w9->w9.length<=.i1->H' r=some (o6 (Eg d (c l)))->.ba
def adi(K:ae)(ad:Ad)(c:.J->.J->cG):Sp:=fun vs H Q _=>∃(gp pa pb:Addr)(d:GD)(ck kk:.az)(l m:.J)(p q:fX),vs=[.eF,.ref pa,.ref pb]/\m8 d/\.cV/\.fZ/\cM K H pb (m.map V.int)/\.kK/\bI d.ss m=some q/\∀(H':Hp)(r:Addr),.aq->H' r=some (o6 (Eg d (c l m)))->.ba
def uL:Sp:=fun vs H Q _=>∃(a:Addr)(l:.J),.gd/\H a=some (o6 l)/\l.length+1<=sizeLine/\∀(H':Hp)(r:Addr),.aq->.d5->H' r=some (o6 ((l.length:Int)::l))->.ba
theorem TY(T:.U):.md:=by have sc:a9 ["row"] ["row"] (aL La):=.af;refine T.Ym.dn .aO sc .ae .ag;{obtain⟨a,l,rfl,_⟩:=h;rfl};{obtain⟨a,l,rfl,ha,hl,q⟩:=h;refine⟨_,(aD (ba (de sk (eU (af (bT cC rfl T.gU fg .cb) ao)) .au))),? _⟩;ktd_call vc [aob];refine⟨_,.inl (cM.of ha),.bg,fun p np=>⟨_,ah,_,(ai (aq ha np)).trans ha,? _,fun r nr=>q _ r ((aT.aN np).trans .jd) ((aT.aN np).free nr) ? _⟩⟩;{rw[aa,cF];omega};{rw[ah,aa];rfl}}
def DD(t:Tb):.J:=t.flatMap fun y=>.DX
theorem Ip(t:Tb):(DD t).length=4*t.length:=by unfold DD;induction t with|nil=>rfl|cons y t ih=>rw[cK,ag,ih];show 4+4*t.length=4*(t.length+1);omega
theorem acr(t:Tb):qL .d8=DD t:=by unfold qL mh DD;rw[kC];rfl
def IM(K:ae):Sp:=fun vs H Q _=>∃(a:Addr)(as:.ao)(t:Tb),.gd/\H a=.di/\Paired (O1 K H) as t/\t.length<=4096/\∀(H':Hp)(r:Addr),.aq->.d5->H' r=some (o6 (DD t))->.ba
theorem XZ(T:.U):.u9:=by have sc:a9 ["worths","told","amount","chance"] ["worths"] (aL PR):=.af;refine T.ad0.dn .aO sc .ae .ag;{obtain⟨a,as,t,rfl,_⟩:=h;rfl};{obtain⟨a,as,t,rfl,ha,hp,ht,q⟩:=h;refine⟨_,(aj .oZ (aj (j5 PassesOwn.never rfl (iL .au) (.o1) (aD (dO (mW bj mL mM Tz .ak (af (de ahi .ay .bq) ao))))) .fT)),? _⟩;have al:as.length=t.length:=hp.length;rw[1];refine⟨bw _,fun L nL=>? _⟩;have s0:aT H (aN H L .bN):=aT.aN nL;have eL:aN H L .bN L=some (o6 (DD (t.take 0))):=ah;generalize aN H L .bN=H0 at*;refine⟨_,rfl,a,rfl,⟨_,cM.of (s0 _ _ ha)⟩,mS (K:=K) (a:=a) (xs:=.cE) (fun i σ H'=>(∃y2 y3,σ=[.ed,.k2,y2,y3])/\.aq/\H' L=some (o6 (DD (t.take i)))) ⟨⟨_,_,rfl⟩,s0,eL⟩ (fun i σ H' _ h=>cM.of (h.2.1 _ _ ha)) .iZ .cv⟩;{obtain⟨⟨y2,y3,rfl⟩,s1,l1⟩:=h;obtain⟨b,hb,rfl⟩:=gB hv;obtain⟨y,hy,x,z,e1,e2,e3⟩:=Paired.uj hp hb;have hi:i<t.length:=(ay.mp hy).1;refine⟨b,_,rfl,s1.fL e1,rfl,? _⟩;show jS _ _ _ _ _ _;ktd_call vc [jS,wO,akm,QW];have rl:=Ip (t.take i);rw[be]at rl;(have et:DD (t.take .aH)=DD (t.take i)++.DX:=by rw[a8,hy];unfold DD;rw[cJ];rfl);refine⟨.inl ⟨rfl,_,cM.of l1⟩,_,s1.fL e2,_,s1.fL e3,.j0,(show 2+2<=sizeLine by rw[53];decide),.j0,fun _ p np=>⟨_,(ai (aq l1 np)).trans l1,_,ig.of ah,? _,.aU,.cM,? _⟩⟩;{show _+4<=_;rw[aa,rl,sizeLine_eq];omega};{rw[ai (aq e nL),ai (aq (s1 _ _ e) np)];exact s1 _ _ e};{rw[ah,et,o6,aG];rfl}};{obtain⟨⟨y2,y3,rfl⟩,s1,l1⟩:=h;rw[aa,al,bf]at l1;rw[1];exact q H' L s1 nL l1}}
theorem SQ(b:aK):((cd b).map .y5)=(b.map fun c=>(c.toNat:Int)).map V.int:=by unfold cd;rw[aQ,aQ];rfl
theorem abt(T:.U)(nA:.md):.B2:=by have sc:a9 .b5 .b5 (aL Vn):=.af;refine T.ai6.dn .aO sc .ae .ag;rw[40];{rw[50];refine⟨_,(aD (ba (bx nA .I bQ .cw))),? _⟩;ktd_call vc [G.obj,ag3,T.gL,T.xT];have hf:=G.aa2;rw[SQ]at hf;have fl:=ok.aa2;refine⟨d.FL,_,rfl,hf,.e9,fun H' r s1 nr er=>q H' r s1 ? _⟩;rw[er,aa];rfl}
theorem abu(T:.U)(qA:.tq)(jI:.l0):.B3:=by have sc:a9 .b5 .b5 (aL Vo):=.af;refine T.ai7.dn .aO sc .ae .ag;rw[40];{rw[50];refine⟨_,(aD (ba (eU (af (bT cC rfl T.gU fg (af (bx qA .I bQ .cw) ao)) (af .pj (af .pk ao)))))),? _⟩;have hn:=ok.fix.nds;rw[304];ktd_call vc [G.obj,ag4,T.gL,T.qc];refine⟨d.n,d.g,rfl,ok.fix.ok,G.tree,.o,fun H1 p s1 np ep=>? _⟩;have st1:O5 ad H1 d.SL d.ss:=⟨as,s1 _ _ S1,Paired.pZ (fun _ _⟨dx,ll,e1,e2⟩=>⟨_,dx,ll,s1 _ _ e1,s1 _ _ e2⟩) S2⟩;ktd_call vc [s1 _ _ G.obj,jX,T.gL,T.fW];refine⟨_,.inl (cM.of ep),_,.inl (cM.of (s1 _ _ S1)),d.SL,d.ss,rfl,st1,ok.j9,.wB,.bg,.va⟩;rw[ah,aa,aa,al];show _=some (o6 [(JF d.g.er:Int),.yN,(.cc:Int)]);rw[PQ];rfl}
end
section
variable{P:Program}{w:World}{K:ae}{mg:Str->Option Value}{base:Heap}{ad:Ad}
theorem qk(b:aK):(cB b).length=b.length+1:=by unfold cB;rw[aw,aa]
theorem Q2:∀{l:.bS},(∀b∈l,.nO)->(l.flatMap cB).length<=17*l.length|[],_=>bw _|b::l,h=>by have h1:=h b .aK;have h2:=Q2 fun c hc=>h c (ak _ hc);rw[cK,ag,qk,aw];omega
theorem T8(T:.U)(nA:.md)(vq:.uO):.B4:=by have sc:a9 ["game","number","asked","told","label"] .m6 (aL Lg):=.af;refine T.Ys.dn .aM sc .ae .ag;{obtain⟨gp,d,ck,kk,k,rfl,_⟩:=h;rfl};{obtain⟨gp,d,ck,kk,k,rfl,ok,G,q⟩:=h;refine⟨_,(aj (dG (DC (Ik LM wj bH .ak .pj)) .E6 bZ) (aj (bP (i:=2) sc.nd rfl .ai (eZ j' .aG .ak .a5)) (aj (bP (i:=3) sc.nd rfl .ai (de sk (de sk (eU .gh) (bx nA .I bQ (af (bx vq .I bQ .ku) ao))) (eU (af .eW (af .qa ao))))) (aj (j5 PassesOwn.never rfl (iL .eW) .jQ (aD (dO (mW bj mL mM Dg .bq (af (bx nA .I bQ (af (bx vq .I bQ .kT) ao)) ao))))) (aD (ba .bq)))))),? _⟩;rw[304];rw[194];(have bad:¬(0<=k/\k<.yN)->Eg d (.station k)=[-2]:=fun h=>by show a_ (qp d.ss d.g.er k)=_;unfold qp gZ;rw[.cp];rfl);refine fj (fun h1=>⟨_,.inl (cM.of S1),.h9⟩) fun h1=>fj (fun _=>? _) fun h2=>absurd rfl h2;{rw[lN,decide_eq_false_iff_not,aa,al]at h2;rw[51];rw[ah,bad fun z=>h2 z.2];rfl};{rw[lN,decide_eq_false_iff_not,RV,aa,al]at h2;rw[6];rw[335];have hj:j<d.ss.length:=.o;obtain⟨s,hs⟩:∃s,d.ss[j]?=some s:=⟨_,aV hj⟩;obtain⟨a,ha,dx,ll,e1,e2⟩:=Paired.get S2 hs;obtain⟨b1,b2,b3,b4⟩:=MY s (aE hs);(have good:Eg d (.station j)=1::(.tG++s.labels.flatMap cB):=by show a_ (qp d.ss d.g.er j)=_;unfold qp gZ;rw[if_pos .ob,l_];show a_ (match d.ss[j]? with|none=>_|some s=>_)=_;rw[hs];rfl);refine⟨_,cM.of S1,V.ref a,gT (by rw[aS,ha];rfl),.bg,fun p np=>⟨a,rfl,_,_,_,(ai (aq e1 np)).trans e1,T.jV,T.r_,_,Wl,? _⟩⟩;have s1:aT H (aN H p .gk):=aT.aN np;have p1:aN H p .gk p=some .gk:=ah;generalize aN H p .gk=H1 at*;refine⟨cd s.name,rfl,by rw[ib];omega,fun H2 r2 s2 nr2 er2=>? _⟩;rw[SQ]at er2;refine⟨r2,_,rfl,er2,.e9,fun H3 r3 s3 nr3 er3=>? _⟩;(have er3:H3 r3=some (o6 (cB s.name)):=by rw[er3,aa];rfl);have s13:=s1.trans (s2.trans s3);refine⟨p,r3,_,_,rfl,rfl,s3 _ _ (s2 _ _ p1),er3,by rw[aa,qk,sizeLine_eq];show 1+_<=_;omega,fun r4 nr4=>? _⟩;have s4:aT H3 (aN H3 r4 .vb):=aT.aN nr4;have er4:aN H3 r4 .vb r4=some (o6 (1::cB s.name)):=ah;generalize aN H3 r4 .vb=H4 at*;have s14:=s13.trans s4;refine⟨a,rfl,_,_,_,s14 _ _ e1,T.jV,T.ml,_,DL,a,rfl,_,_,_,s14 _ _ e1,T.jV,T.gG,_,pI,_,rfl,_,.inl (cM.of (s14 _ _ e2)),? _⟩;refine⟨.bg,fun r5 nr5=>? _⟩;rw[aa];have s5:aT H4 (aN H4 r5 .pl):=aT.aN nr5;have er5:aN H4 r5 .pl r5=some .pl:=ah;generalize aN H4 r5 .pl=H5 at*;refine⟨r4,r5,_,_,rfl,rfl,s5 _ _ er4,er5,? _,fun L nL=>? _⟩;{rw[aa,aw,qk,sizeLine_eq];show _+2<=_;omega};(have eL:aN H5 L (.tH) L=some (o6 (1::(.tG++(s.labels.take 0).flatMap cB))):=by rw[ah,kD,vW,bM,o6,aO,aO,aG];rfl);have sL:=(s14.trans s5).trans (aT.aN (o:=.tH) nL);have nL0:H L=none:=(s14.trans s5).free nL;generalize aN H5 L (.tH)=H6 at*;refine⟨_,rfl,_,_,_,_,_,rfl,sL _ _ e1,T.jV,T.gG,pI,ll,rfl,⟨_,cM.of (sL _ _ e2)⟩,mS (K:=K) (a:=ll) (xs:=.uM) (fun i σ H'=>(∃y,σ=[some (.eF),some (.int (j:Nat)),.ed,.k2,y])/\.aq/\H' L=some (o6 (1::(.tG++(s.labels.take i).flatMap cB)))) ⟨.aU,sL,eL⟩ (fun i σ H' _ h=>cM.of (h.2.1 _ _ e2)) .iZ .cv⟩;{obtain⟨⟨y,rfl⟩,s7,l7⟩:=h;obtain⟨b,hb,rfl⟩:=gB hv;have hi:i<s.labels.length:=(ay.mp hb).1;have aL6:=b4 b (aE hb);have hrl:=Q2 (l:=s.labels.take i) fun c hc=>b4 c (gN hc);rw[be]at hrl;show gy 4 _ _ _ _;rw[1];refine⟨.inl ⟨rfl,_,cM.of l7⟩,cd b,rfl,by rw[ib];omega,fun H8 r8 s8 nr8 er8=>? _⟩;rw[SQ]at er8;refine⟨r8,_,rfl,er8,.e9,fun H9 r9 s9 nr9 er9=>? _⟩;(have er9:H9 r9=some (o6 (cB b)):=by rw[er9,aa];rfl);have l9:=s9 _ _ (s8 _ _ l7);refine⟨r9,rfl,_,l9,_,er9,? _,.aU,.cM,? _⟩;{rw[aa,aa,qk,aw,ag,ag,qk,sizeLine_eq];show _+2+_+1+_<=_;omega};{rw[ai (aq e nL0)];exact s9 _ _ (s8 _ _ (s7 _ _ e))};{rw[ah,a8,hb,<-aG];show _=some (o6 (1::(_++((s.labels.take i)++[b]).flatMap cB)));rw[cJ,cK,vW,bM,fM,eC]}};{obtain⟨⟨y,rfl⟩,s7,l7⟩:=h;rw[aa,bf,<-good]at l7;rw[1];exact q H' L s7 l7}};{rw[6];rw[51];rw[ah,bad fun z=>h1 z.1];rfl}}
end
theorem YM{n:jd}{u pp:Nat}{g:GT}(F:.eZ){c:uY}(v:VC c g):mkRat (kr n.tt (.bR)) (u*pp)=wR c 0 g:=by refine LI (dq F.nR.up F.nR.pq) ? _;rw[E8 c F.ok v F.nR.an,jn]
theorem yr{ss:.aL}{l:.J}{p:fX}{f:fX->Vaprbo.Answer}(h:.rP):dB ss l f=f p:=by unfold dB;rw[h]
theorem W2{d:GD}{l:.J}{p:fX}(ok:m8 d)(h:.kK):Eg d (.worth l)=[1,(.vc).num,((.vc).den:Int)]:=by show a_ (dB d.ss l fun p=>CI (cV d.ss p 0 d.g.er))=_;rw[yr h,RS d.ss p 0 ok.fix.ok];rfl
theorem SK{d:GD}{l:.J}{p:fX}(ok:m8 d)(h:.kK):Eg d (.spread l)=[1,(adz (kX (bG d.ss p) 0 d.g)).num,((adz (kX (bG d.ss p) 0 d.g)).den:Int)]:=by show a_ (dB d.ss l fun p=>CI (CJ (fE d.ss p 0 d.g.er)))=_;rw[yr h,.xF,RR];rfl
theorem Mu{d:GD}{l:.J}{p:fX}(ok:m8 d)(h:.kK):Eg d (.outcomes l)=(.vd:Int)::DD (kX (bG d.ss p) 0 d.g):=by show a_ (dB d.ss l fun p=>{value:=((fE d.ss p 0 d.g.er).length:Int),rest:=qL (fE d.ss p 0 d.g.er)})=_;rw[yr h,.xF,acr,BI];rfl
theorem W0{d:GD}{l m:.J}{p q:fX}(ok:m8 d)(h:.kK)(h':bI d.ss m=some q):.rd=[if rq (mh (kX (bG d.ss p) 0 d.g)) (mh (kX (bG d.ss q) 0 d.g))=true then 1 else 0]:=by show a_ (dB d.ss l fun p=>dB d.ss m fun q=>{value:=if rq (fE d.ss p 0 d.g.er) (fE d.ss q 0 d.g.er)=true then 1 else 0})=_;rw[yr h,yr h',.xF,ND d.ss q 0 ok.fix.ok];rfl
section
variable{P:Program}{w:World}{K:ae}{mg:Str->Option Value}{base:Heap}{ad:Ad}
theorem uQ{H:Hp}{r1 r3:Addr}{q0:Rat}{xs:.aj}{Q:VK}(e1:H r1=.ff)(e3:gO K H r3 q0)(hx:xs.length<=100)(hQ:∀(H':Hp)(r:Addr),.aq->H' r=some (.bJ (xs++[V.int q0.num,V.int q0.den]))->.ba):∃p,V.ref r3=V.ref p/\∃x,(cM K H p x\/ig K H p x)/\∀l,H l=none->aob (V.ref r1) (V.ref l) (aN H l (.bJ x)) Q:=⟨r3,rfl,_,.inr e3,fun l nl=>⟨r1,l,_,_,rfl,rfl,(ai (aq e1 nl)).trans e1,ah,by rw[53];show _+2<=_;omega,fun r nr=>hQ _ r ((aT.aN nl).trans .jd) ah⟩⟩
theorem Hz{H H':Hp}{gp r:Addr}{d:GD}{ck kk:.az}(G:.cV)(s:.aq):kG d.cd H H'/\H' d.cd=.sp/\Jt K H' d.pp ck/\ck.length<=.i1:=⟨uG s,s _ _ G.co.cd,G.co.cf.imp fun _ _ t=>s.fL t,iT _ _⟩
theorem aby(T:.U)(kh:.pf)(Ah:.tx):.DY:=by have sc:a9 .g8 .g8 (aL Vr):=.af;refine T.aia.dn .aM sc .ae .ag;rw[154];{rw[155];refine⟨_,(aD (ba (de sk (eU .gh) (kj oa rfl T.Ae yE (af (bx kh .I bQ (af .aG (af (bx Ah .I bQ .il) ao))) ao))))),? _⟩;have F:=ok.fix;have M0:=F.nds;have bu:=F.nR.bu;have bp:=F.nR.bp;have Ye:=Dz F.ok ok.D0 ok.num hp;rw[156];ktd_call vc [s1 _ _ G.obj,lV,T.gL,T.gX];refine⟨d.cp,d.cx,d.n,d.g,d.u,d.pp,d.wd,d.cd,pa,l,_,rfl,s1 _ _ G.co.obj,F.ok,.o,bF.same s1 G.tree,s1.seq hl,Ye,fun H2 s2=>⟨d.cp,d.cx,d.g.bB,d.u,d.pp,d.wd,d.cd,_,rfl,s2 _ _ (s1 _ _ G.co.obj),F.nR.up,F.nR.pq,.o,fun r3 n3=>? _⟩⟩;rw[YM F Ye.vc];have s3:aT H2 (aN H2 r3 .qk):=aT.aN n3;have e3:aN H2 r3 .qk r3=some .qk:=ah;generalize aN H2 r3 .qk=H3 at*;refine uQ (.yO) (gO.of e3) .me fun H4 r s4 er=>? _;have sA:=s1.trans (s2.trans (s3.trans s4));rw[305];rw[er,W2 ok hp];rfl}
theorem X'(T:.U)(PF:.DO):.B5:=by have sc:a9 .g8 .g8 (aL PX):=.af;refine T.ad3.dn .aM sc .ae .ag;rw[154];{rw[155];refine⟨_,(aD (ba (de sk (eU .gh) (kj oa rfl T.Ae yE (af (bx PF .I bQ .il) ao))))),? _⟩;rw[179];rw[156];ktd_call vc [s1 _ _ G.obj,lV,T.gL,T.gX];refine⟨d.cp,d.cx,d.n,d.g,d.u,d.pp,d.wd,d.cd,pa,l,_,rfl,s1 _ _ G.co.obj,F,bF.same s1 G.tree,s1.seq hl,Ye,.yP⟩;refine uQ (s3 _ _ e1) (gO.of e3) .me fun H4 r s4 er=>? _;have sA:=s1.trans (s3.trans s4);rw[305];rw[er,SK ok hp];rfl}
theorem ahm{d:GD}(ok:m8 d)(c:uY):(kX c 0 d.g).length<=1100:=by rw[<-(Jr ok.fix c).j9];exact Cu ok.fix c
theorem QH(T:.U)(JY:.DQ)(GU:.u9):.B6:=by have sc:a9 ["game","choices","found"] .g8 (aL Hh):=.af;refine T.Uq.dn .aM sc .ae .ag;rw[154];{rw[155];refine⟨_,(aj (bP (i:=2) sc.nd rfl .ai (bx JY .I bQ .il)) (aD (ba (de sk (eU (af .vW ao)) (bx GU .I bQ .dk))))),? _⟩;rw[179];have ol:=ahm ok (bG d.ss p);ktd_call vc [G.obj,lV,T.gL,T.gX];refine⟨d.cp,d.cx,d.n,d.g,d.u,d.pp,d.wd,d.cd,pa,d.wk,ck,l,_,rfl,G.co,ok.wc,F,ok.kn,hck,G.tree,hl,Ye,fun H1 r1 ck1 as o1 n1 c1 f1 l1 e1 pr1=>? _⟩;have al:as.length=.vd:=pr1.length;refine⟨r1,rfl,_,.inl (cM.of e1),.bg,fun r2 n2=>? _⟩;rw[aa,al];have s2:aT H1 (aN H1 r2 .pn):=aT.aN n2;have e2:aN H1 r2 .pn r2=some .pn:=ah;generalize aN H1 r2 .pn=H2 at*;refine⟨r1,as,_,rfl,s2 _ _ e1,Paired.pZ (fun _ _ e=>e.imp fun _ _ t=>s2.fL t) pr1,.o,.yP⟩;refine⟨r2,r3,_,_,rfl,rfl,s3 _ _ e2,e3,by rw[aa,Ip,sizeLine_eq];show 1+_<=_;omega,fun r4 n4=>? _⟩;have s14:=s2.trans (s3.trans (aT.aN (o:=.bJ (.Ac++(DD (kX (bG d.ss p) 0 d.g)).map V.int)) n4));refine q _ r4 ck1 (o1.trans (uG s14)) (s14 _ _ c1) (f1.imp fun _ _ t=>s14.fL t) l1 ? _;rw[ah,Mu ok hp];rfl}
theorem abn(T:.U)(SW:.BM):.B7:=by have sc:a9 .wC .wC (aL Vl):=.af;refine T.ai4.dn .lW sc .ae .ag;{obtain⟨gp,pa,pb,d,ck,kk,l,m,p,p',rfl,_⟩:=h;rfl};{obtain⟨gp,pa,pb,d,ck,kk,l,m,p,p',rfl,ok,G,hl,hm,hp,hp',q⟩:=h;refine⟨_,(aD (ba (eU (af (Ib (km (bx SW .I bQ (af .aG .rL))) bH bH) ao)))),? _⟩;rw[179];have aDi:=Dz F.ok ok.D0 ok.num hp';ktd_call vc [G.obj,lV,T.gL,T.gX];refine⟨d.cp,d.cx,d.n,d.g,d.u,d.pp,d.wd,d.cd,pa,pb,l,m,_,_,rfl,G.co.obj,F,G.tree,hl,Ye,hm,aDi,fun H1 s1=>? _⟩;have ha:=W0 ok hp hp';refine .nH;cases zL:rq (mh (kX (bG d.ss p) 0 d.g)) (mh (kX (bG d.ss p') 0 d.g))with|true=>rw[zL]at ha;refine⟨.bg,.va⟩;rw[ah,ha];rfl|false=>rw[zL]at ha;refine⟨.bg,.va⟩;rw[ah,ha];rfl}
end
def lX(d:GD)(k:Nat):Int:=kr d.n.tt (cT .wD 0 d.g)
def wK(d:GD)(k:Nat):Rat:=wR .wD 0 d.g
theorem yN{d:GD}(ok:m8 d):∀s∈d.ss,.m3:=fun s hs=>by have:=(pJ ok.fix.ok ok.D0 s hs).1;omega
theorem av4{d:GD}(ok:m8 d)(k:Nat):R' d.n ((iq d.ss k).map .kJ) .wD d.g:=Dz ok.fix.ok ok.D0 ok.num (ace k (yN ok))
theorem OD{d:GD}(ok:m8 d)(k:Nat):((lX d k:Int):Rat)=((d.u*d.pp:Nat):Rat)*wK d k:=by rw[jn];exact E8 _ ok.fix.ok (av4 ok k).vc ok.fix.nR.an
theorem D_{d:GD}(ok:m8 d)(k j:Nat):lX d k<=lX d j↔wK d k<=wK d j:=by have h1:=OD ok k;have h2:=OD ok j;have hc:.bH<((d.u*d.pp:Nat):Rat):=iK .GK;(have h3:lX d k<=lX d j↔(lX d k:Rat)<=(lX d j:Rat):=by exact_mod_cast E9);rw[h3,h1,h2];exact⟨fun h=>Rat.le_of_mul_le_mul_left h hc,fun h=>JC h (Fi hc)⟩
theorem OC{d:GD}(ok:m8 d)(k j:Nat):lX d k=lX d j↔wK d k=wK d j:=by rw[12];{intro h;exact Rat.le_antisymm ((D_ ok k j).mp .C) ((D_ ok j k).mp .C)};{intro h;have h1:=(D_ ok k j).mpr (by rw[h];exact z8);have h2:=(D_ ok j k).mpr (by rw[h];exact z8);omega}
theorem ZO{d:GD}(ok:m8 d)(N j:Nat){p:Nat->Bool}(hp:∀k,p k=decide (wK d k=wK d j)):((bD N).filter p).length=(.yQ).count (lX d j):=by rw[List.count,List.countP_map,List.countP_eq_length_filter];congr 1;refine Ed fun k _=>? _;rw[hp];show _=(lX d k==lX d j);by_cases h:lX d k=lX d j;{rw[decide_eq_true ((OC ok k j).mp h),h,beq_self_eq_true]};{rw[decide_eq_false fun z=>h ((OC ok k j).mpr z),.pH]}
theorem Zu{d:GD}{j:Nat}(ok:m8 d)(hN:.kL)(hj:j<.cc)(hM:∀k,k<.cc->lX d k<=lX d j)(hf:∀k,k<j->lX d k≠lX d j):Eg d .best=.Ad:=by have hb:=U9 (ss:=d.ss) (t:=d.g.er) (f:=wK d) (M:=wK d j) (j:=j) rfl (fun k _=>RS d.ss _ 0 ok.fix.ok) (fun k hk=>(D_ ok k j).mp (hM k hk)) hj rfl fun k hk z=>hf k hk ((OC ok k j).mpr z);show a_ (i_ d.ss d.g.er true)=_;unfold i_;rw[if_neg (.ql),hb,ZO ok _ j (.bQ)];rfl
theorem W1{d:GD}{j:Nat}(ok:m8 d)(hN:.kL)(hj:j<.cc)(hM:∀k,k<.cc->lX d j<=lX d k)(hf:∀k,k<j->lX d k≠lX d j):Eg d .worst=.Ad:=by(have ng:∀{a b:Rat},-a=-b->a=b:=fun h=>by have:=congrArg (fun x:Rat=>-x) h;simpa[Rat.neg_neg]using this);have hb:=U9 (ss:=d.ss) (t:=fV d.g.er) (f:=fun k=>-wK d k) (M:=-wK d j) (j:=j) rfl (fun k _=>YL d.ss _ 0 ok.fix.ok) (fun k hk=>Rat.neg_le_neg ((D_ ok j k).mp (hM k hk))) hj rfl fun k hk z=>hf k hk ((OC ok k j).mpr (ng z));show .GL;unfold i_;rw[if_neg (.ql),hb,ZO ok _ j (fun k=>by by_cases h:wK d k=wK d j;{rw[h,.qZ,.qZ]};{rw[.iC,decide_eq_false fun z=>h (ng z)]})];show(_:Int)::([-(-wK d j).num,((-wK d j).den:Int)]++_)=_;rw[Rat.neg_num,Rat.neg_den,Int.neg_neg];rfl
theorem GI{d:GD}(h:¬.kL)(k:Int):Eg d .best=[-9]/\Eg d .worst=[-9]/\Eg d (.policy k)=[-9]:=by have h:jW<.cc:=.ql;refine⟨? _,? _,? _⟩;{show a_ (i_ d.ss d.g.er true)=_;unfold i_;rw[.cn];rfl};{show .GL;unfold i_;rw[.cn];rfl};{show a_ (if jW<.cc then oO (-9)else _)=_;rw[.cn];rfl}
theorem SJ{d:GD}(h:.kL)(k:Int):Eg d (.policy k)=if 0<=k/\k<(.cc:Int)then .yN::((iq d.ss k.toNat).map .kJ)else[-2]:=by have h:¬jW<.cc:=.ql;show a_ (if jW<.cc then oO (-9)else(match(gZ k (.cc)).bind fun k=>(jf d.ss)[k]? with|none=>oO (-2)|some p=>{value:=(p.length:Int),rest:=p.map fun(k:Nat)=>(k:Int)}))=_;rw[.cp];unfold gZ;by_cases hk:0<=k/\k<(.cc:Int);{rw[.bP,.bP];(have hg:(jf d.ss)[k.toNat]?=some (iq d.ss k.toNat):=by rw[EX,aS,AS .C];rfl);show a_ (match(jf d.ss)[k.toNat]? with|none=>_|some p=>_)=_;rw[hg];show((iq d.ss k.toNat).length:Int)::_=_;rw[yS]};{rw[.bV,.bV];rfl}
theorem Zv{d:GD}(ok:m8 d):Eg d .free=[1,(fR d.g).num,((fR d.g).den:Int)]:=by show a_ (CI (kL d.g.er))=_;rw[ag0 ok.fix.ok];rfl
theorem Zw{d:GD}(ok:m8 d):Eg d .seen=match lD d.g with|none=>[-8]|some t=>(t.length:Int)::[(LH t).num,((LH t).den:Int)]++DD t:=by show a_ (match kM d.g.er with|none=>oO (-8)|some t=>{value:=(t.length:Int),rest:=Sh (Aa t)++qL t})=_;rw[aid ok.fix.ok];cases lD d.g with|none=>rfl|some t=>show((mh t).length:Int)::(Sh (Aa .d8)++qL .d8)=_;rw[BI,V0,acr];rfl
section
variable{P:Program}{w:World}{K:ae}{mg:Str->Option Value}{base:Heap}{ad:Ad}
def N7(K:ae)(ad:Ad):Sp:=fun vs H Q _=>∃(gp:Addr)(d:GD)(ck kk:.az),vs=[.eF]/\m8 d/\.cV/\Q (.bl (decide (2048<.cc))) H
theorem ahd(T:.U)(jI:.l0):.pq:=by have sc:a9 .b5 .b5 (aL nB):=.af;refine T.uK.dn .aO sc .ae .ag;rw[40];{rw[50];refine⟨_,(aD (ba (m7 xW .pk (dI T.Fn) .aB))),? _⟩;have MY:=pJ ok.fix.ok ok.D0;rw[306];refine .nH;(have e:decide ((2048:Int)<(.cc:Int))=decide (2048<.cc):=by by_cases h:2048<.cc;{rw[.nA,decide_eq_true .C]};{rw[.iC,.lG]});rw[e];exact q}
def IX(K:ae)(ad:Ad):Sp:=fun vs H Q _=>∃(gp:Addr)(d:GD)(ck kk:.az),vs=[.eF]/\m8 d/\.cV/\.kL/\∀(H':Hp)(r:Addr),.aq->H' r=some (o6 (.wF))->.ba
theorem gz.same{H H':Hp}{gp:Addr}{d:GD}{ck kk:.az}(G:.cV)(s:.aq):gz K ad H' gp d ck kk:=by obtain⟨as,h1,h2⟩:=G.D0;exact⟨s _ _ G.obj,bF.same s G.tree,⟨as,s _ _ h1,Paired.pZ (fun _ _⟨dx,ll,e1,e2⟩=>⟨dx,ll,s _ _ e1,s _ _ e2⟩) h2⟩,s _ _ G.aa2,⟨s _ _ G.co.obj,s _ _ G.co.wd,s _ _ G.co.cd,G.co.wf.imp fun _ _ t=>s.fL t,G.co.cf.imp fun _ _ t=>s.fL t⟩,s _ _ G.ji⟩
theorem Ya(T:.U)(jI:.l0)(Ah:.tx)(pV:.pg):.tI:=by have sc:a9 ["game","many","number"] .b5 (aL pX):=.af;refine T.yg.dn .aO sc .ae .ag;rw[40];{obtain⟨gp,d,ck,kk,rfl,ok,G,hN,q⟩:=h;refine⟨_,(aj (bP (i:=1) sc.nd rfl .ai .pk) (aD (ba (wu rfl sc.nd (Yd rfl T.afg .a9) (own:=[("number",2)]) .ck .l3 .cu (fun _ _ _ _ _=>(bx Ah .I bQ (af .j3 (af (bx pV .I bQ (af .j3 .dk)) ao)))))))),? _⟩;have MY:=pJ ok.fix.ok ok.D0;have M0:=ok.fix.nds;rw[306];refine⟨_,rfl,_,rfl,.o,.o,fun D nD=>? _⟩;rw[l_];refine ab1 (lo:=0) (n:=.cc) (fun i H'=>.aq/\H' D=some (o6 ((bD i).map (lX d)))) ⟨.gF,ah⟩ (fun i H' hi h=>? _) fun H' h=>q H' D h.1 h.2;obtain⟨s1,e1⟩:=h;rw[67];show .n4;ktd_call vc [fU,vQ,G1.obj,lV,jX,T.gL,T.gX,T.fW];rw[E_];refine⟨d.SL,d.ss,i,rfl,G1.Ux,ok.j9,yN ok,fun H2 p2 s2 n2 e2=>? _⟩;have G2:=G1.same s2;refine⟨d.cp,d.cx,d.n,d.g,d.u,d.pp,d.wd,d.cd,p2,(iq d.ss i).map .kJ,_,rfl,G2.co.obj,ok.fix.ok,.o,G2.tree,cM.of (by rw[e2,aQ];rfl),av4 ok i,fun H3 s3=>? _⟩;have e3:=.yO;refine⟨_,e3,.Dt,.cM,? _⟩;{rw[35];exact s3 _ _ (s2 _ _ (s1 _ _ e))};{rw[ah,Jw,aG,o6,aG];rfl}}
def Oa(K:ae)(ad:Ad):Sp:=fun vs H Q _=>∃(gp ta:Addr)(d:GD)(ck kk:.az)(ns:.J)(m:Int),vs=[.eF,.ref ta,.int m]/\m8 d/\.cV/\cM K H ta .kn/\m∈ns/\ns.length<=2048/\∀(H':Hp)(r:Addr)(j:Nat),.aq->ns[j]?=some m->(.E7)->H' r=some (o6 ((ns.count m:Int)::[(.ve).num,((.ve).den:Int)]++.vf))->.ba
theorem PY{m:Int}:∀{ns:.J},m∈ns->∃j:Nat,ns[j]?=some m/\.E7|[],h=>nomatch h|x::ns,h=>by by_cases hx:x=m;{exact⟨0,by rw[hx];rfl,fun i hi=>absurd hi (lF _)⟩};{(have hm:m∈ns:=by rcases aJ.mp h with z|z;{exact absurd z.symm hx};{exact z});obtain⟨j,h1,h2⟩:=PY hm;refine⟨j+1,h1,fun i hi z hz=>? _⟩;cases i with|zero=>obtain rfl:=aB hz;exact hx|succ i=>exact h2 i .C z hz}
theorem abv(T:.U)(pV:.pg)(kh:.pf):.tJ:=by have sc:a9 ["game","totals","total","first"] ["game","totals","total"] (aL ue):=.af;refine T.DH.dn .lW sc .ae .ag;{obtain⟨gp,ta,d,ck,kk,ns,m,rfl,_⟩:=h;rfl};{obtain⟨gp,ta,d,ck,kk,ns,m,rfl,ok,G,ht,hm,hn,q⟩:=h;refine⟨_,(aj (bP (i:=3) sc.nd rfl .ai (bx pV .I bQ (af .aG (af (mW bj KI PySem.F.type_list_index abb .ak .dk) ao)))) (aD (ba (de sk (de sk (eU (af (mW bj KH PySem.F.type_list_count XQ .ak .dk) ao)) (kj oa rfl T.Ae yE (af (bx kh .I bQ (af .aG .dk)) ao))) .bq)))),? _⟩;obtain⟨j,hj,hf⟩:=PY hm;have bu:=ok.fix.nR.bu;have bp:=ok.fix.nR.bp;rw[194];refine⟨.inl ⟨rfl,_,ht⟩,ta,_,.int m,j,.int m,rfl,rfl,ht,rfl,? _,by rw[aS,hj];rfl,beq_self_eq_true m,fun i z hi hz=>? _,? _⟩;{rw[iO];intro x hx;obtain⟨y,_,rfl⟩:=aX.mp hx;rfl};{obtain⟨y,hy,rfl⟩:=gB hz;exact beq_eq_false_iff_ne.mpr (hf i hi y hy)};refine⟨d.SL,d.ss,j,rfl,G.Ux,ok.j9,yN ok,fun H1 p1 s1 n1 e1=>? _⟩;rw[67];refine⟨.inl ⟨rfl,_,s1.seq ht⟩,ta,ns,m,rfl,rfl,s1.seq ht,.bg,fun p2 n2=>? _⟩;have s2:aT H1 (aN H1 p2 .qm):=aT.aN n2;have e2:aN H1 p2 .qm p2=some .qm:=ah;generalize aN H1 p2 .qm=H2 at*;have G2:=G1.same s2;refine⟨_,_,_,G2.obj,T.gL,T.gX,_,lV,d.cp,d.cx,d.g.bB,d.u,d.pp,d.wd,d.cd,m,rfl,G2.co.obj,ok.fix.nR.up,ok.fix.nR.pq,.o,fun p3 n3=>? _⟩;have s3:aT H2 (aN H2 p3 .qn):=aT.aN n3;have e3:aN H2 p3 .qn p3=some .qn:=ah;generalize aN H2 p3 .qn=H3 at*;refine uQ (s3 _ _ e2) (gO.of e3) .me fun H4 r4 s4 er4=>? _;have e1':=s4 _ _ (.yO);refine⟨r4,p1,_,_,rfl,rfl,er4,e1',? _,fun r5 n5=>q _ r5 j (s1.trans (s2.trans (s3.trans (s4.trans (aT.aN n5))))) hj hf ? _⟩;{rw[aa,yS,sizeLine_eq];have:=ok.j9;show 3+_<=_;omega};{rw[ah,o6,aG,aQ];rfl}}
theorem C0:∀{l:.aL}{k:Nat},(∀s∈l,.m3)->0<k->0<.EI|[],k,_,h=>h|s::l,k,h,hk=>C0 (l:=l) (.kA) (dq hk (h s .aK))
theorem adt{d:GD}{N j:Nat}{m:Int}(h:(.yQ)[j]?=some m):j<N/\lX d j=m:=by obtain⟨i,hi,rfl⟩:=gB h;(have hj:j<N:=by have:=(ay.mp hi).1;rwa[gj]at this);rw[AS hj]at hi;obtain rfl:=aB hi;exact⟨hj,rfl⟩
theorem Gi{d:GD}{N i:Nat}(h:i<N):(.yQ)[i]?=some (lX d i):=by rw[aS,AS h];rfl
theorem ah9(T:.U)(gF:.pq)(lS:.tI)(pD:.tJ):.B8:=by have sc:a9 ["game","totals"] .b5 (aL Z8):=.af;refine T.aol.dn .aO sc .ae .ag;rw[40];{rw[50];refine⟨_,(aj .tK (aj .Ae (aD (ba (bx pD .I bQ (af .au (af .ak (af .GI ao)))))))),? _⟩;rw[1];rw[157];{rw[6];rw[51];rw[ah,(GI .C 0).1];rfl};{rw[6];rw[254];rw[Zu ok hN hjN .GN fun k hk=>hf k hk _ (Gi .C)]}}
theorem abx(T:.U)(gF:.pq)(lS:.tI)(pD:.tJ):.B9:=by have sc:a9 ["game","totals"] .b5 (aL Vq):=.af;refine T.ai9.dn .aO sc .ae .ag;rw[40];{rw[50];refine⟨_,(aj .tK (aj .Ae (aD (ba (bx pD .I bQ (af .au (af .ak (af (bT (alq rfl) rfl T.ark ali .a9) ao)))))))),? _⟩;rw[1];rw[157];{rw[6];rw[51];rw[ah,(GI .C 0).2.1];rfl};{rw[6];rw[254];rw[W1 ok hN hjN .GN fun k hk=>hf k hk _ (Gi .C)]}}
theorem X0(T:.U)(gF:.pq)(jI:.l0)(nA:.md)(pV:.pg):.Ca:=by have sc:a9 .m6 .m6 (aL PV):=.af;refine T.ad2.dn .aM sc .ae .ag;{obtain⟨gp,d,ck,kk,k,rfl,_⟩:=h;rfl};{obtain⟨gp,d,ck,kk,k,rfl,ok,G,q⟩:=h;refine⟨_,(aj .tK (aj (dG (DC (Ik LM wj bH .ak .pk)) .E6 bZ) (aD (ba (bx nA .I bQ (af (bx pV .I bQ .il) ao)))))),? _⟩;have MY:=pJ ok.fix.ok ok.D0;rw[1];rw[157];{rw[6];rw[51];rw[ah,(GI .C k).2.2];rfl};{rw[6];have ha:=SJ (d:=d) .C k;refine .h9;{rw[24];refine⟨_,_,_,G.obj,T.gL,T.fW,_,jX,d.SL,d.ss,rfl,G.Ux,ok.j9,.wB,_,rfl,fj (fun h3=>? _) fun h3=>? _⟩;{rw[lN,decide_eq_false_iff_not]at h3;rw[if_neg fun z=>h3 z.2]at ha;rw[51];rw[ah,ha];rfl};{rw[lN,decide_eq_false_iff_not,RV]at h3;rw[if_pos ⟨h2,h3⟩]at ha;rw[335];refine⟨_,_,_,G.obj,T.gL,T.fW,_,jX,d.SL,d.ss,j,rfl,G.Ux,ok.j9,yN ok,fun H1 p1 s1 n1 e1=>? _⟩;refine⟨p1,.vf,rfl,by rw[e1,o6,aQ];rfl,by have:=ok.j9;rw[aa,yS,sizeLine_eq];omega,fun H2 r2 s2 n2 e2=>q H2 r2 (.eu) ? _⟩;rw[e2,ha,aa,yS];rfl}};{rw[24];rw[if_neg fun z=>h2 z.1]at ha;refine fj (fun _=>? _) fun h3=>absurd rfl h3;rw[51];rw[ah,ha];rfl}}}
theorem aha(T:.U)(vv:.BO):.Cb:=by have sc:a9 .b5 .b5 (aL Z9):=.af;refine T.aom.dn .aO sc .ae .ag;rw[40];{rw[50];refine⟨_,(aD (ba (de sk (eU .gh) (kj oa rfl T.Ae yE (af (bx vv .I bQ .cw) ao))))),? _⟩;rw[156];rw[67];ktd_call vc [G1.obj,lV,T.gL,T.gX];refine⟨d.cp,d.cx,d.n,d.g,d.u,d.pp,d.wd,d.cd,rfl,G1.co.obj,ok.fix,G1.tree,.yP⟩;refine uQ (s3 _ _ e1) (gO.of e3) .me fun H4 r s4 er=>q H4 r (s1.trans (s3.trans s4)) ? _;rw[er,Zv ok];rfl}
end
section
variable{P:Program}{w:World}{K:ae}{mg:Str->Option Value}{base:Heap}{ad:Ad}
theorem ahf(T:.U)(wN:.BX)(GU:.u9):.Cc:=by have sc:a9 ["game","found","worth_and_list"] .b5 (aL aa0):=.af;refine T.aop.dn .aO sc .ae .ag;rw[40];{rw[50];refine⟨_,(aj (ahv T.XC0 rfl rfl rfl rfl T.An (fun xe pn E L=>(aD (bP (i:=2) sc.nd rfl .ai (bx wN .I (L.passes rfl) (af .j3 ao))))) (fun e=>(aD (ba (eU (af (dI T.P') ao)))))) (aj (bP (i:=1) sc.nd rfl .ai .jN) (aD (ba (de sk (de sk (eU (af .jT ao)) (kj oa rfl T.Ae yE (af .jN ao))) (bx GU .I bQ .a9)))))),? _⟩;have ha:=Zw ok;ktd_call vc [G.obj,lV,T.gL,T.gX,akr];refine⟨d.cp,d.cx,d.n,d.g,d.u,d.pp,d.wd,d.cd,d.wk,ck,rfl,G.co,ok.fix,ok.kn,G.tree,fun hn H1 s1 σ' _=>? _,fun t hs ht H1 r1 x1 y1 as s1 er1 ex1 ey1 pr1=>? _⟩;{rw[hn]at ha;refine⟨.bg,fun p np=>q _ p (s1.trans (aT.aN np)) ? _⟩;rw[ah,ha];rfl};{rw[hs]at ha;have al:as.length=t.length:=pr1.length;refine⟨r1,rfl,_,er1,_,.sx,y1,rfl,_,.inl (cM.of ey1),.bg,fun p2 n2=>? _⟩;rw[aa,al];have s2:aT H1 (aN H1 p2 .qo):=aT.aN n2;have e2:aN H1 p2 .qo p2=some .qo:=ah;generalize aN H1 p2 .qo=H2 at*;refine⟨r1,rfl,_,s2.fL er1,_,.hA,? _⟩;refine uQ e2 (s2.fL ex1) .me fun H4 r4 s4 er4=>? _;have s24:=s2.trans s4;refine⟨y1,as,t,rfl,s24 _ _ ey1,Paired.pZ (fun _ _ e=>e.imp fun _ _ z=>s24.fL z) pr1,.o,fun H5 r5 s5 n5 er5=>? _⟩;refine⟨r4,r5,_,_,rfl,rfl,s5 _ _ er4,er5,? _,fun r6 n6=>q _ r6 (s1.trans (s24.trans (s5.trans (aT.aN n6)))) ? _⟩;{rw[aa,Ip,sizeLine_eq];show 3+_<=_;omega};{rw[ah,ha,o6,aG];rfl}}}
end
section
variable{P:Program}{w:World}{K:ae}{mg:Str->Option Value}{base:Heap}{ad:Ad}
theorem cM.Eb{H:Hp}{p a C dx:Addr}{fs:.a7}{o:HO}{xs:.aj}(hp:H p=.cS)(h:.bZ):cM K (L2.aN H p o) a xs:=by rw[118];{exact .inl (.inl (.E8))};{exact .inl (.inr ⟨ob,.E8⟩)};rw[29]
def sP(ca:Addr)(i:Int)(g:V):.a7:=[("calls",.ref ca),("at",.bp),("game",g)]
theorem BB{ca:Addr}{i:Int}{g:V}:(.gx).lookup ("calls":Str)=some (.ref ca):=rfl
theorem VY{ca:Addr}{i:Int}{g:V}:(.gx).lookup ("at":Str)=some (.bp):=rfl
theorem sX{ca:Addr}{i:Int}{g:V}:(.gx).lookup ("game":Str)=some g:=rfl
theorem akf{ca:Addr}{i j:Int}{g:V}:kY ("at":Str) (.int j) (.gx)=sP ca j g:=rfl
theorem ags{ca:Addr}{i:Int}{g g':V}:kY ("game":Str) g' (.gx)=sP ca i g':=rfl
structure tH(K:ae)(ad:Ad)(H:Hp)(lp dx ca:Addr)(i:Nat)(cs:List Int)(g:V):Prop where
obj:H lp=some (.cH ad.cX dx (sP ca i g))
calls:cM K H ca (cs.map V.int)
def adg(ad:Ad):Sp:=fun vs H Q _=>∃(p dx ca:Addr),vs=[.bO,.ref ca]/\H p=some .m7/\Q .jD (aN H p .Cd)
theorem ah7(T:.U):.Ce:=by have sc:a9 ["self","calls"] ["self","calls"] (aL ER):=.af;refine T.aoj.dc .aM sc .ae .ag;{obtain⟨p,dx,ca,rfl,_⟩:=h;rfl};{obtain⟨p,dx,ca,rfl,hp,q⟩:=h;refine⟨_,(aj .h8 (aj .fc (aD (dW .au ao7 rfl)))),? _⟩;ktd_call vc [hp,ah,gJ,T.jo,T.oo,T.uA,T.jt];exact⟨.aW,.gQ,.gR,q⟩}
def Wp(K:ae)(ad:Ad):Sp:=fun vs H Q _=>∃(lp dx ca:Addr)(i:Nat)(cs:.J)(g:V),vs=[.ref lp]/\.j5/\Q (.bl (decide (.fF=cs.length))) H
theorem abp(T:.U):.Cf:=by have sc:a9 .b3 .b3 (aL BC):=.af;refine T.NT.dm .aO sc .ae .ag;{obtain⟨lp,dx,ca,i,cs,g,rfl,_⟩:=h;rfl};{obtain⟨lp,dx,ca,i,cs,g,rfl,L,q⟩:=h;refine⟨_,(aD (ba (m7 gH .aG .pj .aB))),? _⟩;ktd_call vc [L.obj,VY,BB,T.jo,T.oo,T.uA];refine⟨_,.inl L.calls,? _⟩;rw[aa];exact q}
def BW(K:ae)(ad:Ad):Sp:=fun vs H Q _=>∃(lp dx ca:Addr)(i:Nat)(cs:.J)(g:V)(x:Int),vs=[.ref lp]/\.j5/\cs[i]?=.bu/\Q .gC (aN H lp .dP)
theorem HW(T:.U):.ps:=by have sc:a9 .b3 .b3 (aL rX):=.af;refine T.AB.dm .aO sc .ae .ag;{obtain⟨lp,dx,ca,i,cs,g,x,rfl,_⟩:=h;rfl};{obtain⟨lp,dx,ca,i,cs,g,x,rfl,L,hx,q⟩:=h;refine⟨_,.zT,? _⟩;ktd_call vc [L.obj,VY,ah,T.jo,T.oo,T.uA];rw[akf,show .fF+1=.iM by omega];refine⟨.gV,_,BB,_,VY,_,rfl,ca,rfl,_,.xG,_,? _,q⟩;rw[show .iM-1=.fF by omega];exact gT (by rw[aS,hx];rfl)}
def BX(K:ae)(ad:Ad):Sp:=fun vs H Q _=>∃(lp dx ca:Addr)(i m:Nat)(cs:.J)(g:V),vs=[.ref lp]/\.j5/\.rf/\.rg/\∀(H':Hp)(r:Addr),(∀b o,b≠lp->.fR)->.DZ->.d5->H' r=some (o6 (.qp))->.ba
theorem afn{l:.aj}{i m:Nat}(h:i+m<=l.length):Pr l (some .fF) (some ((i+m:Nat):Int))=(l.drop i).take m:=by unfold Pr;rw[HT.vH,HT.vH,lE h,lE (.o:i<=l.length),R_]
theorem QF(T:.U)(jH:.ps):.Cg:=by have sc:a9 .rG .b3 (aL we):=.af;refine T.FE.dm .aO sc .ae .ag;{obtain⟨lp,dx,ca,i,m,cs,g,rfl,_⟩:=h;rfl};{obtain⟨lp,dx,ca,i,m,cs,g,rfl,L,hx,hl,q⟩:=h;refine⟨_,(aj .Ag (aj (yT .au .ak M_) (aD (ba (uI Wn .aG (pQ (de Dv .aG .ak)) (pQ .aG)))))),? _⟩;ktd_call vc [L.obj,T.jo,T.oo,T.uA];refine⟨rfl,lp,dx,ca,i,cs,g,m,rfl,L,hx,? _⟩;have e1:aN H lp .dP lp=some .dP:=ah;have c1:cM K (aN H lp .dP) ca .rQ:=.xG;have k1:∀b o,b≠lp->.hS->aN H lp .dP b=.ah:=.dp;(have n1:∀b,aN H lp .dP b=none->.bx:=fun b e=>by by_cases hb:b=lp;rw[61]);generalize aN H lp .dP=H1 at*;ktd_call vc [e1,VY,akf,ah,BB,T.jo,T.oo,T.uA];rw[show .iM+(m:Int)=((i+1+m:Nat):Int)by omega,show((i+1+m:Nat):Int)-(m:Int)=.iM by omega];refine⟨.gV,_,cM.Eb e1 c1,.lj⟩;(have hrl:r≠lp:=by rw[2];rw[ah]at nr;cases nr);(have nr0:.d5:=by rw[ai hrl]at nr;exact n1 r nr);refine q _ r (.dO) ((ai hrl.symm).trans ah) nr0 ? _;{rw[ai (aq e nr0),ai hb];exact k1 b o hb e};{rw[ah,afn (.g0),<-al5,<-OM]}}
end
theorem ai0 (b : aK) : qo b = (do
    let l ← ij b
    let (nm, x) ← qf l
    let ss ← eh [] x
    if jy < (gc ⟨nm, x⟩).length then .error ⟨10, 0⟩
    .ok ((⟨nm, x⟩ : iW), ss)) := by
  unfold qo qf
  cases ij b with
  | error e => rfl
  | ok l =>
    show (gv "chance" l >>= _) = (gv "chance" l >>= _) >>= _
    cases gv "chance" l with
    | error e => rfl
    | ok l =>
      show (fQ l >>= _) = (fQ l >>= _) >>= _
      cases fQ l with
      | error e => rfl
      | ok x =>
        obtain ⟨t, l⟩ := x
        show (gv "tell" l >>= _) = (gv "tell" l >>= _) >>= _
        cases gv "tell" l with
        | error e => rfl
        | ok l =>
          show (b5 oM l >>= _) = (b5 oM l >>= _) >>= _
          cases b5 oM l with
          | error e => rfl
          | ok x =>
            obtain ⟨x, l⟩ := x
            show (if b_ .halt_ l = false then _ else _) = (if b_ .halt_ l = false then _ else _) >>= _
            split <;> rfl
theorem F9:∀(n p:Nat)(b:aK)(l:bE),o7 n p b=.ok l->l.length<=n+1|0,p,b,l,h=>by cases h;rw[13]|n+1,p,[],l,h=>by cases h;show 1<=_;omega|n+1,p,b::r,l,h=>by unfold o7 at h;rw[4];{have:=F9 n _ _ _ h;omega};{rw[4];{have:=F9 n _ _ _ h;omega};{rw[10];{next t k _=>cases e:o7 n (p+k) ((b::r).drop k)with|error f=>rw[30]|ok l'=>rw[e]at h;have:=F9 n _ _ _ e;cases h;rw[aw];omega}}}
def rC(bs:.ab):aK:=bs.map zi
theorem aro{bs:.ab}(h:.nB):bs.map Wm.sg=Wm.S .eG:=by unfold Wm.S rC;rw[aQ];refine bY .cG;show Wm.sg b=Wm.sg (zi b).toNat;have hb:=h b hb;rw[A9,Gz hb]
theorem YG{bs:.ab}(h:.nB)(hl:bs.length<=4096):match .Ez with|.error p=>ij .eG=.error ⟨2,p⟩|.ok ts=>∃tl,ij .eG=.ok tl/\Wm.GB ts tl/\.eD/\Gm.Fin tl/\tl.length<=4098:=by have bl:.nN=bs.length:=aa ..;(have ht:ij .eG=o7 (.nN+1) 0 .eG:=by unfold ij;rw[if_neg .qq]);have hr:=Wm.anh .nN (.nN+1) (bs.length+1) 0 .eG .aS (mK _) .C;rw[aro h,ht];cases e1:Wm.toks (bs.length+1) 0 (Wm.S (rC bs))with|error p=>(rw[e1]at hr;cases e2:o7 ((rC bs).length+1) 0 (rC bs)with|error f=>rw[e2]at hr;have hr:f=⟨2,p⟩:=hr;rw[hr]|ok l=>rw[e2]at hr;exact hr.elim)|ok ts=>rw[e1]at hr;cases e2:o7 ((rC bs).length+1) 0 (rC bs)with|error f=>rw[e2]at hr;exact hr.elim|ok l=>rw[e2]at hr;obtain⟨f1,f2⟩:=Gm.F8 _ _ _ _ e2;exact⟨l,rfl,hr,f1,f2,by have:=F9 _ _ _ _ e2;omega⟩
section
variable{P:Program}{w:World}{K:ae}{mg:Str->Option Value}{base:Heap}{ad:Ad}
theorem kG.free{a b:Addr}{H H':Hp}(h:kG a H H')(hb:b≠a)(e:.jk):.bx:=by cases e':H b with|none=>rfl|some o=>rw[h b o hb e']at e;cases e
theorem kG.aEc{a C dx:Addr}{fs:.a7}{H H':Hp}(h:kG a H H')(ha:H a=.cS){b:Addr}{xs:.aj}(t:ig K H b xs):ig K H' b xs:=.z9
def adb(K:ae)(ad:Ad):Sp:=fun vs H Q E=>∃(p dx ta:Addr)(bs:.ab),vs=[.bO,.ref ta]/\H p=some (.cH ad.dh dx [])/\.E9/\(.nB)/\bs.length<=8192/\match qo .eG with|.ok (gm,ss)=>.mf|.error f=>.mg
theorem ah6(T:.U)(wM:.Bf)(PH:.A1)(Bm:.Bm)(vq:.uO)(SX:.Bu)(W_:.BG):.Ci:=by have sc:a9 ["self","text","title_and_tree"] .nC (aL EO):=.af;refine T.aoi.dcX .aM sc .ae .ag;{obtain⟨p,dx,ta,bs,rfl,_⟩:=h;rfl};{obtain⟨p,dx,ta,bs,rfl,hp,ht,hb,hl,q⟩:=h;refine⟨_,(aj (dG (cb xW .jT (dI T.rT) .aB) (aD (mX T.XC T.XI bU rfl hr rfl T.oh (af (dI T.Fp) (af (dI T.rT) ao)))) bZ) (aj (bP (i:=2) sc.nd rfl .ai (bx wM .I .a8 (af (bx PH .I .a8 .a9) ao))) (aj (dW .au .jN rfl) (aj (dW .au (bx Bm .I .a8 .cw) rfl) (aj (dW .au (bx vq .I bQ (af (bx SX .I bQ (af .jN .cw)) ao)) rfl) (aj (dG (cb xW .pj (dI T.rT) .aB) (aD (mX T.XC T.XI bU rfl hr rfl T.oh (af (dI T.Fl) .gh))) bZ) (aj (dW .au (jj W_ .I bQ .cw) rfl) (aD .yL)))))))),? _⟩;have bl:.nN=bs.length:=aa ..;rw[ai0]at q;ktd_call vc [tX];refine⟨_,.inl ht,.lP⟩;{rw[decide_eq_true_eq,aa]at h1;(have he:ij .eG=.error ⟨1,4096⟩:=by unfold ij;rw[if_pos .qq];rfl);rw[he]at q;intro GY nd';exact q _ GY (uG (aT.aN nd')) ah};{rw[decide_eq_true_eq,aa]at h1;have Ft:=YG hb .C;refine⟨ta,bs,rfl,ht,hb,hl,? _⟩;cases e:Wm.toks (bs.length+1) 0 (bs.map Wm.sg)with|error p'=>rw[e]at Ft;have Ft:ij .eG=.error ⟨2,p'⟩:=Ft;rw[Ft]at q;exact fun H' GY s' e'=>q H' GY (uG s') e'|ok ts=>rw[e]at Ft;obtain⟨tl,htl,aDp,tne,aEb,aP2⟩:=Ft;rw[htl]at q;intro H1 l1 s1 tk1;refine⟨l1,ts,tl,rfl,tk1,aDp,tne,aEb,? _⟩;have q:match(qf tl>>=fun x=>eh [] x.2>>=fun ss=>if jy<(gc ⟨x.1,x.2⟩).length then .sy else .ok ((⟨x.1,x.2⟩:iW),ss))with|.ok (gm,ss)=>.mf|.error f=>.mg:=q;cases er:qf tl with|error f=>rw[er]at q;exact fun H' GY s' e'=>q H' GY (uG (s1.trans s')) e'|ok x=>obtain⟨nm,t⟩:=x;rw[er]at q;obtain⟨bn,bh,bv⟩:=QY er;intro H2 r2 g s2 n2 e2 hnm zq;have hge:=zq.er;subst hge;rw[PQ]at bn;rw[asc]at bh;rw[asd]at bv;have s12:=.eu;have p2:=s12 _ _ hp;have hpr:p≠r2:=aq (s1 _ _ hp) n2;refine⟨r2,rfl,_,ig.of e2,_,.sx,_,_,_,p2,T.gL,T.qc,(show 0<1000 by decide),? _⟩;(have p1n:H1 p≠none:=by rw[s1 _ _ hp];rw[11]);have p3:aN H2 p .mh p=some .mh:=ah;have o3:kG p H2 (.pv):=.dp;have hT3:kK K ad (fun b=>.wG) (.pv) afd g:=fun u4 h=>zq.at_ u4 fun b o e1 e2=>h b o ⟨e1,by rw[e2];rw[11]⟩ (by rw[ai (show b≠p by rw[2];exact p1n e1)];exact e2);(have aAw:∀b,(.wG)->aN H2 p .mh b≠none:=fun b h=>by rw[ai (show b≠p by rw[2];exact p1n h.1)];exact h.2);refine⟨_,_,_,p3,T.gL,T.qc,_,rfl,? _⟩;show IP K ad [.eX] (.pv) _ _;have e3:aN H2 p .mh r2=some (.fL [V.str .dY,.eX]):=(ai hpr.symm).trans e2;generalize .pv=H3 at*;(have V2:∀b o,.hS->b∉g.bN:=fun b o e hb=>by have:=(zq.fresh b hb).1;rw[s1 _ _ e]at this;cases this);have hpn:p∉g.bN:=V2 p _ hp;refine⟨afd,g,_,rfl,zq.ok,hT3,aAw,(fun a ha=>zq.fresh a ha),zq.nd,.o,? _⟩;have q:match(eh [] g.er>>=fun ss=>if jy<.m8 then .sy else .ok ((.iW:iW),ss))with|.ok (gm,ss)=>.mf|.error f=>.mg:=q;cases es:eh [] g.er with|error f=>rw[es]at q;exact fun H' GY ex e'=>q H' GY (fun b o hb e=>ex.1 b o (V2 b o e) (o3 b o hb (s12 _ _ e))) e'|ok ss=>rw[es]at q;intro H4 OL SL as n' nSL st;have k4:∀b o,b∉g.bN->H3 b=.ah->.hN:=fun b o hb e=>st.ext.1 b o hb e;have p4:=k4 _ _ hpn p3;(have SLp:SL≠p:=fun z=>by rw[z,p3]at nSL;cases nSL);(have aBz:r2∉g.bN:=fun z=>by obtain⟨_,_,_,_,_,_,_,_,_,eo⟩:=uE zq.ok (hT3.now) z;rw[e3]at eo;cases eo);have e4:=k4 _ _ aBz e3;have aE7:=st.D0;have sl4:=st.sl;refine⟨_,_,_,p4,T.gL,T.fW,.gQ,r2,rfl,_,ig.of ((ai hpr.symm).trans e4),_,.hA,_,_,_,ah,T.gL,T.qc,_,rfl,? _⟩;show DV K ad [V.str .dY,.eX] (aN H4 p .mi) _ _;have p5:aN H4 p .mi p=some .mi:=ah;have o5:kG p H4 (aN H4 p .mi):=.dp;generalize aN H4 p .mi=H5 at*;have hT5:=st.tree.Dq (H':=H5) fun b o hb e=>o5 b o (.qr) e;have fl:=am7 zq.ok;rw[.aJ]at fl;(have fml:.sj<=900000:=by unfold fm;rw[ib];omega);have nml:=hnm.1;(have AG:.m8<=1000000:=by show(.Du).length<=_;simp only[ag,show(.n1).length=7 by rw[17],show(aH "tell ").length=5 by rw[17],cF];omega);refine⟨n',nm,g,rfl,zq.ok,hT5.now,.o,fml,hnm.1,fun H6 s6=>⟨cd (gc .iW),rfl,by rw[ib];exact AG,fun H7 FL s7 nFL eFL=>? _⟩⟩;have s57:=s6.trans s7;have p7:=s57 _ _ p5;refine⟨_,_,_,p7,T.gL,T.xT,.gR,? _⟩;have p8:aN H7 p .dr p=some .dr:=ah;have o8:kG p H7 (aN H7 p .dr):=.dp;refine⟨_,_,_,p8,T.gL,T.xT,_,rfl,FL,rfl,? _⟩;show∃x,(cM K (aN H7 p .dr) FL x\/_)/\_;(have FLp:FL≠p:=fun z=>by rw[z]at nFL;rw[s6 _ _ p5]at nFL;cases nFL);have f8:=o8 _ _ FLp eFL;(have n8:∀b,aN H7 p .dr b=none->H7 b=none/\b≠p:=fun b e=>by(have hb:b≠p:=by rw[2];rw[54]);rw[ai hb]at e;exact⟨e,hb⟩);have k58:kG p H5 (aN H7 p .dr):=fun b o hb e=>o8 b o hb (s57 _ _ e);have kH8:kG p H (aN H7 p .dr):=fun b o hb e=>k58 b o hb (o5 b o hb (k4 b o (V2 b o e) (o3 b o hb (s12 _ _ e))));show∃x,(cM K (aN H7 p .dr) FL x\/ig K (aN H7 p .dr) FL x)/\_;refine⟨_,.inl (cM.of f8),.mK⟩;{rw[decide_eq_true_eq,aa,ib]at h5;intro GY nd';have q:match(if jy<.m8 then(.sy:Except gq (iW×.aL))else .ok ((.iW:iW),ss))with|.ok (gm,ss)=>.mf|.error f=>.mg:=q;rw[if_pos .qq]at q;exact q _ GY (kH8.trans (uG (aT.aN nd'))) ah};{rw[decide_eq_true_eq,aa,ib]at h5;have q:match(if jy<.m8 then(.sy:Except gq (iW×.aL))else .ok ((.iW:iW),ss))with|.ok (gm,ss)=>.mf|.error f=>.mg:=q;rw[if_neg .qq]at q;refine⟨_,_,_,p8,T.gL,T.qc,_,rfl,fun cp cx ncp ncx nne=>? _⟩;have hT8:kK K ad (fun b=>.wG) (aN H7 p .dr) n' g:=hT5.Dq fun b o hb e=>k58 b o (.qr) e;obtain⟨aD5,cpp⟩:=n8 _ ncp;obtain⟨aNv,cxp⟩:=n8 _ ncx;show DP K ad [V.ref cp,.eX] (aN (aN (aN H7 p .dr) cx (.own cp)) cp .m9) _ _;have ncp:aN H7 p .dr cp=none:=ncp;have ncx:aN H7 p .dr cx=none:=ncx;have ajz:∀b,b≠p->H7 b=none->H2 b=none:=fun b hb e=>o3.free hb (st.ext.2 b (o5.free hb (s57.free e)));generalize aN H7 p .dr=H8 at*;(have s9:aT H8 (aN .xH cp .m9):=fun b o e=>by rw[ai (aq e ncp),ai (aq e ncx)];exact e);have c9:aN .xH cp .m9 cp=some .m9:=ah;generalize aN .xH cp .m9=H9 at*;have hT9:=hT8.Dq (H':=H9) fun b o _ e=>s9 _ _ e;refine⟨cp,cx,_,n',g,rfl,c9,(fun h=>h.2 (ajz cp cpp aD5)),zq.ok,hT9,fun b hb e=>? _,(fun a ha=>zq.fresh a ha),zq.nd,.o,.o,(fun a _=>by rw[st.tt];rfl),fun Ec n2 u pp wd cdd wk ck k10 nwd ncd hwc aAm hst co nR kn ckl=>? _⟩;{have hbp:b≠p:=.qr;exact hb.2 (ajz b hbp ((s9.free e)|>fun e8=>o8.free hbp e8))};have p10:=k10 _ _ cpp.symm hpn (s9 _ _ p8);refine⟨rfl,_,_,_,p10,T.gL,T.gX,.gV,fun kp nkp=>? _⟩;(have kpp:kp≠p:=by rw[2];rw[ah]at nkp;cases nkp);(have abi:Ec kp=none:=by rw[ai kpp]at nkp;exact nkp);refine⟨_,_,_,(ai kpp.symm).trans ah,T.gL,T.sZ,.vR,? _⟩;show Q V.jD (aN .mj p .kM);(have oF:kG p Ec (aN .mj p .kM):=fun b o hb e=>by rw[ai hb,ai (aq e abi),ai hb];exact e);have pF:aN .mj p .kM p=some .kM:=ah;(have kF:aN .mj p .kM kp=.iL:=by rw[ai kpp,ah]);generalize aN .mj p .kM=HF at*;have k8F:∀b o,b≠p->b∉g.bN->H8 b=.ah->HF b=.ah:=fun b o hb hn e=>oF b o hb (k10 b o (aq e ncp) hn (s9 _ _ e));have k4F:∀b o,b≠p->b∉g.bN->.hN->HF b=.ah:=fun b o hb hn e=>k8F b o hb hn (k58 b o hb (o5 b o hb e));(have F_:∀(Hx:Hp)(m:jd)(b:Addr)(o:HO),bF K ad Hx m g->Hx b=.ah->.DM->b∉g.bN:=fun Hx m b o Vw e h hb=>by obtain⟨_,_,_,_,_,_,_,_,_,eo⟩:=uE zq.ok Vw hb;rw[e]at eo;exact h _ _ _ (aB eo) rfl);have as1:∀b xs,ig K Ec b xs->ig K HF b xs:=fun b xs t=>oF.aEc p10 t;refine q HF ⟨dx,SL,FL,cp,cx,wd,cdd,kp,n2,g,nm,ss,u,pp,wk⟩ ck (.dO) ⟨⟨nR,zq.ok,by show .yK;omega,by show g.ht<=24;omega,by show(yO g).length<=1100;omega⟩,es,fun t ht a p' nm' bs' et=>? _,st.j9,kn,hwc,by show .m8<=4096;omega,(aq co.cd abi).symm,(aq co.wd abi).symm⟩ rfl rfl ⟨pF,? _,⟨as,? _,? _⟩,? _,⟨oF _ _ cpp co.obj,? _,? _,co.wf.imp as1,co.cf.imp as1⟩,kF⟩ ckl;{exact k8F b o hb (V2 b o e) (kH8 b o hb e)};{obtain⟨j,j1,j2⟩:=st.num t ht a p' nm' bs' et;exact⟨j,j1,by show n2.st a=_;rw[hst];exact j2⟩};{exact(aAm.Dq (H':=HF) fun b o hb e=>oF b o (.qr) e).now};{exact k4F SL _ SLp (F_ H4 n' SL _ st.tree.now sl4 (.sz)) sl4};{refine Paired.pZ (fun a s⟨GY,ll,e1,e2⟩=>? _) aE7;rw[Oe];exact⟨GY,ll,k4F a _ (cv e1 p4 (Na (by show 3≠1;decide))) (F_ H4 n' a _ st.tree.now e1 (fun _ _ fs z=>by rw[<-.yJ];show 3≠12;decide)) e1,k4F ll _ (cv e2 p4 .aw) (F_ H4 n' ll _ st.tree.now e2 (.sz)) e2⟩};{exact k8F FL _ FLp (F_ H8 n' FL _ hT8.now f8 (.sz)) f8};{exact oF _ _ (cv co.wd p10 .aw) co.wd};{exact oF _ _ (cv co.cd p10 .aw) co.cd}}}}
end
section
variable{P:Program}{w:World}{K:ae}{mg:Str->Option Value}{base:Heap}{ad:Ad}
structure Gk(u:HO):Prop where
bJ:∀ys,u≠.bJ ys
fL:∀ys,u≠.fL ys
lu:∀o ys,u≠.lu o (.fL ys)
cH:∀C dx fs,u=.cH C dx fs->fs.length=3/\fs.lookup ("calls":Str)≠none
theorem KP{C dx ca:Addr}{i:Int}{g:V}:Gk (.cH C dx (.gx)):=⟨.sA,.sA,fun _ _ z=>(.eo),fun _ _ fs z=>by rw[<-.yJ];exact⟨rfl,by rw[BB];rw[11]⟩⟩
theorem yD{kvs:.az}:Gk .cT:=.tL
section
variable{p:Addr}{u:HO}{H H':Hp}
theorem kG.Eh(h:.fE)(hp:H p=.aP)(hu:Gk u){b:Addr}{xs:.aj}(e:H b=.ff):H' b=.ff:=h b _ (cv e hp fun z=>hu.bJ _ z.symm) e
theorem kG.KO(h:.fE)(hp:H p=.aP)(hu:Gk u){b:Addr}{xs:.aj}(e:ig K H b xs):ig K H' b xs:=by rcases e with(e|⟨ob,e⟩)|e;{exact .inl (.inl (h _ _ (cv e hp fun z=>hu.fL _ z.symm) e))};{exact .inl (.inr ⟨ob,h _ _ (cv e hp fun z=>hu.lu _ _ z.symm) e⟩)};{exact .inr e}
theorem kG.U6(h:.fE)(hp:H p=.aP)(hu:Gk u){b C dx:Addr}{fs:.a7}(e:H b=.cS)(hf:fs.length≠3\/fs.lookup ("calls":Str)=none):H' b=.cS:=h b _ (cv e hp fun z=>by obtain⟨h1,h2⟩:=hu.cH _ _ _ z.symm;rcases hf with hf|hf;{exact hf h1};{exact h2 hf}) e
theorem m9.vn(h:.fE)(hp:H p=.aP)(hu:Gk u){n:jd}{b:Addr}{kind:Str}{ways:.ao}{nQ:Rat}{bq:.bG}{name:aK}{place:Nat}{labels:.bS}{lplaces:.ab}(e:.tr):m9 K ad H' n b kind ways nQ bq name place labels lplaces:=by obtain⟨dx,wl,am,sl,ll,pl,sas,N⟩:=e;exact⟨dx,wl,am,sl,ll,pl,sas,h.U6 hp hu N.obj (.inl (by show 12≠3;decide)),h.Eh hp hu N.ways,h.KO hp hu N.nQ,h.Eh hp hu N.AG,Paired.pZ (fun _ _ e=>h.KO hp hu e) N.Rj,h.Eh hp hu N.nV,h.Eh hp hu N.tT⟩
theorem bF.vn(h:.fE)(hp:H p=.aP)(hu:Gk u){n:jd}:.Ga|.worth _ _,t=>m9.vn h hp hu t|.plus _ _ _,t=>.vg|.lot _ _,t=>.vg|.station _ _ _ _,t=>.vg|.nil,_=>trivial|.way _ _ _,t=>.D0|.branch _ _ _ _,t=>.D0
theorem gz.vn{gp:Addr}{d:GD}{ck kk w9 OV:.az}(G:.cV)(h:.fE)(hp:H p=.aP)(hu:Gk u)(hw:H' d.wd=some (.dK d.wk))(hc:H' d.cd=.k1)(hf:Jt K H' d.pp w9)(hk:H' d.kp=some (.dK OV)):gz K ad H' gp d w9 OV:=by obtain⟨as,h1,h2⟩:=G.D0;exact⟨h.U6 hp hu G.obj .GO,bF.vn h hp hu G.tree,⟨as,h.Eh hp hu h1,Paired.pZ (fun _ _⟨dx,ll,e1,e2⟩=>⟨dx,ll,h.U6 hp hu e1 .k8,h.Eh hp hu e2⟩) h2⟩,h.Eh hp hu G.aa2,⟨h.U6 hp hu G.co.obj .GO,hw,hc,G.co.wf.imp fun _ _ t=>h.KO hp hu t,hf⟩,hk⟩
theorem gz.line{gp C dx ca:Addr}{i:Int}{g:V}{d:GD}{ck kk:.az}(G:.cV)(h:.fE)(hp:H p=some (.cH C dx (.gx))):gz K ad H' gp d ck kk:=by have ne:.GP:=fun{b kvs}e=>h b _ (cv e hp .aw) e;exact G.vn h hp KP (ne G.co.wd) (ne G.co.cd) (G.co.cf.imp fun _ _ t=>h.KO hp KP t) (ne G.ji)
end
def adh(K:ae)(ad:Ad):Sp:=fun vs H Q E=>∃(lp dx ca ta:Addr)(i:Nat)(cs:.J)(g:V)(bs:.ab),vs=[.ref lp,.ref ta]/\.j5/\.E9/\(.nB)/\bs.length<=8192/\match qo .eG with|.ok (gm,ss)=>∀(H':Hp)(r gp:Addr)(d:GD)(ck:.az),.lk->H' lp=some (.cH ad.cX dx (sP ca i (.eF)))->m8 d->d.game=gm->d.ss=ss->gz K ad H' gp d ck []->ck.length<=4097->H' r=some (o6 [1])->.ba|.error f=>∀(H':Hp)(r:Addr),.aq->H' r=some (o6 [0,(f.code:Int),(f.place:Int)])->.ba
theorem ahc(T:.U)(alr:.Ci):.Cj:=by have sc:a9 ["line","text","fault","game"] ["line","text"] (aL Z_):=.af;refine T.aon.dn .aM sc .ae .ag;{obtain⟨lp,dx,ca,ta,i,cs,g,bs,rfl,_⟩:=h;rfl};{obtain⟨lp,dx,ca,ta,i,cs,g,bs,rfl,L,ht,hb,hl,q⟩:=h;refine⟨_,(aj (aoa T.XC rfl rfl rfl sc.nd (i:=2) rfl rfl rfl T.oh (fun xe pn E L=>(aD (bP (i:=3) sc.nd rfl .ai (jj alr .I (L.passes rfl) .a9)))) (fun e=>(aD (ba (eU (af bH (af (show PE _ _ (ado K _ _ _)from V' T.XC T.XC.n1 .ay rfl) (af (show PE _ _ (ado K _ _ _)from V' T.XC T.XC.n2 .ay rfl) ao)))))))) (aj .yn (aD (ba (eU .gh))))),? _⟩;ktd_call vc [avv];intro x xd nx nxd ne;(have sN:aT H (.D1):=fun b o e=>by rw[ai .jn,ai (aq e nxd)];exact e);have eN:aN (aN H xd .ft) x .wH x=some .wH:=ah;generalize .D1=HN at*;have hxl:lp≠x:=aq L.obj nx;refine⟨x,xd,ta,bs,rfl,eN,sN.seq ht,hb,hl,? _⟩;cases er:qo (rC bs)with|ok y=>obtain⟨gm,ss⟩:=y;rw[er]at q;intro H2 d ck o2 ok e1 e2 G l2;have lp2:=o2 _ _ hxl (sN _ _ L.obj);refine⟨rfl,_,_,_,lp2,T.jo,T.jt,.gV,.bg,.lj⟩;rw[ags]at nr|-;have o3:kG lp H2 (aN H2 lp .qs):=.dp;have e3:aN H2 lp .qs lp=some .qs:=ah;generalize aN H2 lp .qs=H3 at*;have sr:aT H3 (aN H3 r .gk):=aT.aN nr;exact q _ r x d ck (fun b o hb e=>sr _ _ (o3 b o hb (o2 b o .jn (sN _ _ e)))) (sr _ _ e3) ok e1 e2 ((G.line o3 lp2).same sr) l2 ah|error f=>rw[er]at q;intro H2 OQ o2 e2;have s2:aT H H2:=fun b o e=>o2 b o .jn (sN _ _ e);refine⟨OQ,rfl,fun σ' y hlen ny=>? _⟩;have hlen:σ'.length=4:=hlen;(have hs2:(σ'.set 2 (some (V.ref y)))[2]?=some (some (V.ref y)):=by rw[oY .C]);have s3:aT H2 (aN H2 y .rR):=aT.aN ny;have e3:aN H2 y .rR y=some .rR:=ah;generalize aN H2 y .rR=H3 at*;refine⟨_,hs2,y,OQ,_,_,rfl,e3,s3 _ _ e2,rfl,_,hs2,y,OQ,_,_,rfl,e3,s3 _ _ e2,rfl,.bg,.lj⟩;exact q _ r (s2.trans (s3.trans .jd)) ah}
end
section
variable{P:Program}{w:World}{K:ae}{mg:Str->Option Value}{base:Heap}{ad:Ad}
inductive Kd:Int->Nat->Prop where|n3:Kd 3 0|n12:Kd 12 0|t11:Kd 11 1|r0:Kd 0 2|r4:Kd 4 2|r5:Kd 5 2|r6:Kd 6 2|e1:Kd 1 3|e2:Kd 2 3|e7:Kd 7 3|e8:Kd 8 3|e9:Kd 9 3|e10:Kd 10 3
def Wq(K:ae)(ad:Ad):Sp:=fun vs H Q _=>∃(lp dx ca:Addr)(i:Nat)(cs:.J)(g:V)(call:Int)(k:Nat),vs=[.ref lp,.int call]/\.j5/\Kd call k/\match k with|0=>.Ah|1=>.Ai|2=>.Aj|_=>.D2
theorem abq(T:.U)(jH:.ps)(qx:.Cg):.Ck:=by have sc:a9 ["line","call"] ["line","call"] (aL Vm):=.af;refine T.ai5.dn .aM sc .ae .ag;{obtain⟨lp,dx,ca,i,cs,g,call,k,rfl,_⟩:=h;rfl};{obtain⟨lp,dx,ca,i,cs,g,call,k,rfl,L,hk,q⟩:=h;refine⟨_,(aj (dG (tU (Dx T.xG T.xD .ak)) (aD (ba (eU (af .Af ao)))) bZ) (aj (dG (tU (Dx T.zM T.zK .ak)) (aD (ba (eU (af .tM (af .tM ao))))) bZ) (aj (dG (PW.pt (QV .GQ (Im (tU (Dx T.xH T.xE .ak))))) (aD (ba (eU (af .tM ao)))) bZ) (aD (ba (eU ao)))))),? _⟩;ktd_call vc [L.obj,T.jo,aoz];(have num:(.Ah)->(.gx).lookup ("take_number":Str)=none/\BW K ad [V.ref lp] H .Cm E0:=fun⟨x,hx,q⟩=>by refine⟨rfl,lp,dx,ca,i,cs,g,x,rfl,L,hx,.bg,.lj⟩;have hr:lp≠r:=aq ah nr;refine q _ r (.dO) ((ai hr).trans ah) ah;have h1:aN H lp .dP b=.ah:=.qt;rw[ai (aq h1 nr)];exact h1);(have one:(.Aj)->.D3/\BX K ad [V.ref lp] H .Cm E0:=fun⟨m,hx,hl,q⟩=>by refine⟨rfl,lp,dx,ca,i,m,cs,g,rfl,L,hx,hl,fun H1 r1 o1 l1 n1 e1=>⟨.bg,.lj⟩⟩;have s2:=(aT.aN (o:=.bJ [V.ref r1]) nr);exact q _ r r1 (fun b o hb e=>s2 _ _ (o1 b o hb e)) (s2 _ _ l1) ah (s2 _ _ e1));(have two:(.Ai)->.D3/\BX K ad [V.ref lp] H (fun x H1=>∃x_1 x_2,H1 lp=some (.cH ad.cX x_1 x_2)/\x_2.lookup ("take_row":Str)=none/\BX K ad [V.ref lp] H1 (fun x_3 H1=>0+1+1<=sizeLine/\∀p,H1 p=none->Q (V.ref p) (aN H1 p (.bJ [x,x_3]))) E0) E0:=fun⟨m1,m2,hx,hl,VG,hl2,q⟩=>by refine⟨rfl,lp,dx,ca,i,m1,cs,g,rfl,L,hx,hl,fun H1 r1 o1 l1 n1 e1=>⟨_,_,l1,rfl,lp,dx,ca,i+1+m1,m2,cs,g,rfl,⟨l1,? _⟩,VG,hl2,fun H2 r2 o2 l2 n2 e2=>⟨.bg,.lj⟩⟩⟩;{rcases L.calls with(h|⟨ob,h⟩)|h;{exact .inl (.inl (o1 _ _ (cv h L.obj .aw) h))};{exact .inl (.inr ⟨ob,o1 _ _ (cv h L.obj .aw) h⟩)};rw[29]};{have s2:=(aT.aN (o:=.bJ [V.ref r1,V.ref r2]) nr);exact q _ r r1 r2 (fun b o hb e=>s2 _ _ (o2 b o hb (o1 b o hb e))) (s2 _ _ l2) ah (s2 _ _ (o2 _ _ (cv e1 l1 .aw) e1)) (s2 _ _ e2)});have jD:(.D2)->0<=sizeLine/\∀p,.bM->Q (V.ref p) (aN H p .bN):=fun q=>⟨bw _,fun r nr=>q _ r .jd ah⟩;cases hk with|n3=>rw[.hy];exact num q|n12=>rw[.hy];exact num q|t11=>rw[.aE,.hy];exact two q|r0=>rw[.aE,.aE,.hy];exact one q|r4=>rw[158]|r5=>rw[158]|r6=>rw[158]|e1=>rw[65]|e2=>rw[65]|e7=>rw[65]|e8=>rw[65]|e9=>rw[65]|e10=>rw[65]}
end
inductive WR:Int->cG->Prop where|c1:WR 1 .shown|c2:WR 2 .sizes|c7:WR 7 .best|c8:WR 8 .worst|c9:WR 9 .free|c10:WR 10 .seen
theorem WR.one{k:Int}{c c':cG}(h:WR k c)(h':WR k c'):c=c':=by cases h<;>cases h'<;>rfl
def Sr(H:Hp)(d:GD)(kk:.az):Prop:=∀k v,j6 kk k=.a4->∃(i:Int)(a:Addr)(c:cG),k=.inl i/\v=.b2/\WR i c/\H a=some (o6 (Eg d c))
section
variable{P:Program}{w:World}{K:ae}{mg:Str->Option Value}{base:Heap}{ad:Ad}
def Rv(K:ae)(ad:Ad):Sp:=fun vs H Q _=>∃(gp:Addr)(d:GD)(ck kk:.az)(k:Int)(c:cG),vs=[.eF,.int k]/\m8 d/\.cV/\Sr H d kk/\WR k c/\kk.length<sizeLine/\∀(H':Hp)(r:Addr)(OV:.az),kG d.kp H H'->H' d.kp=some (.dK OV)->Sr H' d OV->OV.length<=kk.length+1->H' r=some (o6 (Eg d c))->.ba
theorem T6(T:.U)(afs:.B2)(aft:.B3)(alu:.B8)(afu:.B9)(alv:.Cb)(aly:.Cc):.Cn:=by have sc:a9 ["game","call"] ["game","call"] (aL C3):=.af;refine T.Yq.dn .aM sc .ae .ag;{obtain⟨gp,d,ck,kk,k,c,rfl,_⟩:=h;rfl};{obtain⟨gp,d,ck,kk,k,c,rfl,ok,G,hK,hc,hl,q⟩:=h;refine⟨_,(aj (dG (tU (LO .b4 .ak .aG)) (aD (tq .b4 .aG .ak (BM T.Lw T.Ll .ak .a5 .cb) rfl)) bZ) .EZ),? _⟩;ktd_call vc [G.obj,MV,T.gL,T.sZ,Iq,RC,Oo,Jf];refine⟨_,pf.k (k:=.cz) G.ji,? _⟩;rw[28];{(have hn:j6 kk (.cz)=none:=by cases e:j6 kk (.inl k)with|none=>rfl|some v=>rw[e]at h1;cases h1);(have nm:∃x,j7 k [((1:Int),("shown":Str)),(2,"sizes"),(7,"best"),(8,"worst"),(9,"free"),(10,"seen")]=.bu/\∃OV ps,Dn P w K mg base dD x OV ps (DR K ad c)/\kJ OV (A.deeper (envOfC "of_game" (aL C3) s.heap.objs.size f eQ)):=by cases hc with|c1=>exact⟨_,rfl,_,_,afs,.d1⟩|c2=>exact⟨_,rfl,_,_,aft,.d1⟩|c7=>exact⟨_,rfl,_,_,alu,.d1⟩|c8=>exact⟨_,rfl,_,_,afu,.d1⟩|c9=>exact⟨_,rfl,_,_,alv,.d1⟩|c10=>exact⟨_,rfl,_,_,aly,.d1⟩);obtain⟨x,hx,kn,ps,dn,rm⟩:=nm;refine⟨x,hx,_,.yR,gp,d,ck,kk,rfl,ok,G,fun H1 r1 s1 e1=>? _⟩;rw[67];have hrk:r1≠d.kp:=cv e1 G1.ji .aw;have hgk:gp≠d.kp:=cv G1.obj G1.ji .aw;(have ams:j6 (nW kk (.cz) (.ref r1)) (.cz)=some (.ref r1):=by rw[uW,.aJ]);have o2:kG d.kp H1 (aN H1 d.kp (.dK (nW kk (.cz) (.ref r1)))):=.dp;have e2:=o2 _ _ hrk e1;refine⟨_,_,_,G1.obj,T.gL,T.sZ,_,MV,_,rfl,_,Gq.k (k:=.cz) G1.ji hl,_,_,_,o2 _ _ hgk G1.obj,T.gL,T.sZ,_,MV,_,rfl,_,by rw[<-ams];exact pf.k (k:=.cz) ah,? _⟩;refine q _ r1 _ ((uG s1).trans o2) ah (fun k' v' e'=>? _) (BN ..) e2;rw[uW]at e';by_cases Fq:k'=.cz;{rw[if_pos Fq]at e';exact⟨k,r1,c,Fq,(aB e').symm,hc,e2⟩};{rw[if_neg Fq]at e';obtain⟨i,a,c',f1,f2,f3,f4⟩:=hK k' v' e';have f5:=s1 _ _ f4;exact⟨i,a,c',f1,f2,f3,o2 _ _ (cv f5 G1.ji .aw) f5⟩}};{cases e:j6 kk (.inl k)with|none=>rw[e]at h1;exact absurd rfl h1|some v=>obtain⟨i,a,c',f1,rfl,f3,f4⟩:=hK _ _ e;cases f1;obtain rfl:=f3.one hc;exact⟨_,by rw[<-e];exact pf.k (k:=.cz) G.ji,q H a kk (uG .kX) G.ji hK (z6 _) f4⟩}}
inductive Ofp:Int->(List Int->cG)->Prop where|c4:Ofp 4 .worth|c5:Ofp 5 .outcomes|c6:Ofp 6 .spread
def SA(K:ae)(d:GD)(ck:.az)(H:Hp)(Q:VK)(an:.J):Prop:=∀(H':Hp)(r:Addr)(w9:.az),kG d.cd H H'->H' d.cd=.k1->Jt K H' d.pp w9->w9.length<=.i1->H' r=some (o6 an)->.ba
def Wt(K:ae)(ad:Ad):Sp:=fun vs H Q _=>∃(gp pl:Addr)(d:GD)(ck kk:.az)(k:Int),vs=[.eF,.int k,.ref pl]/\m8 d/\.cV/\.i1<sizeLine/\((∃(c:.J->cG)(a:Addr)(l:.J),Ofp k c/\H pl=some (.bJ .fi)/\H a=some (o6 l)/\SA K d ck H Q (Eg d (c l)))\/(∃(a b:Addr)(l m:.J),k=11/\H pl=some (.bJ .hn)/\H a=some (o6 l)/\H b=some (o6 m)/\SA K d ck H Q (.rd)))
theorem afe{d:GD}{l:.J}(h:bI d.ss l=none){k:Int}{c:.J->cG}(hc:Ofp k c):Eg d (c l)=[-5]:=by(have:∀f,dB d.ss l f=oO (-5):=fun f=>by unfold dB;rw[h]);cases hc with|c4=>rw[189]|c5=>rw[189]|c6=>rw[189]
theorem Zt{d:GD}{l m:.J}(h:((bI d.ss l).isSome&&(bI d.ss m).isSome)=false):.rd=[-5]:=by show a_ (dB d.ss l fun p=>dB d.ss m fun q=>_)=_;unfold dB;cases e1:bI d.ss l with|none=>rfl|some p=>cases e2:bI d.ss m with|none=>rfl|some q=>rw[e1,e2]at h;cases h
theorem HX(T:.U)(Py:.Bp)(FY:.DY)(SY:.B6)(Z0:.B5)(afo:.B7):.Co:=by have sc:a9 ["game","call","policies","choices"] ["game","call","policies"] (aL tR):=.af;refine T.Km.dn .lW sc .ae .ag;{obtain⟨gp,pl,d,ck,kk,k,rfl,_⟩:=h;rfl};{obtain⟨gp,pl,d,ck,kk,k,rfl,ok,G,hck,h⟩:=h;refine⟨_,(aj (dG (DC (km (bT (SS rfl) rfl T.ZE SN (af (wu rfl sc.nd (iL .ay) (own:=[("choices",3)]) .ck .o4 .cu (fun _ _ _ _ _=>(bx Py .I bQ (af .bq (af .j3 ao))))) ao)))) (aD (ba (eU (af (dI T.P_) ao)))) bZ) (aj (dG (tU (Dx T.xH T.xE .ak)) (aD (ba (BM T.xH T.xE .ak .a5 (af .au .pw)))) bZ) (aD (ba (BM T.zM T.zK .ak .a5 (af .au (af (eZ j' .ay bH .a5) .pw))))))),? _⟩;(obtain⟨rs,tZ,hrs,hlen,asr⟩:∃rs:List (Addr×.J),H pl=some (.bJ (rs.map fun x=>V.ref x.1))/\(∀x∈rs,H x.1=some (o6 x.2))/\rs.length<=8/\((∃c a l,Ofp k c/\rs=[(a,l)]/\SA K d ck H Q (Eg d (c l)))\/∃a b l m,k=11/\rs=[(a,l),(b,m)]/\SA K d ck H Q (.rd)):=by rcases h with⟨c,a,l,hc,h1,h2,h3⟩|⟨a,b,l,m,hc,h1,h2,h3,h4⟩;{refine⟨[(a,l)],h1,.fk,(show 1<=8 by decide),.inl ⟨c,a,l,hc,rfl,h3⟩⟩;rw[aA.mp hx];exact h2};{refine⟨[(a,l),(b,m)],h1,.fk,(show 2<=8 by decide),.inr ⟨a,b,l,m,hc,rfl,h4⟩⟩;rw[190];{exact h2};{rw[aA.mp hx];exact h3}});rw[1];refine⟨_,rfl,pl,rfl,⟨_,cM.of tZ⟩,fun D nD=>oj (K:=K) (a:=pl) (xs:=rs.map fun x=>V.ref x.1) (fun i H'=>.aq/\H' D=some (.bJ (((rs.take i).map fun x=>(bI d.ss x.2).isSome).map V.bl))) ⟨.gF,ah⟩ (fun i H' _ h=>cM.of (h.1 _ _ tZ)) (fun i v H' hv h=>? _) fun H1 h=>? _⟩;{obtain⟨s1,e1⟩:=h;rw[119];have hi:i<rs.length:=(ay.mp hx).1;rw[67];show gy 3 _ _ _ _;ktd_call vc [fU,vQ,G1.obj,jX,T.gL,T.fW];refine⟨x.1,d.SL,x.2,d.ss,rfl,cM.of (s1 _ _ (hrs x (aE hx))),G1.Ux,ok.j9,fun H2 s2=>? _⟩;refine⟨_,s2 _ _ e1,by rw[aa,aa,be,sizeLine_eq];omega,.cM,? _⟩;{rw[35];exact s2 _ _ (s1 _ _ e)};{rw[ah,a8,hx,aG,aG];rfl}};{obtain⟨s1,e1⟩:=h;rw[aa,bf]at e1;rw[67];refine⟨D,_,rfl,cM.of e1,_,rfl,? _⟩;(have pq:∀{an:.J}{H':Hp}{r:Addr},SA K d ck H Q an->.aq->H' r=some (o6 an)->.ba:=fun{an H' r}p s e=>by obtain⟨k1,k2,k3,k4⟩:=Hz (r:=r) G s;exact p H' r ck k1 k2 k3 k4 e);have pq1:∀{an:.J},SA K d ck H Q an->SA K d ck H1 Q an:=fun{an}p H' r w9 a1 a2 a3 a4 a5=>p H' r w9 ((uG s1).trans a1) a2 a3 a4 a5;rcases asr with⟨c,a,l,hc,rfl,hq⟩|⟨a,b,l,m,rfl,rfl,hq⟩;{cases hp:bI d.ss l with|none=>rw[afe hp hc]at hq;rw[if_pos (by simp[hp])];refine .GR|some p=>rw[if_neg (by simp[hp])];have ha:=s1 _ _ (hrs _ .mL);(have nm:∃x,j7 k [((4:Int),.nW),(5,"outcomes"),(6,"spread")]=.bu/\(([((4:Int),.nW),(5,"outcomes"),(6,"spread")].map .aX).contains k)=true/\∃OV ps,Dn P w K mg base dD x OV ps (IT K ad c)/\kJ OV (A.deeper (envOfC "of_policies" (aL tR) s.heap.objs.size f eQ)):=by cases hc with|c4=>exact⟨_,rfl,rfl,_,_,FY,.d1⟩|c5=>exact⟨_,rfl,rfl,_,_,SY,.d1⟩|c6=>exact⟨_,rfl,rfl,_,_,Z0,.d1⟩);obtain⟨x,hx,Y2,kn,ps,dn,rm⟩:=nm;refine⟨_,rfl,k,rfl,_,rfl,? _⟩;rw[if_pos Y2];ktd_call vc [Jf];exact⟨x,hx,_,.yR,_,.yS,_,.hA,gp,a,d,ck,kk,l,p,rfl,ok,G1,cM.of ha,hp,hck,pq1 hq⟩};{cases hb:((bI d.ss l).isSome&&(bI d.ss m).isSome)with|false=>rw[Zt hb]at hq;rw[if_pos (by simp only[aO,eX,jE,apd,id,OJ,hb,aj8])];refine .GR|true=>rw[if_neg (by simp only[aO,eX,jE,apd,id,OJ,hb,nt];decide)];obtain⟨hb1,hb2⟩:=zu.mp hb;obtain⟨p,hp⟩:=iS.mp hb1;obtain⟨p',hp'⟩:=iS.mp hb2;have ha:=s1 _ _ (hrs (a,l) .aK);have YZ:=s1 _ _ (hrs (b,m) (ak _ .mL));refine⟨_,rfl,11,rfl,_,rfl,? _⟩;rw[.aE];ktd_call vc [Jf];exact⟨_,rfl,_,⟨5,_,afo,.d1⟩,_,.yS,_,.hA,_,.yS,_,.sx,gp,a,b,d,ck,kk,l,m,p,p',rfl,ok,G1,cM.of ha,cM.of YZ,hp,hp',fun H' r s' e'=>pq hq (s1.trans s') e'⟩}}}
end
inductive Ofn:Int->(Int->cG)->Prop where|c3:Ofn 3 .station|c12:Ofn 12 .policy
inductive CM(cs:List Int)(i:Nat):Nat->cG->Prop where|num{call x:Int}{c:Int->cG}(h0:cs[i]?=some call)(hc:Ofn call c)(h1:cs[i+1]?=some x):CM cs i (i+1+1) (c x)|two{m1 m2:Nat}(h0:cs[i]?=some 11)(h1:cs[i+1]?=some (m1:Int))(l1:i+1+1+m1<=cs.length)(h2:cs[i+1+1+m1]?=some (m2:Int))(l2:i+1+1+m1+1+m2<=cs.length):CM cs i (i+1+1+m1+1+m2) (.above ((cs.drop (i+1+1)).take m1) ((cs.drop (i+1+1+m1+1)).take m2))|Ye{call:Int}{c:List Int->cG}{m:Nat}(h0:cs[i]?=some call)(hc:Ofp call c)(h1:cs[i+1]?=some (m:Int))(l1:i+1+1+m<=cs.length):CM cs i (i+1+1+m) (c ((cs.drop (i+1+1)).take m))|load{m:Nat}{bs:List Nat}(h0:cs[i]?=some 0)(h1:cs[i+1]?=some (m:Int))(l1:i+1+1+m<=cs.length)(hb:(cs.drop (i+1+1)).take m=bs.map fun b:Nat=>(b:Int))(h2:∀b∈bs,b<256)(h3:bs.length<=8192):CM cs i (i+1+1+m) (.load (rC bs))|jD{call:Int}{c:cG}(h0:cs[i]?=some call)(hc:WR call c):CM cs i (i+1) c
def KpN(lp:Addr)(H H':Hp):Prop:=∀b o,b≠lp->(∀kvs,o≠.dK kvs)->.fR
theorem KpN.trans{lp:Addr}{H H1 H2:Hp}(h:KpN lp H H1)(k:KpN lp H1 H2):KpN lp H H2:=fun b o hb ho e=>k b o hb ho (h b o hb ho e)
theorem VR{lp:Addr}{H H':Hp}(h:.lk):KpN lp H H':=fun b o hb _ e=>h b o hb e
theorem Ts{lp a:Addr}{kvs:.az}{H H':Hp}(h:kG a H H')(ha:H a=.ei):KpN lp H H':=fun b o _ ho e=>h b o (cv e ha (ho _)) e
section
variable{P:Program}{w:World}{K:ae}{mg:Str->Option Value}{base:Heap}{ad:Ad}
def kI(K:ae)(ad:Ad)(H:Hp)(g:V)(x:.nc)(N:Nat):Prop:=match x with|none=>g=.jD|some y=>∃(gp:Addr)(d:GD)(ck kk:.az),g=.eF/\m8 d/\d.game=y.1/\d.ss=y.2/\.cV/\Sr H d kk/\ck.length<=4097+1100*N/\kk.length<=N
def LSt(K:ae)(ad:Ad)(H:Hp)(lp dx ca:Addr)(i:Nat)(cs:.J)(st:vY)(N:Nat):Prop:=∃g,.j5/\kI K ad H g st.game N
theorem cM.Dq{p C dx:Addr}{fs:.a7}{H H':Hp}{a:Addr}{xs:.aj}(h:.bZ)(o:.fE)(hp:H p=.cS):cM K H' a xs:=by rw[118];{exact .inl (.inl (o _ _ (cv h hp .aw) h))};{exact .inl (.inr ⟨ob,o _ _ (cv h hp .aw) h⟩)};rw[29]
theorem kI.line{lp C dx ca:Addr}{i:Int}{g g':V}{H H':Hp}{x:.nc}{N:Nat}(h:.rS)(o:.lk)(hp:H lp=some (.cH C dx (sP ca i g'))):kI K ad H' g x N:=by cases x with|none=>exact h|some y=>rw[102];refine⟨gp,d,ck,kk,h1,h2,h3,h4,h5.line o hp,fun k v e=>? _,h7,h8⟩;obtain⟨i,a,c,f1,f2,f3,f4⟩:=h6 k v e;exact⟨i,a,c,f1,f2,f3,o _ _ (cv f4 hp .aw) f4⟩
theorem kI.same{g:V}{H H':Hp}{x:.nc}{N:Nat}(h:.rS)(s:.aq):kI K ad H' g x N:=by cases x with|none=>exact h|some y=>rw[102];refine⟨gp,d,ck,kk,h1,h2,h3,h4,h5.same s,fun k v e=>? _,h7,h8⟩;obtain⟨i,a,c,f1,f2,f3,f4⟩:=h6 k v e;exact⟨i,a,c,f1,f2,f3,s _ _ f4⟩
theorem kI.aI{g:V}{H:Hp}{x:.nc}{N:Nat}(h:.rS):kI K ad H g x (N+1):=by cases x with|none=>exact h|some y=>rw[102];exact⟨gp,d,ck,kk,h1,h2,h3,h4,h5,h6,.o,.o⟩
theorem uN{st:vY}{k:cG}(hk:∀b,k≠.load b):dZ st k=match st.game with|none=>(st,oO (-1))|some x=>(st,pT x.1 x.2 k):=by obtain⟨g⟩:=st;cases g with|none=>(cases k<;>first|rfl|exact absurd rfl (hk _))|some x=>cases k<;>first|rfl|exact absurd rfl (hk _)
def Ro(K:ae)(ad:Ad):Sp:=fun vs H Q _=>∃(lp dx ca:Addr)(i j:Nat)(cs:.J)(st:vY)(N:Nat)(k:cG),vs=[.ref lp]/\LSt K ad H lp dx ca i cs st N/\CM cs i j k/\N<=400/\.Ak
theorem XY(T:.U)(jH:.ps)(afp:.Ck)(alx:.Cj)(Xe:.Cn)(JX:.Co)(Xh:.B4)(ZZ:.Ca):.D4:=by have sc:a9 ["line","call","asked"] ["line"] (aL G'):=.af;refine T.acz.dn .aO sc .ae .ag;{obtain⟨lp,dx,ca,i,j,cs,st,N,k,rfl,_⟩:=h;rfl};{obtain⟨lp,dx,ca,i,j,cs,st,N,k,rfl,⟨g,L,hh⟩,hk,hN,q⟩:=h;refine⟨_,(aj .Ag (aj (bP (i:=2) sc.nd rfl .ai (bx afp .I bQ .fU)) (aj (dG .GQ (aD (ba (bx alx .I bQ (af .au .pw)))) bZ) (aj (dG (tU (ao3 .aG)) (aD (ba (eU (af (dI T.Xp) ao)))) bZ) (aj (dG (tU (Dx T.Lw T.Ll .ak)) (aD (ba (bx Xe .I bQ .il))) bZ) (aj (dG (tU (Dx T.xG T.xD .ak)) (aD (ba (BM T.xG T.xD .ak .a5 (af .aG .pw)))) bZ) (aD (ba (bx JX .I bQ (af .aG .rL)))))))))),? _⟩;ktd_call vc [L.obj,T.jo,aoz,Jf];have o1:∀o,kG lp H (aN H lp o):=fun _ b o hb e=>.qt;have L1:tH K ad (aN H lp .dP) lp dx ca .aH cs g:=⟨ah,.xG⟩;have h1:kI K ad (aN H lp .dP) g st.game N:=hh.line (o1 _) L.obj;have k1:=o1 .dP;clear o1;obtain⟨H1,hH1⟩:∃H1,H1=aN H lp .dP:=.aU;rw[<-hH1]at L1 h1 k1;have fin:∀{H2:Hp}{j:Nat},kG lp H1 H2->.Fb->tH K ad H2 lp dx ca j cs g/\kI K ad H2 g st.game N/\KpN lp H H2:=fun{H2 j}o2 l2=>⟨⟨l2,cM.Dq L1.calls o2 L1.obj⟩,h1.line o2 L1.obj,VR (k1.trans o2)⟩;(have Rz:∀{H2 H':Hp}{j:Nat}{r:Addr}{k:cG}(hk:∀b,k≠.load b)(q:.Ak),kG lp H1 H2->.Fb->aT H2 H'->H' r=some (o6 (.i3))->.ba:=fun{H2 H' j r k}hk q o2 l2 s e=>by obtain⟨f1,f2,f3⟩:=fin o2 l2;refine q H' r (f3.trans (VR (uG s))) ⟨g,⟨s _ _ f1.obj,s.seq f1.calls⟩,? _⟩ e;(have:.ov=st:=by rw[uN hk];cases st.game<;>rfl);rw[this];exact(f2.same s).aI);cases hk with|load h0 hx l1 hb h2 h3=>(rename_i m bs;refine⟨rfl,lp,dx,ca,i,cs,g,0,rfl,L,h0,? _⟩;rw[<-hH1];refine⟨lp,dx,ca,i+1,cs,g,0,2,rfl,L1,.r0,m,hx,l1,fun H2 r2 a2 o2 l2 e2 f2=>? _⟩;rw[180];rw[.hy];rw[hb]at f2;refine⟨r2,rfl,_,cM.of e2,_,.hA,lp,dx,ca,a2,_,cs,g,bs,rfl,f1,cM.of (by rw[f2,o6,aQ];rfl),h2,h3,? _⟩;(have hs:dZ st (.load .eG)=match qo .eG with|.ok x=>({game:=some x},{value:=1})|.error f=>(st,{value:=0,rest:=[(f.code:Int),(f.place:Int)]}):=by cases st;rfl);cases er:qo (rC bs)with|ok y=>obtain⟨gm,ss⟩:=y;rw[er]at hs;intro H3 r3 gp d ck o3 l3 ok e3 e4 G l4 e5;rw[hs]at q;exact q H3 r3 (f3.trans (VR o3)) ⟨_,⟨l3,cM.Dq f1.calls o3 f1.obj⟩,gp,d,ck,[],rfl,ok,e3,e4,G,(fun k v z=>.eo),.o,bw _⟩ e5|error f=>rw[er]at hs;intro H3 r3 s3 e3;rw[hs]at q;exact q H3 r3 (f3.trans (VR (uG s3))) ⟨g,⟨s3 _ _ f1.obj,s3.seq f1.calls⟩,(fh.same s3).aI⟩ e3)|jD h0 hc=>(rename_i call;have Y3:∀b,k≠.load b:=.vh;have hkd:Kd call 3:=.vi;have hc0:call≠0:=.g9;have Y2:.xI:=.g9;rw[159];refine⟨lp,dx,ca,i+1,cs,g,call,3,rfl,L1,hkd,fun H2 r2 s2 e2=>? _⟩;have o2:kG lp H1 H2:=uG s2;have l2:=s2 _ _ L1.obj;rw[160];cases hg:st.game with|none=>rw[124]|some y=>rw[103];refine⟨call,rfl,? _⟩;rw[if_pos Y2];refine⟨_,_,_,l2,T.jo,T.jt,_,sX,gp,d,ck,kk,call,k,by rw[g1],g2,g5,g6,hc,.cQ,fun H3 r3 OV o3 e3 K3 l3 e5=>? _⟩;have Xu:lp≠d.kp:=cv l2 g5.ji .aw;have G3:gz K ad H3 gp d ck OV:=g5.vn o3 g5.ji yD (o3 _ _ g2.kw.symm g5.co.wd) (o3 _ _ g2.kc.symm g5.co.cd) (g5.co.cf.imp fun _ _ t=>o3.KO g5.ji yD t) e3;rw[hs]at q;refine q H3 r3 (f3.trans (Ts o3 g5.ji)) .GS (by rw[e5,<-g3,<-g4]);{rcases f1.calls with(h|⟨ob,h⟩)|h;{exact .inl (.inl (o3 _ _ (cv h g5.ji .aw) h))};{exact .inl (.inr ⟨ob,o3 _ _ (cv h g5.ji .aw) h⟩)};rw[29]};{show kI K ad H3 g st.game (N+1);rw[hg];exact⟨gp,d,ck,OV,g1,g2,g3,g4,G3,K3,.o,.o⟩})|num h0 hc hx=>(rename_i call x c;have Y3:∀b,c x≠.load b:=.vh;have hkd:Kd call 0:=.vi;have hc0:call≠0:=.g9;have hni:¬.xI:=.g9;have Y2:.GU:=.g9;(have nm:∃y,j7 call [((3:Int),.hr),(12,"policy")]=some y/\∃OV ps,Dn P w K mg base dD y OV ps (Ru K ad c)/\kJ OV (A.deeper (envOfC "answer" (aL G') s.heap.objs.size f eQ)):=by cases hc with|c3=>exact⟨_,rfl,_,_,Xh,.d1⟩|c12=>exact⟨_,rfl,_,_,ZZ,.d1⟩);rw[159];refine⟨lp,dx,ca,i+1,cs,g,call,0,rfl,L1,hkd,x,hx,fun H2 r2 o2 l2 e2=>? _⟩;rw[160];cases hg:st.game with|none=>rw[124]|some y=>rw[103];refine⟨call,rfl,? _⟩;rw[if_neg hni];refine⟨call,rfl,? _⟩;rw[if_pos Y2];obtain⟨y',hy,kn,ps,dn,rm⟩:=nm;refine⟨call,rfl,y',hy,_,.yR,_,_,_,l2,T.jo,T.jt,_,sX,r2,rfl,_,cM.of e2,_,.hA,gp,d,ck,kk,x,by rw[g1],g2,g5,fun H3 r3 s3 e3=>Rz Y3 q o2 l2 s3 ? _⟩;rw[e3,hs,<-g3,<-g4])|two h0 hx l1 VG l2'=>(rename_i m1 m2;have Y3:∀b,azk ((cs.drop (i+1+1)).take m1) ((cs.drop (i+1+1+m1+1)).take m2)≠.load b:=fun b z=>.eo;refine⟨rfl,lp,dx,ca,i,cs,g,11,rfl,L,h0,? _⟩;rw[<-hH1];refine⟨lp,dx,ca,i+1,cs,g,11,1,rfl,L1,.t11,m1,m2,hx,l1,VG,l2',fun H2 r2 a2 b2 o2 l2 e2 ea eb=>? _⟩;rw[180];rw[.aE];rw[351];cases hg:st.game with|none=>rw[124]|some y=>rw[103];refine⟨11,rfl,? _⟩;rw[.aE];refine⟨11,rfl,? _⟩;rw[.aE];refine⟨_,_,_,l2,T.jo,T.jt,_,sX,gp,r2,d,ck,kk,11,by rw[g1],g2,g5,.cQ,.inr ⟨a2,b2,_,_,rfl,e2,ea,eb,fun H3 r3 w9 o3 e3 f4 l3 e5=>? _⟩⟩;rw[255])|Ye h0 hc hx l1=>rename_i call c m;have Y3:∀b,c ((cs.drop (i+1+1)).take m)≠.load b:=.vh;have hkd:Kd call 2:=.vi;have hc0:call≠0:=.g9;have hni:¬.xI:=.g9;have hnn:¬.GU:=.g9;rw[159];refine⟨lp,dx,ca,i+1,cs,g,call,2,rfl,L1,hkd,m,hx,l1,fun H2 r2 a2 o2 l2 e2 ea=>? _⟩;rw[160];cases hg:st.game with|none=>rw[124]|some y=>rw[103];refine⟨call,rfl,? _⟩;rw[if_neg hni];refine⟨call,rfl,? _⟩;rw[if_neg hnn];refine⟨_,_,_,l2,T.jo,T.jt,_,sX,gp,r2,d,ck,kk,call,by rw[g1],g2,g5,.cQ,.inl ⟨c,a2,_,hc,e2,ea,fun H3 r3 w9 o3 e3 f4 l3 e5=>? _⟩⟩;rw[255]}
end
inductive GA(cs:List Int):Nat->List cG->Prop where|nil:GA cs cs.length []|cons{i j:Nat}{k:cG}{ks:List cG}(h:CM cs i j k)(r:GA cs j ks):GA cs i (k::ks)
def FC:vY->List cG->.je|_,[]=>[]|s,k::ks=>a_ (dZ s k).2::FC (dZ s k).1 ks
theorem CM.lt{cs:.J}{i j:Nat}{k:cG}(h:CM cs i j k):i<cs.length:=by cases h with|num h0 _ _=>exact(ay.mp h0).1|two h0 _ _ _ _=>exact(ay.mp h0).1|Ye h0 _ _ _=>exact(ay.mp h0).1|load h0 _ _ _ _ _=>exact(ay.mp h0).1|jD h0 _=>exact(ay.mp h0).1
theorem D6(l:.je)(a:.J):cY (l++[a])=cY l++((a.length:Int)::a):=by unfold cY;rw[cJ];simp
section
variable{P:Program}{w:World}{K:ae}{mg:Str->Option Value}{base:Heap}{ad:Ad}
def yU(K:ae):Sp:=fun vs H Q _=>∃(ca:Addr)(cs:.J)(ks:List cG),vs=[.ref ca]/\cM K H ca .rQ/\GA cs 0 ks/\ks.length<=400/\(.hB).length<=10000000/\∀(H':Hp)(r:Addr),H' r=some (o6 (.hB))->.ba
theorem ZD{x:Addr}:Gk .ft:=.tL
theorem ZC{o:Obj}{xs:.aj}:Gk (.lu o (.bJ xs)):=.tL
theorem kI.mask{a:Addr}{u:HO}{g:V}{H H':Hp}{x:.nc}{N:Nat}(h:.rS)(o:kG a H H')(ha:H a=.aP)(hu:Gk u)(hd:∀kvs,u≠.dK kvs):kI K ad H' g x N:=by cases x with|none=>exact h|some y=>rw[102];have ne:.GP:=fun{b kvs}e=>o b _ (cv e ha fun z=>hd _ z.symm) e;refine⟨gp,d,ck,kk,h1,h2,h3,h4,h5.vn o ha hu (ne h5.co.wd) (ne h5.co.cd) (h5.co.cf.imp fun _ _ t=>o.KO ha hu t) (ne h5.ji),fun k v e=>? _,h7,h8⟩;obtain⟨i,b,c,f1,f2,f3,f4⟩:=h6 k v e;exact⟨i,b,c,f1,f2,f3,o.Eh ha hu f4⟩
theorem TX(T:.U)(als:.Ce)(MA:.Cf)(nA:.md)(ZX:.D4):∀{f:Addr}{fd:FuncData},.GV->.D5:=by intro f fd F;have sc:a9 ["calls","line","told"] ["calls"] (aL yK):=.af;refine F.ok sc .ae fun eQ A aY s H vs Q E hr h=>? _;{obtain⟨ca,cs,ks,rfl,_⟩:=h;rfl};{obtain⟨ca,cs,ks,rfl,hc,hp,hk,hl,q⟩:=h;refine⟨_,(aj (bP (i:=1) sc.nd rfl .ai (jj als .I bQ .cb)) (aj .oR (aj (lW PassesOwn.never (DC (km (eG .ak T.jo MA .I bQ))) (aD (dO (mW bj mL mM Dg .ay (af (bx nA .I bQ (af (V9 (bx ZX .I bQ .a9)) ao)) ao))))) .fb))),? _⟩;rw[1];intro lp dx nlp ndx ne;(have s1:aT H (aN .xJ lp .m7):=fun b o e=>by rw[ai (aq e nlp),ai (aq e ndx)];exact e);have e1:aN .xJ lp .m7 lp=some .m7:=ah;generalize aN .xJ lp .m7=H1 at*;refine⟨lp,dx,ca,rfl,e1,rfl,bw _,fun TL nTL=>? _⟩;have Ln:tH K ad (.vj) lp dx ca 0 cs .jD:=⟨ah,cM.Eb e1 (s1.seq hc)⟩;have k2:kG lp H1 (.vj):=.dp;generalize .vj=H2 at*;have s3:aT H2 (aN H2 TL .bN):=aT.aN nTL;have e3:aN H2 TL .bN TL=some (o6 (cY [])):=ah;generalize aN H2 TL .bN=H3 at*;have hTl:TL≠lp:=(aq Ln.obj nTL).symm;(have hca:∀{Ha Hb:Hp},kG TL Ha Hb->cM K Ha ca .rQ->cM K Hb ca .rQ:=fun{Ha Hb}o h=>by rcases hc with hc|hc;{(have mi:ca≠TL:=by(have hH:H ca≠none:=by rcases hc with e|⟨_,e⟩;{rw[e];rw[11]};{rw[e];rw[11]});rw[2];refine hH (s1.free ? _);cases e:H1 ca with|none=>rfl|some u=>rw[k2 _ _ hTl e]at nTL;cases nTL);rw[118];{exact .inl (.inl (o _ _ mi h))};{exact .inl (.inr ⟨ob,o _ _ mi h⟩)};rw[29]};{exact .inr hc});refine⟨fun m σ Hc=>∃(i N:Nat)(st:vY)(done:.je)(rem:List cG)(g:V),m=rem.length/\σ=[some (.ref ca),some (.ref lp),some (.ref TL)]/\tH K ad Hc lp dx ca i cs g/\kI K ad (aN Hc TL (.own 0)) g st.game N/\GA cs i rem/\N+rem.length<=400/\Hc TL=some (o6 (cY done))/\cY done++cY (FC st rem)=.hB,⟨_,0,0,kT,[],ks,.jD,rfl,rfl,⟨s3 _ _ Ln.obj,s3.seq Ln.calls⟩,rfl,hp,.o,e3,rfl⟩,? _⟩;rintro m σ Hc⟨i,N,st,done,rem,g,rfl,rfl,L,hh,pl,hN,eT,hd⟩;ktd_call vc [L.obj,T.jo];refine⟨rfl,lp,dx,ca,i,cs,g,rfl,L,_,rfl,? _⟩;cases pl with|nil=>rw[if_neg (by rw[.qZ];decide)];have hd:cY done++[]=.hB:=hd;rw[bM]at hd;exact q Hc TL (by rw[<-hd];exact eT)|cons ha pr=>rename_i j k rem;have hi:=ha.lt;rw[if_pos (by rw[.lG];rfl)];refine⟨_,fun _ _ h=>h,.inl ⟨rfl,_,cM.of eT⟩,TL,_,eT,trivial,fun od=>? _⟩;have oL:kG TL Hc (.vl):=.dp;(have oL':kG TL (aN Hc TL (.own 0)) (.vl):=fun b o hb e=>by rw[ai hb]at e|-;exact e);have tL:aN Hc TL .vk TL=some .vk:=ah;have hL:=hh.mask oL' ah ZD .ir;have lL:=oL _ _ hTl.symm L.obj;have cL:=hca oL L.calls;generalize .vl=HL at*;refine⟨_,rfl,lp,dx,ca,i,j,cs,st,N,k,rfl,⟨g,⟨lL,cL⟩,hL⟩,ha,by rw[aw]at hN;omega,fun H4 r4 k4 ls4 e4=>? _⟩;have t4:=k4 _ _ hTl .ir tL;refine⟨t4,? _⟩;have hr4:r4≠TL:=cv e4 t4 .aw;(have hd2:cY (done++[.i3])++cY (FC .ov rem)=.hB:=by rw[D6,eC];exact hd);have hlen:=congrArg jF hd2;rw[ag,D6,ag,aw]at hlen;refine⟨r4,_,rfl,(ai hr4).trans e4,.cQ,fun H5 r5 s5 n5 e5=>? _⟩;have t5:=s5 _ _ ah;have o5:kG TL H4 H5:=fun b o hb e=>s5 _ _ ((ai hb).trans e);(have e6:aN H5 TL (.bJ ((cY done).map V.int++(((.i3).length:Int)::.i3).map V.int)) TL=some (o6 (cY (done++[.i3]))):=by rw[ah,D6,o6,aG]);obtain⟨g',L',hh'⟩:=ls4;refine⟨r5,rfl,_,t5,_,e5,by rw[aa,aa,aw,sizeLine_eq];omega,rem.length,.wL,j,N+1,.ov,_,rem,rfl,rfl,g',⟨? _,? _⟩,? _,pr,by rw[aw]at hN;omega,e6,hd2⟩;{rw[ai hTl.symm];exact o5 _ _ hTl.symm L'.obj};{exact hca .D6 L'.calls};{rw[gJ];exact hh'.mask .D6 t4 ZC .ir}}
end
theorem ML{cs:.J}{i:Nat}{x:Int}{r:.J}(h:cs.drop i=x::r):cs[i]?=.bu/\.i2=r/\i+1+r.length=cs.length:=by(have h1:i<cs.length:=by rcases hZ i cs.length with z|z;{exact z};{rw[kZ z]at h;cases h});rw[fz h1]at h;obtain⟨rfl,rfl⟩:=du h;refine⟨aV h1,rfl,? _⟩;rw[d_];omega
theorem acq{cs:.J}{i:Nat}{x t:.J}(h:AV .jf=some (x,t)):∃m:Nat,.rf/\.rg/\x=.qp/\t=cs.drop (i+1+m):=by cases e:cs.drop i with|nil=>rw[30]|cons n r=>rw[e]at h;obtain⟨h1,h2,h3⟩:=ML e;have h:(if 0<=n/\n.toNat<=r.length then some (r.take n.toNat,r.drop n.toNat)else none)=some (x,t):=h;rw[4];{next hn=>rw[52];refine⟨n.toNat,by rw[h1,AZ hn.1],.o,by rw[h2],? _⟩;rw[<-h2,sM]};{cases h}
theorem acs{cs:.J}{i:Nat}{xs:.je}{t:.J}(h:md 1 .jf=some (xs,t)):∃m:Nat,.rf/\.rg/\xs=[.qp]/\t=cs.drop (i+1+m):=by(have h:(match AV .jf with|none=>none|some (x,s)=>some ([x],s))=some (xs,t):=by unfold md at h;cases e:AV (cs.drop i)with|none=>rw[30]|some y=>rw[e]at h;exact h);cases e:AV (cs.drop i)with|none=>rw[30]|some y=>obtain⟨x,s⟩:=y;rw[e]at h;rw[52];obtain⟨m,h1,h2,rfl,rfl⟩:=acq e;exact⟨m,h1,h2,rfl,rfl⟩
theorem ave{cs:.J}{i:Nat}{xs:.je}{t:.J}(h:md 2 .jf=some (xs,t)):∃m1 m2:Nat,cs[i]?=some (m1:Int)/\i+1+m1<=cs.length/\cs[i+1+m1]?=some (m2:Int)/\i+1+m1+1+m2<=cs.length/\xs=[(.i2).take m1,(cs.drop (i+1+m1+1)).take m2]/\t=cs.drop (i+1+m1+1+m2):=by unfold md at h;cases e:AV (cs.drop i)with|none=>rw[30]|some y=>obtain⟨x,s⟩:=y;rw[e]at h;obtain⟨m1,h1,h2,rfl,rfl⟩:=acq e;rw[21];cases e2:md 1 (cs.drop (i+1+m1))with|none=>rw[e2]at h;cases h|some z=>obtain⟨ys,t'⟩:=z;rw[e2]at h;obtain⟨m2,g1,g2,rfl,rfl⟩:=acs e2;rw[52];exact⟨m1,m2,h1,h2,g1,g2,rfl,rfl⟩
theorem W8{cs:.J}{i:Nat}{c:.je}{t:.J}(h:Sd eM .jf=some (c,t))(ha:GF (fB c)=true):.px:=by cases e:cs.drop i with|nil=>rw[30]|cons p r=>rw[e]at h;obtain⟨h0,hr,hl⟩:=ML e;subst hr;have h:(match eM p with|none=>none|some (n,k)=>if(.i2).length<n then none else match md k ((.i2).drop n)with|none=>none|some (xs,t)=>some ((p::(.i2).take n)::xs,t))=some (c,t):=h;(have si:∀{q:Int}{k:cG},p=q->WR q k->eM q=some (0,0)->ik (fB [[q]])=.dG->.px:=fun{q k}e1 hk hs hw=>by subst e1;rw[hs]at h;simp only[lF,if_false]at h;rw[52];exact⟨i+1,k,.jD h0 hk,rfl,hw⟩);(have auv:∀{q:Int}{f:Int->cG},p=q->Ofn q f->eM q=some (1,0)->(∀x,ik (fB [[q,x]])=some (f x))->.px:=fun{q f}e1 hk hs hw=>by subst e1;rw[hs]at h;rw[21];rw[10];{next hlen=>cases e2:cs.drop (i+1)with|nil=>rw[e2]at hlen;exact absurd (JN) hlen|cons x r2=>rw[e2]at h;obtain⟨g0,g1,g2⟩:=ML e2;rw[52];exact⟨i+1+1,f x,.num h0 hk g0,g1.symm,hw x⟩});(have anu:∀{q:Int}{f:.J->cG},p=q->Ofp q f->eM q=some (0,1)->(∀x,ik (fB [[q],x])=some (f x))->.px:=fun{q f}e1 hk hs hw=>by subst e1;rw[hs]at h;rw[187];cases e2:md 1 (cs.drop (i+1))with|none=>rw[e2]at h;cases h|some y=>rw[307];exact⟨_,_,.Ye h0 hk g1 g2,rfl,hw _⟩);by_cases c0:p=0;{subst c0;rw[show eM 0=some (0,1)from rfl]at h;rw[187];cases e2:md 1 (cs.drop (i+1))with|none=>rw[e2]at h;cases h|some y=>rw[307];generalize aC1:(cs.drop (i+1+1)).take m=row at*;have ha:(row.all (fun(z:Int)=>FR z 8)&&decide (row.length<=8192))=true:=ha;rw[dQ,iO,decide_eq_true_eq]at ha;(have hn:∀z∈row,0<=z/\z<256:=fun z hz=>by have:=ha.1 z hz;unfold FR at this;rw[dQ,decide_eq_true_eq,decide_eq_true_eq]at this;exact⟨this.1,by have:=this.2;omega⟩);(have hrw:row=(row.map Int.toNat).map fun b:Nat=>(b:Int):=by rw[aQ];(conv=>lhs;rw[<-US row]);refine bY fun z hz=>? _;show z=((z.toNat:Nat):Int);have:=hn z hz;omega);refine⟨_,_,.load (bs:=row.map Int.toNat) h0 g1 g2 (by rw[aC1];exact hrw) (.cG) (by rw[aa];exact ha.2),rfl,? _⟩;{obtain⟨z,hz,rfl⟩:=aX.mp hb;have:=hn z hz;omega};{show(if UW row=true then some (azl (FQ row))else none)=_;rw[if_pos];{unfold FQ rC;rw[aQ];rfl};{unfold UW;rw[iO];intro z hz;have:=hn z hz;rw[dQ,decide_eq_true_eq,decide_eq_true_eq];omega}}};by_cases c1:p=1;{exact si c1 .c1 rfl rfl};by_cases c2:p=2;{exact si c2 .c2 rfl rfl};by_cases c3:p=3;{exact auv c3 .c3 rfl .bQ};by_cases c4:p=4;{exact anu c4 .c4 rfl .bQ};by_cases c5:p=5;{exact anu c5 .c5 rfl .bQ};by_cases c6:p=6;{exact anu c6 .c6 rfl .bQ};by_cases c7:p=7;{exact si c7 .c7 rfl rfl};by_cases c8:p=8;{exact si c8 .c8 rfl rfl};by_cases c9:p=9;{exact si c9 .c9 rfl rfl};by_cases c10:p=10;{exact si c10 .c10 rfl rfl};by_cases c11:p=11;{subst c11;rw[show eM 11=some (0,2)from rfl]at h;rw[187];cases e2:md 2 (cs.drop (i+1))with|none=>rw[e2]at h;cases h|some y=>obtain⟨xs,t'⟩:=y;rw[e2]at h;obtain⟨m1,m2,g1,g2,g3,g4,rfl,rfl⟩:=ave e2;rw[52];exact⟨_,_,.two h0 g1 g2 g3 g4,rfl,rfl⟩};by_cases c12:p=12;{exact auv c12 .c12 rfl .bQ};{rw[show eM p=none by unfold eM;rw[if_neg c0,if_neg c1,if_neg c2,if_neg c3,if_neg c4,if_neg c5,if_neg c6,if_neg c7,if_neg c8,if_neg c9,if_neg c10,if_neg c11,if_neg c12]]at h;cases h}
theorem Pg{cs:.J}:∀{f i:Nat}{raw:List (.je)},i<=cs.length->CB eM f .jf=some raw->(raw.map fB).all GF=true->∃ks,GA cs i ks/\ks.length=raw.length/\∀st,KD jh st (raw.map fB)=FC st ks:=by intro f;induction f with|zero=>(intro i raw hi h ha;cases e:cs.drop i with|nil=>rw[308]|cons p r=>rw[30])|succ f ih=>intro i raw hi h ha;cases e:cs.drop i with|nil=>rw[308]|cons p r=>(have h:(match Sd eM .jf with|none=>none|some (c,t)=>match CB eM f t with|none=>none|some cs=>some (c::cs))=some raw:=by rw[e]at h|-;exact h);cases e1:Sd eM (cs.drop i)with|none=>rw[e1]at h;cases h|some y=>obtain⟨c,t⟩:=y;rw[e1]at h;rw[21];cases e2:CB eM f t with|none=>rw[e2]at h;cases h|some aOk=>rw[e2]at h;rw[44];rw[aO,jE,dQ]at ha;obtain⟨j,k,as,rfl,hk⟩:=W8 e1 ha.1;(have hj:j<=cs.length:=by cases as with|num _ _ h1=>have:=(ay.mp h1).1;omega|two _ _ _ _ l2=>exact l2|Ye _ _ _ l1=>exact l1|load _ _ l1 _ _ _=>exact l1|jD h0 _=>exact(ay.mp h0).1);obtain⟨ks,p1,p2,p3⟩:=ih hj e2 ha.2;refine⟨k::ks,.cons as p1,by rw[aw,aw,p2],fun st=>? _⟩;(have hs:jh st (fB c)=(.ov,.i3):=by unfold jh;rw[hk]);rw[aO];show(jh st (fB c)).2::KD jh (jh st (fB c)).1 _=_;rw[hs,p3];rfl
theorem Pb{cs:.J}(h:KJ cs=true):∃ks,GA cs 0 ks/\ks.length<=400/\CD cs=.hB/\(.hB).length<=10000000:=by unfold KJ at h;cases e:CB eM cs.length cs with|none=>rw[30]|some raw=>rw[e]at h;simp only[dQ]at h;obtain⟨⟨⟨⟨_,h2⟩,_⟩,h4⟩,h5⟩:=h;unfold ard at h4;rw[dQ]at h4;obtain⟨ks,p1,p2,p3⟩:=Pg (cs:=cs) (i:=0) (bw _) e h4.1;(have asn:CD cs=.hB:=by unfold CD PyVaprbo.calls;rw[e];show cY (KD jh arf (raw.map fB))=_;rw[p3];rfl);refine⟨ks,p1,? _,asn,? _⟩;{unfold PyFlat.atMost at h2;rw[24];omega};{unfold PyFlat.short at h5;rw[decide_eq_true_eq,asn]at h5;exact h5}
section
variable{P:Program}{w:World}{K:ae}{mg:Str->Option Value}{base:Heap}{ad:Ad}
theorem arx(T:.U)(ht:.hq){f:Addr}{fd:FuncData}(F:.GV):.D5:=by have Df:=LL (P:=P) (w:=w) (base:=base) T ht (mF T);have lcm:=Aw (P:=P) (w:=w) (base:=base) T ht (mF T);have plus:=ahe T Df;have times:=abw T Df;have afv:=TZ T times;have Token:=abm (P:=P) (w:=w) (base:=base) T;have toks:=Ny T Token (T7 T) (Dr T) (QK T Token (T_ T) (Np T) (Nm T));have rd:=vE (P:=P) (w:=w) (base:=base) T (EY T ht);have ito:=Ds (P:=P) (w:=w) (base:=base) T;have num:=Ay T ito (wV T) (Nq T) (TV T);have SR:=Av T plus afv;have crs:=TU T ht (T2 T (TR T plus) SR times) lcm;have rC:=QD (P:=P) (w:=w) (base:=base) T;have game:=ah6 T rd toks num rC (QG T) crs;have eu:=Ka T (Kg (P:=P) (w:=w) (base:=base) T);have wts:=zt T eu;have ve:=QL T eu;have wot:=BL T Df;have pat:=Nr (P:=P) (w:=w) (base:=base) T ht;have kl:=vF T (akc T (HV T (Nk T)) (J_ T ht lcm) SR 25) Df;have nR:=TY (P:=P) (w:=w) (base:=base) T;have bJ:=XZ (P:=P) (w:=w) (base:=base) T;have pc:=Fw (P:=P) (w:=w) (base:=base) T;have many:=ahd T pc;have aw0:=Ya T pc ve pat;have akv:=abv T pat wot;have ofg:=T6 T (abt T nR) (abu T ito pc) (ah9 T many aw0 akv) (abx T many aw0 akv) (aha T (uH T wot)) (ahf T kl bJ);have ofp:=HX T (Nn T) (aby T wot ve) (QH T (HY T wts (Nl T Df)) bJ) (X' T (Nv T wts Df)) (abn T (QE T wts));have ln:=HW (P:=P) (w:=w) (base:=base) T;exact TX T (ah7 T) (abp T) nR (XY T ln (abq T ln (QF T ln)) (ahc T game) ofg ofp (T8 T nR rC) (X0 T many pc nR pat)) F
end
section
variable{P:Program}{w:World}{K:ae}{mg:Str->Option Value}{h:Heap}{ad:Ad}{x m qual:Str}{st:Stmt}{f C:Addr}{oc:Value}{od an:Option Addr}{LN:Array (Option Value)}{kV doc pm eQ ct:Value}
theorem b9(KX:K.In h)(G:.mF)(a:qP K mainGlobals x=.mx)(l:.ll=some ⟨oc,od,.func (gS x x (pN st) (lA st) (aL st) .none kV doc pm an eQ ct),LN⟩)(c:kg K eQ x=true)(k:.mG):kq K mg x st:=⟨f,_,Td l c k,aea KX G a⟩
theorem oA(a:aR K .be m=.mx)(i:vi K .cW=true)(l:.ll=some ⟨oc,od,.func (gS m qual (pN st) (lA st) (aL st) .none kV doc pm an eQ ct),LN⟩)(c:.qH)(k:.mG):zh K C m qual st:=⟨f,_,Td l c k,⟨a,i,k⟩⟩
theorem tu(KX:K.In h)(G:.mF)(aC:qP K mainGlobals x=some (.eh))(mk:Fg K C=true)(a:aR K .be "__init__"=.mx)(i:vi K .cW=true)(l:.ll=some ⟨oc,od,.func (gS "__init__" qual (pN st) (lA st) (aL st) .none kV doc pm an eQ ct),LN⟩)(c:.qH)(k:.mG)(kc:gk K .be=true):.yl:=⟨f,_,Td l c k,⟨mk,a,i,kc⟩,aea KX G aC⟩
theorem OE{a:Addr}{o:.bE}{d7:.er}{n:Nat}{sl:Array (.dR)}{xs:.aj}(l:K.lookup a=some ⟨.type "tuple",o,.seq d7 n,sl⟩)(hs:d7.size<=1000)(hv:dP xs d7.toList):∀H:Hp,.fg:=fun H=>.inr ⟨_,d7,n,l,rfl,rfl,br hs (.bg),hv⟩
theorem VO{a:Addr}{es:.rz}{ep:Nat}{l:.gf}(e:.C5)(hs:.iE)(hk:Zc mg es.toList l)(nd:.mJ):A0 K mg a l:=⟨es,ep,e,hs,hk,nd⟩
def aw8:Nat->Pos:=match lA kP with|[.Assign [.Attribute (.Name _ p0) _ p1] (.Name _ p2) p3,.Assign [.Attribute (.Name _ p4) _ p5] (.Name _ p6) p7]=>fun n=>[p0,p1,p2,p3,p4,p5,p6,p7].getD n p0|_=>fun _=>⟨0,0,0,0⟩
theorem aw5(l:.ll=some ⟨oc,od,.func (gS "__init__" "Fault.__init__" (pN kP) (lA kP) (aL kP) .none kV doc pm an eQ ct),LN⟩)(ho:oc=.type "function")(c:kg K eQ "Fault.__init__"=true):O7 K f "code" "place":=by have hb:lA kP=ae1 "self" "code" "place" "code" "place" aw8:=rfl;rw[hb]at l;refine⟨"Fault.__init__",pN kP,aL kP,.none,kV,doc,pm,eQ,ct,oc,an,od,LN,"self","code","place",aw8,l,ho,c,fun _ _ _=>rfl,rfl,rfl,rfl,rfl,rfl,rfl,.aW,.aW,.aW,.aW,.aW,.aW,fun L=>.ea⟩
theorem ale{fa:Addr}(KX:K.In h)(G:.mF)(hfa:mg "answers"=some (.ref fa))(ht:.hq)(T:.U):∃fd:FuncData,(∀(s:Shared)(us:.ar),us.length=(["calls"]:.a0).length->BindsTo s fd .k7 ((["calls"]:.a0).zip us))/\∀base:Heap,K.In base->.pV->wB P w K mg base dD 94 fa fd ["calls"] (yU K):=by obtain⟨f,fd,F,hm⟩:=T.Yl;have e:=hfa.symm.trans hm;cases e;refine⟨fd,? _,fun base _ _=>arx T ht F⟩;rw[97];exact fun s us hu=>match us,hu with|[_],_=>.of_eq rfl
end
end Lc
open PySem PySem.W PyProof.Rows
end
open PySem PySem.W PyProof.Rows
set_option hygiene false
local macro_rules|`(tactic|rw[$n:num])=>match n.getNat with
|0=>`(tactic|(refine' Lc.b9 KX G ?x0 ?x1 ?x2 ?x3;(case x0 => k_is);(case x1 => k_is);(case x2 => k_is);(case x3 => k_is)))
|1=>`(tactic|(exact ⟨_, mg_of KX G (by k_is)⟩))
|2=>`(tactic|(dsimp only; show PySem.W.findIn _ _ _ = _; k_is))
|3=>`(tactic|(exact mg_none_of KX G (by k_is)))
|4=>`(tactic|(dsimp only; refine' Lc.oA ?x0 ?x1 ?x2 ?x3 ?x4;(case x0 => k_is);(case x1 => k_is);(case x2 => k_is);(case x3 => k_is);(case x4 => k_is)))
|5=>`(tactic|(dsimp only; exact mg_of KX G (by k_is)))
|6=>`(tactic|(dsimp only; exact ⟨by k_is, by k_is, by k_is, by k_is⟩))
|7=>`(tactic|(dsimp only; refine' Lc.tu KX G ?x0 ?x1 ?x2 ?x3 ?x4 ?x5 ?x6 ?x7;(case x0 => k_is);(case x1 => k_is);(case x2 => k_is);(case x3 => k_is);(case x4 => k_is);(case x5 => k_is);(case x6 => k_is);(case x7 => k_is)))
|8=>`(tactic|(dsimp only; refine' Lc.OE ?x0 ?x1 ?x2;(case x0 => k_is);(case x1 => decide);(case x2 => repeat (first | exact .nil | refine .cons ⟨_, rfl⟩ ?_))))
|_=>throw .unsupportedSyntax
set_option hygiene true
set_option maxHeartbeats 0
theorem PySem.Challenge.cw_lotsandchoices_s01_answers_holds : PySem.Challenge.rw_lotsandchoices_s01_answers.Holds := by
  refine hdTop ?_
  k_fillS
  refine L2.UH (r := PySem.Challenge.rw_lotsandchoices_s01_answers) (k := 94) (CX := L2.dD) (ps := ["calls"]) (sp := Lc.yU) ?I (by decide +kernel) rfl rfl ⟨rfl, by decide, by decide⟩ (fun w h Y => PySem.W.kIn_of Y) ?F ?S (fun _ _ _ _ z => z)
  case I => decide +kernel
  case S =>
    intro K H xs a hO hwi aAp hx
    cases hx with
    | cons h1 h2 =>
      cases h2
      cases h1 with
      | bJ hs ha =>
        have e := L2.VI a.1 _ ha
        subst e
        obtain ⟨ks, p1, p2, p3, p4⟩ := Lc.Pb (cs := a.1) aAp
        refine ⟨_, a.1, ks, rfl, hs, p1, p2, p4, fun H' p hp => ?_⟩
        rw [← p3] at hp
        exact .bJ (L2.cM.of hp) (L2.Vj _)
  case F =>
    intro w mg fa h Y KX G hmg
    refine' Lc.ale KX G hmg (ad := ⟨15, 16, 82, 110, 131, 223, 222, 220, 244, 261, 325, 398, 473, 472, 534, 616, 637, 766, 767, 768, 769⟩) rfl ?_
    constructor
    rw[3];rw[3];rw[3];rw[3];rw[3];rw[3];rw[3];rw[3];rw[3];rw[3];rw[3];rw[3];rw[3];rw[3];rw[3];rw[5];rw[8];rw[5];rw[8];rw[0];rw[0];rw[0];rw[0];rw[0];rw[0];rw[0];rw[1];rw[1];rw[1];rw[1];rw[6];rw[2];rw[2];rw[2];rw[2];rw[2];rw[2];rw[2];rw[2];rw[2];rw[2];rw[2];rw[2];rw[7];rw[0];rw[6];rw[2];rw[2];rw[2];rw[7];rw[6];rw[2];rw[2];rw[2];rw[2];rw[2];rw[7];rw[0];rw[0];rw[0];rw[0];rw[0];rw[0];rw[0];rw[0];rw[0];rw[0];rw[0];rw[1];rw[1];rw[1];rw[1];rw[1];rw[1];rw[1];rw[1];rw[1];rw[1];rw[5];(dsimp only; exact ⟨⟨_, _, _, _, _, _, _, _, _, _, _, _, _, by k_is⟩, ⟨_, _, _, _, _, by k_is, rfl⟩, by k_is, by k_is, by k_is, by k_is, by k_is, by k_is, by decide, by k_is⟩);(dsimp only; exact Lc.aw5 (by k_is) rfl (by k_is));rw[0];rw[0];rw[0];rw[1];rw[1];rw[1];rw[1];rw[1];rw[1];rw[1];rw[1];rw[1];rw[1];rw[1];rw[5];rw[8];rw[6];rw[2];rw[2];rw[2];rw[7];rw[0];rw[0];rw[0];rw[0];rw[0];rw[0];rw[0];rw[0];rw[0];rw[1];rw[1];rw[1];rw[5];rw[8];rw[6];rw[2];rw[2];rw[7];rw[4];rw[4];rw[4];rw[4];rw[4];rw[4];rw[4];rw[4];rw[0];rw[0];rw[0];rw[0];rw[0];rw[0];rw[0];rw[0];rw[0];rw[1];rw[1];rw[5];(dsimp only; exact ⟨⟨_, _, _, _, _, _, _, _, _, _, _, _, _, by k_is⟩, ⟨_, _, _, _, _, by k_is, rfl⟩, by k_is, by k_is⟩);rw[0];rw[0];rw[0];rw[0];rw[0];rw[0];rw[0];rw[1];rw[6];rw[2];rw[2];rw[2];rw[7];rw[0];rw[0];rw[0];rw[0];rw[0];rw[0];rw[1];rw[1];rw[1];rw[1];rw[1];rw[1];rw[1];rw[1];rw[6];rw[2];rw[2];rw[2];rw[7];rw[4];rw[4];rw[4];rw[6];rw[2];rw[2];rw[2];rw[2];rw[2];rw[7];rw[0];rw[0];rw[0];rw[0];rw[0];rw[0];rw[0];rw[0];rw[0];rw[0];rw[0];rw[0];rw[0];rw[0];rw[0];rw[0];rw[0];rw[0];rw[5];(dsimp only; refine' Lc.VO ?x0 ?x1 ?x2 ?x3;(case x0 => k_is);(case x1 => decide);(case x3 => decide);(case x2 => exact (And.intro ⟨_, rfl⟩ (And.intro rfl (And.intro (show mg "shown" = some _ from mg_of KX G (by k_is)) (And.intro ⟨_, rfl⟩ (And.intro rfl (And.intro (show mg "sizes" = some _ from mg_of KX G (by k_is)) (And.intro ⟨_, rfl⟩ (And.intro rfl (And.intro (show mg "best" = some _ from mg_of KX G (by k_is)) (And.intro ⟨_, rfl⟩ (And.intro rfl (And.intro (show mg "worst" = some _ from mg_of KX G (by k_is)) (And.intro ⟨_, rfl⟩ (And.intro rfl (And.intro (show mg "free" = some _ from mg_of KX G (by k_is)) (And.intro ⟨_, rfl⟩ (And.intro rfl (And.intro (show mg "seen" = some _ from mg_of KX G (by k_is)) True.intro))))))))))))))))))));rw[5];(dsimp only; refine' Lc.VO ?x0 ?x1 ?x2 ?x3;(case x0 => k_is);(case x1 => decide);(case x3 => decide);(case x2 => exact (And.intro ⟨_, rfl⟩ (And.intro rfl (And.intro (show mg "station" = some _ from mg_of KX G (by k_is)) (And.intro ⟨_, rfl⟩ (And.intro rfl (And.intro (show mg "policy" = some _ from mg_of KX G (by k_is)) True.intro))))))));rw[5];(dsimp only; refine' Lc.VO ?x0 ?x1 ?x2 ?x3;(case x0 => k_is);(case x1 => decide);(case x3 => decide);(case x2 => exact (And.intro ⟨_, rfl⟩ (And.intro rfl (And.intro (show mg "worth" = some _ from mg_of KX G (by k_is)) (And.intro ⟨_, rfl⟩ (And.intro rfl (And.intro (show mg "outcomes" = some _ from mg_of KX G (by k_is)) (And.intro ⟨_, rfl⟩ (And.intro rfl (And.intro (show mg "spread" = some _ from mg_of KX G (by k_is)) True.intro)))))))))));rw[5];(dsimp only; refine' Lc.VO ?x0 ?x1 ?x2 ?x3;(case x0 => k_is);(case x1 => decide);(case x3 => decide);(case x2 => exact (And.intro ⟨_, rfl⟩ (And.intro rfl (And.intro (show mg "above" = some _ from mg_of KX G (by k_is)) True.intro)))));rw[0];rw[0];rw[0];rw[0];rw[0]
