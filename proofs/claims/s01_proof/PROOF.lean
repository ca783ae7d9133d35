import PyProof.Rows.All
import Wide.All
import OpenK.AllK
import Wide.FinOn
import PyProof.EqAt
import PyProof.EqKinds
import PyProof.TupleCall
import KE.BitLaws
import Open.SpecLaws
import KE.OsHead
import KE.OsGo
import PySem.Challenge.RW_proofpaths_s01_answers
set_option Elab.async false
set_option linter.all false
set_option maxRecDepth 100000
set_option maxHeartbeats 4000000
open Option.some renaming inj->aM,injEq->u_
open List renaming length_map->aX,length_cons->bj,mem_cons->br,getElem?_eq_getElem->cC,mem_of_getElem?->cN,length_append->cP,mem_append->c9,getElem?_eq_some_iff->da,mem_map->eu,map_cons->ez,size_toArray->eM,getElem?_append_left->fe,getElem?_map->ft,getElem?_append_right->fK,mem_cons_of_mem->fL,nodup_cons->fZ,append_assoc->gC,getElem?_cons_succ->gD,mem_flatMap->gT,mem_cons_self->iC,map_append->iD,flatMap_cons->iE,all_cons->iG,all_eq_true->iZ,append_nil->i5,length_drop->jq,filterMap_cons->jr,mem_append_right->jN,mem_range->jP,mem_iff_getElem?->kK,map_map->kL,drop_eq_getElem_cons->kM,getElem?_eq_none->kN,length_nil->lF,take_length->lH,drop_zero->mT,filter_cons->mV,cons_append->mX,drop_length->mY,nil_append->nY,mem_append_left->nZ,getElem?_set_ne->n0,pairwise_cons->n8,length_take->n9,foldr_cons->n_,getElem?_drop->oa,nodup_nil->oe,getD_eq_getElem?_getD->og,getElem?_set_self->oh,find?_cons->oj,any_cons->px,map_drop->pC,dropLast_concat->pD,range_eq_range'->pF,flatMap_append->pG,length_replicate->qL,take_of_length_le->qM,map_nil->qN,map_take->qO,nodup_append->qQ,getElem?_range->qR,range'_succ->sQ,foldl_cons->sR,lookup_cons->sU,length_pos_iff->sV,drop_drop->sW,length_filter_le->sX,zip_cons_cons->sY,map_congr_left->sZ,range_succ->s_,length_set->tf,mem_filter->uU,length_eq_zero_iff->uW,mem_filterMap->uX,filterMap_eq_map'->uY,length_reverse->uZ,dropWhile_cons->u4,take_append_drop->u5,foldl_append->u6,eraseDups_cons->u9,getElem?_zip_eq_some->xR,filterMap_append->xS,reverse_cons->xV,dropWhile_sublist->xY,not_mem_nil->xZ,getElem?_reverse->x4,filter_eq_self->x5,getElem?_cons_zero->x6,mem_of_mem_drop->x8,getElem_inj->x9,findIdx?_append->ya,pairwise_iff_getElem->yb,ext_getElem?->yc,takeWhile_cons->yd,sum_cons->BA,any_nil->BB,all_append->BC,map_set->BD,foldr_append->BE,mem_reverse->BF,flatMap_nil->BG,find?_cons_of_pos->BH,drop_sublist->BI,mem_of_find?_eq_some->BJ,replicate_append_replicate->BK,getElem_mem->BL,mem_iff_getElem->BM,getElem_zip->BN,take_succ_cons->Ib,map_flatMap->Ic,mem_of_mem_take->acZ,of_mem_zip->ac5,all_map->ac6,take_add_one->ac8,head?_cons->ac9,mem_singleton->aeq,find?_cons_of_neg->aer,find?_eq_none->aes,getElem?_range'->aet,findIdx_cons->aeu,pairwise_map->aev,pairwise_lt_range->aew,range_succ_eq_map->aex,length_singleton->aez,set_append_right->aeF,filter_map->aeG,filter_congr->aeH,length_zip->aeI,getElem?_replicate->aeJ,findIdx?_eq_some_iff_getElem->aeK,flatMap_map->aeN,filterMap_map->ae4,getElem?_take_of_lt->ae9,forIn_nil->afa,any_eq_true->afd,drop_of_length_le->afe,take_zero->afg,length_range->afh,drop_eq_nil_of_le->afp
open Nat renaming le_refl->a_,zero_le->bL,le_trans->c_,zero_add->afZ,ne_of_lt->gE,lt_of_lt_of_le->iF,sub_zero->jQ,lt_irrefl->lG,lt_or_ge->pE,add_zero->qJ,add_assoc->qK,sub_self->sS,le_add_right->xU,min_eq_left->xW,le_of_lt->yg,le_of_eq->Bw,le_of_succ_le->Bx,lt_of_le_of_lt->By,ne_of_gt->ada,lt_succ_self->adb,lt_succ_of_lt->adf,add_mul->adg,mul_le_mul_right->adh,lt_trichotomy->afq,succ_le_succ->afr
open Bool renaming and_eq_true->bC,false_ne_true->gn,eq_iff_iff->js,true_and->n6,false_and->om,and_false->pz,false_eq_true->pH,or_eq_true->qP,or_false->sT,eq_false_iff->uV,false_or->xT,not_false->x_,and_assoc->BO,beq_comm->adi,or_true->aft,true_or->afu,and_eq_true_iff->afv
open Option renaming bind_eq_some_iff->cY,bind_some->dQ,map_eq_some_iff->fq,map_some->mW,map_map->xX,filter_some->ye,filter_eq_some_iff->yf,getD_some->afw,getD_none->afx,isSome_some->afy,isSome_map->afB,any_some->afC,not_isSome_iff_eq_none->afF
open Int renaming toNat_natCast->jO,toNat_of_nonneg->afI
open Prod.mk renaming inj->kJ
open List.cons renaming inj->mU,injEq->u0
open Classical renaming byContradiction->u7
open Nat.succ renaming inj->Bz
open List.Pairwise renaming imp_of_mem->afJ,filterMap->af5
open Array renaming length_toList->afL,getElem?_toList->afN
open Vaneta renaming dual->L7,Token->Mc,level->Mq,formulaIn->NG,atoms->L_,tokensFrom->M0,formulaOf->M6,cutAt->Mt,allOf->MP,isSmall->MW,deep->abC,cutAt->adp,leaves->NM,sequentForm->NN,atoms->NO
open Vanetc renaming isDigit->MX,pairOf->M1,partsOf->Mx,partnersOf->M3,oncePairs->NP,pointsOf->L8,pointsFrom->Ml,rootsFrom->Mm,formulas->tQ,leafPoints->ME,together->Mh,countParts->MQ,Parts->MF,takePars->Nr,readyPar->MY,takeEdges->Nt,switchings->Ms,trimmed->Ws,pairOf->adt,pairsOf->abG,fitting->aa0,decimal->M7,edges->abd,draws->abI,partnersOf->abe,allLeaves->adu,risingFirst->abM,theNet->ady,LEAVES->abN,spaced->adA,formOf->abO
open Vanetg renaming Stand->MR,cutRoots->Mu,stands->Me,standOf->Mo,Switches->Nu,behindUp->Ni,behindDown->MT,down->Mi,switchAt->Mj,withSwitches->My,junctions->Mg,tellLeaf->Mr,placeIn->MZ,theLeaf->Mz,comesOut->L5,long->abh,down->Nj,passages->MB,standOf->abP,stands->abj,allLong->Nv,leafAt->abQ,toldPlace->MK,Call->Nk,toldText->adC,theSwitching->abU,behind->abu,MOST->NH,firstShort->adD
open Vanete renaming walkFrom->adF,block->adG,theNet->M8
open PySem renaming Value->cp,World->L9,Program->Mb,sysModules->M9,tupleKind->abv,Within->adH,mainGlobals->ML,bootBuiltins->MI,Around->Mf,Shared->me,wpAny->L3,Expr->Lj,model->L1,eval->L6,backTo->Mw,starEach->Ma,wpAny_mono->M4,compareOp->MA,behindInMarks->M_,wpAny_truthy_bool->M',holding->Nl,wpAny_execs_nil->abW,swapsWith->Na,assignEach->Nm,inplaceOp->abw,wpAny_bind->Mn,wpAny_holding->abY,wpAny_passesOwn->Nw,letOwnedTupleGo->abZ,wpAny_pure->MD,IsRangeIter->ab1,foldedSetIterable->ab6,binaryOp->Ny,sizeLine_eq->ab8,getMethod->NI,codeAny->Nb,attributeBase->Nc,FuncData->MG,codeAny_mono->acg,wpAny_Call_Name_kw->Nz,backToKw->NJ,keywordEach->NK,NameKind->MH,cellsFrom->MC,mem_of_lookup->MJ,sliceBounds->NA,evalArgs_none->afP,pushCells->Nn,pushCells_keeps->ach,compEnvC->MU,wpAny_pyIter_revIter->adM,Params->Nd,boot_len->adN,wpAny_ite_split->acr
open PySem.W renaming instObj->Np,methodObj->adP,Frag->FU,lookIn->acs,plainGet->acx,hasDictIn->adU,findIn->Nf,plainGet_of->adY,isFn->ad_,plainOver->afQ,takerIn->ad',keepIn->NL,callWith_K->aec,methodCall_KW->afR,callWith_K0->afS,cellsFrom_some->afT,fnOf->NB,codeIn->aed,WData->Mv,WellAll->Nq,length_le_weightAllW->afU
open PyProof.Rows renaming AllBare->ND,envOfC->M5
open PySem.F renaming plainAttrs_list->MM,slot_list_extend->acz,type_list_extend->acJ,slot_list_pop->Ng,type_list_pop->Nh
theorem U.{u}{α:Sort u}{a:α}:a=a:=rfl
theorem NF(h:True:=by first|exact .inl U|exact .inr U|assumption):True:=h
theorem Mp(h:True:=by decide):True:=h
theorem af6(h:True:=by first|exact UR _ (by decide) (by decide)|rfl):True:=h
theorem abx(h:True:=by intro _;rfl):True:=h
theorem L'(h:True:=by rfl):True:=h
theorem afV(h:True:=by with_unfolding_all rfl):True:=h
theorem af7(h:True:=by first|exact Or.inl U|exact Or.inr (Or.inl U)|exact Or.inr (Or.inr U)):True:=h
theorem MN(h:True:=by exact U):True:=h
theorem af8(h:True:=by intro vs H Q E h;cases h;subst_vars;rfl):True:=h
theorem aee(h:True:=by decide+kernel):True:=h
theorem acY(h:True:=by exact λ_ _=>rfl):True:=h
theorem afW(h:True:=by first|exact Ku _|with_unfolding_all rfl):True:=h
theorem afX(h:True:=by first|exact Or.inl U|exact Or.inr U):True:=h
def ay:=@if_neg
def aI:=@if_pos
def bb:=@decide_eq_true
def cO:=@decide_eq_false
def dJ:=@of_decide_eq_true
def iB:=@decide_eq_true_eq
namespace PySem.W.Fast
def tw178024370327517270:=0
def tw4314435664344256244:=0
def tw12103542520548744678:=0
def tw3207391950178147669:=0
def tw17813352482724086199:=0
def tw14999759482902467065:=0
def tw12086039718805516994:=0
def tw5422291156235862657:=0
def tw3244401229788137487:=0
def tw8073196090773772582:=0
def tw2148827141707739648:=0
def tw2636267714290460081:=0
def tw16644770617144132120:=0
def tw11380448845652194919:=0
def tw6544833025385884526:=0
def tw10857218764928869858:=0
def tw15732909527561239172:=0
def tw5946648998983697722:=0
def tw14107289140691114055:=0
def tw4801931507096437406:=0
def tw303850118833662740:=0
def tw17518464975493372567:=0
def tw10118651083740160443:=0
def tw2169903398114186697:=0
def tw9586387293827614766:=0
def tw3145838824891226237:=0
def tw550591807991211688:=0
def tw13325423583002712911:=0
def tw15722218905822139049:=0
def tw16091217133056480171:=0
def tw3897605493618387038:=0
def tw1217540579445832955:=0
def tw7244788944636814197:=0
def tw1132513599236194740:=0
def tw15021317511654643875:=0
def tw11715832911259696638:=0
def tw14247064777947676922:=0
def tw17629162167706027937:=0
def tw5038203791715050839:=0
def tw18339159712087196864:=0
def tw7828989799083638662:=0
def tw8509591617915089183:=0
def tw3596846504246958570:=0
def tw16451046433920544529:=0
def tw13199700203310751407:=0
def tw1056369486629193115:=0
def tw3519990344507322862:=0
def tw15404792593265834831:=0
def tw15788284143146095098:=0
def tw7692520977575660933:=0
def tw12355705357564181628:=0
def tw11896353623309367571:=0
def tw6985974980939985995:=0
def tw13001419943954655856:=0
def tw4284413465728774237:=0
def tw12784116579486307453:=0
def tw3684063239728435611:=0
def tw15006902609918155554:=0
def tw9683530136281861413:=0
def tw3030308729713290941:=0
def tw570997252933210476:=0
def tw15515111653000718009:=0
def tw10228359397800055668:=0
def tw15100563551965603692:=0
def tw15478560849483055469:=0
def tw6110582012302858470:=0
def tw7722627489017966624:=0
def tw6758240162279017565:=0
def tw11872612214140361314:=0
def tw16226612596704408345:=0
def tw16396970554082798426:=0
def tw8801750102333478803:=0
def tw7823003408736409247:=0
def tw11624992822416524066:=0
def tw13837279161537728144:=0
def tw5555694395344940213:=0
def tw14694710100483670638:=0
def tw45282066700163402:=0
def tw6994693723740801920:=0
def tw10794576613548041933:=0
def tw17305332755083451317:=0
def tw12968891774248717141:=0
def tw12759715657849887440:=0
def tw7116423875554931448:=0
def tw6161182004504331020:=0
def tw17874673824186797927:=0
def tw3964818389098368777:=0
def tw8971928117840974702:=0
def tw15658855258176023847:=0
def tw16340197336764081809:=0
def tw13333919257189516716:=0
def tw12818271093524485537:=0
def tw12049240966503718430:=0
def tw15195410634666792798:=0
def tw10536138665619128157:=0
def tw12117948588751104700:=0
def tw10734149413083161121:=0
def tw14213443829161102945:=0
def tw14256718743959813365:=0
def tw17733130323409669098:=0
def tw5475356361865424149:=0
def tw16734309538715528238:=0
def tw13290891788809656366:=0
def tw8919845947982287512:=0
def tw291101273649590849:=0
def tw16234004857968903735:=0
def tw12578864605903258857:=0
def tw8890116629514959368:=0
def tw873569190583881429:=0
def tw18125416302663933063:=0
def tw11950299144920609280:=0
def tw10897232050204325922:=0
def tw1229881976815599827:=0
def tw15738106526141664644:=0
def tw11319585356623570435:=0
def tw9443729671100013077:=0
def tw2809993597565941439:=0
def tw7727534995024516427:=0
def tw18085679459254113400:=0
def tw9954786187471022376:=0
def tw15072414581466172495:=0
def tw9337677123803373125:=0
def tw2325944023681903646:=0
def tw13680116715956952339:=0
def tw2652184782518772504:=0
def tw11271923738637180397:=0
def tw1783026795623296365:=0
def tw8310386496121973526:=0
def tw6960018013349607017:=0
def tw8196373420740368136:=0
def tw13480057492657871092:=0
def tw3240435273129955272:=0
def tw15478072547756990779:=0
def tw4555915517494862643:=0
def tw1129779477005796574:=0
def tw16853945952657249122:=0
def tw11978800316045037065:=0
def tw539032323324167473:=0
def tw2805385480826231651:=0
def tw6900261647418411562:=0
def tw12792137284672244086:=0
def tw6808762197924555383:=0
def tw10698377086028156383:=0
def tw5483654166236094715:=0
def tw4888099600014814643:=0
def tw2893898151836700852:=0
def tw9904429500624438935:=0
def tw13852648010651313857:=0
def tw15996479282463541999:=0
def tw9922146278166816660:=0
def tw11338116367028424125:=0
def tw18126409039736487117:=0
def tw5424700831996555296:=0
def tw5472486970838026335:=0
def tw18063282684439980475:=0
def tw18321253705103424827:=0
def tw14379301006053257142:=0
def tw202265434604030946:=0
def tw16802910382252208606:=0
def tw3160005548441049504:=0
def tw13104381061448107332:=0
def tw9449824611343067384:=0
def tw8470482478376698280:=0
def tw14441060731679694318:=0
def tw13722476614714682477:=0
def tw949467223737287479:=0
def tw1421971071396270446:=0
def tw9834558563671876876:=0
def tw8434611224792383475:=0
def tw13175062111733228716:=0
def tw10878122493933304296:=0
def tw12402358714028051882:=0
def tw11129787085327795913:=0
def tw12721852904391362763:=0
def tw6090599269321053068:=0
def tw11598963484603357854:=0
def tw7095361818804218644:=0
def tw12165315468175896673:=0
def tw9008812199028769991:=0
def tw5357598274942298481:=0
def tw15247060962197479245:=0
def tw2854484667466197081:=0
def tw17240143993474173681:=0
def tw9856018269083310708:=0
def tw6591127579276541432:=0
def tw13334037372393714854:=0
def tw10431263434232407029:=0
def tw8373543646288315012:=0
def tw17869814322050115330:=0
def tw13699887304706779075:=0
def tw14055696597869743190:=0
def tw15277234245603376418:=0
def tw531811900583443501:=0
def tw10988177459348245114:=0
def tw7461387547670471864:=0
def tw15406290569310194567:=0
def tw831465799810926989:=0
def tw11524858014498427056:=0
def tw13728321819789572410:=0
def tw13176790258014269142:=0
def tw6938425194216210617:=0
def tw77147589698530075:=0
def tw17328144003910802898:=0
def tw9490891412664075290:=0
def tw2957816657698599702:=0
def tw16495297249997106134:=0
def tw11319246091136128305:=0
def tw6352117221820490829:=0
def tw2153588303927907793:=0
def tw4468663643914624428:=0
def tw1478492391676469422:=0
def tw1240909242427597702:=0
def tw13128344474029554302:=0
def tw13335714395494791435:=0
def tw2092057115381865112:=0
def tw4291684143843215649:=0
def tw13946038204676676935:=0
def tw14572202647583171541:=0
def tw6819486123970766497:=0
def tw2297309593803348148:=0
def tw17097259891365022832:=0
def tw17702012301814838060:=0
def tw5017733421187305446:=0
def tw5939140459678250574:=0
def tw408694106969415526:=0
def tw15591667952460938761:=0
def tw3476493426563739692:=0
def tw5097220457153993167:=0
def tw14201520034796107833:=0
def tw16576426122688321176:=0
def tw12649694157708057932:=0
def tw15652666741142238699:=0
def tw2400477824401828083:=0
def tw13596076328470028746:=0
def tw13128109014562857065:=0
def tw9106858273764122176:=0
def tw432856180632760261:=0
def tw18131219999627192686:=0
def tw13989091351288019353:=0
def tw13059218400366172123:=0
def tw2276029549076484849:=0
def tw2978454389621370929:=0
def tw13860337269867402082:=0
def tw8078055025058888125:=0
def tw15030434085822996715:=0
def tw16206052133086998556:=0
def tw4605796788892721361:=0
def tw4647406689400510058:=0
def tw13927703344047745253:=0
def tw6530196280132076449:=0
def tw3771305439564906243:=0
def tw9730557931351313414:=0
def tw9284815215871719218:=0
def tw3324080195197805803:=0
def tw4508118121586727119:=0
def tw9641547679298112856:=0
def tw7128004604946213331:=0
def tw11573397644698074630:=0
def tw12060921897996756840:=0
def tw12477521830550268406:=0
def tw3068578132624633402:=0
def tw2461544882297724317:=0
def tw3154011139357741370:=0
def tw3609508867897582592:=0
def tw7687395019182937383:=0
def tw1535611234334926338:=0
def tw429976556841820742:=0
def tw10610853156132354374:=0
def tw14428244377545745787:=0
def tw4019224727987952953:=0
def tw13636328901301770879:=0
def tw6896106276328952682:=0
def tw4861379043000019372:=0
def tw14279901481473969302:=0
def tw10427148492421154433:=0
def tw4502013610408546833:=0
def tw3225288883919472445:=0
def tw917111711371111726:=0
def tw288013865296788632:=0
def tw7695950769806989551:=0
def tw3968825163460296341:=0
def tw12890163310108860549:=0
def tw11420728528498749953:=0
def tw6547852182421953462:=0
def tw2518076412552817261:=0
def tw12507399226475395059:=0
def tw6657810801163898699:=0
def tw8046447883542649733:=0
def tw12981708423865148567:=0
def tw16533112434932720393:=0
def tw16364293008855995792:=0
def tw10180522067631990607:=0
def tw7575091277739229078:=0
def tw11565166461816911215:=0
def tw13571075575246175224:=0
def tw5937102185597591679:=0
def tw6318092215945696495:=0
def tw14834422908145467844:=0
def tw11550604998379233236:=0
def tw6853235414066668986:=0
def tw9384577044227253558:=0
def tw11880847294674110131:=0
def tw2748616469026163686:=0
def tw1020646518613028615:=0
def tw15434499148995982566:=0
def tw5177244215508815574:=0
def tw15145424866785478885:=0
def tw3808230137662578258:=0
def tw12273406355237132458:=0
def tw6072139632265176318:=0
def tw7629457722147403425:=0
def tw13737648036296901486:=0
def tw11692128644023930454:=0
def tw764240735915335853:=0
def tw18375012281176645713:=0
def tw15643669559045062224:=0
def tw13721554161799358839:=0
def tw13965031267137829247:=0
def tw15832392769467883848:=0
def tw4654741188756917168:=0
def tw8738782017331742729:=0
def tw16704456481229040427:=0
def tw5521649845113883547:=0
def tw2839791149021754185:=0
def tw5177715966063027951:=0
def tw14254670753857164439:=0
def tw5365449263411674810:=0
def tw15623315252874045267:=0
def tw1531934496437980539:=0
def tw1528208311558522730:=0
def tw15157068066826304952:=0
def tw14851096343968662529:=0
def tw14421147485172181582:=0
def tw12299590233484426733:=0
def tw7947847930094729446:=0
def tw6910804671584130082:=0
def tw6183898048146048011:=0
def tw18297605833443959995:=0
def tw15855455852341277302:=0
def tw9217142453940696002:=0
end PySem.W.Fast
namespace PM
open Vaneta
inductive Pd where
 |gp
 |gF
 |cf (par:Bool) (A:Formula)
 |arr (A:Formula)
structure MS where
 form:Option Formula
 pend:List Pd
noncomputable def kO(par:Bool)(A B:Formula):Formula:=if par=true then .par A B else .tensor A B
noncomputable def eN(A:Formula):List Pd->Formula×List Pd
 | .gp::r=>eN (L7 A) r
 |p=>(A,p)
noncomputable def de(A:Formula):List Pd->Formula×List Pd
 | .cf b B::r=>de (kO b B A) r
 |p=>(A,p)
noncomputable def jR(A:Formula):List Pd->Formula×List Pd
 | .arr B::r=>jR (.par (L7 B) A) r
 |p=>(A,p)
noncomputable def gq(A:Formula)(p:List Pd):Formula×List Pd:=jR (de A p).1 (de A p).2
noncomputable def push(e:Pd)(p:List Pd):Option MS:=if p.length<100 then some ⟨none,e::p⟩else none
noncomputable def Td:List Pd->Option Bool
 | .cf b _::_=>some b
 |_=>none
noncomputable def i6(b:Bool)(A:Formula)(p:List Pd):Option MS:=
 match Td p with
 |some b'=>if b'=b then push (.cf b A) p else none
 |none=>push (.cf b A) p
noncomputable def takeRight(A:Formula)(p:List Pd):Option MS:=
 match gq A p with
 |(B, .gF::r)=>some ⟨some (eN B r).1,(eN B r).2⟩
 |_=>none
noncomputable def take(s:MS)(k:Mc):Option MS:=
 match s.form with
 |none=>match k with
  | .name a=>some ⟨some (eN (.atom false a) s.pend).1,(eN (.atom false a) s.pend).2⟩
  | .sign c=>if c=126 then push .gp s.pend else if c=40 then push .gF s.pend else none
  | .arrow=>none
 |some A=>match k with
  | .name _=>none
  | .sign c=>if c=42 then i6 false A s.pend else if c=124 then i6 true A s.pend else if c=41 then takeRight A s.pend else none
  | .arrow=>push (.arr (de A s.pend).1) (de A s.pend).2
noncomputable def whole(s:MS):Option Formula:=
 match s.form with
 |none=>none
 |some A=>match gq A s.pend with
  |(B,[])=>some B
  |_=>none
noncomputable def run:MS->List Mc->Option Formula
 |s,[]=>whole s
 |s,k::r=>match take s k with
  |some s'=>run s' r
  |none=>none
noncomputable def fu:Mc->Bool
 | .name _| .arrow=>true
 | .sign c=>c==126||(c==42||(c==124||(c==40||c==41)))
noncomputable def BP:List Pd->Bool
 | .gp::_=>true
 |_=>false
noncomputable def yh:List Pd->Bool
 | .cf _ _::_=>true
 |_=>false
noncomputable def pI:List Pd->UInt8
 | .cf b _::_=>if b=true then 124 else 42
 |_=>0
theorem Te(b:Bool)(A B:Formula):two (if b=true then 124 else 42) A B=kO b A B:=by
 cases b<;>rfl
noncomputable def runC(A:Formula)(p:List Pd)(r:List Mc):Option Formula:=
 match r with
 | .sign c::_=>if c=42\/c=124 then none else run ⟨some A,p⟩ r
 |_=>run ⟨some A,p⟩ r
noncomputable def kP(A:Formula)(p:List Pd)(r:List Mc):Option Formula:=
 match r with
 |[]=>run ⟨some A,p⟩ r
 | .sign c::_=>if c=41 then run ⟨some A,p⟩ r else none
 |_=>none
theorem Tf(b:Bool)(A B:Formula)(p:List Pd)(r:List Mc):runC A (.cf b B::p) r=runC (kO b B A) p r:=by
 unfold runC;cases r with
 |nil=>rfl
 |cons k r=>
  cases k with
  |name a|arrow=>rfl
  |sign c=>
   by_cases h:c=42\/c=124
   .simp only[aI h]
   .simp only[ay h]
    have h1:¬c=42:=λe=>h (.inl e);have h2:¬c=124:=λe=>h (.inr e);simp only[run,take,ay h1,ay h2];by_cases h3:c=41
    .simp only[aI h3];rfl
    .simp only[ay h3]
theorem Tg(A B:Formula)(p:List Pd)(r:List Mc)(h:yh p=false):kP A (.arr B::p) r=kP (.par (L7 B) A) p r:=by
 have e:de (.par (L7 B) A) p=(.par (L7 B) A,p):=by
  cases p with
  |nil=>rfl
  |cons q p=>cases q<;>first|rfl|cases h
 have e2:gq A (.arr B::p)=gq (.par (L7 B) A) p:=by unfold gq;rw[e];rfl
 unfold kP;cases r with
 |nil=>simp only[run,whole,e2]
 |cons k r=>
  cases k with
  |name a|arrow=>rfl
  |sign c=>
   by_cases h:c=41
   .subst h
    show(match takeRight A (.arr B::p)with|some s'=>run s' r|none=>none)=(match takeRight (.par (L7 B) A) p with|some s'=>run s' r|none=>none);simp only[takeRight,e2]
   .simp only[ay h]
theorem Ie(A:Formula)(p:List Pd)(h:BP p=false):eN A p=(A,p):=by
 cases p with
 |nil=>rfl
 |cons q p=>cases q<;>first|rfl|cases h
theorem Ig(A:Formula)(p:List Pd)(h:yh p=false):de A p=(A,p):=by
 cases p with
 |nil=>rfl
 |cons q p=>cases q<;>first|rfl|cases h
theorem Th(p:List Pd)(h:yh p=false):pI p=0:=by
 cases p with
 |nil=>rfl
 |cons q p=>cases q<;>first|rfl|cases h
noncomputable def vc(f d:Nat)(x:Formula×List Mc):Option (Formula×List Mc):=match x.2 with
 | .arrow::r=>if d<OPEN then(Mq f 0 0 (d+1) r).map λy=>(.par (L7 x.1) y.1,y.2)else none
 |_=>some x
noncomputable def tj(f d:Nat)(sign:UInt8)(x:Formula×List Mc):Option (Formula×List Mc):=match x.2 with
 | .sign c::r=>if isTwo c=true/\ (sign=0\/sign=c)then(if d<OPEN then(Mq f 1 c (d+1) r).map λy=>(two c x.1 y.1,y.2)else none)else some x
 |_=>some x
noncomputable def brk(y:Formula×List Mc):Option (Formula×List Mc):=match y.2 with
 | .sign 41::s=>some (y.1,s)
 |_=>none
noncomputable def vf(f d:Nat)(ts:List Mc):Option (Formula×List Mc):=match ts with
 | .name a::r=>some (.atom false a,r)
 | .sign c::r=>
  if d<OPEN then
   (if c=126 then(Mq f 2 0 (d+1) r).map λy=>(L7 y.1,y.2)
   else if c=33 then(Mq f 2 0 (d+1) r).map λy=>(.ofc y.1,y.2)
   else if c=63 then(Mq f 2 0 (d+1) r).map λy=>(.whn y.1,y.2)
   else if c=40 then(Mq f 0 0 (d+1) r).bind brk
   else none)
  else none
 |_=>none
theorem tm(f k:Nat)(sg:UInt8)(d:Nat)(ts:List Mc):Mq (f+1) k sg d ts=
  if k=0 then(Mq f 1 0 d ts).bind (vc f d)else if k=1 then(Mq f 2 0 d ts).bind (tj f d sg)else vf f d ts:=by
 rfl
theorem mZ:∀(f k:Nat) (sg:UInt8) (d:Nat) (ts:List Mc) (A:Formula) (r:List Mc),Mq f k sg d ts=some (A,r)->∃pre,ts=pre++r/\ pre≠ []
 |0,_,_,_,_,_,_,h=>by simp[Mq]at h
 |f+1,k,sg,d,ts,A,r,h=>by
  rw[tm]at h;by_cases k0:k=0
  .rw[aI k0]at h
   obtain⟨x,hx,h⟩:=cY.mp h;obtain⟨pre,e,ne⟩:=mZ f 1 0 d ts x.1 x.2 hx;unfold vc at h;split at h
   .rename_i r' hr
    split at h
    .obtain⟨y,hy,h⟩:=fq.mp h
     obtain⟨pre',e',ne'⟩:=mZ f 0 0 (d+1) r' y.1 y.2 hy;cases h;exact⟨pre++ .arrow::pre',by rw[e,hr,e'];simp,by simp⟩
    .cases h
   .cases h;exact⟨pre,e,ne⟩
  .rw[ay k0]at h
   by_cases k1:k=1
   .rw[aI k1]at h
    obtain⟨x,hx,h⟩:=cY.mp h;obtain⟨pre,e,ne⟩:=mZ f 2 0 d ts x.1 x.2 hx;unfold tj at h;split at h
    .rename_i c r' hr
     split at h
     .split at h
      .obtain⟨y,hy,h⟩:=fq.mp h
       obtain⟨pre',e',ne'⟩:=mZ f 1 c (d+1) r' y.1 y.2 hy;cases h;exact⟨pre++ .sign c::pre',by rw[e,hr,e'];simp,by simp⟩
      .cases h
     .cases h;exact⟨pre,e,ne⟩
    .cases h;exact⟨pre,e,ne⟩
   .rw[ay k1]at h
    unfold vf at h;split at h
    .rename_i a r'
     cases h;exact⟨[.name a],U,by simp⟩
    .rename_i c r'
     split at h
     .split at h
      .obtain⟨y,hy,h⟩:=fq.mp h
       obtain⟨pre',e',ne'⟩:=mZ f 2 0 (d+1) r' y.1 y.2 hy;cases h;exact⟨.sign c::pre',by rw[e'];simp,by simp⟩
      .split at h
       .obtain⟨y,hy,h⟩:=fq.mp h
        obtain⟨pre',e',ne'⟩:=mZ f 2 0 (d+1) r' y.1 y.2 hy;cases h;exact⟨.sign c::pre',by rw[e'];simp,by simp⟩
       .split at h
        .obtain⟨y,hy,h⟩:=fq.mp h
         obtain⟨pre',e',ne'⟩:=mZ f 2 0 (d+1) r' y.1 y.2 hy;cases h;exact⟨.sign c::pre',by rw[e'];simp,by simp⟩
        .split at h
         .obtain⟨y,hy,h⟩:=cY.mp h
          obtain⟨pre',e',ne'⟩:=mZ f 0 0 (d+1) r' y.1 y.2 hy;unfold brk at h;split at h
          .rename_i s hs
           cases h;exact⟨.sign c::(pre'++[.sign 41]),by rw[e',hs];simp,by simp⟩
          .cases h
         .cases h
     .cases h
    .cases h
theorem Ih{f k:Nat}{sg:UInt8}{d:Nat}{ts:List Mc}{A:Formula}{r:List Mc}(h:Mq f k sg d ts=some (A,r)):r.length<ts.length:=by obtain⟨pre,e,ne⟩:=mZ f k sg d ts A r h;have:0<pre.length:=sV.mpr ne;rw[e,cP];lia
theorem yi{f k:Nat}{sg:UInt8}{d:Nat}{ts:List Mc}{A:Formula}{r:List Mc}(h:Mq f k sg d ts=some (A,r))(ok:∀t∈ts,fu t=true):∀t∈r,fu t=true:=by obtain⟨pre,e,ne⟩:=mZ f k sg d ts A r h;intro t ht;exact ok t (by rw[e];exact jN _ ht)
noncomputable def Ti(p:List Pd):Option (Formula×List Mc)->Option Formula
 |none=>none
 |some (A,r)=>run ⟨some (eN A p).1,(eN A p).2⟩ r
noncomputable def Tj(p:List Pd):Option (Formula×List Mc)->Option Formula
 |none=>none
 |some (A,r)=>runC A p r
noncomputable def Ii(p:List Pd):Option (Formula×List Mc)->Option Formula
 |none=>none
 |some (A,r)=>kP A p r
theorem tp{c:UInt8}(h:fu (.sign c)=true):c=126\/c=42\/c=124\/c=40\/c=41:=by simp only[fu,qP,beq_iff_eq]at h;exact h
theorem main(f:Nat):∀(ts:List Mc) (p:List Pd),(∀k∈ts,fu k=true)->
  (4*ts.length+1<=f->run ⟨none,p⟩ ts=Ti p (Mq f 2 0 p.length ts))/\
  (4*ts.length+2<=f->BP p=false->run ⟨none,p⟩ ts=Tj p (Mq f 1 (pI p) p.length ts))/\
  (4*ts.length+3<=f->BP p=false->yh p=false->run ⟨none,p⟩ ts=Ii p (Mq f 0 0 p.length ts)):=by
 induction f with
 |zero=>intro ts p _;exact⟨λh=>by lia,λh=>by lia,λh=>by lia⟩
 |succ f ih=>
  intro ts p ok;refine⟨λhf=>?_,λhf ht=>?_,λhf ht hc=>?_⟩
  .rw[tm,ay (by decide),ay (by decide)]
   cases ts with
   |nil=>rfl
   |cons k ts=>
    have okr:∀k∈ts,fu k=true:=λk hk=>ok k (fL _ hk);rw[bj]at hf;cases k with
    |name a|arrow=>rfl
    |sign c=>
     have oc:=tp (ok _ (iC ..));simp only[run,take,vf];by_cases hd:p.length<100
     .rw[aI (show p.length<OPEN from hd)]
      by_cases h1:c=126
      .subst h1
       simp only[aI,push,aI hd];rw[(ih ts (.gp::p) okr).1 (by lia)];rw[bj];cases Mq f 2 0 (p.length+1) ts with
       |none|some y=>rfl
      .rw[ay h1,ay h1]
       by_cases h2:c=40
       .subst h2
        simp only[aI,push,aI hd];rw[ay (by decide),ay (by decide)];rw[(ih ts (.gF::p) okr).2.2 (by lia) U U];rw[bj];cases hl:Mq f 0 0 (p.length+1) ts with
        |none=>rfl
        |some y=>
         obtain⟨A,r⟩:=y;show kP A (.gF::p) r=_;cases r with
         |nil=>rfl
         |cons k r=>
          cases k with
          |name a|arrow=>rfl
          |sign c=>
           by_cases BQ:c=41
           .subst BQ;rfl
           .unfold kP
            simp only[ay BQ,dQ];unfold brk;split
            .rename_i s e
             simp only[u0,Token.sign.injEq]at e;exact absurd e.1 BQ
            .rfl
       .rw[ay h2,ay (by rintro rfl;revert oc;decide),ay (by rintro rfl;revert oc;decide),ay h2]
        rfl
     .rw[ay (show¬p.length<OPEN from hd)]
      simp only[push,ay hd];by_cases h1:c=126
      .rw[aI h1];rfl
      .rw[ay h1]
       by_cases h2:c=40
       .rw[aI h2];rfl
       .rw[ay h2];rfl
  .rw[tm,ay (by decide),aI U]
   rw[(ih ts p ok).1 (by lia)];cases hl:Mq f 2 0 p.length ts with
   |none=>rfl
   |some x=>
    obtain⟨A,r⟩:=x;have lr:=Ih hl;have okr:=yi hl ok;show run ⟨some (eN A p).1,(eN A p).2⟩ r=_;rw[Ie A p ht];simp only[dQ];cases r with
    |nil=>rfl
    |cons k r=>
     rw[bj]at lr;cases k with
     |name a|arrow=>rfl
     |sign c=>
      have oc:=tp (okr _ (iC ..));have okr':∀k∈r,fu k=true:=λk hk=>okr k (fL _ hk);by_cases h2:c=42\/c=124
      .obtain⟨b,hb⟩:∃b:Bool,c=(if b=true then 124 else 42):=by
        rcases h2 with h|h
        .exact⟨false,h⟩
        .exact⟨true,h⟩
       have BR:isTwo c=true:=by rcases h2 with rfl|rfl<;>rfl
       have bP:run ⟨some A,p⟩ (.sign c::r)=(match i6 b A p with|some s'=>run s' r|none=>none):=by
        cases b
        .have e:c=42:=hb
         subst e;rfl
        .have e:c=124:=hb
         subst e;rfl
       show run ⟨some A,p⟩ (.sign c::r)=_;rw[bP];simp only[tj];by_cases hs:pI p=0\/pI p=c
       .rw[aI ⟨BR,hs⟩]
        have BS:i6 b A p=push (.cf b A) p:=by
         unfold i6;cases p with
         |nil=>rfl
         |cons q p=>
          cases q with
          |cf b' B=>
           have:b'=b:=by
            cases b'<;>cases b<;>first|rfl|(exfalso;subst hb;revert hs;simp[pI])
           show(if b'=b then _ else _)=_;rw[aI this]
          |_=>rfl
        rw[BS];by_cases hd:p.length<100
        .rw[aI (show p.length<OPEN from hd)]
         simp only[push,aI hd];rw[(ih r (.cf b A::p) okr').2.1 (by lia) U];have e3:pI (.cf b A::p)=c:=hb.symm;rw[e3,bj];cases Mq f 1 c (p.length+1) r with
         |none=>rfl
         |some y=>show runC y.1 (.cf b A::p) y.2=runC (two c A y.1) p y.2;rw[Tf,hb,Te]
        .rw[ay (show¬p.length<OPEN from hd)]
         simp only[push,ay hd];rfl
       .rw[ay (λz=>hs z.2)]
        have BS:i6 b A p=none:=by
         unfold i6;cases p with
         |nil=>exact absurd (Or.inl U) hs
         |cons q p=>
          cases q with
          |cf b' B=>
           have:¬b'=b:=by rintro rfl;exact hs (.inr hb.symm)
           show(if b'=b then _ else _)=_;rw[ay this]
          |_=>exact absurd (Or.inl U) hs
        rw[BS];show none=runC A p (.sign c::r);unfold runC;simp only[aI h2]
      .have BR:¬(isTwo c=true/\ (pI p=0\/pI p=c)):=by
        intro z;have z1:=z.1;rcases oc with rfl|rfl|rfl|rfl|rfl
        .exact absurd z1 (by decide)
        .exact h2 (.inl U)
        .exact h2 (.inr U)
        .exact absurd z1 (by decide)
        .exact absurd z1 (by decide)
       simp only[tj];rw[ay BR];show _=runC A p (.sign c::r);unfold runC;simp only[ay h2]
  .rw[tm,aI U]
   rw[(ih ts p ok).2.1 (by lia) ht,Th p hc];cases hl:Mq f 1 0 p.length ts with
   |none=>rfl
   |some x=>
    obtain⟨A,r⟩:=x;have lr:=Ih hl;have okr:=yi hl ok;show runC A p r=_;simp only[dQ];cases r with
    |nil=>rfl
    |cons k r=>
     rw[bj]at lr;cases k with
     |name a=>rfl
     |arrow=>
      have okr':∀k∈r,fu k=true:=λk hk=>okr k (fL _ hk);show(match push (.arr (de A p).1) (de A p).2 with|some s'=>run s' r|none=>none)=_;rw[Ig A p hc];simp only[vc];by_cases hd:p.length<100
      .simp only[aI (show p.length<OPEN from hd)]
       simp only[push,aI hd];rw[(ih r (.arr A::p) okr').2.2 (by lia) U U,bj];cases Mq f 0 0 (p.length+1) r with
       |none=>rfl
       |some y=>show kP y.1 (.arr A::p) y.2=kP (.par (L7 A) y.1) p y.2;exact Tg _ _ _ _ hc
      .simp only[ay (show¬p.length<OPEN from hd)]
       simp only[push,ay hd];rfl
     |sign c=>show runC A p (.sign c::r)=kP A p (.sign c::r);unfold runC kP;have oc:=tp (okr _ (iC ..));rcases oc with rfl|rfl|rfl|rfl|rfl<;>rfl
theorem run_eq(ts:List Mc)(ok:∀k∈ts,fu k=true):run ⟨none,[]⟩ ts=NG ts:=by
 rw[(main (4*(ts.length+1)) ts [] ok).2.2 (by lia) U U];unfold NG;show Ii [] (Mq _ 0 0 0 ts)=_;cases Mq (4*(ts.length+1)) 0 0 0 ts with
 |none=>rfl
 |some x=>
  obtain⟨A,r⟩:=x;show kP A [] r=_;cases r with
  |nil=>rfl
  |cons k r=>
   cases k with
   |name a|arrow=>rfl
   |sign c=>
    unfold kP;by_cases h:c=41
    .subst h;rfl
    .simp only[ay h]
open Vanetc
abbrev Node:=Nat×Name
noncomputable def enc:Formula->List Node
 | .atom n a=>[(if n=true then 1 else 0,a)]
 | .tensor A B=>(2,[])::(enc A++enc B)
 | .par A B=>(3,[])::(enc A++enc B)
 | .wth A B=>(4,[])::(enc A++enc B)
 | .plus A B=>(5,[])::(enc A++enc B)
 | .ofc A=>(6,[])::enc A
 | .whn A=>(7,[])::enc A
noncomputable def yj(k:Nat):Nat:=if k%2=0 then k+1 else k-1
noncomputable def qS(x:Node):Node:=(yj x.1,x.2)
noncomputable def bR(x:Node):Bool:=decide (2<=x.1)
noncomputable def gU(x:Bool×Name):Node:=(if x.1=true then 1 else 0,x.2)
theorem bJ:∀A:Formula,(enc A).length=nodes A
 | .atom n a=>rfl
 | .tensor A B| .par A B| .wth A B| .plus A B=>by simp only[enc,nodes,bj,cP,bJ A,bJ B];lia
 | .ofc A| .whn A=>by simp only[enc,nodes,bj,bJ A];lia
theorem BU(A:Formula):enc A≠ []:=by cases A<;>simp[enc]
theorem jS:∀A:Formula,enc (L7 A)=(enc A).map qS
 | .atom n a=>by cases n<;>rfl
 | .tensor A B| .par A B| .wth A B| .plus A B=>by simp only[enc,L7,ez,iD,jS A,jS B];rfl
 | .ofc A| .whn A=>by simp only[enc,L7,ez,jS A];rfl
theorem jt:∀(A:Formula),multiplicative A=true->∀x∈enc A,x.1<4
 | .atom n a,_=>by intro x hx;simp only[enc,aeq]at hx;subst hx;cases n<;>simp
 | .tensor A B,h| .par A B,h=>by
  simp only[multiplicative,bC]at h;intro x hx;simp only[enc,br,c9]at hx;rcases hx with rfl|hx|hx
  .decide
  .exact jt A h.1 x hx
  .exact jt B h.2 x hx
 | .wth A B,h| .plus A B,h| .ofc A,h| .whn A,h=>by simp[multiplicative]at h
theorem vg:∀(A:Formula),(enc A).filter (λx=> !bR x)=(leaves A).map gU
 | .atom n a=>by cases n<;>rfl
 | .tensor A B| .par A B| .wth A B| .plus A B=>by simp only[enc,leaves,mV,List.filter_append,vg A,vg B,iD];rfl
 | .ofc A| .whn A=>by simp only[enc,leaves,mV,vg A];rfl
theorem qU:∀A:Formula,(leaves A).length=L_ A
 | .atom n a=>rfl
 | .tensor A B| .par A B| .wth A B| .plus A B=>by simp only[leaves,L_,cP,qU A,qU B]
 | .ofc A| .whn A=>qU A
theorem jT:∀A:Formula,multiplicative (L7 A)=multiplicative A
 | .atom n a=>rfl
 | .tensor A B| .par A B=>by simp only[L7,multiplicative,jT A,jT B]
 | .wth A B| .plus A B| .ofc A| .whn A=>rfl
theorem lI:∀A:Formula,L_ (L7 A)=L_ A
 | .atom n a=>rfl
 | .tensor A B| .par A B| .wth A B| .plus A B=>by simp only[L7,L_,lI A,lI B]
 | .ofc A| .whn A=>lI A
theorem yk(A:Formula):nodes (L7 A)=nodes A:=by rw[<-bJ,jS,aX,bJ]
theorem yl:∀A:Formula,deep (L7 A)=deep A
 | .atom n a=>rfl
 | .tensor A B| .par A B| .wth A B| .plus A B=>by simp only[L7,deep,yl A,yl B]
 | .ofc A| .whn A=>by simp only[L7,deep,yl A]
theorem Tn(A:Formula):inBounds (L7 A)=inBounds A:=by unfold inBounds;rw[lI,yk,yl]
theorem qV:∀A:Formula,multiplicative A=true->nodes A+1=2*L_ A
 | .atom n a,_=>rfl
 | .tensor A B,h| .par A B,h=>by simp only[multiplicative,bC]at h;have:=qV A h.1;have:=qV B h.2;simp only[nodes,L_];lia
 | .wth A B,h| .plus A B,h| .ofc A,h| .whn A,h=>by simp[multiplicative]at h
theorem Ij{A:Formula}(h:multiplicative A=true):inBounds A=(decide (L_ A<=60)&&decide (deep A<=40)):=by
 have:=qV A h;unfold inBounds;by_cases h1:L_ A<=60
 .rw[bb h1,bb (show nodes A<=200 by lia)];rfl
 .rw[cO h1];rfl
noncomputable def m4(x:Node)(st:List Nat):List Nat:=if bR x=true then(match st with
 |a::b::r=>(1+max a b)::r
 |_=>st)else 1::st
theorem dfold:∀(A:Formula),multiplicative A=true->∀st,(enc A).foldr m4 st=deep A::st
 | .atom n a,_,st=>by cases n<;>rfl
 | .tensor A B,h,st| .par A B,h,st=>by simp only[multiplicative,bC]at h;simp only[enc,n_,BE,dfold A h.1,dfold B h.2];rfl
 | .wth A B,h,_| .plus A B,h,_| .ofc A,h,_| .whn A,h,_=>by simp[multiplicative]at h
abbrev Wr:=Nat×Text
noncomputable def oo(k:Nat)(x y:Wr):Text:=paren (decide (2<=x.1)) x.2++(if k=2 then 42 else 124)::paren (decide (2<=y.1)&&y.1 !=k) y.2
noncomputable def qW(x:Node):Text:=if x.1=1 then 126::x.2 else x.2
noncomputable def gW(x:Node)(st:List Wr):List Wr:=if bR x=true then(match st with
 |a::b::r=>(x.1,oo x.1 a b)::r
 |_=>st)else(x.1,qW x)::st
noncomputable def kindOf:Formula->Nat
 | .atom n _=>if n=true then 1 else 0
 | .tensor _ _=>2
 | .par _ _=>3
 | .wth _ _=>4
 | .plus _ _=>5
 | .ofc _=>6
 | .whn _=>7
theorem To{A:Formula}(h:multiplicative A=true):(signOf A !=0)=decide (2<=kindOf A):=by
 cases A with
 |atom n a=>cases n<;>rfl
 |tensor A B|par A B=>rfl
 |wth A B|plus A B|ofc A|whn A=>simp[multiplicative]at h
theorem Ik{A B:Formula}(hA:multiplicative A=true)(hB:multiplicative B=true)(k:Nat)(hk:k=2\/k=3):
  oo k (kindOf A,form A) (kindOf B,form B)=chain (if k=2 then 42 else 124) (signOf A) (signOf B) (form A) (form B):=by
 unfold oo chain;rw[To hA];congr 3;cases B with
 |atom n a=>cases n<;>rcases hk with rfl|rfl<;>rfl
 |tensor A B|par A B=>rcases hk with rfl|rfl<;>rfl
 |wth A B|plus A B|ofc A|whn A=>simp[multiplicative]at hB
theorem tq:∀(A:Formula),multiplicative A=true->∀st,(enc A).foldr gW st=(kindOf A,form A)::st
 | .atom n a,_,st=>by cases n<;>rfl
 | .tensor A B,h,st=>by simp only[multiplicative,bC]at h;simp only[enc,n_,BE,tq A h.1,tq B h.2];show(2,oo 2 (kindOf A,form A) (kindOf B,form B))::st=_;rw[Ik h.1 h.2 2 (.inl U)];rfl
 | .par A B,h,st=>by simp only[multiplicative,bC]at h;simp only[enc,n_,BE,tq A h.1,tq B h.2];show(3,oo 3 (kindOf A,form A) (kindOf B,form B))::st=_;rw[Ik h.1 h.2 3 (.inr U)];rfl
 | .wth A B,h,_| .plus A B,h,_| .ofc A,h,_| .whn A,h,_=>by simp[multiplicative]at h
noncomputable def vh(f:Nat)(r:Text):Option (List Mc):=match r with
 |111::s=>(M0 f s).map λl=> .arrow::l
 |_=>none
theorem BV(f:Nat)(c:UInt8)(r:Text):M0 (f+1) (c::r)=
  if c=32 then M0 f r
  else if isSign c=true then(M0 f r).map λl=> .sign c::l
  else if c=45 then vh f r
  else if isWord c=true then
   (if isName (c::r.takeWhile isWord)=true then(M0 f (r.dropWhile isWord)).map λl=> .name (c::r.takeWhile isWord)::l else none)
  else none:=rfl
theorem BW:∀(f g:Nat) (t:Text),t.length<f->t.length<g->M0 f t=M0 g t
 |0,_,_,h,_|_,0,_,_,h=>by lia
 |f+1,g+1,[],_,_=>rfl
 |f+1,g+1,c::r,hf,hg=>by
  simp only[bj]at hf hg;have ih:∀s:Text,s.length<=r.length->M0 f s=M0 g s:=λs hs=>BW f g s (by lia) (by lia);have hd:(r.dropWhile isWord).length<=r.length:=(xY _).length_le;have ha:vh f r=vh g r:=by
   unfold vh;split
   .rename_i s;rw[ih s (by simp)]
   .rfl
  rw[BV,BV,ih r (a_ _),ih _ hd,ha]
noncomputable def arr?(r:Text):Option (Mc×Text):=match r with
 |111::s=>some (.arrow,s)
 |_=>none
noncomputable def one?(c:UInt8)(r:Text):Option (Mc×Text):=
 if isSign c=true then some (.sign c,r)
 else if c=45 then arr? r
 else if isWord c=true then
  (if isName (c::r.takeWhile isWord)=true then some (.name (c::r.takeWhile isWord),r.dropWhile isWord)else none)
 else none
theorem Tp(c:UInt8)(r:Text):tokens (c::r)=if c=32 then tokens r else(one? c r).bind λx=>(tokens x.2).map λl=>x.1::l:=by
 have hd:(r.dropWhile isWord).length<=r.length:=(xY _).length_le;show M0 (r.length+1+1) (c::r)=_;unfold tokens;rw[BV];by_cases h0:c=32
 .rw[aI h0,aI h0]
 .rw[ay h0,ay h0]
  unfold one?;by_cases h1:isSign c=true
  .rw[aI h1,aI h1];rfl
  .rw[ay h1,ay h1]
   by_cases h2:c=45
   .rw[aI h2,aI h2]
    unfold vh arr?;split
    .rename_i s
     show Option.map _ _=Option.map _ _;rw[BW (List.length (111::s)+1) (s.length+1) s (by simp;lia) (by lia)]
    .rfl
   .rw[ay h2,ay h2]
    by_cases h3:isWord c=true
    .rw[aI h3,aI h3]
     split
     .show Option.map _ _=Option.map _ _
      rw[BW (r.length+1) ((r.dropWhile isWord).length+1) _ (by lia) (by lia)]
     .rfl
    .rw[ay h3,ay h3];rfl
noncomputable def ju(l:List Mc):Bool:=l.all fu
noncomputable def toks(t:Text):Option (List Mc):=(tokens t).filter ju
noncomputable def lJ(c:UInt8)(r:Text):Option (Mc×Text):=(one? c r).filter λx=>fu x.1
theorem BX:toks []=some []:=rfl
theorem BY(c:UInt8)(r:Text):toks (c::r)=if c=32 then toks r else(lJ c r).bind λx=>(toks x.2).map λl=>x.1::l:=by
 unfold toks lJ;rw[Tp];by_cases h0:c=32
 .rw[aI h0,aI h0]
 .rw[ay h0,ay h0]
  cases one? c r with
  |none=>rfl
  |some x=>
   simp only[dQ];cases hx:fu x.1 with
   |true=>
    simp only[Option.filter,hx,if_true,dQ];cases tokens x.2 with
    |none=>rfl
    |some l=>
     have e:ju (x.1::l)=ju l:=by unfold ju;rw[iG,hx];rfl
     simp only[mW,e];cases ju l<;>rfl
   |false=>
    simp only[Option.filter,hx];cases tokens x.2 with
    |none=>rfl
    |some l=>simp[ju,hx]
theorem Tq{c:UInt8}{A B:Formula}(h:multiplicative (two c A B)=true):(c=42\/c=124)/\ multiplicative A=true/\ multiplicative B=true:=by
 unfold two at h;split at h
 .rename_i e
  simp only[multiplicative,bC]at h;exact⟨.inl e,h⟩
 .split at h
  .rename_i e
   simp only[multiplicative,bC]at h;exact⟨.inr e,h⟩
  .split at h<;>simp[multiplicative]at h
theorem m7:∀(f k:Nat) (sg:UInt8) (d:Nat) (ts:List Mc) (A:Formula) (r:List Mc),Mq f k sg d ts=some (A,r)->multiplicative A=true->∃pre,ts=pre++r/\ ∀t∈pre,fu t=true
 |0,_,_,_,_,_,_,h,_=>by simp[Mq]at h
 |f+1,k,sg,d,ts,A,r,h,hm=>by
  rw[tm]at h;by_cases k0:k=0
  .rw[aI k0]at h
   obtain⟨x,hx,h⟩:=cY.mp h;unfold vc at h;split at h
   .rename_i r' hr
    split at h
    .obtain⟨y,hy,h⟩:=fq.mp h
     cases h;simp only[multiplicative,bC,jT]at hm;obtain⟨pre,e,o⟩:=m7 f 1 0 d ts x.1 x.2 hx hm.1;obtain⟨pre',e',o'⟩:=m7 f 0 0 (d+1) r' y.1 y.2 hy hm.2;refine⟨pre++ .arrow::pre',by rw[e,hr,e'];simp,λt ht=>?_⟩;simp only[c9,br]at ht;rcases ht with ht|rfl|ht
     .exact o t ht
     .rfl
     .exact o' t ht
    .cases h
   .cases h;exact m7 f 1 0 d ts _ _ hx hm
  .rw[ay k0]at h
   by_cases k1:k=1
   .rw[aI k1]at h
    obtain⟨x,hx,h⟩:=cY.mp h;unfold tj at h;split at h
    .rename_i c r' hr
     split at h
     .split at h
      .obtain⟨y,hy,h⟩:=fq.mp h
       cases h;obtain⟨hc,vi,oq⟩:=Tq hm;obtain⟨pre,e,o⟩:=m7 f 2 0 d ts x.1 x.2 hx vi;obtain⟨pre',e',o'⟩:=m7 f 1 c (d+1) r' y.1 y.2 hy oq;refine⟨pre++ .sign c::pre',by rw[e,hr,e'];simp,λt ht=>?_⟩;simp only[c9,br]at ht;rcases ht with ht|rfl|ht
       .exact o t ht
       .rcases hc with rfl|rfl<;>rfl
       .exact o' t ht
      .cases h
     .cases h;exact m7 f 2 0 d ts _ _ hx hm
    .cases h;exact m7 f 2 0 d ts _ _ hx hm
   .rw[ay k1]at h
    unfold vf at h;split at h
    .rename_i a r'
     cases h;exact⟨[.name a],U,by simp[fu]⟩
    .rename_i c r'
     split at h
     .split at h
      .rename_i hc
       obtain⟨y,hy,h⟩:=fq.mp h;cases h;rw[jT]at hm;obtain⟨pre',e',o'⟩:=m7 f 2 0 (d+1) r' y.1 y.2 hy hm;refine⟨.sign c::pre',by rw[e'];simp,λt ht=>?_⟩;simp only[br]at ht;rcases ht with rfl|ht
       .subst hc;rfl
       .exact o' t ht
      .split at h
       .obtain⟨y,hy,h⟩:=fq.mp h
        cases h;simp[multiplicative]at hm
       .split at h
        .obtain⟨y,hy,h⟩:=fq.mp h
         cases h;simp[multiplicative]at hm
        .split at h
         .rename_i hc
          obtain⟨y,hy,h⟩:=cY.mp h;unfold brk at h;split at h
          .rename_i s hs
           cases h;obtain⟨pre',e',o'⟩:=m7 f 0 0 (d+1) r' y.1 y.2 hy hm;refine⟨.sign c::(pre'++[.sign 41]),by rw[e',hs];simp,λt ht=>?_⟩;simp only[br,c9,xZ,or_false]at ht;rcases ht with rfl|ht|rfl
           .subst hc;rfl
           .exact o' t ht
           .rfl
          .cases h
         .cases h
     .cases h
    .cases h
theorem Tr{c:UInt8}{A B:Formula}(hc:fu (.sign c)=true)(h2:isTwo c=true)(hA:multiplicative A=true)(hB:multiplicative B=true):multiplicative (two c A B)=true:=by
 rcases tp hc with rfl|rfl|rfl|rfl|rfl
 .exact absurd h2 (by decide)
 .simp[two,multiplicative,hA,hB]
 .simp[two,multiplicative,hA,hB]
 .exact absurd h2 (by decide)
 .exact absurd h2 (by decide)
theorem qX:∀(f k:Nat) (sg:UInt8) (d:Nat) (ts:List Mc) (A:Formula) (r:List Mc),Mq f k sg d ts=some (A,r)->(∀t∈ts,fu t=true)->multiplicative A=true
 |0,_,_,_,_,_,_,h,_=>by simp[Mq]at h
 |f+1,k,sg,d,ts,A,r,h,ok=>by
  rw[tm]at h;by_cases k0:k=0
  .rw[aI k0]at h
   obtain⟨x,hx,h⟩:=cY.mp h;have hm:=qX f 1 0 d ts x.1 x.2 hx ok;have tw:=yi hx ok;unfold vc at h;split at h
   .rename_i r' hr
    rw[hr]at tw;split at h
    .obtain⟨y,hy,h⟩:=fq.mp h
     cases h;simp only[multiplicative,bC,jT];exact⟨hm,qX f 0 0 (d+1) r' y.1 y.2 hy λt ht=>tw t (fL _ ht)⟩
    .cases h
   .cases h;exact hm
  .rw[ay k0]at h
   by_cases k1:k=1
   .rw[aI k1]at h
    obtain⟨x,hx,h⟩:=cY.mp h;have hm:=qX f 2 0 d ts x.1 x.2 hx ok;have tw:=yi hx ok;unfold tj at h;split at h
    .rename_i c r' hr
     rw[hr]at tw;split at h
     .rename_i hc
      split at h
      .obtain⟨y,hy,h⟩:=fq.mp h
       cases h;exact Tr (tw _ (iC ..)) hc.1 hm (qX f 1 c (d+1) r' y.1 y.2 hy λt ht=>tw t (fL _ ht))
      .cases h
     .cases h;exact hm
    .cases h;exact hm
   .rw[ay k1]at h
    unfold vf at h;split at h
    .cases h;rfl
    .rename_i c r'
     have okr:∀t∈r',fu t=true:=λt ht=>ok t (fL _ ht);have oc:=tp (ok _ (iC ..));split at h
     .split at h
      .obtain⟨y,hy,h⟩:=fq.mp h
       cases h;rw[jT];exact qX f 2 0 (d+1) r' y.1 y.2 hy okr
      .split at h
       .rename_i hc;subst hc;exact absurd oc (by decide)
       .split at h
        .rename_i hc;subst hc;exact absurd oc (by decide)
        .split at h
         .obtain⟨y,hy,h⟩:=cY.mp h
          unfold brk at h;split at h
          .cases h;exact qX f 0 0 (d+1) r' y.1 y.2 hy okr
          .cases h
         .cases h
     .cases h
    .cases h
noncomputable def gX(t:Text):Option Formula:=if 2000<t.length then none else(toks t).bind λts=>run ⟨none,[]⟩ ts
theorem Ts(t:Text):gX t=(M6 t).filter multiplicative:=by
 unfold gX M6 BYTES;split
 .rfl
 .unfold toks
  cases tokens t with
  |none=>rfl
  |some ts=>
   simp only[dQ];cases ha:ju ts with
   |true=>
    have ok:∀k∈ts,fu k=true:=iZ.mp ha;simp only[Option.filter,ha,if_true,dQ];rw[run_eq ts ok];cases hf:NG ts with
    |none=>rfl
    |some A=>
     have:multiplicative A=true:=by
      unfold NG at hf;split at hf
      .rename_i B hl
       cases hf;exact qX _ _ _ _ _ _ _ hl ok
      .cases hf
     simp[this]
   |false=>
    simp only[Option.filter,ha];cases hf:NG ts with
    |none=>rfl
    |some A=>
     cases hm:multiplicative A with
     |false=>simp[hm]
     |true=>
      exfalso;unfold NG at hf;split at hf
      .rename_i B hl
       cases hf;obtain⟨pre,e,o⟩:=m7 _ _ _ _ _ _ _ hl hm;rw[i5]at e;subst e;have:=iZ.mpr o;unfold ju at ha;rw[ha]at this;cases this
      .cases hf
theorem Il(b:UInt8):∀t:Text,Mt b t≠ []
 |[]=>by simp[Mt]
 |c::r=>by
  unfold Mt;split
  .simp
  .split<;>simp
theorem vj(b c:UInt8):∀(t:Text) (ps:List Text) (cur:Text),Mt b t=ps++[cur]->Mt b (t++[c])=if c=b then(ps++[cur])++[[]]else ps++[cur++[c]]
 |[],ps,cur,h=>by
  have h':([[]]:List Text)=ps++[cur]:=h;cases ps with
  |nil=>
   have:cur=[]:=by simpa using h'.symm
   subst this;show Mt b [c]=_;unfold Mt;split<;>rfl
  |cons p ps=>have:=congrArg List.length h';simp at this
 |x::r,ps,cur,h=>by
  rw[mX];unfold Mt at h⊢;by_cases hx:x=b
  .rw[aI hx]at h⊢
   cases ps with
   |nil=>simp only[nY,u0]at h;exact absurd h.2 (Il b r)
   |cons p ps=>simp only[mX,u0]at h;obtain⟨rfl,h⟩:=h;rw[vj b c r ps cur h];split<;>simp
  .rw[ay hx]at h⊢
   cases hc:Mt b r with
   |nil=>exact absurd hc (Il b r)
   |cons w ws=>
    rw[hc]at h;dsimp only at h;cases ps with
    |nil=>
     simp only[nY,u0]at h;obtain⟨rfl,rfl⟩:=h;have e:=vj b c r [] w hc;rw[e];by_cases gY:c=b
     .rw[aI gY,aI gY];rfl
     .rw[ay gY,ay gY];rfl
    |cons p ps=>
     simp only[mX,u0]at h;obtain⟨rfl,rfl⟩:=h;have e:=vj b c r (w::ps) cur (by rw[hc];rfl);rw[e];by_cases gY:c=b
     .rw[aI gY,aI gY];rfl
     .rw[ay gY,ay gY];rfl
noncomputable def df(sep:Text):List Text->Text
 |[]=>[]
 |[a]=>a
 |a::b::r=>a++sep++df sep (b::r)
theorem Im(sep:Text):∀(l:List Text) (x:Text),df sep (l++[x])=if l=[]then x else df sep l++sep++x
 |[],x=>rfl
 |[a],x=>by simp[df]
 |a::b::r,x=>by have ih:=Im sep (b::r) x;rw[ay (by simp)]at ih⊢;show a++sep++df sep ((b::r)++[x])=_;rw[ih];simp[df]
theorem ym:∀l:List Formula,sequentForm l=df [44,32] (l.map form)
 |[]|[A]=>rfl
 |A::B::r=>by have ih:=ym (B::r);show form A++44::32::sequentForm (B::r)=_;rw[ih];simp[df]
theorem yn:∀l:List Text,spaced l=df [32] l
 |[]|[a]=>rfl
 |a::b::r=>by have ih:=yn (b::r);show a++32::spaced (b::r)=_;rw[ih];simp[df]
theorem BZ{p:UInt8->Bool}:∀{t:Text},(∀x∈t,p x=true)->t.dropWhile p=[]
 |[],_=>rfl
 |c::r,h=>by rw[u4,aI (h c (by simp))];exact BZ λx hx=>h x (by simp[hx])
theorem Io{p:UInt8->Bool}:∀{t:Text} {c:UInt8} {r:Text},t.dropWhile p=c::r->p c=false
 |[],c,r,h=>by simp at h
 |d::t,c,r,h=>by
  rw[u4]at h;split at h
  .exact Io h
  .rename_i hd
   cases h;simpa using hd
theorem pJ{p:UInt8->Bool}:∀{t:Text},t.dropWhile p=[]->∀x∈t,p x=true
 |[],_=>by simp
 |d::t,h=>by
  rw[u4]at h;split at h
  .rename_i hd
   intro x hx;rcases br.mp hx with rfl|hx
   .exact hd
   .exact pJ h x hx
  .cases h
noncomputable def blank(b:UInt8):Bool:=b==32
theorem B0(t:Text):trimmed t=((t.dropWhile blank).reverse.dropWhile blank).reverse:=rfl
theorem dropWhile_at{p:UInt8->Bool}:∀(t:Text) (i:Nat),(∀x∈t.take i,p x=true)->(∀x,t[i]? =some x->p x=false)->i<=t.length->t.dropWhile p=t.drop i
 |[],i,_,_,_=>by simp
 |c::r,0,_,h,_=>by have:=h c U;rw[u4,ay (by rw[this];simp)];rfl
 |c::r,i+1,h,h2,hl=>by have hc:=h c (by simp);rw[u4,aI hc];exact dropWhile_at r i (λx hx=>h x (by simp[hx])) (λx hx=>h2 x hx) (by simpa using hl)
theorem Tt(t:Text)(i j:Nat)(iH:i<=j)(hj:j<=t.length)(h1:∀x∈t.take i,x=32)(h2:i<j->∀x,t[i]? =some x->x≠32)(h3:∀x∈t.drop j,x=32)(h4:i<j->∀x,t[j-1]? =some x->x≠32):
  trimmed t=(t.drop i).take (j-i):=by
 rw[B0];by_cases e:i<j
 .rw[dropWhile_at t i (λx hx=>by rw[h1 x hx];rfl) (λx hx=>by have:=h2 e x hx;simpa [blank]using this) (by lia)]
  have l:(t.drop i).reverse.length=t.length-i:=by simp
  rw[dropWhile_at (t.drop i).reverse (t.length-j) ?_ ?_ (by lia)]
  .rw[<-List.reverse_reverse (List.take (j-i) (List.drop i t))]
   congr 1;rw[List.reverse_take];congr 1;rw[jq];lia
  .intro x hx
   have:x∈t.drop j:=by
    rw[List.take_reverse,BF,jq]at hx;have e2:i+(t.length-i-(t.length-j))=j:=by lia
    rw[sW,e2]at hx;exact hx
   rw[h3 x this];rfl
  .intro x hx
   have aU:t.length-j<t.length-i:=by lia
   rw[x4 (by simpa using aU),jq,oa]at hx;have e2:i+(t.length-i-1-(t.length-j))=j-1:=by lia
   rw[e2]at hx;have:=h4 e x hx;simpa [blank]using this
 .have e':i=j:=by lia
  subst e';have fw:∀x∈t,x=32:=by
   intro x hx;rw[<-u5 i t,c9]at hx;rcases hx with hx|hx
   .exact h1 x hx
   .exact h3 x hx
  have:t.dropWhile blank=[]:=BZ λx hx=>by rw[fw x hx];rfl
  rw[this];simp
theorem Ip(t:Text):trimmed t=[]↔t.all (λb=>b==32)=true:=by
 rw[B0];constructor
 .intro h
  have h1:(t.dropWhile blank).reverse.dropWhile blank=[]:=by simpa using h
  have h2:∀x∈t.dropWhile blank,blank x=true:=λx hx=>pJ h1 x (by simpa using hx);have h3:t.dropWhile blank=[]:=by
   cases hd:t.dropWhile blank with
   |nil=>rfl
   |cons c r=>have hc:=Io hd;have:=h2 c (by rw[hd];simp);rw[hc]at this;cases this
  exact iZ.mpr (pJ h3)
 .intro h
  have:t.dropWhile blank=[]:=BZ (iZ.mp h);rw[this];rfl
noncomputable def valOf(t:Text):Nat:=t.foldl (λn b=>10*n+(b.toNat-48)) 0
noncomputable def ot(t:Text):Bool:=t.isEmpty||(decide (1<t.length)&&t.head? ==some 48)
theorem B1(t:Text):numberOf t=if ot t=true then none else if t.all MX=true then some (valOf t)else none:=by unfold numberOf ot valOf;cases t.isEmpty<;>cases t.all MX<;>cases (decide (1<t.length)&&t.head? ==some 48)<;>rfl
noncomputable def d8(t:Text):Int:=match numberOf t with
 |some n=>n
 |none=> -1
theorem Tu(t:Text)(b:UInt8):valOf (t++[b])=10*valOf t+(b.toNat-48):=by unfold valOf;rw[u6];rfl
theorem Tv(t:Text):M1 t=match Mt 45 t with
  |[a,b]=>if d8 a<0\/d8 b<=d8 a then none else some ((d8 a).toNat,(d8 b).toNat)
  |_=>none:=by
 unfold M1;split
 .rename_i a b h
  rw[h];dsimp only;unfold d8;cases numberOf a with
  |none=>simp
  |some i=>
   cases numberOf b with
   |none=>simp only[dQ,Option.bind_none];rw[aI (by lia)]
   |some j=>
    simp only[dQ];by_cases iH:i<j
    .rw[aI iH,ay (by lia)];simp
    .rw[ay iH,aI (by lia)]
 .rename_i h
  split
  .rename_i a b e;exact absurd e (h a b)
  .rfl
noncomputable def rise:Int->List (Nat×Nat)->Bool
 |_,[]=>true
 |k,a::r=>decide (k<(a.1:Int))&&rise a.1 r
theorem Iq:∀(a:Nat×Nat) (l:List (Nat×Nat)),risingFirst (a::l)=rise a.1 l
 |a,[]=>rfl
 |a,b::r=>by show(decide (a.1<b.1)&&risingFirst (b::r))=(decide ((a.1:Int)<(b.1:Int))&&rise b.1 r);rw[Iq b r];congr 1;simp
theorem Tw(l:List (Nat×Nat)):risingFirst l=rise (-1) l:=by
 cases l with
 |nil=>rfl
 |cons a r=>rw[Iq];show _=(decide ((-1:Int)<(a.1:Int))&&rise a.1 r);rw[bb (by lia)];rfl
noncomputable def jv:Int->List Text->Option (List (Nat×Nat))
 |_,[]=>some []
 |k,t::r=>(M1 t).bind λx=>if(x.1:Int)<=k then none else(jv x.1 r).map λl=>x::l
theorem Ir:∀(l:List Text) (k:Int),jv k l=(MP (l.map M1)).bind λz=>if rise k z=true then some z else none
 |[],k=>rfl
 |t::r,k=>by
  show(M1 t).bind _=((M1 t).bind λa=>(MP (r.map M1)).map λl=>a::l).bind _;cases M1 t with
  |none=>rfl
  |some x=>
   simp only[dQ];rw[Ir r x.1];cases MP (r.map M1)with
   |none=>simp
   |some l=>
    simp only[dQ,mW];by_cases h:(x.1:Int)<=k
    .have e:rise k (x::l)=false:=by
      show(decide (k<(x.1:Int))&&rise x.1 l)=false;rw[cO (by lia)];rfl
     rw[aI h,e];rfl
    .have e:rise k (x::l)=rise x.1 l:=by
      show(decide (k<(x.1:Int))&&rise x.1 l)=_;rw[bb (by lia)];rfl
     rw[ay h,e];cases rise x.1 l<;>rfl
theorem Iu(t:Text):pairsOf t=if(trimmed t).isEmpty=true then some []else jv (-1) (Mt 32 (trimmed t)):=by
 unfold pairsOf;split
 .rfl
 .rw[Ir]
  congr 1;funext l;rw[Tw]
theorem Iv:∀(l:List Text) (k:Int) (z:List (Nat×Nat)),jv k l=some z->∀x∈z,x.1<x.2
 |[],k,z,h=>by cases h;simp
 |t::r,k,z,h=>by
  unfold jv at h;obtain⟨x,hx,h⟩:=cY.mp h;split at h
  .cases h
  .obtain⟨l,hl,h⟩:=fq.mp h
   subst h;have ih:=Iv r x.1 l hl;intro y hy;rcases br.mp hy with rfl|hy
   .unfold M1 at hx
    split at hx
    .obtain⟨i,_,hx⟩:=cY.mp hx
     obtain⟨j,_,hx⟩:=cY.mp hx;split at hx
     .cases hx;assumption
     .cases hx
    .cases hx
   .exact ih y hy
noncomputable def jw(l:List Formula):Bool:=l.all multiplicative
theorem Iw:∀(l:List Text),(MP (l.map M6)).filter jw=MP (l.map gX)
 |[]=>rfl
 |t::r=>by
  show((M6 t).bind λa=>(MP (r.map M6)).map λl=>a::l).filter jw=(gX t).bind λa=>(MP (r.map gX)).map λl=>a::l;rw[<-Iw r,Ts];cases M6 t with
  |none=>rfl
  |some A=>
   simp only[dQ];cases MP (r.map M6)with
   |none=>
    cases hA:multiplicative A<;>simp[Option.filter,hA]
   |some l=>have e:jw (A::l)=(multiplicative A&&jw l):=rfl;cases hA:multiplicative A<;>cases hl:jw l<;>simp[Option.filter,e,hA,hl]
noncomputable def kQ(t:Text):Option Sequent:=
 if(trimmed t).isEmpty=true then some []
 else(MP ((Mt 44 t).map gX)).filter λl=>decide (l.length<=20)
theorem B2{A:Type}:∀(l:List (Option A)) (z:List A),MP l=some z->z.length=l.length
 |[],z,h=>by cases h;rfl
 |x::r,z,h=>by unfold MP at h;obtain⟨a,_,h⟩:=cY.mp h;obtain⟨l,hl,h⟩:=fq.mp h;subst h;simp[B2 r l hl]
theorem Iy(t:Text):kQ t=(sequentOf t).filter jw:=by
 unfold kQ sequentOf;by_cases h:t.all (λb=>b==32)=true
 .rw[aI h,aI (by rw[(Ip t).mpr h];rfl)];rfl
 .rw[ay h,ay (by
   intro e;exact h ((Ip t).mp (by simpa using e)))]
  rw[<-Iw];by_cases hl:20<(Mt 44 t).length
  .rw[aI hl]
   cases ha:MP ((Mt 44 t).map M6)with
   |none=>rfl
   |some z=>have:=B2 _ _ ha;rw[aX]at this;cases hm:jw z<;>simp[Option.filter,hm];lia
  .rw[ay hl]
   cases ha:MP ((Mt 44 t).map M6)with
   |none=>rfl
   |some z=>have:=B2 _ _ ha;rw[aX]at this;cases hm:jw z<;>simp[Option.filter,hm];lia
theorem Iz(t:Text):Mx t=match Mt 59 t with
  |[a,b,c]=>(kQ a).bind λx=>(kQ b).bind λy=>(pairsOf c).map λz=>(x,y,z)
  |_=>none:=by
 unfold Mx;split
 .rename_i a b c h
  rw[h];dsimp only;rw[Iy,Iy];cases sequentOf a with
  |none=>rfl
  |some x=>
   simp only[dQ];cases sequentOf b with
   |none=>
    cases hx:jw x<;>simp[Option.filter,hx]
   |some y=>
    have e:(x++y).all multiplicative=(jw x&&jw y):=by simp[jw]
    simp only[dQ,e];cases hx:jw x<;>cases hy:jw y<;>simp[Option.filter,hx,hy]
 .rename_i h
  split
  .rename_i a b c e;exact absurd e (h a b c)
  .rfl
theorem tD:∀{l m:List Nat},l.Nodup->(∀x∈l,x∈m)->l.length<=m.length
 |[],_,_,_=>bL _
 |a::l,m,h,s=>by
  obtain⟨h1,h2⟩:=fZ.mp h;have ha:a∈m:=s a (by simp);have:=tD (l:=l) (m:=m.erase a) h2 λx hx=>by have b8:x≠a:=λe=>h1 (e▸hx);exact(List.mem_erase_of_ne b8).mpr (s x (by simp[hx]))
  rw[List.length_erase_of_mem ha]at this;have:0<m.length:=List.length_pos_of_mem ha;simp only[bj];lia
theorem B3{l:List Nat}{n:Nat}(h:l.Nodup)(hl:∀x∈l,x<n)(hn:l.length=n):∀i,i<n->i∈l:=by
 intro i hi;apply u7;intro hc;have:(i::l).length<=(List.range n).length:=tD (fZ.mpr ⟨hc,h⟩) λx hx=>by
  rcases br.mp hx with rfl|hx
  .exact jP.mpr hi
  .exact jP.mpr (hl x hx)
 simp at this;lia
theorem Tx{l:List Nat}{n:Nat}(h:l.Nodup)(hl:∀x∈l,x<n)(ha:∀i,i<n->i∈l):l.length=n:=by have h1:l.length<=(List.range n).length:=tD h λx hx=>jP.mpr (hl x hx);have h2:(List.range n).length<=l.length:=tD List.nodup_range λx hx=>ha x (jP.mp hx);simp at h1 h2;lia
theorem IA:∀(n:Nat) (l:List Nat),l.length<=n->l.eraseDups.length<=l.length
 |0,l,h=>by
  have:l=[]:=by cases l with|nil=>rfl|cons=>simp at h
  subst this;simp
 |n+1,[],h=>by simp
 |n+1,a::l,h=>by rw[u9];have hf:(l.filter λb=> !b==a).length<=l.length:=sX _ _;have:=IA n (l.filter λb=> !b==a) (by simp only[bj]at h;lia);simp only[bj];lia
theorem yo:∀(n:Nat) (l:List Nat),l.length<=n->(l.eraseDups.length=l.length↔l.Nodup)
 |0,l,h=>by
  have:l=[]:=by cases l with|nil=>rfl|cons=>simp at h
  subst this;simp
 |n+1,[],h=>by simp
 |n+1,a::l,h=>by
  rw[u9,fZ];have hln:l.length<=n:=by simp only[bj]at h;lia
  have hf:(l.filter λb=> !b==a).length<=l.length:=sX _ _;have hle:=IA n (l.filter λb=> !b==a) (by lia);simp only[bj];constructor
  .intro e
   have e1:(l.filter λb=> !b==a).length=l.length:=by lia
   have e2:(l.filter λb=> !b==a)=l:=x5.mpr ((List.length_filter_eq_length_iff).mp e1);rw[e2]at e;refine⟨λha=>?_,(yo n l hln).mp (by lia)⟩;have:=(x5.mp e2) a ha;simp at this
  .rintro⟨h1,h2⟩
   have e2:(l.filter λb=> !b==a)=l:=x5.mpr λx hx=>by have:x≠a:=λe=>h1 (e▸hx);simpa using this
   rw[e2,(yo n l hln).mpr h2]
noncomputable def numsOf(l:List (Nat×Nat)):List Nat:=l.flatMap λx=>[x.1,x.2]
noncomputable def fits(ls:List (Bool×Name))(x:Nat×Nat):Bool:=match ls[x.1]?,ls[x.2]? with
 |some a,some b=>fitting a b
 |_,_=>false
noncomputable def jU(ls:List (Bool×Name)):List Nat->List (Nat×Nat)->Option (List Nat)
 |met,[]=>some met
 |met,x::r=>if ls.length<=x.2\/x.1∈met\/x.2∈met then none else if fits ls x=true then jU ls (met++[x.1,x.2]) r else none
noncomputable def paired(ls:List (Bool×Name))(l:List (Nat×Nat)):Bool:=match jU ls [] l with
 |some met=>met.length==ls.length
 |none=>false
theorem yp(ls:List (Bool×Name)):∀(l:List (Nat×Nat)) (met out:List Nat),(∀x∈l,x.1<x.2)->met.Nodup->
  (jU ls met l=some out↔out=met++numsOf l/\ out.Nodup/\ (∀i∈numsOf l,i<ls.length)/\ ∀x∈l,fits ls x=true)
 |[],met,out,_,hm=>by
  simp only[jU,numsOf,BG,i5,u_];constructor
  .rintro rfl;exact⟨U,hm,by simp,by simp⟩
  .rintro⟨rfl,_⟩;rfl
 |x::r,met,out,aU,hm=>by
  have hx:=aU x (by simp);have hn:numsOf (x::r)=x.1::x.2::numsOf r:=rfl;unfold jU;by_cases h1:ls.length<=x.2\/x.1∈met\/x.2∈met
  .rw[aI h1]
   constructor
   .intro e;cases e
   .rintro⟨rfl,nd,lt,_⟩
    exfalso;rw[hn]at nd lt;rcases h1 with h1|h1|h1
    .have:=lt x.2 (by simp);lia
    .exact(qQ.mp nd).2.2 x.1 h1 x.1 (by simp) U
    .exact(qQ.mp nd).2.2 x.2 h1 x.2 (by simp) U
  .rw[ay h1]
   have h1a:x.2<ls.length:=by apply u7;intro c;exact h1 (.inl (by lia))
   have h1b:x.1∉met:=λc=>h1 (.inr (.inl c));have h1c:x.2∉met:=λc=>h1 (.inr (.inr c));by_cases h2:fits ls x=true
   .rw[aI h2]
    have nd2:(met++[x.1,x.2]).Nodup:=by
     rw[qQ];refine⟨hm,by simp;lia,?_⟩;intro a ha b hb e;subst e;simp only[br,xZ,or_false]at hb;rcases hb with rfl|rfl
     .exact h1b ha
     .exact h1c ha
    rw[yp ls r (met++[x.1,x.2]) out (λy hy=>aU y (by simp[hy])) nd2,hn];constructor
    .rintro⟨rfl,nd,lt,ff⟩
     refine⟨by simp,nd,?_,?_⟩
     .intro i hi
      simp only[br]at hi;rcases hi with rfl|rfl|hi
      .lia
      .exact h1a
      .exact lt i hi
     .intro y hy
      rcases br.mp hy with rfl|hy
      .exact h2
      .exact ff y hy
    .rintro⟨rfl,nd,lt,ff⟩
     exact⟨by simp,nd,λi hi=>lt i (by simp[hi]),λy hy=>ff y (by simp[hy])⟩
   .rw[ay h2]
    constructor
    .intro e;cases e
    .rintro⟨_,_,_,ff⟩;exact absurd (ff x (by simp)) h2
theorem IB{l:List (Nat×Nat)}(nd:(numsOf l).Nodup){x:Nat×Nat}(hx:x∈l){i:Nat}(hi:i=x.1\/i=x.2):l.find? (λy=>y.1==i||y.2==i)=some x:=by
 induction l with
 |nil=>simp at hx
 |cons y r ih=>
  have hn:numsOf (y::r)=y.1::y.2::numsOf r:=rfl;rw[hn]at nd;obtain⟨h1,nd⟩:=fZ.mp nd;obtain⟨h2,nd⟩:=fZ.mp nd;have mem:∀z∈r,z.1∈numsOf r/\ z.2∈numsOf r:=λz hz=>by
   constructor
   .exact gT.mpr ⟨z,hz,by simp⟩
   .exact gT.mpr ⟨z,hz,by simp⟩
  rcases br.mp hx with rfl|hx
  .rw[BH]
   rcases hi with rfl|rfl<;>simp
  .rw[aer]
   .exact ih nd hx
   .have m:=mem x hx
    intro c;simp only[qP,beq_iff_eq]at c;rcases c with c|c
    .rcases hi with rfl|rfl
     .exact h1 (by rw[c];simp[m.1])
     .exact h1 (by rw[c];simp[m.2])
    .rcases hi with rfl|rfl
     .exact h2 (by rw[c];exact m.1)
     .exact h2 (by rw[c];exact m.2)
theorem find_none{l:List (Nat×Nat)}{i:Nat}(h:i∉numsOf l):l.find? (λy=>y.1==i||y.2==i)=none:=by
 rw[aes];intro y hy c;simp only[qP,beq_iff_eq]at c;apply h;rcases c with rfl|rfl
 .exact gT.mpr ⟨y,hy,by simp⟩
 .exact gT.mpr ⟨y,hy,by simp⟩
theorem B4{n:Nat}{l:List (Nat×Nat)}{i:Nat}(hi:i<n):(M3 n l)[i]? =some (match l.find? λx=>x.1==i||x.2==i with
  |some x=>if x.1=i then x.2 else x.1
  |none=>n):=by
 unfold M3;rw[ft,qR hi];rfl
theorem tE(n:Nat)(l:List (Nat×Nat)):(M3 n l).length=n:=by unfold M3;simp
theorem vk{n:Nat}{l:List (Nat×Nat)}(nd:(numsOf l).Nodup){x:Nat×Nat}(hx:x∈l)(aU:x.1<x.2)(h2:x.2<n):
  (M3 n l)[x.1]? =some x.2/\ (M3 n l)[x.2]? =some x.1:=by
 constructor
 .rw[B4 (by lia),IB nd hx (.inl U)];simp
 .rw[B4 h2,IB nd hx (.inr U)]
  dsimp only;rw[ay (by lia)]
theorem B5{l:List (Nat×Nat)}{i:Nat}(h:i∈numsOf l):∃x∈l,i=x.1\/i=x.2:=by obtain⟨x,hx,hi⟩:=gT.mp h;exact⟨x,hx,by simpa using hi⟩
theorem Tz(a b:Bool×Name):fitting a b=fitting b a:=by
 obtain⟨p,a⟩:=a;obtain⟨q,b⟩:=b;unfold fitting;show(a==b&&p !=q)=(b==a&&q !=p);have h1:(a==b)=(b==a):=by
  by_cases e:a=b
  .subst e;rfl
  .rw[beq_eq_false_iff_ne.mpr e,beq_eq_false_iff_ne.mpr (λz=>e z.symm)]
 rw[h1];cases p<;>cases q<;>rfl
theorem IC(ls:List (Bool×Name))(l:List (Nat×Nat))(aU:∀x∈l,x.1<x.2):paired ls l=(NP ls.length l&&linked ls (M3 ls.length l)):=by
 have key:paired ls l=true↔(NP ls.length l&&linked ls (M3 ls.length l))=true:=by
  rw[bC];constructor
  .intro h
   unfold paired at h;cases hp:jU ls [] l with
   |none=>rw[hp]at h;cases h
   |some met=>
    rw[hp]at h;obtain⟨rfl,nd,lt,ff⟩:=(yp ls l [] met aU oe).mp hp;rw[nY]at nd h;have hlen:(numsOf l).length=ls.length:=by simpa using h
    have all:=B3 nd lt hlen;constructor
    .unfold NP
     show((numsOf l).all (λi=>decide (i<ls.length))&&(numsOf l).eraseDups.length==(numsOf l).length)=true;rw[bC];refine⟨iZ.mpr λi hi=>bb (lt i hi),?_⟩;rw[(yo _ _ (a_ _)).mpr nd];simp
    .unfold linked
     rw[bC];refine⟨by rw[tE];simp,iZ.mpr λi hi=>?_⟩;rw[jP,tE]at hi;obtain⟨x,hx,B6⟩:=B5 (all i hi);have hl:=aU x hx;have h2:x.2<ls.length:=lt x.2 (gT.mpr ⟨x,hx,by simp⟩);obtain⟨p1,p2⟩:=vk (n:=ls.length) nd hx hl h2;have hf:=ff x hx;unfold fits at hf;rw[cC (show x.1<ls.length by lia),cC h2]at hf;rcases B6 with rfl|rfl
     .rw[p1]
      dsimp only;rw[p2,cC (show x.1<ls.length by lia),cC h2];dsimp only at hf⊢;rw[hf];simp
     .rw[p2]
      dsimp only;rw[p1,cC (show x.1<ls.length by lia),cC h2];dsimp only at hf⊢;rw[Tz,hf];simp
  .rintro⟨h1,h2⟩
   unfold NP at h1;have h1:((numsOf l).all (λi=>decide (i<ls.length))&&(numsOf l).eraseDups.length==(numsOf l).length)=true:=h1;rw[bC]at h1;have lt:∀i∈numsOf l,i<ls.length:=λi hi=>dJ (iZ.mp h1.1 i hi);have nd:(numsOf l).Nodup:=(yo _ _ (a_ _)).mp (by simpa using h1.2);unfold linked at h2;rw[bC]at h2;have fw:=iZ.mp h2.2;have cov:∀i,i<ls.length->i∈numsOf l:=by intro i hi;apply u7;intro c;have:=fw i (by rw[jP,tE];exact hi);rw[B4 hi,find_none c]at this;dsimp only at this;rw[kN (by rw[tE];exact a_ _)]at this;simp at this
   have ff:∀x∈l,fits ls x=true:=by intro x hx;have hl:=aU x hx;have pK:x.2<ls.length:=lt x.2 (gT.mpr ⟨x,hx,by simp⟩);obtain⟨p1,p2⟩:=vk (n:=ls.length) nd hx hl pK;have:=fw x.1 (by rw[jP,tE];lia);rw[p1]at this;dsimp only at this;rw[bC]at this;exact this.2
   have hp:=(yp ls l [] (numsOf l) aU oe).mpr ⟨by simp,nd,lt,ff⟩;unfold paired;rw[hp];simpa using Tx nd lt cov
 cases h:paired ls l<;>cases h':(NP ls.length l&&linked ls (M3 ls.length l))
 .rfl
 .rw[key.mpr h']at h;cases h
 .rw[key.mp h]at h';cases h'
 .rfl
open Vanetg
def eO(fs:List Formula):Prop:=∀A∈fs,multiplicative A=true
theorem dq:∀(A:Formula) (n:Nat),multiplicative A=true->(L8 n A).length=nodes A
 | .atom _ _,n,_=>rfl
 | .tensor A B,n,h| .par A B,n,h=>by simp only[multiplicative,bC]at h;simp only[L8,nodes,bj,cP,dq A _ h.1,dq B _ h.2];lia
 | .wth A B,n,h| .plus A B,n,h| .ofc A,n,h| .whn A,n,h=>by simp[multiplicative]at h
theorem fz(A:Formula):0<nodes A:=by cases A<;>simp[nodes]<;>lia
noncomputable def bf:List Formula->Nat
 |[]=>0
 |A::r=>nodes A+bf r
theorem jV:∀(fs:List Formula) (n:Nat),eO fs->(Ml n fs).length=bf fs
 |[],n,_=>rfl
 |A::r,n,h=>by rw[Ml,cP,dq A n (h A (by simp)),jV r _ λB hB=>h B (by simp[hB])];rfl
noncomputable def iI(x:Nat×Point):List (Nat×MR):=match x.2 with
 | .tensor l r=>[(l, .tensor x.1 r false),(r, .tensor x.1 l true)]
 | .par l r=>[(l, .par x.1 false),(r, .par x.1 true)]
 | .leaf=>[]
noncomputable def cF(k:Nat)(ps:List Point):List (Nat×MR):=((List.range' k ps.length).zip ps).flatMap iI
theorem tF(ps:List Point):standsIn ps=cF 0 ps:=by unfold standsIn cF;rw[pF];rfl
theorem tG(k:Nat)(ps qs:List Point):cF k (ps++qs)=cF k ps++cF (k+ps.length) qs:=by unfold cF;rw[cP,<-List.range'_append_1,List.zip_append (by simp),pG]
theorem yq(k:Nat)(p:Point)(qs:List Point):cF k (p::qs)=iI (k,p)++cF (k+1) qs:=by unfold cF;rw[bj,sQ];simp
noncomputable def keys(l:List (Nat×MR)):List Nat:=l.map (·.1)
theorem lK(a b:List (Nat×MR)):keys (a++b)=keys a++keys b:=iD
theorem ID{l r:Nat}{a b:List Nat}(hlr:l<r)(ha:a.Nodup)(hb:b.Nodup)(ra:∀x∈a,l<x/\ x<r)(rb:∀x∈b,r<x):(l::r::(a++b)).Nodup:=by
 rw[fZ,fZ,qQ];refine⟨?_,?_,ha,hb,?_⟩
 .simp only[br,c9]
  rintro(h|h|h)
  .lia
  .have:=ra _ h;lia
  .have:=rb _ h;lia
 .simp only[c9]
  rintro(h|h)
  .have:=ra _ h;lia
  .have:=rb _ h;lia
 .intro x hx y hy e
  have:=ra x hx;have:=rb y hy;lia
theorem keysOf:∀(A:Formula) (n:Nat),multiplicative A=true->(keys (cF n (L8 n A))).Nodup/\ ∀x∈keys (cF n (L8 n A)),n<x/\ x<n+nodes A
 | .atom _ _,n,_=>⟨oe,by intro x hx;simp[L8,cF,iI,keys]at hx⟩
 | .tensor A B,n,h=>by
  simp only[multiplicative,bC]at h;obtain⟨a1,a2⟩:=keysOf A (n+1) h.1;obtain⟨b1,b2⟩:=keysOf B (n+1+nodes A) h.2;have pA:=fz A;have pB:=fz B;have e:keys (cF n (L8 n (.tensor A B)))=(n+1)::(n+1+nodes A)::(keys (cF (n+1) (L8 (n+1) A))++keys (cF (n+1+nodes A) (L8 (n+1+nodes A) B))):=by rw[L8,yq,tG,dq A _ h.1,lK,lK];rfl
  rw[e];refine⟨ID (by lia) a1 b1 (λx hx=>by have:=a2 x hx;lia) (λx hx=>(b2 x hx).1),λx hx=>?_⟩;simp only[br,c9]at hx;simp only[nodes];rcases hx with rfl|rfl|hx|hx
  .lia
  .lia
  .have:=a2 x hx;lia
  .have:=b2 x hx;lia
 | .par A B,n,h=>by
  simp only[multiplicative,bC]at h;obtain⟨a1,a2⟩:=keysOf A (n+1) h.1;obtain⟨b1,b2⟩:=keysOf B (n+1+nodes A) h.2;have pA:=fz A;have pB:=fz B;have e:keys (cF n (L8 n (.par A B)))=(n+1)::(n+1+nodes A)::(keys (cF (n+1) (L8 (n+1) A))++keys (cF (n+1+nodes A) (L8 (n+1+nodes A) B))):=by rw[L8,yq,tG,dq A _ h.1,lK,lK];rfl
  rw[e];refine⟨ID (by lia) a1 b1 (λx hx=>by have:=a2 x hx;lia) (λx hx=>(b2 x hx).1),λx hx=>?_⟩;simp only[br,c9]at hx;simp only[nodes];rcases hx with rfl|rfl|hx|hx
  .lia
  .lia
  .have:=a2 x hx;lia
  .have:=b2 x hx;lia
 | .wth A B,n,h| .plus A B,n,h| .ofc A,n,h| .whn A,n,h=>by simp[multiplicative]at h
theorem vm:∀(fs:List Formula) (n:Nat),∀x∈Mm n fs,n<=x
 |[],n,x,h=>by simp[Mm]at h
 |A::r,n,x,h=>by
  simp only[Mm,br]at h;rcases h with rfl|h
  .lia
  .have:=vm r _ x h;lia
theorem m8:∀(fs:List Formula) (n:Nat),∀x∈Mm n fs,x<n+bf fs
 |[],n,x,h=>by simp[Mm]at h
 |A::r,n,x,h=>by
  simp only[Mm,br]at h;have:=fz A;simp only[bf];rcases h with rfl|h
  .lia
  .have:=m8 r _ x h;lia
theorem yr:∀(fs:List Formula) (n:Nat),(Mm n fs).Nodup
 |[],n=>oe
 |A::r,n=>by have:=fz A;rw[Mm,fZ];exact⟨λh=>by have:=vm r _ _ h;lia,yr r _⟩
theorem B7:∀(fs:List Formula) (n:Nat),eO fs->(keys (cF n (Ml n fs))).Nodup/\ (∀x∈keys (cF n (Ml n fs)),n<x/\ x<n+bf fs)/\ ∀x∈Mm n fs,x∉keys (cF n (Ml n fs))
 |[],n,_=>⟨oe,by intro x hx;simp[Ml,cF,keys]at hx,by intro x hx;simp[Mm]at hx⟩
 |A::r,n,h=>by
  have hA:=h A (by simp);have hr:eO r:=λB hB=>h B (by simp[hB]);obtain⟨a1,a2⟩:=keysOf A n hA;obtain⟨b1,b2,b3⟩:=B7 r (n+nodes A) hr;have e:keys (cF n (Ml n (A::r)))=keys (cF n (L8 n A))++keys (cF (n+nodes A) (Ml (n+nodes A) r)):=by rw[Ml,tG,dq A n hA,lK]
  rw[e];refine⟨?_,?_,?_⟩
  .rw[qQ]
   refine⟨a1,b1,λx hx y hy z=>?_⟩;have:=a2 x hx;have:=b2 y hy;lia
  .intro x hx
   simp only[bf];rcases c9.mp hx with hx|hx
   .have:=a2 x hx;lia
   .have:=b2 x hx;lia
  .intro x hx hk
   simp only[Mm,br]at hx;rcases c9.mp hk with hk|hk
   .have k1:=a2 x hk
    rcases hx with rfl|hx
    .lia
    .have:=vm r _ x hx;lia
   .have k1:=b2 x hk
    rcases hx with rfl|hx
    .lia
    .exact b3 x hx hk
theorem kids:∀(A:Formula) (n p:Nat) (l r:Nat),multiplicative A=true->((L8 n A)[p]? =some (.tensor l r)\/(L8 n A)[p]? =some (.par l r))->l=n+p+1/\ l<r/\ r<n+nodes A
 | .atom _ _,n,p,l,r,_,h=>by
  cases p<;>simp[L8]at h
 | .tensor A B,n,p,l,r,hm,h=>by
  simp only[multiplicative,bC]at hm;have pA:=fz A;have pB:=fz B;simp only[nodes];cases p with
  |zero=>simp only[L8,x6,u_,Point.tensor.injEq,reduceCtorEq,or_false]at h;lia
  |succ p=>
   simp only[L8,gD]at h;by_cases hp:p<nodes A
   .rw[fe (by rw[dq A _ hm.1];exact hp)]at h
    have:=kids A (n+1) p l r hm.1 h;lia
   .rw[fK (by rw[dq A _ hm.1];lia),dq A _ hm.1]at h
    have:=kids B (n+1+nodes A) (p-nodes A) l r hm.2 h;lia
 | .par A B,n,p,l,r,hm,h=>by
  simp only[multiplicative,bC]at hm;have pA:=fz A;have pB:=fz B;simp only[nodes];cases p with
  |zero=>simp only[L8,x6,u_,Point.par.injEq,reduceCtorEq,false_or]at h;lia
  |succ p=>
   simp only[L8,gD]at h;by_cases hp:p<nodes A
   .rw[fe (by rw[dq A _ hm.1];exact hp)]at h
    have:=kids A (n+1) p l r hm.1 h;lia
   .rw[fK (by rw[dq A _ hm.1];lia),dq A _ hm.1]at h
    have:=kids B (n+1+nodes A) (p-nodes A) l r hm.2 h;lia
 | .wth A B,_,_,_,_,h,_| .plus A B,_,_,_,_,h,_| .ofc A,_,_,_,_,h,_| .whn A,_,_,_,_,h,_=>by simp[multiplicative]at h
theorem lL:∀(fs:List Formula) (n p l r:Nat),eO fs->((Ml n fs)[p]? =some (.tensor l r)\/(Ml n fs)[p]? =some (.par l r))->l=n+p+1/\ l<r/\ r<n+bf fs
 |[],n,p,l,r,_,h=>by simp[Ml]at h
 |A::fs,n,p,l,r,hm,h=>by
  have hA:=hm A (by simp);simp only[Ml]at h;simp only[bf];by_cases hp:p<nodes A
  .rw[fe (by rw[dq A _ hA];exact hp)]at h
   have:=kids A n p l r hA h;lia
  .rw[fK (by rw[dq A _ hA];lia),dq A _ hA]at h
   have:=lL fs (n+nodes A) (p-nodes A) l r (λB hB=>hm B (by simp[hB])) h;lia
theorem IE{k:Nat}{ps:List Point}{p:Nat}{x:Point}(h:ps[p]? =some x){y:Nat×MR}(hy:y∈iI (k+p,x)):y∈cF k ps:=by unfold cF;refine gT.mpr ⟨(k+p,x),?_,hy⟩;obtain⟨hl,e⟩:=da.mp h;refine kK.mpr ⟨p,?_⟩;rw[xR];exact⟨by rw[aet hl];simp,h⟩
theorem B8{k:Nat}{ps:List Point}{y:Nat×MR}(h:y∈cF k ps):∃p x,ps[p]? =some x/\ y∈iI (k+p,x):=by
 unfold cF at h;obtain⟨z,hz,hy⟩:=gT.mp h;obtain⟨p,hp⟩:=kK.mp hz;obtain⟨q,x⟩:=z;rw[xR]at hp;obtain⟨h1,h2⟩:=hp;obtain⟨hl,_⟩:=da.mp h2;rw[aet hl]at h1;have:q=k+p:=by simpa using h1.symm
 subst this;exact⟨p,x,h2,hy⟩
theorem find_key:∀{l:List (Nat×MR)} {k:Nat} {v:MR},(keys l).Nodup->(k,v)∈l->l.find? (λx=>x.1==k)=some (k,v)
 |[],k,v,_,h=>by simp at h
 |(a,b)::l,k,v,nd,h=>by
  have nd':(a::keys l).Nodup:=nd;obtain⟨h1,h2⟩:=fZ.mp nd';rcases br.mp h with e|h
  .cases e
   rw[BH];simp
  .rw[aer]
   .exact find_key h2 h
   .intro e
    have e:a=k:=by simpa using e
    subst e;exact h1 (eu.mpr ⟨(a,v),h,U⟩)
theorem TB{l:List (Nat×MR)}{k:Nat}(h:k∉keys l):l.find? (λx=>x.1==k)=none:=by
 rw[aes];intro x hx e;have e:x.1=k:=by simpa using e
 exact h (eu.mpr ⟨x,hx,e⟩)
def yt(n:Nat):Prop:=∃k,n=2*k
theorem vn:∀(l:List Nat),yt l.length->keys (Mu l)=l
 |[],_=>rfl
 |[a],h=>by obtain⟨k,h⟩:=h;simp at h;lia
 |a::b::r,h=>by
  have:yt r.length:=by obtain⟨k,h⟩:=h;exact⟨k-1,by simp at h;lia⟩
  show a::b::keys (Mu r)=_;rw[vn r this]
theorem lM:∀(fs:List Formula) (n:Nat),(Mm n fs).length=fs.length
 |[],n=>rfl
 |A::r,n=>by simp[Mm,lM r]
theorem TC(s:Net):(tQ s).length=s.concl.length+2*s.cuts.length:=by
 unfold tQ;rw[cP];congr 1;induction s.cuts with
 |nil=>rfl
 |cons A r ih=>simp only[iE,cP,bj,ih];simp;lia
noncomputable def dR(s:Net):List Nat:=Mm 0 (tQ s)
noncomputable def eV(s:Net):List Nat:=(dR s).drop s.concl.length
theorem vo(s:Net):yt (eV s).length:=by refine⟨s.cuts.length,?_⟩;unfold eV dR;rw[jq,lM,TC];lia
theorem vp(s:Net):∀x∈eV s,x∈dR s:=λx hx=>x8 hx
theorem B9(s:Net):keys (Me s)=keys (cF 0 (points s))++eV s:=by unfold Me;rw[lK,tF];exact congrArg _ (vn _ (vo s))
theorem ou{s:Net}(hm:eO (tQ s)):(keys (Me s)).Nodup:=by obtain⟨h1,h2,h3⟩:=B7 (tQ s) 0 hm;rw[B9,qQ];refine⟨h1,(yr _ _).sublist (BI _ _),λx hx y hy e=>?_⟩;subst e;exact h3 x (vp s x hy) hx
theorem ox{l:List (Nat×MR)}{p:Nat}{v:MR}(nd:(keys l).Nodup)(h:(p,v)∈l):Mo l p=v:=by unfold Mo;rw[find_key nd h]
theorem IF{l:List (Nat×MR)}{p:Nat}(h:Mo l p≠ .concl):(p,Mo l p)∈l:=by
 unfold Mo at h⊢;cases hf:l.find? λx=>x.1==p with
 |none=>rw[hf]at h;exact absurd U h
 |some x=>
  have h1:=BJ hf;have h2:x.1=p:=by simpa using List.find?_some hf
  subst h2;exact h1
theorem IG{s:Net}(hm:eO (tQ s)){p l r:Nat}(h:(points s)[p]? =some (.tensor l r)):Mo (Me s) l= .tensor p r false/\ Mo (Me s) r= .tensor p l true:=by
 have mem:∀y∈iI (0+p, .tensor l r),y∈Me s:=λy hy=>by unfold Me;rw[tF];exact nZ _ (IE h hy)
 rw[afZ]at mem;exact⟨ox (ou hm) (mem _ (by simp[iI])),ox (ou hm) (mem _ (by simp[iI]))⟩
theorem IH{s:Net}(hm:eO (tQ s)){p l r:Nat}(h:(points s)[p]? =some (.par l r)):Mo (Me s) l= .par p false/\ Mo (Me s) r= .par p true:=by
 have mem:∀y∈iI (0+p, .par l r),y∈Me s:=λy hy=>by unfold Me;rw[tF];exact nZ _ (IE h hy)
 rw[afZ]at mem;exact⟨ox (ou hm) (mem _ (by simp[iI])),ox (ou hm) (mem _ (by simp[iI]))⟩
theorem vq:∀(l:List Nat) (x:Nat) (v:MR),(x,v)∈Mu l->∃y,v= .cut y/\ (y, .cut x)∈Mu l
 |[],x,v,h|[a],x,v,h=>by simp[Mu]at h
 |a::b::r,x,v,h=>by
  simp only[Mu,br]at h;rcases h with h|h|h
  .cases h;exact⟨b,U,by simp[Mu]⟩
  .cases h;exact⟨a,U,by simp[Mu]⟩
  .obtain⟨y,h1,h2⟩:=vq r x v h
   exact⟨y,h1,by simp[Mu,h2]⟩
theorem yu{s:Net}(hm:eO (tQ s)){p:Nat}(h:Mo (Me s) p≠ .concl):
  (∃j l r,(points s)[j]? =some (.tensor l r)/\ ((p=l/\ Mo (Me s) p= .tensor j r false)\/(p=r/\ Mo (Me s) p= .tensor j l true)))\/
  (∃j l r,(points s)[j]? =some (.par l r)/\ ((p=l/\ Mo (Me s) p= .par j false)\/(p=r/\ Mo (Me s) p= .par j true)))\/
  (∃q,Mo (Me s) p= .cut q/\ Mo (Me s) q= .cut p/\ (p,Stand.cut q)∈Mu (eV s)):=by
 have m:=IF h;generalize hv:Mo (Me s) p=v at m;unfold Me at m;rcases c9.mp m with m|m
 .rw[tF]at m
  obtain⟨j,x,hj,hy⟩:=B8 m;rw[afZ]at hy;cases x with
  |leaf=>simp[iI]at hy
  |tensor l r=>
   simp only[iI,br,xZ,or_false]at hy;refine .inl ⟨j,l,r,hj,?_⟩;rcases hy with e|e
   .cases e;exact .inl ⟨U,U⟩
   .cases e;exact .inr ⟨U,U⟩
  |par l r=>
   simp only[iI,br,xZ,or_false]at hy;refine .inr (.inl ⟨j,l,r,hj,?_⟩);rcases hy with e|e
   .cases e;exact .inl ⟨U,U⟩
   .cases e;exact .inr ⟨U,U⟩
 .obtain⟨y,h1,h2⟩:=vq _ _ _ m
  subst h1;refine .inr (.inr ⟨y,U,ox (ou hm) ?_,m⟩);unfold Me;exact jN _ h2
noncomputable def dS:List Point->Nat->List Nat
 |[],_=>[]
 | .leaf::r,k=>k::dS r (k+1)
 | .tensor _ _::r,k| .par _ _::r,k=>dS r (k+1)
noncomputable def TF(x:Nat×Point):Option Nat:=match x.2 with
 | .leaf=>some x.1
 |_=>none
theorem II:∀(ps:List Point) (k:Nat),((List.range' k ps.length).zip ps).filterMap TF=dS ps k
 |[],k=>rfl
 |p::r,k=>by rw[bj,sQ,sY,jr,II r (k+1)];cases p<;>rfl
theorem gZ(ps:List Point):ME ps=dS ps 0:=by unfold ME;rw[pF,<-II];congr 1
theorem tH:∀(ps qs:List Point) (k:Nat),dS (ps++qs) k=dS ps k++dS qs (k+ps.length)
 |[],qs,k=>rfl
 |p::r,qs,k=>by
  have e:k+(p::r).length=k+1+r.length:=by simp;lia
  rw[e,mX];cases p<;>simp only[dS,tH r qs (k+1)]<;>rfl
theorem yw:∀(ps:List Point) (k:Nat),∀x∈dS ps k,k<=x/\ x<k+ps.length
 |[],k,x,h=>by simp[dS]at h
 |p::r,k,x,h=>by
  have ih:=yw r (k+1) x;simp only[bj];cases p with
  |leaf=>
   simp only[dS,br]at h;rcases h with rfl|h
   .lia
   .have:=ih h;lia
  |tensor _ _|par _ _=>have:=ih h;lia
theorem pL:∀(ps:List Point) (k:Nat),(dS ps k).Nodup
 |[],k=>oe
 |p::r,k=>by
  cases p with
  |leaf=>rw[dS,fZ];exact⟨λh=>by have:=yw r (k+1) k h;lia,pL r (k+1)⟩
  |tensor _ _|par _ _=>exact pL r (k+1)
theorem vt:∀(ps:List Point) (k x:Nat),x∈dS ps k↔∃p,x=k+p/\ ps[p]? =some .leaf
 |[],k,x=>by simp[dS]
 |p::r,k,x=>by
  have ih:=vt r (k+1) x;have step:(∃q,x=k+1+q/\ r[q]? =some .leaf)↔∃q,x=k+(q+1)/\ (p::r)[q+1]? =some .leaf:=by
   constructor
   .rintro⟨q,h1,h2⟩;exact⟨q,by lia,by simpa using h2⟩
   .rintro⟨q,h1,h2⟩;exact⟨q,by lia,by simpa using h2⟩
  have aux:(∃q,x=k+q/\ (p::r)[q]? =some .leaf)↔(x=k/\ p= .leaf)\/∃q,x=k+(q+1)/\ (p::r)[q+1]? =some .leaf:=by
   constructor
   .rintro⟨q,h1,h2⟩
    cases q with
    |zero=>exact .inl ⟨by lia,by simpa using h2⟩
    |succ q=>exact .inr ⟨q,h1,h2⟩
   .rintro(⟨h1,h2⟩|⟨q,h1,h2⟩)
    .exact⟨0,by lia,by simp[h2]⟩
    .exact⟨q+1,h1,h2⟩
  rw[aux,<-step,<-ih];cases p with
  |leaf|tensor _ _|par _ _=>simp[dS]
theorem B_:∀(A:Formula) (n k:Nat),multiplicative A=true->(dS (L8 n A) k).length=L_ A
 | .atom _ _,n,k,_=>rfl
 | .tensor A B,n,k,h| .par A B,n,k,h=>by simp only[multiplicative,bC]at h;simp only[L8,dS,tH,cP,B_ A _ _ h.1,B_ B _ _ h.2,L_]
 | .wth A B,_,_,h| .plus A B,_,_,h| .ofc A,_,_,h| .whn A,_,_,h=>by simp[multiplicative]at h
theorem B':∀(fs:List Formula) (n k:Nat),eO fs->(dS (Ml n fs) k).length=(fs.flatMap leaves).length
 |[],n,k,_=>rfl
 |A::r,n,k,h=>by rw[Ml,tH,cP,B_ A _ _ (h A (by simp)),B' r _ _ λB hB=>h B (by simp[hB]),iE,cP,qU]
theorem yx:∀{l:List Nat} {i x:Nat},l.Nodup->l[i]? =some x->l.findIdx (λq=>q==x)=i
 |[],i,x,_,h=>by simp at h
 |a::l,0,x,nd,h=>by
  have:a=x:=by simpa using h
  subst this;rw[aeu];simp
 |a::l,i+1,x,nd,h=>by
  obtain⟨h1,h2⟩:=fZ.mp nd;have hx:l[i]? =some x:=by simpa using h
  have b8:(a==x)=false:=by rw[beq_eq_false_iff_ne];rintro rfl;exact h1 (cN hx)
  rw[aeu,b8,yx h2 hx];rfl
structure Good(s:Net):Prop where
 mul:eO (tQ s)
 IJ:linked (allLeaves s) s.to=true
noncomputable def partner(s:Net)(p:Nat):Nat:=(ME (points s)).getD (s.to.getD ((ME (points s)).findIdx λq=>q==p) 0) 0
theorem Good.len{s:Net}(g:Good s):s.to.length=(ME (points s)).length:=by
 have h:=g.IJ;unfold linked at h;rw[bC]at h;have h1:s.to.length=(allLeaves s).length:=by simpa using h.1
 rw[h1,gZ];exact(B' (tQ s) 0 0 g.mul).symm
theorem Good.to{s:Net}(g:Good s){i:Nat}(hi:i<s.to.length):∃j,s.to[i]? =some j/\ s.to[j]? =some i/\ j<s.to.length:=by
 have h:=g.IJ;unfold linked at h;rw[bC]at h;have:=iZ.mp h.2 i (jP.mpr hi);rw[cC hi]at this;dsimp only at this;rw[bC]at this;have h2:s.to[s.to[i]]? =some i:=by simpa using this.1
 exact⟨s.to[i],cC hi,h2,(da.mp h2).1⟩
theorem eX{α:Type}{l:List α}{i:Nat}{x d:α}(h:l[i]? =some x):l.getD i d=x:=by rw[og,h];rfl
theorem Good.pair{s:Net}(g:Good s){p:Nat}(h:(points s)[p]? =some .leaf):∃i j:Nat,(ME (points s))[i]? =some p/\ s.to[i]? =some j/\ s.to[j]? =some i/\ (ME (points s))[j]? =some (partner s p):=by
 have hp:p∈ME (points s):=by rw[gZ];exact(vt _ _ _).mpr ⟨p,by lia,h⟩
 obtain⟨i,hi⟩:=kK.mp hp;have Ca:=(da.mp hi).1;obtain⟨j,h1,h2,h3⟩:=g.to (i:=i) (by rw[g.len];exact Ca);have nd:(ME (points s)).Nodup:=by rw[gZ];exact pL _ _
 refine⟨i,j,hi,h1,h2,?_⟩;have hj:j<(ME (points s)).length:=by rw[<-g.len];exact h3
 unfold partner;rw[yx nd hi,eX h1,cC hj,eX (cC hj)]
theorem Good.IK{s:Net}(g:Good s){p:Nat}(h:(points s)[p]? =some .leaf):(points s)[partner s p]? =some .leaf/\ partner s (partner s p)=p:=by
 obtain⟨i,j,h1,h2,h3,h4⟩:=g.pair h;have nd:(ME (points s)).Nodup:=by rw[gZ];exact pL _ _
 have hm:partner s p∈ME (points s):=cN h4;rw[gZ]at hm;obtain⟨q,e,hq⟩:=(vt _ _ _).mp hm;rw[afZ]at e;subst e;refine⟨hq,?_⟩;rw[show partner s (partner s p)=(ME (points s)).getD (s.to.getD ((ME (points s)).findIdx λq=>q==partner s p) 0) 0 from rfl,yx nd h4,eX h3,eX h1]
noncomputable def lN(s:Net)(w:Nu)(a:Nat):Nat:=if a%2=0 then Ni s (points s) w (a/2)else MT (Me s) w (a/2)
noncomputable def pM(s:Net)(w:Nu)(a:Nat):Nat:=
 if a%2=0 then(match Mo (Me s) (a/2)with
  | .concl=>Mi (a/2)
  | .cut r=>Mi r
  | .tensor j o sec=>if sec=Mj w j then up j else Mi o
  | .par j sec=>if sec=Mj w j then up j else Mi (a/2))
 else(match(points s)[a/2]? with
  |some (.tensor l r)=>Mi (if Mj w (a/2)=true then l else r)
  |some (.par l r)=>Mi (if Mj w (a/2)=true then r else l)
  |_=>up (partner s (a/2)))
theorem IL(p:Nat):up p%2=0/\ up p/2=p:=by unfold up;lia
theorem IM(p:Nat):¬Mi p%2=0/\ Mi p/2=p:=by unfold Mi;lia
theorem m9(s:Net)(w:Nu)(p:Nat):pM s w (up p)=match Mo (Me s) p with
  | .concl=>Mi p
  | .cut r=>Mi r
  | .tensor j o sec=>if sec=Mj w j then up j else Mi o
  | .par j sec=>if sec=Mj w j then up j else Mi p:=by
 unfold pM;rw[aI (IL p).1,(IL p).2]
theorem vv(s:Net)(w:Nu)(p:Nat):pM s w (Mi p)=match(points s)[p]? with
  |some (.tensor l r)=>Mi (if Mj w p=true then l else r)
  |some (.par l r)=>Mi (if Mj w p=true then r else l)
  |_=>up (partner s p):=by
 unfold pM;rw[ay (IM p).1,(IM p).2]
theorem Cb{s:Net}(g:Good s)(w:Nu){a:Nat}(ha:a<2*(points s).length):pM s w (lN s w a)=a/\ lN s w a<2*(points s).length:=by
 have hn:(points s).length=bf (tQ s):=jV _ _ g.mul;unfold lN;have hp:a/2<(points s).length:=by lia
 by_cases h0:a%2=0
 .rw[aI h0]
  have ea:up (a/2)=a:=by unfold up;lia
  generalize a/2=p at*;unfold Ni;obtain⟨x,hx⟩:∃x,(points s)[p]? =some x:=⟨_,cC hp⟩
  rw[hx];cases x with
  |leaf=>obtain⟨h1,h2⟩:=g.IK hx;show pM s w (Mi (partner s p))=a/\ Mi (partner s p)<_;rw[vv,h1];have:=(da.mp h1).1;refine⟨?_,by unfold Mi;lia⟩;show up (partner s (partner s p))=a;rw[h2,ea]
  |tensor l r=>
   obtain⟨h1,h2⟩:=IG g.mul hx;have hk:=lL (tQ s) 0 p l r g.mul (.inl hx);show pM s w (up (if Mj w p=true then r else l))=a/\ _;cases hs:Mj w p
   .simp only[pH,if_false]
    rw[m9,h1];refine⟨?_,by unfold up;lia⟩;show(if false=Mj w p then up p else Mi r)=a;rw[hs,aI U,ea]
   .simp only[if_true]
    rw[m9,h2];refine⟨?_,by unfold up;lia⟩;show(if true=Mj w p then up p else Mi l)=a;rw[hs,aI U,ea]
  |par l r=>
   obtain⟨h1,h2⟩:=IH g.mul hx;have hk:=lL (tQ s) 0 p l r g.mul (.inr hx);show pM s w (up (if Mj w p=true then r else l))=a/\ _;cases hs:Mj w p
   .simp only[pH,if_false]
    rw[m9,h1];refine⟨?_,by unfold up;lia⟩;show(if false=Mj w p then up p else Mi l)=a;rw[hs,aI U,ea]
   .simp only[if_true]
    rw[m9,h2];refine⟨?_,by unfold up;lia⟩;show(if true=Mj w p then up p else Mi r)=a;rw[hs,aI U,ea]
 .rw[ay h0]
  have ea:Mi (a/2)=a:=by unfold Mi;lia
  generalize a/2=p at*;by_cases hc:Mo (Me s) p= .concl
  .have e:MT (Me s) w p=up p:=by unfold MT;rw[hc]
   rw[e,m9,hc];exact⟨ea,by unfold up;lia⟩
  .rcases yu g.mul hc with⟨j,l,r,hj,h⟩|⟨j,l,r,hj,h⟩|⟨q,h1,h2,h3⟩
   .obtain⟨t1,t2⟩:=IG g.mul hj
    have hk:=lL (tQ s) 0 j l r g.mul (.inl hj);rcases h with⟨rfl,h⟩|⟨rfl,h⟩
    .have e:MT (Me s) w p=if false=Mj w j then up r else Mi j:=by unfold MT;rw[h]
     rw[e];cases hs:Mj w j
     .rw[aI U,m9,t2]
      refine⟨?_,by unfold up;lia⟩;show(if true=Mj w j then up j else Mi p)=a;rw[hs,ay (by decide),ea]
     .rw[ay (by decide),vv,hj]
      refine⟨?_,by unfold Mi;lia⟩;show Mi (if Mj w j=true then p else r)=a;rw[hs,aI U,ea]
    .have e:MT (Me s) w p=if true=Mj w j then up l else Mi j:=by unfold MT;rw[h]
     rw[e];cases hs:Mj w j
     .rw[ay (by decide),vv,hj]
      refine⟨?_,by unfold Mi;lia⟩;show Mi (if Mj w j=true then l else p)=a;rw[hs,ay (by decide),ea]
     .rw[aI U,m9,t1]
      refine⟨?_,by unfold up;lia⟩;show(if false=Mj w j then up j else Mi p)=a;rw[hs,ay (by decide),ea]
   .obtain⟨t1,t2⟩:=IH g.mul hj
    have hk:=lL (tQ s) 0 j l r g.mul (.inr hj);rcases h with⟨rfl,h⟩|⟨rfl,h⟩
    .have e:MT (Me s) w p=if false=Mj w j then Mi j else up p:=by unfold MT;rw[h]
     rw[e];cases hs:Mj w j
     .rw[aI U,vv,hj]
      refine⟨?_,by unfold Mi;lia⟩;show Mi (if Mj w j=true then r else p)=a;rw[hs,ay (by decide),ea]
     .rw[ay (by decide),m9,h]
      refine⟨?_,by unfold up;lia⟩;show(if false=Mj w j then up j else Mi p)=a;rw[hs,ay (by decide),ea]
    .have e:MT (Me s) w p=if true=Mj w j then Mi j else up p:=by unfold MT;rw[h]
     rw[e];cases hs:Mj w j
     .rw[ay (by decide),m9,h]
      refine⟨?_,by unfold up;lia⟩;show(if true=Mj w j then up j else Mi p)=a;rw[hs,ay (by decide),ea]
     .rw[aI U,vv,hj]
      refine⟨?_,by unfold Mi;lia⟩;show Mi (if Mj w j=true then p else l)=a;rw[hs,aI U,ea]
   .have e:MT (Me s) w p=up q:=by unfold MT;rw[h1]
    rw[e,m9,h2];refine⟨ea,?_⟩;have hq:q∈eV s:=by obtain⟨y,e,hy⟩:=vq _ _ _ h3;cases e;have:q∈keys (Mu (eV s)):=eu.mpr ⟨_,hy,U⟩;rwa[vn _ (vo s)]at this
    have:=m8 (tQ s) 0 q (vp s q hq);unfold up;lia
noncomputable def cZ(f:Nat->Nat):Nat->Nat->Nat
 |0,p=>p
 |k+1,p=>f (cZ f k p)
theorem least{P:Nat->Prop}:∀(n:Nat),P n->∃k,k<=n/\ P k/\ ∀j,j<k->¬P j:=by
 intro n;induction n using Nat.strongRecOn with
 |ind n ih=>
  intro h;by_cases hc:∃j,j<n/\ P j
  .obtain⟨j,hj,hp⟩:=hc
   obtain⟨k,h1,h2,h3⟩:=ih j hj hp;exact⟨k,by lia,h2,h3⟩
  .exact⟨n,a_ _,h,λj hj hp=>hc ⟨j,hj,hp⟩⟩
theorem tI{f:Nat->Nat}{m:Nat}(hf:∀a,a<m->f a<m){p:Nat}(hp:p<m):∀k,cZ f k p<m
 |0=>hp
 |k+1=>hf _ (tI hf hp k)
theorem IP{f g:Nat->Nat}{m:Nat}(hf:∀a,a<m->f a<m)(hg:∀a,a<m->g (f a)=a){p:Nat}(hp:p<m):∀(i k:Nat),cZ f i p=cZ f (i+k) p->p=cZ f k p
 |0,k,h=>by simpa [cZ]using h
 |i+1,k,h=>by
  have e:i+1+k=(i+k)+1:=by lia
  rw[e]at h;have h2:g (f (cZ f i p))=g (f (cZ f (i+k) p)):=congrArg g h;rw[hg _ (tI hf hp _),hg _ (tI hf hp _)]at h2;exact IP hf hg hp i k h2
theorem comes{f g:Nat->Nat}{m:Nat}(hf:∀a,a<m->f a<m)(hg:∀a,a<m->g (f a)=a){p:Nat}(hp:p<m):∃k,1<=k/\ k<=m/\ cZ f k p=p/\ ∀j,1<=j->j<k->cZ f j p≠p:=by
 have ex:∃k,1<=k/\ k<=m/\ cZ f k p=p:=by
  apply u7;intro hc;have inj:∀i j,i<j->j<=m->cZ f i p≠cZ f j p:=by intro i j iH IQ e;have:=IP hf hg hp i (j-i) (by rw[show i+(j-i)=j by lia];exact e);exact hc ⟨j-i,by lia,by lia,this.symm⟩
  have nd:((List.range (m+1)).map λk=>cZ f k p).Nodup:=by unfold List.Nodup;rw[aev];refine afJ ?_ (aew (n:=m+1));intro a b ha hb g_;exact inj a b g_ (by have:=jP.mp hb;lia)
  have:=tD (m:=List.range m) nd λx hx=>by obtain⟨k,_,rfl⟩:=eu.mp hx;exact jP.mpr (tI hf hp k)
  simp at this;lia
 obtain⟨k,h1,h2,h3⟩:=ex;obtain⟨k',h4,h5,h6⟩:=least (P:=λk=>1<=k/\ cZ f k p=p) k ⟨h1,h3⟩;exact⟨k',h5.1,by lia,h5.2,λj hj hk e=>h6 j hk ⟨hj,e⟩⟩
theorem IS{next:List Nat}{f:Nat->Nat}{m p k:Nat}(hn:∀a,a<m->next.getD a 0=f a)(hf:∀a,a<m->f a<m)(hp:p<m)(hk:cZ f k p=p)(hl:∀j,1<=j->j<k->cZ f j p≠p):
  ∀(fuel j:Nat),j<k->k-j<=fuel->tripFrom next p fuel (cZ f j p)=(List.range (k-j)).map λi=>cZ f (j+i) p
 |0,j,h1,h2=>by lia
 |fuel+1,j,h1,h2=>by
  rw[tripFrom,hn _ (tI hf hp j)];have e:k-j=(k-j-1)+1:=by lia
  rw[e,aex,ez,qJ];congr 1;by_cases hj:j+1=k
  .have e1:f (cZ f j p)=p:=by
    show cZ f (j+1) p=p;rw[hj,hk]
   rw[aI e1,show k-j-1=0 by lia];rfl
  .have e1:¬f (cZ f j p)=p:=hl (j+1) (by lia) (by lia)
   rw[ay e1];show tripFrom next p fuel (cZ f (j+1) p)=_
   rw[IS hn hf hp hk hl fuel (j+1) (by lia) (by lia),kL,show k-(j+1)=k-j-1 by lia];apply sZ;intro i _;show cZ f (j+1+i) p=cZ f (j+(i+1)) p;congr 1;lia
theorem vw(f g:Nat->Nat):∀n,((List.range n).flatMap λp=>[f p,g p]).length=2*n
 |0=>rfl
 |n+1=>by rw[s_,pG,cP,vw f g n];simp;lia
theorem IT(f g:Nat->Nat):∀n a,a<2*n->((List.range n).flatMap λp=>[f p,g p])[a]? =some (if a%2=0 then f (a/2)else g (a/2))
 |0,a,h=>by lia
 |n+1,a,h=>by
  rw[s_,pG];by_cases ha:a<2*n
  .rw[fe (by rw[vw];exact ha),IT f g n a ha]
  .rw[fK (by rw[vw];lia),vw]
   have:a=2*n\/a=2*n+1:=by lia
   rcases this with rfl|rfl
   .rw[aI (by lia),show 2*n-2*n=0 by lia,show 2*n/2=n by lia];rfl
   .rw[ay (by lia),show 2*n+1-2*n=1 by lia,show(2*n+1)/2=n by lia];rfl
theorem IU(s:Net)(w:Nu){a:Nat}(ha:a<2*(points s).length):(behind s w).getD a 0=lN s w a:=by unfold behind;exact eX (IT _ _ _ a ha)
theorem Cc(s:Net)(w:Nu):(behind s w).length=2*(points s).length:=by unfold behind;exact vw _ _ _
theorem Cd{s:Net}(g:Good s)(v:List Bool){p:Nat}(hp:p<2*(points s).length):∃k,1<=k/\ k<=2*(points s).length/\ cZ (lN s (My s v)) k p=p/\
  (∀j,1<=j->j<k->cZ (lN s (My s v)) j p≠p)/\ Vanetg.trip s v p=(List.range k).map λi=>cZ (lN s (My s v)) i p:=by
 have hf:∀a,a<2*(points s).length->lN s (My s v) a<2*(points s).length:=λa ha=>(Cb g _ ha).2;obtain⟨k,h1,h2,h3,h4⟩:=comes hf (λa ha=>(Cb g (My s v) ha).1) hp;refine⟨k,h1,h2,h3,h4,?_⟩;unfold Vanetg.trip tripIn;have:=IS (next:=behind s (My s v)) (λa ha=>IU s _ ha) hf hp h3 h4 (behind s (My s v)).length 0 (by lia) (by rw[Cc];lia);rw[show cZ (lN s (My s v)) 0 p=p from rfl]at this;rw[this];simp
structure PA where
 nodes:List Node
 below:List Int
 sides:List Int
 seconds:List Int
 switches:List Int
 partners:List Int
 turns:List Int
 jc:Nat
noncomputable def PA.empty:PA:=⟨[],[],[],[],[],[],[],0⟩
noncomputable def dz(S:PA)(x:Node)(b sd:Int):PA:=
 {nodes:=S.nodes++[x],below:=S.below++[b],sides:=S.sides++[sd],seconds:=S.seconds++[-1],partners:=S.partners++[-1],turns:=S.turns++[-1],
  switches:=S.switches++[if bR x=true then(S.jc:Int)else-1],jc:=if bR x=true then S.jc+1 else S.jc}
noncomputable def d4(S:PA)(b sd:Int)(p:Nat):PA:=if sd=1 then{S with seconds:=S.seconds.set b.toNat p}else S
noncomputable def qY(x:Node)(p:Nat)(aw:List (Int×Int)):List (Int×Int):=if bR x=true then((p:Int),0)::((p:Int),1)::aw else aw
noncomputable def hU(z:PA×List (Int×Int))(x:Node):PA×List (Int×Int):=match z.2 with
 |(b,sd)::aw=>(d4 (dz z.1 x b sd) b sd z.1.nodes.length,qY x z.1.nodes.length aw)
 |[]=>z
noncomputable def gr(S:PA)(b sd:Int):Formula->PA
 | .tensor A B=>gr (gr (d4 (dz S (2,[]) b sd) b sd S.nodes.length) S.nodes.length 0 A) S.nodes.length 1 B
 | .par A B=>gr (gr (d4 (dz S (3,[]) b sd) b sd S.nodes.length) S.nodes.length 0 A) S.nodes.length 1 B
 | .atom n a=>d4 (dz S (if n=true then 1 else 0,a) b sd) b sd S.nodes.length
 |_=>S
theorem tJ:∀(A:Formula),multiplicative A=true->∀(S:PA) (b sd:Int) (aw:List (Int×Int)),(enc A).foldl hU (S,(b,sd)::aw)=(gr S b sd A,aw)
 | .atom n a,_,S,b,sd,aw=>by cases n<;>rfl
 | .tensor A B,h,S,b,sd,aw=>by simp only[multiplicative,bC]at h;simp only[enc,sR,u6];show(enc B).foldl hU ((enc A).foldl hU (d4 (dz S (2,[]) b sd) b sd S.nodes.length,((S.nodes.length:Int),0)::((S.nodes.length:Int),1)::aw))=_;rw[tJ A h.1,tJ B h.2];rfl
 | .par A B,h,S,b,sd,aw=>by simp only[multiplicative,bC]at h;simp only[enc,sR,u6];show(enc B).foldl hU ((enc A).foldl hU (d4 (dz S (3,[]) b sd) b sd S.nodes.length,((S.nodes.length:Int),0)::((S.nodes.length:Int),1)::aw))=_;rw[tJ A h.1,tJ B h.2];rfl
 | .wth A B,h,_,_,_,_| .plus A B,h,_,_,_,_| .ofc A,h,_,_,_,_| .whn A,h,_,_,_,_=>by simp[multiplicative]at h
noncomputable def dg(n:Nat)(b:Int):Formula->List Int
 | .tensor A B| .par A B=>b::(dg (n+1) n A++dg (n+1+nodes A) n B)
 |_=>[b]
noncomputable def dh(sd:Int):Formula->List Int
 | .tensor A B| .par A B=>sd::(dh 0 A++dh 1 B)
 |_=>[sd]
noncomputable def dG(n:Nat):Formula->List Int
 | .tensor A B| .par A B=>((n+1+nodes A:Nat):Int)::(dG (n+1) A++dG (n+1+nodes A) B)
 |_=>[-1]
noncomputable def TH:Point->Bool
 | .leaf=>false
 |_=>true
noncomputable def swL:List Point->Nat->List Int
 |[],_=>[]
 | .leaf::r,j=> -1::swL r j
 | .tensor _ _::r,j| .par _ _::r,j=>(j:Int)::swL r (j+1)
noncomputable def jn:Formula->Nat
 | .tensor A B| .par A B=>1+jn A+jn B
 |_=>0
noncomputable def fQ:List Point->Nat
 |[]=>0
 | .leaf::r=>fQ r
 | .tensor _ _::r| .par _ _::r=>1+fQ r
theorem Ce:∀(ps qs:List Point),fQ (ps++qs)=fQ ps+fQ qs
 |[],qs=>by simp[fQ]
 |p::r,qs=>by cases p<;>simp only[mX,fQ,Ce r qs]<;>lia
theorem yy:∀(A:Formula) (n:Nat),multiplicative A=true->fQ (L8 n A)=jn A
 | .atom _ _,n,_=>rfl
 | .tensor A B,n,h| .par A B,n,h=>by simp only[multiplicative,bC]at h;simp only[L8,fQ,Ce,yy A _ h.1,yy B _ h.2,jn];lia
 | .wth A B,_,h| .plus A B,_,h| .ofc A,_,h| .whn A,_,h=>by simp[multiplicative]at h
theorem yz:∀(ps qs:List Point) (j:Nat),swL (ps++qs) j=swL ps j++swL qs (j+fQ ps)
 |[],qs,j=>by simp[swL,fQ]
 |p::r,qs,j=>by
  cases p with
  |leaf=>simp only[mX,swL,fQ,yz r qs]
  |tensor _ _|par _ _=>simp only[mX,swL,fQ,yz r qs];rw[show j+1+fQ r=j+(1+fQ r) by lia]
theorem gu:∀(A:Formula) (n:Nat) (b:Int),multiplicative A=true->(dg n b A).length=nodes A
 | .atom _ _,n,b,_=>rfl
 | .tensor A B,n,b,h| .par A B,n,b,h=>by simp only[multiplicative,bC]at h;simp only[dg,nodes,bj,cP,gu A _ _ h.1,gu B _ _ h.2];lia
 | .wth A B,_,_,h| .plus A B,_,_,h| .ofc A,_,_,h| .whn A,_,_,h=>by simp[multiplicative]at h
theorem hX:∀(A:Formula) (b:Int),multiplicative A=true->(dh b A).length=nodes A
 | .atom _ _,b,_=>rfl
 | .tensor A B,b,h| .par A B,b,h=>by simp only[multiplicative,bC]at h;simp only[dh,nodes,bj,cP,hX A _ h.1,hX B _ h.2];lia
 | .wth A B,_,h| .plus A B,_,h| .ofc A,_,h| .whn A,_,h=>by simp[multiplicative]at h
theorem gG:∀(A:Formula) (n:Nat),multiplicative A=true->(dG n A).length=nodes A
 | .atom _ _,n,_=>rfl
 | .tensor A B,n,h| .par A B,n,h=>by simp only[multiplicative,bC]at h;simp only[dG,nodes,bj,cP,gG A _ h.1,gG B _ h.2];lia
 | .wth A B,_,h| .plus A B,_,h| .ofc A,_,h| .whn A,_,h=>by simp[multiplicative]at h
noncomputable def pN(S:PA)(b sd:Int):List Int:=if sd=1 then S.seconds.set b.toNat S.nodes.length else S.seconds
noncomputable def laid(S:PA)(b sd:Int)(A:Formula):PA:=
 {nodes:=S.nodes++enc A,below:=S.below++dg S.nodes.length b A,sides:=S.sides++dh sd A,seconds:=pN S b sd++dG S.nodes.length A,
  switches:=S.switches++swL (L8 S.nodes.length A) S.jc,partners:=S.partners++List.replicate (nodes A) (-1),turns:=S.turns++List.replicate (nodes A) (-1),jc:=S.jc+jn A}
theorem yA(S:PA)(b sd:Int):(pN S b sd).length=S.seconds.length:=by unfold pN;split<;>simp
theorem tK(S:PA)(x:Node)(b sd:Int)(hb:sd=1->b.toNat<S.nodes.length)(hs:S.seconds.length=S.nodes.length):
  d4 (dz S x b sd) b sd S.nodes.length={dz S x b sd with seconds:=pN S b sd++[-1]}:=by
 unfold d4 pN dz;split
 .rename_i h
  simp only;rw[List.set_append_left _ _ (by rw[hs];exact hb h)]
 .rfl
theorem IV(S:PA)(b sd:Int)(hb:sd=1->b.toNat<S.nodes.length)(hs:S.seconds.length=S.nodes.length)(A B:Formula)(hA:multiplicative A=true)(hB:multiplicative B=true)(k:Nat)(hk:k=2\/k=3)(C:Formula)
  (e1:enc C=(k,[])::(enc A++enc B)) (e2:dg S.nodes.length b C=b::(dg (S.nodes.length+1) S.nodes.length A++dg (S.nodes.length+1+nodes A) S.nodes.length B))
  (e3:dh sd C=sd::(dh 0 A++dh 1 B)) (e4:dG S.nodes.length C=((S.nodes.length+1+nodes A:Nat):Int)::(dG (S.nodes.length+1) A++dG (S.nodes.length+1+nodes A) B))
  (e5:swL (L8 S.nodes.length C) S.jc=(S.jc:Int)::swL (L8 (S.nodes.length+1) A++L8 (S.nodes.length+1+nodes A) B) (S.jc+1)) (e6:nodes C=1+nodes A+nodes B) (e7:jn C=1+jn A+jn B):
  laid (laid (d4 (dz S (k,[]) b sd) b sd S.nodes.length) S.nodes.length 0 A) S.nodes.length 1 B=laid S b sd C:=by
 rw[tK S _ b sd hb hs];have hj:bR ((k,[]):Node)=true:=by rcases hk with rfl|rfl<;>rfl
 unfold laid;rw[e1,e2,e3,e4,e5,e6,e7,yz,yy A _ hA];simp only[dz,hj,if_true,cP,aez,bJ,pN,jO];have z:(0:Int)=1↔False:=by decide
 simp only[z,if_false];have es:((if sd=1 then S.seconds.set b.toNat ↑S.nodes.length else S.seconds)++[-1]++dG (S.nodes.length+1) A).set S.nodes.length ((S.nodes.length+1+nodes A:Nat):Int)
   =(if sd=1 then S.seconds.set b.toNat ↑S.nodes.length else S.seconds)++((S.nodes.length+1+nodes A:Nat):Int)::dG (S.nodes.length+1) A:=by
  have hl:(if sd=1 then S.seconds.set b.toNat ↑S.nodes.length else S.seconds).length=S.nodes.length:=by split<;>simp[hs]
  rw[gC,aeF _ _ (by lia),hl,sS];rfl
 rw[es];have er:∀(l:List Int),l++[-1]++List.replicate (nodes A) (-1)++List.replicate (nodes B) (-1)=l++List.replicate (1+nodes A+nodes B) (-1):=by intro l;rw[qK,<-BK,<-BK];simp
 rw[er,er];have ejc:S.jc+1+jn A+jn B=S.jc+(1+jn A+jn B):=by lia
 rw[ejc];simp
theorem vx:∀(A:Formula),multiplicative A=true->∀(S:PA) (b sd:Int),(sd=1->b.toNat<S.nodes.length)->S.seconds.length=S.nodes.length->gr S b sd A=laid S b sd A
 | .atom n a,_,S,b,sd,hb,hs=>by show d4 (dz S (if n=true then 1 else 0,a) b sd) b sd S.nodes.length=_;rw[tK S _ b sd hb hs];cases n<;>rfl
 | .tensor A B,h,S,b,sd,hb,hs=>by
  simp only[multiplicative,bC]at h;show gr (gr (d4 (dz S (2,[]) b sd) b sd S.nodes.length) S.nodes.length 0 A) S.nodes.length 1 B=_;have l1:(d4 (dz S (2,[]) b sd) b sd S.nodes.length).nodes.length=S.nodes.length+1:=by rw[tK S _ b sd hb hs];simp[dz]
  have l2:(d4 (dz S (2,[]) b sd) b sd S.nodes.length).seconds.length=S.nodes.length+1:=by rw[tK S _ b sd hb hs];simp[yA,hs]
  rw[vx A h.1 _ _ _ (by intro h;cases h) (by rw[l1,l2])];rw[vx B h.2 _ _ _ (by intro _;simp only[laid,cP,jO,l1];lia) (by simp only[laid,cP,yA,l1,l2,gG A _ h.1,bJ])];exact IV S b sd hb hs A B h.1 h.2 2 (.inl U) _ U U U U U U U
 | .par A B,h,S,b,sd,hb,hs=>by
  simp only[multiplicative,bC]at h;show gr (gr (d4 (dz S (3,[]) b sd) b sd S.nodes.length) S.nodes.length 0 A) S.nodes.length 1 B=_;have l1:(d4 (dz S (3,[]) b sd) b sd S.nodes.length).nodes.length=S.nodes.length+1:=by rw[tK S _ b sd hb hs];simp[dz]
  have l2:(d4 (dz S (3,[]) b sd) b sd S.nodes.length).seconds.length=S.nodes.length+1:=by rw[tK S _ b sd hb hs];simp[yA,hs]
  rw[vx A h.1 _ _ _ (by intro h;cases h) (by rw[l1,l2])];rw[vx B h.2 _ _ _ (by intro _;simp only[laid,cP,jO,l1];lia) (by simp only[laid,cP,yA,l1,l2,gG A _ h.1,bJ])];exact IV S b sd hb hs A B h.1 h.2 3 (.inr U) _ U U U U U U U
 | .wth A B,h,_,_,_,_,_| .plus A B,h,_,_,_,_,_| .ofc A,h,_,_,_,_,_| .whn A,h,_,_,_,_,_=>by simp[multiplicative]at h
noncomputable def fR(S:PA)(A:Formula):PA:={gr S (-1) (-1) A with turns:=(gr S (-1) (-1) A).turns.set S.nodes.length S.nodes.length}
noncomputable def iJ(S:PA):List Formula->PA
 |[]=>S
 |A::r=>iJ (fR S A) r
noncomputable def f_:Nat->List Formula->List Int
 |_,[]=>[]
 |n,A::r=>dg n (-1) A++f_ (n+nodes A) r
noncomputable def iK:List Formula->List Int
 |[]=>[]
 |A::r=>dh (-1) A++iK r
noncomputable def i7:Nat->List Formula->List Int
 |_,[]=>[]
 |n,A::r=>dG n A++i7 (n+nodes A) r
noncomputable def lO:Nat->List Formula->List Int
 |_,[]=>[]
 |n,A::r=>(List.replicate (nodes A) (-1:Int)).set 0 n++lO (n+nodes A) r
structure IW(S:PA):Prop where
 sec:S.seconds.length=S.nodes.length
 Cf:S.turns.length=S.nodes.length
theorem yB:∀(fs:List Formula) (S:PA),eO fs->IW S->iJ S fs=
  {nodes:=S.nodes++fs.flatMap enc,below:=S.below++f_ S.nodes.length fs,sides:=S.sides++iK fs,seconds:=S.seconds++i7 S.nodes.length fs,
   switches:=S.switches++swL (Ml S.nodes.length fs) S.jc,partners:=S.partners++List.replicate (bf fs) (-1),turns:=S.turns++lO S.nodes.length fs,jc:=S.jc+fQ (Ml S.nodes.length fs)}
 |[],S,_,_=>by simp[iJ,f_,iK,i7,lO,Ml,swL,fQ,bf]
 |A::r,S,hm,hl=>by
  have hA:=hm A (by simp);have hr:eO r:=λB hB=>hm B (by simp[hB]);have e1:gr S (-1) (-1) A=laid S (-1) (-1) A:=vx A hA S _ _ (by intro h;cases h) hl.sec;have en:(fR S A).nodes.length=S.nodes.length+nodes A:=by unfold fR;rw[e1];simp[laid,bJ]
  have e2:fR S A={laid S (-1) (-1) A with turns:=S.turns++(List.replicate (nodes A) (-1:Int)).set 0 S.nodes.length}:=by
   have et:(laid S (-1) (-1) A).turns.set S.nodes.length (S.nodes.length:Int)=S.turns++(List.replicate (nodes A) (-1:Int)).set 0 S.nodes.length:=by show(S.turns++List.replicate (nodes A) (-1)).set S.nodes.length _=_;rw[aeF _ _ (by rw[hl.Cf];exact a_ _),hl.Cf,sS]
   unfold fR;rw[e1,et]
  have dH:IW (fR S A):=by
   constructor
   .rw[en,e2];simp[laid,pN,gG A _ hA,hl.sec]
   .rw[en,e2];simp[hl.Cf]
  show iJ (fR S A) r=_;rw[yB r (fR S A) hr dH,en,e2];have ejc:fQ (L8 S.nodes.length A)=jn A:=yy A _ hA;simp only[laid,iE,f_,iK,i7,lO,Ml,bf,yz,Ce,ejc,pN,gC];have z:(-1:Int)=1↔False:=by decide
  simp only[z,if_false,qK];rw[<-BK]
theorem oy(A:Formula)(n:Nat)(b sd:Int)(h:multiplicative A=true):(dg n b A)[0]? =some b/\ (dh sd A)[0]? =some sd:=by
 cases A<;>first|exact⟨U,U⟩|simp[multiplicative]at h
theorem m_{α:Type}{l m:List α}{k i:Nat}(hl:l.length=k):(l++m)[k+i]? =m[i]?:=by rw[fK (by lia),hl];congr 1;lia
theorem oz{α:Type}{l m:List α}{k i:Nat}(hl:l.length=k)(hi:i<k):(l++m)[i]? =l[i]?:=fe (by lia)
structure jx(nd:List Node)(be si se:List Int)(n p r:Nat)(k:Nat):Prop where
 node:nd[p]? =some (k,[])
 sec:se[p]? =some (r:Int)
 b1:be[p+1]? =some ((n+p:Nat):Int)
 s1:si[p+1]? =some 0
 b2:be[r-n]? =some ((n+p:Nat):Int)
 s2:si[r-n]? =some 1
theorem jx.shift{nd nd' nd2:List Node}{be be' be2 si si' si2 se se' se2:List Int}{n m p r k:Nat}(h:jx nd be si se (n+m) p r k)(hr:n+m<=r)(hp:p+1<nd.length)(tL:r-(n+m)<nd.length)
  (l1:nd'.length=m) (l2:be'.length=m) (l3:si'.length=m) (l4:se'.length=m) (b1:be.length=nd.length) (b2:si.length=nd.length) (b3:se.length=nd.length):
  jx (nd'++(nd++nd2)) (be'++(be++be2)) (si'++(si++si2)) (se'++(se++se2)) n (m+p) r k:=by
 have er:r-n=m+(r-(n+m)):=by lia
 constructor
 .rw[m_ l1,oz U (by lia)];exact h.node
 .rw[m_ l4,oz b3 (by lia)];exact h.sec
 .rw[qK,m_ l2,oz b1 hp,<-qK];exact h.b1
 .rw[qK,m_ l3,oz b2 hp];exact h.s1
 .rw[er,m_ l2,oz b1 tL,<-qK];exact h.b2
 .rw[er,m_ l3,oz b2 tL];exact h.s2
noncomputable def kd:Point->Nat
 | .leaf=>0
 | .tensor _ _=>2
 | .par _ _=>3
theorem IX{A B:Formula}(hA:multiplicative A=true)(hB:multiplicative B=true)(n:Nat)(b sd:Int)(k:Nat):
  jx ((k,[])::(enc A++enc B)) (b::(dg (n+1) n A++dg (n+1+nodes A) n B)) (sd::(dh 0 A++dh 1 B)) (((n+1+nodes A:Nat):Int)::(dG (n+1) A++dG (n+1+nodes A) B)) n 0 (n+1+nodes A) k:=by
 have pA:=fz A;have e:n+1+nodes A-n=(nodes A+0)+1:=by lia
 constructor
 .rfl
 .rfl
 .show(dg (n+1) n A++_)[0]? =_
  rw[oz (gu A _ _ hA) pA];exact(oy A _ _ 0 hA).1
 .show(dh 0 A++_)[0]? =_
  rw[oz (hX A _ hA) pA];exact(oy A 0 0 _ hA).2
 .rw[e,gD]
  exact(m_ (i:=0) (gu A _ _ hA)).trans (oy B _ _ 0 hB).1
 .rw[e,gD]
  exact(m_ (i:=0) (hX A _ hA)).trans (oy B 0 0 _ hB).2
theorem vy:∀(A:Formula) (n:Nat) (b sd:Int) (p l r:Nat),multiplicative A=true->((L8 n A)[p]? =some (.tensor l r)->jx (enc A) (dg n b A) (dh sd A) (dG n A) n p r 2)/\
  ((L8 n A)[p]? =some (.par l r)->jx (enc A) (dg n b A) (dh sd A) (dG n A) n p r 3)
 | .atom _ _,n,b,sd,p,l,r,_=>by constructor<;>intro h<;>cases p<;>simp[L8]at h
 | .tensor A B,n,b,sd,p,l,r,hm=>by
  have TJ:=hm;simp only[multiplicative,bC]at hm;have key:∀k,((L8 (n+1) A++L8 (n+1+nodes A) B)[p-1]? =some (.tensor l r)/\ k=2\/(L8 (n+1) A++L8 (n+1+nodes A) B)[p-1]? =some (.par l r)/\ k=3)->0<p->
    jx (enc (.tensor A B)) (dg n b (.tensor A B)) (dh sd (.tensor A B)) (dG n (.tensor A B)) n p r k:=by
   intro k h hp;by_cases hpA:p-1<nodes A
   .rw[fe (by rw[dq A _ hm.1];exact hpA)]at h
    have ks:=kids A (n+1) (p-1) l r hm.1 (by rcases h with h|h;exact .inl h.1;exact .inr h.1);have ih:=vy A (n+1) n 0 (p-1) l r hm.1;have j:jx (enc A) (dg (n+1) n A) (dh 0 A) (dG (n+1) A) (n+1) (p-1) r k:=by
     rcases h with⟨h,rfl⟩|⟨h,rfl⟩
     .exact ih.1 h
     .exact ih.2 h
    have:=j.shift (nd':=[(2,[])]) (nd2:=enc B) (be':=[b]) (be2:=dg (n+1+nodes A) n B) (si':=[sd]) (si2:=dh 1 B) (se':=[((n+1+nodes A:Nat):Int)]) (se2:=dG (n+1+nodes A) B)
     (by lia) (by rw[bJ];lia) (by rw[bJ];lia) U U U U (by rw[gu A _ _ hm.1,bJ]) (by rw[hX A _ hm.1,bJ]) (by rw[gG A _ hm.1,bJ])
    rw[show 1+(p-1)=p by lia]at this;exact this
   .rw[fK (by rw[dq A _ hm.1];lia),dq A _ hm.1]at h
    have ks:=kids B (n+1+nodes A) (p-1-nodes A) l r hm.2 (by rcases h with h|h;exact .inl h.1;exact .inr h.1);have ih:=vy B (n+1+nodes A) n 1 (p-1-nodes A) l r hm.2;have j:jx (enc B) (dg (n+1+nodes A) n B) (dh 1 B) (dG (n+1+nodes A) B) (n+(1+nodes A)) (p-1-nodes A) r k:=by
     rw[<-qK];rcases h with⟨h,rfl⟩|⟨h,rfl⟩
     .exact ih.1 h
     .exact ih.2 h
    have:=j.shift (nd':=(2,[])::enc A) (nd2:=[]) (be':=b::dg (n+1) n A) (be2:=[]) (si':=sd::dh 0 A) (si2:=[]) (se':=((n+1+nodes A:Nat):Int)::dG (n+1) A) (se2:=[])
     (by lia) (by rw[bJ];lia) (by rw[bJ];lia) (by rw[bj,bJ];lia) (by rw[bj,gu A _ _ hm.1];lia) (by rw[bj,hX A _ hm.1];lia) (by rw[bj,gG A _ hm.1];lia)
     (by rw[gu B _ _ hm.2,bJ]) (by rw[hX B _ hm.2,bJ]) (by rw[gG B _ hm.2,bJ])
    rw[show 1+nodes A+(p-1-nodes A)=p by lia]at this;simp only[i5,mX]at this;exact this
  cases p with
  |zero=>
   constructor
   .intro h
    simp only[L8,x6,u_,Point.tensor.injEq]at h;obtain⟨rfl,rfl⟩:=h;exact IX hm.1 hm.2 n b sd 2
   .intro h
    simp[L8]at h
  |succ p=>
   constructor
   .intro h;exact key 2 (.inl ⟨by simpa [L8]using h,U⟩) (by lia)
   .intro h;exact key 3 (.inr ⟨by simpa [L8]using h,U⟩) (by lia)
 | .par A B,n,b,sd,p,l,r,hm=>by
  have TJ:=hm;simp only[multiplicative,bC]at hm;have key:∀k,((L8 (n+1) A++L8 (n+1+nodes A) B)[p-1]? =some (.tensor l r)/\ k=2\/(L8 (n+1) A++L8 (n+1+nodes A) B)[p-1]? =some (.par l r)/\ k=3)->0<p->
    jx (enc (.par A B)) (dg n b (.par A B)) (dh sd (.par A B)) (dG n (.par A B)) n p r k:=by
   intro k h hp;by_cases hpA:p-1<nodes A
   .rw[fe (by rw[dq A _ hm.1];exact hpA)]at h
    have ks:=kids A (n+1) (p-1) l r hm.1 (by rcases h with h|h;exact .inl h.1;exact .inr h.1);have ih:=vy A (n+1) n 0 (p-1) l r hm.1;have j:jx (enc A) (dg (n+1) n A) (dh 0 A) (dG (n+1) A) (n+1) (p-1) r k:=by
     rcases h with⟨h,rfl⟩|⟨h,rfl⟩
     .exact ih.1 h
     .exact ih.2 h
    have:=j.shift (nd':=[(3,[])]) (nd2:=enc B) (be':=[b]) (be2:=dg (n+1+nodes A) n B) (si':=[sd]) (si2:=dh 1 B) (se':=[((n+1+nodes A:Nat):Int)]) (se2:=dG (n+1+nodes A) B)
     (by lia) (by rw[bJ];lia) (by rw[bJ];lia) U U U U (by rw[gu A _ _ hm.1,bJ]) (by rw[hX A _ hm.1,bJ]) (by rw[gG A _ hm.1,bJ])
    rw[show 1+(p-1)=p by lia]at this;exact this
   .rw[fK (by rw[dq A _ hm.1];lia),dq A _ hm.1]at h
    have ks:=kids B (n+1+nodes A) (p-1-nodes A) l r hm.2 (by rcases h with h|h;exact .inl h.1;exact .inr h.1);have ih:=vy B (n+1+nodes A) n 1 (p-1-nodes A) l r hm.2;have j:jx (enc B) (dg (n+1+nodes A) n B) (dh 1 B) (dG (n+1+nodes A) B) (n+(1+nodes A)) (p-1-nodes A) r k:=by
     rw[<-qK];rcases h with⟨h,rfl⟩|⟨h,rfl⟩
     .exact ih.1 h
     .exact ih.2 h
    have:=j.shift (nd':=(3,[])::enc A) (nd2:=[]) (be':=b::dg (n+1) n A) (be2:=[]) (si':=sd::dh 0 A) (si2:=[]) (se':=((n+1+nodes A:Nat):Int)::dG (n+1) A) (se2:=[])
     (by lia) (by rw[bJ];lia) (by rw[bJ];lia) (by rw[bj,bJ];lia) (by rw[bj,gu A _ _ hm.1];lia) (by rw[bj,hX A _ hm.1];lia) (by rw[bj,gG A _ hm.1];lia)
     (by rw[gu B _ _ hm.2,bJ]) (by rw[hX B _ hm.2,bJ]) (by rw[gG B _ hm.2,bJ])
    rw[show 1+nodes A+(p-1-nodes A)=p by lia]at this;simp only[i5,mX]at this;exact this
  cases p with
  |zero=>
   constructor
   .intro h
    simp[L8]at h
   .intro h
    simp only[L8,x6,u_,Point.par.injEq]at h;obtain⟨rfl,rfl⟩:=h;exact IX hm.1 hm.2 n b sd 3
  |succ p=>
   constructor
   .intro h;exact key 2 (.inl ⟨by simpa [L8]using h,U⟩) (by lia)
   .intro h;exact key 3 (.inr ⟨by simpa [L8]using h,U⟩) (by lia)
 | .wth A B,_,_,_,_,_,_,h| .plus A B,_,_,_,_,_,_,h| .ofc A,_,_,_,_,_,_,h| .whn A,_,_,_,_,_,_,h=>by simp[multiplicative]at h
theorem Cg:∀(fs:List Formula) (n:Nat),eO fs->(f_ n fs).length=bf fs
 |[],n,_=>rfl
 |A::r,n,h=>by rw[f_,cP,gu A _ _ (h A (by simp)),Cg r _ λB hB=>h B (by simp[hB])];rfl
theorem Ci:∀(fs:List Formula),eO fs->(iK fs).length=bf fs
 |[],_=>rfl
 |A::r,h=>by rw[iK,cP,hX A _ (h A (by simp)),Ci r λB hB=>h B (by simp[hB])];rfl
theorem Cj:∀(fs:List Formula) (n:Nat),eO fs->(i7 n fs).length=bf fs
 |[],n,_=>rfl
 |A::r,n,h=>by rw[i7,cP,gG A _ (h A (by simp)),Cj r _ λB hB=>h B (by simp[hB])];rfl
theorem Ck:∀(fs:List Formula) (n:Nat),(lO n fs).length=bf fs
 |[],n=>rfl
 |A::r,n=>by rw[lO,cP,tf,qL,Ck r];rfl
theorem ng:∀(fs:List Formula),(fs.flatMap enc).length=bf fs
 |[]=>rfl
 |A::r=>by rw[iE,cP,bJ,ng r];rfl
theorem yC:∀(fs:List Formula) (n p l r k:Nat),eO fs->((Ml n fs)[p]? =some (.tensor l r)/\ k=2\/(Ml n fs)[p]? =some (.par l r)/\ k=3)->
  jx (fs.flatMap enc) (f_ n fs) (iK fs) (i7 n fs) n p r k
 |[],n,p,l,r,k,_,h=>by simp[Ml]at h
 |A::fs,n,p,l,r,k,hm,h=>by
  have hA:=hm A (by simp);have hr:eO fs:=λB hB=>hm B (by simp[hB]);simp only[Ml]at h;by_cases hp:p<nodes A
  .rw[fe (by rw[dq A _ hA];exact hp)]at h
   have ks:=kids A n p l r hA (by rcases h with h|h;exact .inl h.1;exact .inr h.1);have ih:=vy A n (-1) (-1) p l r hA;have j:jx (enc A) (dg n (-1) A) (dh (-1) A) (dG n A) (n+0) p r k:=by
    rcases h with⟨h,rfl⟩|⟨h,rfl⟩
    .exact ih.1 h
    .exact ih.2 h
   have:=j.shift (nd':=[]) (nd2:=fs.flatMap enc) (be':=[]) (be2:=f_ (n+nodes A) fs) (si':=[]) (si2:=iK fs) (se':=[]) (se2:=i7 (n+nodes A) fs)
    (by lia) (by rw[bJ];lia) (by rw[bJ];lia) U U U U (by rw[gu A _ _ hA,bJ]) (by rw[hX A _ hA,bJ]) (by rw[gG A _ hA,bJ])
   rw[afZ]at this;exact this
  .rw[fK (by rw[dq A _ hA];lia),dq A _ hA]at h
   have ks:=lL fs (n+nodes A) (p-nodes A) l r hr (by rcases h with h|h;exact .inl h.1;exact .inr h.1);have j:=yC fs (n+nodes A) (p-nodes A) l r k hr h;have:=j.shift (nd':=enc A) (nd2:=[]) (be':=dg n (-1) A) (be2:=[]) (si':=dh (-1) A) (si2:=[]) (se':=dG n A) (se2:=[])
    (by lia) (by rw[ng];lia) (by rw[ng];lia) (bJ A) (gu A _ _ hA) (hX A _ hA) (gG A _ hA)
    (by rw[Cg fs _ hr,ng]) (by rw[Ci fs hr,ng]) (by rw[Cj fs _ hr,ng])
   rw[show nodes A+(p-nodes A)=p by lia]at this;simp only[i5]at this;exact this
theorem Cm:∀(A:Formula) (n p:Nat),multiplicative A=true->(L8 n A)[p]? =some .leaf->∃x,(enc A)[p]? =some x/\ x.1<2
 | .atom b a,n,p,_,h=>by
  cases p with
  |zero=>exact⟨_,U,by cases b<;>simp⟩
  |succ p=>simp[L8]at h
 | .tensor A B,n,p,hm,h| .par A B,n,p,hm,h=>by
  simp only[multiplicative,bC]at hm;cases p with
  |zero=>simp[L8]at h
  |succ p=>
   simp only[L8,gD]at h;simp only[enc,gD];by_cases hp:p<nodes A
   .rw[fe (by rw[dq A _ hm.1];exact hp)]at h
    rw[fe (by rw[bJ];exact hp)];exact Cm A _ p hm.1 h
   .rw[fK (by rw[dq A _ hm.1];lia),dq A _ hm.1]at h
    rw[fK (by rw[bJ];lia),bJ];exact Cm B _ _ hm.2 h
 | .wth A B,_,_,h,_| .plus A B,_,_,h,_| .ofc A,_,_,h,_| .whn A,_,_,h,_=>by simp[multiplicative]at h
theorem IY:∀(fs:List Formula) (n p:Nat),eO fs->(Ml n fs)[p]? =some .leaf->∃x,(fs.flatMap enc)[p]? =some x/\ x.1<2
 |[],n,p,_,h=>by simp[Ml]at h
 |A::fs,n,p,hm,h=>by
  have hA:=hm A (by simp);simp only[Ml]at h;rw[iE];by_cases hp:p<nodes A
  .rw[fe (by rw[dq A _ hA];exact hp)]at h
   rw[fe (by rw[bJ];exact hp)];exact Cm A _ p hA h
  .rw[fK (by rw[dq A _ hA];lia),dq A _ hA]at h
   rw[fK (by rw[bJ];lia),bJ];exact IY fs _ _ (λB hB=>hm B (by simp[hB])) h
theorem Cn:∀(fs:List Formula) (n x:Nat),eO fs->x∈Mm n fs->n<=x/\ (f_ n fs)[x-n]? =some (-1)/\ (lO n fs)[x-n]? =some (x:Int)
 |[],n,x,_,h=>by simp[Mm]at h
 |A::fs,n,x,hm,h=>by
  have hA:=hm A (by simp);have pA:=fz A;simp only[Mm,br]at h;rcases h with rfl|h
  .refine⟨a_ _,?_,?_⟩
   .rw[sS,f_,oz (gu A _ _ hA) pA];exact(oy A _ _ 0 hA).1
   .rw[sS,lO,fe (by simp;exact pA),oh (by simp;exact pA)]
  .obtain⟨h1,h2,h3⟩:=Cn fs (n+nodes A) x (λB hB=>hm B (by simp[hB])) h
   have e:x-n=nodes A+(x-(n+nodes A)):=by lia
   refine⟨by lia,?_,?_⟩
   .rw[e,f_,m_ (gu A _ _ hA)];exact h2
   .rw[e,lO,m_ (by simp)];exact h3
noncomputable def i8:List Point->Nat->List Nat
 |[],_=>[]
 | .leaf::r,k=>i8 r (k+1)
 | .tensor _ _::r,k| .par _ _::r,k=>k::i8 r (k+1)
noncomputable def TK(x:Nat×Point):Option Nat:=if isJunction x.2=true then some x.1 else none
theorem IZ:∀(ps:List Point) (k:Nat),((List.range' k ps.length).zip ps).filterMap TK=i8 ps k
 |[],k=>rfl
 |p::r,k=>by rw[bj,sQ,sY,jr,IZ r (k+1)];cases p<;>rfl
theorem Co(s:Net):Mg s=i8 (points s) 0:=by unfold Mg;rw[pF,<-IZ];rfl
theorem I_:∀(ps:List Point) (k:Nat),(i8 ps k).length=fQ ps
 |[],k=>rfl
 |p::r,k=>by cases p<;>simp only[i8,fQ,bj,I_ r]<;>lia
theorem Ja:∀(ps:List Point) (k x:Nat),x∈i8 ps k->k<=x
 |[],k,x,h=>by simp[i8]at h
 |p::r,k,x,h=>by
  have ih:=Ja r (k+1) x;cases p with
  |leaf=>have:=ih h;lia
  |tensor _ _|par _ _=>
   simp only[i8,br]at h;rcases h with rfl|h
   .lia
   .have:=ih h;lia
theorem Cp:∀(ps:List Point) (k:Nat),(i8 ps k).Nodup
 |[],k=>oe
 |p::r,k=>by
  cases p with
  |leaf=>exact Cp r (k+1)
  |tensor _ _|par _ _=>rw[i8,fZ];exact⟨λh=>by have:=Ja r _ _ h;lia,Cp r (k+1)⟩
theorem yD:∀(ps:List Point) (j k p:Nat) (x:Point),ps[p]? =some x->TH x=true->∃i,(swL ps j)[p]? =some ((j+i:Nat):Int)/\ (i8 ps k)[i]? =some (k+p)
 |[],j,k,p,x,h,_=>by simp at h
 |y::r,j,k,0,x,h,hx=>by
  have:y=x:=by simpa using h
  subst this;cases y with
  |leaf=>cases hx
  |tensor _ _|par _ _=>exact⟨0,U,U⟩
 |y::r,j,k,p+1,x,h,hx=>by
  have h:r[p]? =some x:=by simpa using h
  cases y with
  |leaf=>obtain⟨i,h1,h2⟩:=yD r j (k+1) p x h hx;exact⟨i,by simpa [swL]using h1,by rw[i8,h2];congr 1;lia⟩
  |tensor _ _|par _ _=>
   obtain⟨i,h1,h2⟩:=yD r (j+1) (k+1) p x h hx;refine⟨i+1,?_,?_⟩
   .rw[swL,gD,h1,show j+1+i=j+(i+1) by lia]
   .rw[i8,gD,h2];congr 1;lia
theorem Jb:∀(ps:List Point) (j:Nat),(swL ps j).length=ps.length
 |[],j=>rfl
 |p::r,j=>by cases p<;>simp[swL,Jb r]
theorem Jc:∀{l:List Nat} {v:List Bool} {i p:Nat} {b:Bool},l.Nodup->l[i]? =some p->v[i]? =some b->Mj (l.zip v) p=b
 |[],v,i,p,b,_,h,_|a::l,[],i,p,b,_,_,h=>by simp at h
 |a::l,c::v,0,p,b,nd,h1,h2=>by
  have e1:a=p:=by simpa using h1
  have e2:c=b:=by simpa using h2
  subst e1 e2;unfold Mj;rw[sY,BH (by simp)];rfl
 |a::l,c::v,i+1,p,b,nd,h1,h2=>by
  obtain⟨n1,n2⟩:=fZ.mp nd;have e1:l[i]? =some p:=by simpa using h1
  have e2:v[i]? =some b:=by simpa using h2
  have ne:¬((a==p)=true):=by
   intro e;have:a=p:=by simpa using e
   subst this;exact n1 (cN e1)
  have ih:=Jc n2 e1 e2;unfold Mj at ih⊢;have ne':(a==p)=false:=by simpa using ne
  rw[sY,oj];dsimp only;rw[ne'];exact ih
noncomputable def gH:List Nat->List Int->List Int
 |a::b::r,t=>gH r ((t.set a b).set b a)
 |_,t=>t
theorem Cq:∀(l:List Nat) (t:List Int),(gH l t).length=t.length
 |[],t|[a],t=>rfl
 |a::b::r,t=>by rw[gH,Cq r];simp
theorem yE:∀(l:List Nat) (t:List Int) (x:Nat),x∉l->(gH l t)[x]? =t[x]?
 |[],t,x,_|[a],t,x,_=>rfl
 |a::b::r,t,x,h=>by have h1:x≠a:=λe=>h (by simp[e]);have h2:x≠b:=λe=>h (by simp[e]);rw[gH,yE r _ x (λc=>h (by simp[c])),n0 (λe=>h2 e.symm),n0 (λe=>h1 e.symm)]
theorem Jd:∀(l:List Nat) (t:List Int) (x y:Nat),l.Nodup->(∀z∈l,z<t.length)->(x,Stand.cut y)∈Mu l->(gH l t)[x]? =some (y:Int)
 |[],t,x,y,_,_,h|[a],t,x,y,_,_,h=>by simp[Mu]at h
 |a::b::r,t,x,y,nd,hl,h=>by
  obtain⟨n1,nd⟩:=fZ.mp nd;obtain⟨n2,nd⟩:=fZ.mp nd;have g_:a≠b:=λe=>n1 (by simp[e]);have TM:a∉r:=λc=>n1 (by simp[c]);have la:=hl a (by simp);have lb:=hl b (by simp);simp only[Mu,br]at h;rw[gH];rcases h with h|h|h
  .cases h
   rw[yE r _ _ TM,n0 (λe=>g_ e.symm),oh la]
  .cases h
   rw[yE r _ _ n2,oh (by simp;exact lb)]
  .exact Jd r _ x y nd (λz hz=>by simp;exact hl z (by simp[hz])) h
noncomputable def fS(lp:List Nat):List (Nat×Nat)->List Int->List Int
 |[],t=>t
 |x::r,t=>fS lp r ((t.set (lp.getD x.1 0) (lp.getD x.2 0)).set (lp.getD x.2 0) (lp.getD x.1 0))
theorem Cr(lp:List Nat):∀(l:List (Nat×Nat)) (t:List Int),(fS lp l t).length=t.length
 |[],t=>rfl
 |x::r,t=>by rw[fS,Cr lp r];simp
theorem Cs{lp:List Nat}(nd:lp.Nodup):∀(l:List (Nat×Nat)) (t:List Int) (i:Nat),(∀z∈numsOf l,z<lp.length)->i<lp.length->i∉numsOf l->(fS lp l t)[lp.getD i 0]? =t[lp.getD i 0]?
 |[],t,i,_,_,_=>rfl
 |x::r,t,i,hl,hi,h=>by
  have hn:numsOf (x::r)=x.1::x.2::numsOf r:=rfl;rw[hn]at hl h;have ne:∀j,j<lp.length->i≠j->lp.getD j 0≠lp.getD i 0:=by intro j hj iH e;rw[eX (cC hj),eX (cC hi)]at e;exact iH ((x9 nd).mp e).symm
  have h1:=ne x.1 (hl _ (by simp)) (λe=>h (by simp[e]));have h2:=ne x.2 (hl _ (by simp)) (λe=>h (by simp[e]));rw[fS,Cs nd r _ i (λz hz=>hl z (by simp[hz])) hi (λc=>h (by simp[c])),n0 h2,n0 h1]
theorem Je{lp:List Nat}(nd:lp.Nodup):∀(l:List (Nat×Nat)) (t:List Int) (x:Nat×Nat),(numsOf l).Nodup->(∀z∈numsOf l,z<lp.length)->(∀q∈lp,q<t.length)->x∈l->
  (fS lp l t)[lp.getD x.1 0]? =some (lp.getD x.2 0:Int)/\ (fS lp l t)[lp.getD x.2 0]? =some (lp.getD x.1 0:Int)
 |[],t,x,_,_,_,h=>by simp at h
 |y::r,t,x,nn,hl,ht,h=>by
  have hn:numsOf (y::r)=y.1::y.2::numsOf r:=rfl;rw[hn]at hl nn;obtain⟨n1,nn⟩:=fZ.mp nn;obtain⟨n2,nn⟩:=fZ.mp nn;have h_:y.1<lp.length:=hl _ (by simp);have Ct:y.2<lp.length:=hl _ (by simp);have TN:y.1≠y.2:=λe=>n1 (by simp[e]);have aU:∀j,j<lp.length->lp.getD j 0<t.length:=λj hj=>by rw[eX (cC hj)];exact ht _ (BL hj)
  rcases br.mp h with rfl|h
  .have ne:lp.getD x.2 0≠lp.getD x.1 0:=by
    intro e;rw[eX (cC Ct),eX (cC h_)]at e;exact TN ((x9 nd).mp e).symm
   rw[fS];constructor
   .rw[Cs nd r _ x.1 (λz hz=>hl z (by simp[hz])) h_ (λc=>n1 (by simp[c])),n0 ne,oh (aU _ h_)]
   .rw[Cs nd r _ x.2 (λz hz=>hl z (by simp[hz])) Ct n2,oh (by simp only[tf];exact aU _ Ct)]
  .rw[fS]
   exact Je nd r _ x nn (λz hz=>hl z (by simp[hz])) (λq hq=>by simp;exact ht q hq) h
structure Arr(s:Net)(S:PA):Prop where
 ln:S.nodes.length=(points s).length
 lb:S.below.length=(points s).length
 ls:S.sides.length=(points s).length
 lc:S.seconds.length=(points s).length
 lw:S.switches.length=(points s).length
 lp:S.partners.length=(points s).length
 lt:S.turns.length=(points s).length
 jc:S.jc=(Mg s).length
 nd:S.nodes=(tQ s).flatMap enc
 leaf:∀{p:Nat},(points s)[p]? =some .leaf->(∃x,S.nodes[p]? =some x/\ x.1<2)/\ S.partners[p]? =some (partner s p:Int)
 lP:∀{p l r k:Nat},((points s)[p]? =some (.tensor l r)/\ k=2\/(points s)[p]? =some (.par l r)/\ k=3)->
  S.nodes[p]? =some (k,[])/\ l=p+1/\ S.seconds[p]? =some (r:Int)/\ ∃i:Nat,S.switches[p]? =some (i:Int)/\ (Mg s)[i]? =some p
 concl:∀{p:Nat},p<(points s).length->Mo (Me s) p= .concl->S.below[p]? =some (-1)/\ S.turns[p]? =some (p:Int)
 cut:∀{p q:Nat},p<(points s).length->Mo (Me s) p= .cut q->S.below[p]? =some (-1)/\ S.turns[p]? =some (q:Int)
 d9:∀{p j q:Nat} {b:Bool},Mo (Me s) p= .tensor j q b->S.below[p]? =some (j:Int)/\ S.sides[p]? =some (if b=true then 1 else 0)/\ ∃l r,(points s)[j]? =some (.tensor l r)/\ (if b=true then p=r/\ q=l else p=l/\ q=r)
 par:∀{p j:Nat} {b:Bool},Mo (Me s) p= .par j b->S.below[p]? =some (j:Int)/\ S.sides[p]? =some (if b=true then 1 else 0)/\ ∃l r,(points s)[j]? =some (.par l r)
noncomputable def arrOf(s:Net)(links:List (Nat×Nat)):PA:=
 let S:=iJ PA.empty (tQ s)
 {S with turns:=gH (eV s) S.turns,partners:=fS (ME (points s)) links S.partners}
theorem vz:∀(A:Formula) (n x:Nat),multiplicative A=true->n<x->x<n+nodes A->x∈keys (cF n (L8 n A))
 | .atom _ _,n,x,_,h1,h2=>by simp[nodes]at h2;lia
 | .tensor A B,n,x,h,h1,h2=>by
  simp only[multiplicative,bC]at h;simp only[nodes]at h2;have e:keys (cF n (L8 n (.tensor A B)))=(n+1)::(n+1+nodes A)::(keys (cF (n+1) (L8 (n+1) A))++keys (cF (n+1+nodes A) (L8 (n+1+nodes A) B))):=by rw[L8,yq,tG,dq A _ h.1,lK,lK];rfl
  rw[e];simp only[br,c9];by_cases c1:x=n+1
  .exact .inl c1
  .by_cases c2:x=n+1+nodes A
   .exact .inr (.inl c2)
   .by_cases c3:x<n+1+nodes A
    .exact .inr (.inr (.inl (vz A (n+1) x h.1 (by lia) (by lia))))
    .exact .inr (.inr (.inr (vz B (n+1+nodes A) x h.2 (by lia) (by lia))))
 | .par A B,n,x,h,h1,h2=>by
  simp only[multiplicative,bC]at h;simp only[nodes]at h2;have e:keys (cF n (L8 n (.par A B)))=(n+1)::(n+1+nodes A)::(keys (cF (n+1) (L8 (n+1) A))++keys (cF (n+1+nodes A) (L8 (n+1+nodes A) B))):=by rw[L8,yq,tG,dq A _ h.1,lK,lK];rfl
  rw[e];simp only[br,c9];by_cases c1:x=n+1
  .exact .inl c1
  .by_cases c2:x=n+1+nodes A
   .exact .inr (.inl c2)
   .by_cases c3:x<n+1+nodes A
    .exact .inr (.inr (.inl (vz A (n+1) x h.1 (by lia) (by lia))))
    .exact .inr (.inr (.inr (vz B (n+1+nodes A) x h.2 (by lia) (by lia))))
 | .wth A B,_,_,h,_,_| .plus A B,_,_,h,_,_| .ofc A,_,_,h,_,_| .whn A,_,_,h,_,_=>by simp[multiplicative]at h
theorem Jf:∀(fs:List Formula) (n x:Nat),eO fs->n<=x->x<n+bf fs->x∈Mm n fs\/x∈keys (cF n (Ml n fs))
 |[],n,x,_,h1,h2=>by simp[bf]at h2;lia
 |A::r,n,x,h,h1,h2=>by
  have hA:=h A (by simp);have e:keys (cF n (Ml n (A::r)))=keys (cF n (L8 n A))++keys (cF (n+nodes A) (Ml (n+nodes A) r)):=by rw[Ml,tG,dq A n hA,lK]
  rw[e];simp only[Mm,br,c9];simp only[bf]at h2;by_cases c1:x=n
  .exact .inl (.inl c1)
  .by_cases c2:x<n+nodes A
   .exact .inr (.inl (vz A n x hA (by lia) c2))
   .rcases Jf r (n+nodes A) x (λB hB=>h B (by simp[hB])) (by lia) (by lia)with c|c
    .exact .inl (.inr c)
    .exact .inr (.inr c)
theorem TQ{s:Net}(hm:eO (tQ s)){p:Nat}(hp:p<(points s).length)(h:Mo (Me s) p= .concl):p∈dR s/\ p∉eV s:=by
 have hn:(points s).length=bf (tQ s):=jV _ _ hm;have hk:p∉keys (Me s):=by
  intro c;obtain⟨z,hz,e⟩:=eu.mp c;obtain⟨q,v⟩:=z;have e:q=p:=e;subst e;have:=ox (ou hm) hz;rw[h]at this;subst this;unfold Me at hz;rcases c9.mp hz with hz|hz
  .rw[tF]at hz
   obtain⟨j,x,_,hy⟩:=B8 hz;cases x<;>simp[iI]at hy
  .obtain⟨y,h1,_⟩:=vq _ _ _ hz
   cases h1
 rw[B9]at hk;have h1:p∉keys (cF 0 (points s)):=λc=>hk (nZ _ c);have h2:p∉eV s:=λc=>hk (jN _ c);refine⟨?_,h2⟩;rcases Jf (tQ s) 0 p hm (by lia) (by lia)with c|c
 .exact c
 .exact absurd c h1
theorem TR{s:Net}(g:Good s){links:List (Nat×Nat)}(eY:s.to=M3 s.to.length links)(aU:∀x∈links,x.1<x.2)(gb:(numsOf links).Nodup)(gw:∀z∈numsOf links,z<s.to.length)
  (vA:∀i,i<s.to.length->i∈numsOf links):Arr s (arrOf s links):=by
 have hn:(points s).length=bf (tQ s):=jV _ _ g.mul;have e:=yB (tQ s) PA.empty g.mul ⟨U,U⟩;have e0:PA.empty.nodes.length=0:=rfl;rw[e0]at e;simp only[PA.empty,nY,afZ]at e;have eA:arrOf s links=
   {nodes:=(tQ s).flatMap enc,below:=f_ 0 (tQ s),sides:=iK (tQ s),seconds:=i7 0 (tQ s),switches:=swL (Ml 0 (tQ s)) 0,
    partners:=fS (ME (points s)) links (List.replicate (bf (tQ s)) (-1)),turns:=gH (eV s) (lO 0 (tQ s)),jc:=fQ (Ml 0 (tQ s))}:=by
  unfold arrOf PA.empty;rw[e]
 have lpn:(ME (points s)).Nodup:=by rw[gZ];exact pL _ _
 have cutlt:∀z∈eV s,z<(lO 0 (tQ s)).length:=λz hz=>by have:=m8 (tQ s) 0 z (vp s z hz);rw[Ck];lia
 have cutnd:(eV s).Nodup:=(yr _ _).sublist (BI _ _);rw[eA];constructor
 .show _=_;rw[ng,hn]
 .show _=_;rw[Cg _ _ g.mul,hn]
 .show _=_;rw[Ci _ g.mul,hn]
 .show _=_;rw[Cj _ _ g.mul,hn]
 .show _=_;rw[Jb];rfl
 .show _=_;rw[Cr,qL,hn]
 .show _=_;rw[Cq,Ck,hn]
 .show _=_;rw[Co,I_];rfl
 .rfl
 .intro p hp
  refine⟨IY (tQ s) 0 p g.mul hp,?_⟩;obtain⟨i,j,h1,h2,h3,h4⟩:=g.pair hp;have hi:i<s.to.length:=(da.mp h2).1;obtain⟨x,hx,B6⟩:=B5 (vA i hi);have h2l:x.2<s.to.length:=gw x.2 (gT.mpr ⟨x,hx,by simp⟩);obtain⟨p1,p2⟩:=vk (n:=s.to.length) gb hx (aU x hx) h2l;rw[<-eY]at p1 p2;have J:=Je lpn links (List.replicate (bf (tQ s)) (-1)) x gb (λz hz=>by rw[<-g.len];exact gw z hz) (λq hq=>by rw[gZ]at hq;have:=yw _ _ _ hq;rw[qL];lia) hx
  show(fS _ _ _)[p]? =some (partner s p:Int);rcases B6 with rfl|rfl
  .have ej:j=x.2:=by rw[p1]at h2;exact(aM h2).symm
   subst ej;rw[<-eX (d:=0) h1,J.1,eX h1,eX h4]
  .have ej:j=x.1:=by rw[p2]at h2;exact(aM h2).symm
   subst ej;rw[<-eX (d:=0) h1,J.2,eX h1,eX h4]
 .intro p l r k h
  have j:=yC (tQ s) 0 p l r k g.mul h;have ks:=lL (tQ s) 0 p l r g.mul (by rcases h with h|h;exact .inl h.1;exact .inr h.1);refine⟨j.node,by lia,j.sec,?_⟩;obtain⟨i,h1,h2⟩:∃i,(swL (Ml 0 (tQ s)) 0)[p]? =some ((0+i:Nat):Int)/\ (i8 (Ml 0 (tQ s)) 0)[i]? =some (0+p):=by
   rcases h with⟨h,_⟩|⟨h,_⟩
   .exact yD _ 0 0 p _ h U
   .exact yD _ 0 0 p _ h U
  rw[afZ]at h1 h2;exact⟨i,h1,by rw[Co];exact h2⟩
 .intro p hp hc
  obtain⟨h1,h2⟩:=TQ g.mul hp hc;obtain⟨_,r1,r2⟩:=Cn (tQ s) 0 p g.mul h1;refine⟨r1,?_⟩;show(gH _ _)[p]? =_;rw[yE _ _ _ h2];exact r2
 .intro p q hp hc
  have b8:Mo (Me s) p≠ .concl:=by rw[hc];intro z;cases z
  rcases yu g.mul b8 with⟨j,l,r,_,h⟩|⟨j,l,r,_,h⟩|⟨q',h1,h2,h3⟩
  .rcases h with⟨_,h⟩|⟨_,h⟩<;>rw[hc]at h<;>cases h
  .rcases h with⟨_,h⟩|⟨_,h⟩<;>rw[hc]at h<;>cases h
  .rw[hc]at h1
   cases h1;have TU:p∈eV s:=by have:p∈keys (Mu (eV s)):=eu.mpr ⟨_,h3,U⟩;rwa[vn _ (vo s)]at this
   obtain⟨_,r1,r2⟩:=Cn (tQ s) 0 p g.mul (vp s p TU);exact⟨r1,Jd _ _ _ _ cutnd cutlt h3⟩
 .intro p j q b hc
  have b8:Mo (Me s) p≠ .concl:=by rw[hc];intro z;cases z
  rcases yu g.mul b8 with⟨j',l,r,hj,h⟩|⟨j',l,r,_,h⟩|⟨q',h1,h2,h3⟩
  .have J:=yC (tQ s) 0 j' l r 2 g.mul (.inl ⟨hj,U⟩)
   have ks:=lL (tQ s) 0 j' l r g.mul (.inl hj);rcases h with⟨e1,h⟩|⟨e1,h⟩
   .rw[hc]at h;cases h
    have el:p=j+1:=by lia
    refine⟨?_,?_,l,q,hj,?_⟩
    .have:=J.b1;rw[afZ]at this;rw[el];exact this
    .have:=J.s1;rw[el];exact this
    .simp[e1]
   .rw[hc]at h;cases h
    refine⟨?_,?_,q,r,hj,?_⟩
    .have:=J.b2;rw[afZ,jQ]at this;rw[e1];exact this
    .have:=J.s2;rw[jQ]at this;rw[e1];exact this
    .simp[e1]
  .rcases h with⟨_,h⟩|⟨_,h⟩<;>rw[hc]at h<;>cases h
  .rw[hc]at h1;cases h1
 .intro p j b hc
  have b8:Mo (Me s) p≠ .concl:=by rw[hc];intro z;cases z
  rcases yu g.mul b8 with⟨j',l,r,_,h⟩|⟨j',l,r,hj,h⟩|⟨q',h1,h2,h3⟩
  .rcases h with⟨_,h⟩|⟨_,h⟩<;>rw[hc]at h<;>cases h
  .have J:=yC (tQ s) 0 j' l r 3 g.mul (.inr ⟨hj,U⟩)
   have ks:=lL (tQ s) 0 j' l r g.mul (.inr hj);rcases h with⟨e1,h⟩|⟨e1,h⟩
   .rw[hc]at h;cases h
    have el:p=j+1:=by lia
    refine⟨?_,?_,l,r,hj⟩
    .have:=J.b1;rw[afZ]at this;rw[el];exact this
    .have:=J.s1;rw[el];exact this
   .rw[hc]at h;cases h
    refine⟨?_,?_,l,r,hj⟩
    .have:=J.b2;rw[afZ,jQ]at this;rw[e1];exact this
    .have:=J.s2;rw[jQ]at this;rw[e1];exact this
  .rw[hc]at h1;cases h1
structure Eqv(n:Nat)(c d:List Nat):Prop where
 l1:c.length=n
 l2:d.length=n
 eq:∀i j,i<n->j<n->(c.getD i 0=c.getD j 0↔d.getD i 0=d.getD j 0)
theorem Eqv.refl{n:Nat}{c:List Nat}(h:c.length=n):Eqv n c c:=⟨h,h,λ_ _ _ _=>Iff.rfl⟩
theorem Eqv.symm{n:Nat}{c d:List Nat}(h:Eqv n c d):Eqv n d c:=⟨h.l2,h.l1,λi j hi hj=>(h.eq i j hi hj).symm⟩
noncomputable def lQ(a b:Nat)(c:List Nat):List Nat:=c.map λz=>if z=c.getD b 0 then c.getD a 0 else z
theorem getD_map'{f:Nat->Nat}{c:List Nat}{i:Nat}(h:i<c.length):(c.map f).getD i 0=f (c.getD i 0):=by simp only[og,ft,cC h];rfl
def nh(c:List Nat)(a b i j:Nat):Prop:=c.getD i 0=c.getD j 0\/(c.getD i 0=c.getD a 0/\ c.getD j 0=c.getD b 0)\/(c.getD i 0=c.getD b 0/\ c.getD j 0=c.getD a 0)
theorem lR(a b:Nat)(c:List Nat):(join a b c).length=c.length:=by unfold join;simp
theorem Cu(a b:Nat)(c:List Nat):(lQ a b c).length=c.length:=by unfold lQ;simp
theorem Jg(x y u v:Nat):((if u=x then y else u)=(if v=x then y else v))↔(u=v\/(u=x/\ v=y)\/(u=y/\ v=x)):=by by_cases h1:u=x<;>by_cases h2:v=x<;>simp[h1,h2]<;>lia
theorem gJ{n:Nat}{c:List Nat}(h:c.length=n)(a b:Nat){i j:Nat}(hi:i<n)(hj:j<n):(join a b c).getD i 0=(join a b c).getD j 0↔nh c a b i j:=by unfold join nh;rw[getD_map' (by lia),getD_map' (by lia)];exact Jg _ _ _ _
theorem TV{n:Nat}{c:List Nat}(h:c.length=n)(a b:Nat){i j:Nat}(hi:i<n)(hj:j<n):(lQ a b c).getD i 0=(lQ a b c).getD j 0↔nh c a b i j:=by
 unfold lQ nh;rw[getD_map' (by lia),getD_map' (by lia)];refine(Jg _ _ _ _).trans ?_;constructor
 .rintro(h|h|h)
  .exact .inl h
  .exact .inr (.inr h)
  .exact .inr (.inl h)
 .rintro(h|h|h)
  .exact .inl h
  .exact .inr (.inr h)
  .exact .inr (.inl h)
theorem Jh{n:Nat}{c d:List Nat}(e:Eqv n c d){a b i j:Nat}(ha:a<n)(hb:b<n)(hi:i<n)(hj:j<n):nh c a b i j↔nh d a b i j:=by unfold nh;rw[e.eq i j hi hj,e.eq i a hi ha,e.eq j b hj hb,e.eq i b hi hb,e.eq j a hj ha]
theorem TX{n:Nat}{c d:List Nat}(e:Eqv n c d){a b:Nat}(ha:a<n)(hb:b<n):Eqv n (join a b c) (join a b d):=⟨by rw[lR];exact e.l1,by rw[lR];exact e.l2,λi j hi hj=>by rw[gJ e.l1 a b hi hj,gJ e.l2 a b hi hj];exact Jh e ha hb hi hj⟩
theorem Ji{n:Nat}{c d:List Nat}(e:Eqv n c d){a b:Nat}(ha:a<n)(hb:b<n):Eqv n (lQ a b c) (join a b d):=⟨by rw[Cu];exact e.l1,by rw[lR];exact e.l2,λi j hi hj=>by rw[TV e.l1 a b hi hj,gJ e.l2 a b hi hj];exact Jh e ha hb hi hj⟩
theorem yF(a b:Nat)(c:List Nat):Mh a b c=true↔c.getD a 0=c.getD b 0:=by unfold Mh;exact beq_iff_eq
theorem yG{n:Nat}{c d:List Nat}(e:Eqv n c d){a b:Nat}(ha:a<n)(hb:b<n):Mh a b c=Mh a b d:=by rw[js,yF,yF];exact e.eq a b ha hb
theorem join_comm{n:Nat}{c:List Nat}(h:c.length=n){a b x y:Nat}(ha:a<n)(hb:b<n)(hx:x<n)(hy:y<n):Eqv n (join a b (join x y c)) (join x y (join a b c)):=by
 refine⟨by rw[lR,lR];exact h,by rw[lR,lR];exact h,λi j hi hj=>?_⟩;have l1:(join x y c).length=n:=by rw[lR];exact h
 have l2:(join a b c).length=n:=by rw[lR];exact h
 rw[gJ l1 a b hi hj,gJ l2 x y hi hj];unfold nh;rw[gJ h x y hi hj,gJ h x y hi ha,gJ h x y hj hb,gJ h x y hi hb,gJ h x y hj ha,gJ h a b hi hj,gJ h a b hi hx,gJ h a b hj hy,gJ h a b hi hy,gJ h a b hj hx];unfold nh;generalize c.getD i 0=I;generalize c.getD j 0=J;generalize c.getD a 0=A;generalize c.getD b 0=B;generalize c.getD x 0=X;generalize c.getD y 0=Y;constructor
 all_goals
  intro h;rcases h with(h|⟨h,h'⟩|⟨h,h'⟩)|⟨h|⟨h,h'⟩|⟨h,h'⟩,g|⟨g,g'⟩|⟨g,g'⟩⟩|⟨h|⟨h,h'⟩|⟨h,h'⟩,g|⟨g,g'⟩|⟨g,g'⟩⟩<;>subst_vars<;>simp
theorem TY{n:Nat}{c:List Nat}(h:c.length=n){a b x y:Nat}(ha:a<n)(hb:b<n)(hx:x<n)(hy:y<n):
  (!Mh a b c&& !Mh x y (join a b c))=(!Mh x y c&& !Mh a b (join x y c)):=by
 rw[js];simp only[bC,Bool.not_eq_true',<-Bool.not_eq_true,yF];rw[gJ h a b hx hy,gJ h x y ha hb];unfold nh;generalize c.getD a 0=A;generalize c.getD b 0=B;generalize c.getD x 0=X;generalize c.getD y 0=Y;constructor
 all_goals
  rintro⟨h1,h2⟩;refine⟨λe=>h2 (.inl e),?_⟩;rintro(e|⟨e,e'⟩|⟨e,e'⟩)
  .exact h1 e
  .exact h2 (.inr (.inl ⟨e.symm,e'.symm⟩))
  .exact h2 (.inr (.inr ⟨e'.symm,e.symm⟩))
theorem Jj:∀(n:Nat) (z:List (Nat×Nat)),z.length<=n->(∀x∈z,∀y∈z,x.1=y.1↔x.2=y.2)->(z.map (·.1)).eraseDups.length=(z.map (·.2)).eraseDups.length
 |_,[],_,_=>rfl
 |0,x::r,h,_=>by simp at h
 |n+1,x::r,h,k=>by
  rw[ez,ez,u9,u9,bj,bj,aeG,aeG];have e:r.filter ((λb=> !b==x.2)∘λy=>y.2)=r.filter ((λb=> !b==x.1)∘λy=>y.1):=by refine aeH λy hy=>?_;show(!y.2==x.2)=(!y.1==x.1);congr 1;rw[js,beq_iff_eq,beq_iff_eq];exact(k y (by simp[hy]) x (by simp)).symm
  rw[e];have hl:(r.filter ((λb=> !b==x.1)∘λy=>y.1)).length<=n:=c_ (sX _ _) (by simp at h;lia);rw[Jj n _ hl λu hu v hv=>k u (by simp[(uU.mp hu).1]) v (by simp[(uU.mp hv).1])]
theorem Jk{n:Nat}{c d:List Nat}(e:Eqv n c d):MQ c=MQ d:=by
 unfold MQ;have h:=Jj _ (c.zip d) (a_ _) (by
  intro x hx y hy;obtain⟨i,hi,ei⟩:=BM.mp hx;obtain⟨j,hj,ej⟩:=BM.mp hy;rw[aeI,e.l1,e.l2]at hi hj;have:=e.eq i j (by lia) (by lia);rw[BN]at ei ej;simp only[og,cC (show i<c.length by rw[e.l1];lia),cC (show j<c.length by rw[e.l1];lia),cC (show i<d.length by rw[e.l2];lia),cC (show j<d.length by rw[e.l2];lia),afw]at this;rw[<-ei,<-ej];exact this)
 rw[show(c.zip d).map (·.1)=c from List.map_fst_zip (by rw[e.l1,e.l2];lia),show(c.zip d).map (·.2)=d from List.map_snd_zip (by rw[e.l1,e.l2];lia)]at h;exact h
def vB(n:Nat)(p:Par):Prop:=p.1<n/\ p.2.1<n/\ p.2.2<n
def pO(n:Nat)(ps:List Par):Prop:=∀p∈ps,vB n p
noncomputable def drawn(f:Nat)(ps:List Par)(c:MF):Bool:=match Nr f ps c with
 |some (TZ,c')=>TZ.isEmpty&&MQ c'==1
 |none=>false
theorem Jl{n:Nat}{c d:List Nat}(e:Eqv n c d):∀(ps:List Par),pO n ps->MY ps c=MY ps d
 |[],_=>rfl
 |p::r,h=>by have hp:=h p (by simp);unfold MY;rw[yG e hp.2.1 hp.2.2,Jl e r λq hq=>h q (by simp[hq])]
theorem yH:∀(ps:List Par) (c:MF),(MY ps c=none/\ ∀p∈ps,Mh p.2.1 p.2.2 c=false)\/∃l1 p l2,ps=l1++p::l2/\ MY ps c=some (p,l1++l2)/\ Mh p.2.1 p.2.2 c=true/\ ∀q∈l1,Mh q.2.1 q.2.2 c=false
 |[],c=> .inl ⟨U,by simp⟩
 |p::r,c=>by
  by_cases h:Mh p.2.1 p.2.2 c=true
  .exact .inr ⟨[],p,r,U,by unfold MY;rw[aI h];rfl,h,by simp⟩
  .rcases yH r c with⟨e,k⟩|⟨l1,q,l2,e,e2,e3,e4⟩
   .refine .inl ⟨by unfold MY;rw[ay h,e];rfl,λx hx=>?_⟩
    rcases br.mp hx with rfl|hx
    .exact uV.mpr h
    .exact k x hx
   .refine .inr ⟨p::l1,q,l2,by rw[e];rfl,by unfold MY;rw[ay h,e2];rfl,e3,λx hx=>?_⟩
    rcases br.mp hx with rfl|hx
    .exact uV.mpr h
    .exact e4 x hx
theorem vC{ps l:List Par}{c:MF}{p:Par}(h:MY ps c=some (p,l))(f:Nat):drawn (f+1) ps c=(!Mh p.1 p.2.1 c&&drawn f l (join p.1 p.2.1 c)):=by unfold drawn;rw[Nr,h];simp only;cases Mh p.1 p.2.1 c<;>simp
theorem yI{n:Nat}:∀(f:Nat) (ps:List Par) {c d:List Nat},Eqv n c d->pO n ps->drawn f ps c=drawn f ps d
 |0,ps,c,d,e,_=>by unfold drawn Nr;simp only;rw[Jk e]
 |f+1,ps,c,d,e,h=>by
  have k:=Jl e ps h;rcases yH ps d with⟨e1,_⟩|⟨l1,p,l2,e0,e1,e2,_⟩
  .unfold drawn Nr;rw[k,e1];simp only;rw[Jk e]
  .have hp:=h p (by rw[e0];simp)
   have ih:=yI f (l1++l2) (TX e hp.1 hp.2.1) (λq hq=>h q (by rw[e0];simp only[c9,br]at hq⊢;rcases hq with z|z;exact .inl z;exact .inr (.inr z)));have k1:drawn (f+1) ps c=(!Mh p.1 p.2.1 c&&drawn f (l1++l2) (join p.1 p.2.1 c)):=vC (k.trans e1) f;rw[k1,vC e1 f,yG e hp.1 hp.2.1,ih]
theorem Cv{c:List Nat}{n:Nat}(h:c.length=n){p q:Par}(hp:vB n p)(hq:vB n q)(hr:Mh p.2.1 p.2.2 c=true):Mh p.2.1 p.2.2 (join q.1 q.2.1 c)=true:=by rw[yF]at hr⊢;rw[gJ h _ _ hp.2.1 hp.2.2];exact .inl hr
theorem T1{α:Type}{l1 l2 m1 m2:List α}{p q:α}(e:l1++p::l2=m1++q::m2)(hp:p∉m1\/∃P:α->Prop,P p/\ ∀x∈m1,¬P x):(l1=m1/\ p=q/\ l2=m2)\/∃k,l1=m1++q::k/\ m2=k++p::l2:=by
 have np:p∉m1:=by
  rcases hp with h|⟨P,h1,h2⟩
  .exact h
  .exact λc=>h2 p c h1
 rcases List.append_eq_append_iff.mp e with⟨a,e1,e2⟩|⟨a,e1,e2⟩
 .cases a with
  |nil=>simp at e1 e2;exact .inl ⟨e1.symm,e2.1,e2.2⟩
  |cons x a=>exfalso;simp at e2;exact np (by rw[e1,<-e2.1];simp)
 .cases a with
  |nil=>simp at e1 e2;exact .inl ⟨e1,e2.1.symm,e2.2.symm⟩
  |cons x a=>simp at e2;exact .inr ⟨a,by rw[e1,e2.1],e2.2⟩
theorem T2{n:Nat}:∀(f:Nat) (l1 l2:List Par) (p:Par) (c:MF),(l1++p::l2).length=f+1->c.length=n->pO n (l1++p::l2)->Mh p.2.1 p.2.2 c=true->
  drawn (f+1) (l1++p::l2) c=(!Mh p.1 p.2.1 c&&drawn f (l1++l2) (join p.1 p.2.1 c)):=by
 intro f;induction f with
 |zero=>
  intro l1 l2 p c hl hc eC hr;have:l1=[]/\ l2=[]:=by simp at hl;exact⟨uW.mp (by lia),uW.mp (by lia)⟩
  obtain⟨rfl,rfl⟩:=this;refine vC ?_ 0;show MY [p] c=some (p,[]);unfold MY;rw[aI hr]
 |succ f ih=>
  intro l1 l2 p c hl hc eC hr;have hp:=eC p (by simp);rcases yH (l1++p::l2) c with⟨_,k⟩|⟨m1,q,m2,e0,e1,e2,e3⟩
  .rw[k p (by simp)]at hr;cases hr
  .have hq:=eC q (by rw[e0];simp)
   rcases T1 e0 (.inr ⟨λx=>Mh x.2.1 x.2.2 c=true,hr,λx hx z=>by have z:Mh x.2.1 x.2.2 c=true:=z;rw[e3 x hx]at z;cases z⟩)with⟨rfl,rfl,rfl⟩|⟨k,rfl,rfl⟩
   .exact vC e1 _
   .rw[vC e1]
    have T3:∀x∈m1++(k++p::l2),vB n x:=λx hx=>eC x (by simp only[c9,br]at hx⊢;rcases hx with z|z|z|z<;>simp[z]);have T4:∀x∈m1++q::(k++l2),vB n x:=λx hx=>eC x (by simp only[c9,br]at hx⊢;rcases hx with z|z|z|z<;>simp[z]);have A:=ih (m1++k) l2 p (join q.1 q.2.1 c) (by simp at hl⊢;lia) (by rw[lR];exact hc) (by rw[gC];exact T3) (Cv hc hp hq hr);have B:=ih m1 (k++l2) q (join p.1 p.2.1 c) (by simp at hl⊢;lia) (by rw[lR];exact hc) T4 (Cv hc hq hp e2);rw[gC]at A;rw[A,show m1++q::k++l2=m1++q::(k++l2) by simp,B];rw[<-BO,<-BO,TY hc hq.1 hq.2.1 hp.1 hp.2.1,gC];rw[yI (n:=n) f (m1++(k++l2)) (join_comm hc hp.1 hp.2.1 hq.1 hq.2.1) λx hx=>eC x (by simp only[c9,br]at hx⊢;rcases hx with z|z|z<;>simp[z])]
noncomputable def ni:List Par->MF->Option MF
 |[],c=>some c
 |p::r,c=>if Mh p.1 p.2.1 c=true then none else ni r (lQ p.1 p.2.1 c)
noncomputable def isReady(c:MF)(p:Par):Bool:=Mh p.2.1 p.2.2 c
theorem Cw{n:Nat}{c0:MF}:∀(l2 l1:List Par) (c d:MF),Eqv n c d->pO n (l1++l2)->(∀p∈l2,isReady c0 p=true->isReady d p=true)->
  drawn (l1++l2).length (l1++l2) d=match ni (l2.filter (isReady c0)) c with
   |none=>false
   |some c'=>drawn (l1++l2.filter λp=> !isReady c0 p).length (l1++l2.filter λp=> !isReady c0 p) c'
 |[],l1,c,d,e,eC,_=>by simp only[List.filter_nil,i5,ni]at eC⊢;exact yI _ _ e.symm eC
 |p::r,l1,c,d,e,eC,hm=>by
  have hp:=eC p (by simp);by_cases hr:isReady c0 p=true
  .have pP:=hm p (by simp) hr
   rw[mV,aI hr,mV,ay (by rw[hr];simp)];have ln:(l1++p::r).length=(l1++r).length+1:=by simp;lia
   rw[ln,T2 _ l1 r p d (by simp;lia) e.l2 eC pP];unfold ni;rw[yG e hp.1 hp.2.1];cases ht:Mh p.1 p.2.1 d with
   |true=>simp
   |false=>simp only[x_,n6,pH,if_false];exact Cw r l1 _ _ (Ji e hp.1 hp.2.1) (λx hx=>eC x (by simp only[c9,br]at hx⊢;rcases hx with z|z<;>simp[z])) λq hq T5=>Cv e.l2 (eC q (by simp[hq])) hp (hm q (by simp[hq]) T5)
  .rw[mV,ay hr,mV,aI (by simpa using hr)]
   have:=Cw (c0:=c0) r (l1++[p]) c d e (by simpa using eC) λq hq=>hm q (by simp[hq]);simpa using this
theorem T6{ps:List Par}{c:MF}(h:∀p∈ps,isReady c p=false)(b8:ps≠ [])(f:Nat):drawn f ps c=false:=by
 have e:Nr f ps c=some (ps,c):=by
  cases f with
  |zero=>rfl
  |succ f=>
   unfold Nr;rcases yH ps c with⟨e,_⟩|⟨l1,p,l2,rfl,_,k,_⟩
   .rw[e]
   .have:=h p (by simp)
    unfold isReady at this;rw[this]at k;cases k
 unfold drawn;rw[e];cases ps with
 |nil=>exact absurd U b8
 |cons a r=>rfl
theorem T7(c:MF):drawn 0 [] c=(MQ c==1):=by unfold drawn Nr;simp
theorem T8{n:Nat}{c:MF}(hc:c.length=n){ps:List Par}(eC:pO n ps):drawn ps.length ps c=match ni (ps.filter (isReady c)) c with
   |none=>false
   |some c'=>drawn (ps.filter λp=> !isReady c p).length (ps.filter λp=> !isReady c p) c':=by
 have:=Cw (n:=n) (c0:=c) ps [] c c (Eqv.refl hc) eC λp _ h=>h;simpa using this
def Cy(n:Nat)(es:List Edge):Prop:=∀e∈es,e.1<n/\ e.2<n
noncomputable def nj:List Edge->MF->Option MF
 |[],c=>some c
 |e::r,c=>if Mh e.1 e.2 c=true then none else nj r (lQ e.1 e.2 c)
theorem Jm:∀(es:List Edge) (c:MF),(Nt es (c,true)).2=true
 |[],_=>rfl
 |e::r,c=>by unfold Nt;exact Jm r _
theorem Jn{n:Nat}:∀(es:List Edge) (c d:MF),Eqv n c d->Cy n es->match nj es c with
   |none=>(Nt es (d,false)).2=true
   |some c'=>(Nt es (d,false)).2=false/\ Eqv n c' (Nt es (d,false)).1
 |[],c,d,e,_=>⟨U,e⟩
 |x::r,c,d,e,h=>by
  have hx:=h x (by simp);unfold nj Nt;rw[yG e hx.1 hx.2];cases ht:Mh x.1 x.2 d with
  |true=>simp only[if_true,aft];exact Jm r _
  |false=>simp only[pH,if_false,sT];exact Jn r _ _ (Ji e hx.1 hx.2) λy hy=>h y (by simp[hy])
theorem T9{s:Net}{n:Nat}(hn:(points s).length=n)(he:Cy n (edges s))(hp:pO n (pars s)):draws s=match nj (edges s) (List.range n)with
   |none=>false
   |some c=>drawn (pars s).length (pars s) c:=by
 have k:=Jn (n:=n) (edges s) (List.range n) (List.range n) (Eqv.refl (by simp)) he;have e:draws s=(let x:=Nt (edges s) (apart s,false);if x.2=true then false else drawn (pars s).length (pars s) x.1):=by unfold draws drawn;rfl
 rw[e];unfold apart;rw[hn];simp only;cases h:nj (edges s) (List.range n)with
 |none=>rw[h]at k;simp only at k⊢;rw[aI k]
 |some c=>rw[h]at k;simp only at k⊢;rw[ay (by rw[k.1];simp)];exact yI _ _ k.2.symm hp
noncomputable def cK:Formula->List Nat
 | .tensor A B| .par A B=>(cK A).map (·+1)++(cK B).map (·+(1+nodes A))
 |_=>[0]
theorem yJ:∀A:Formula,multiplicative A=true->cK (L7 A)=cK A
 | .atom _ _,_=>rfl
 | .tensor A B,h| .par A B,h=>by simp only[multiplicative,bC]at h;simp only[L7,cK];rw[yJ A h.1,yJ B h.2,yk]
 | .wth A B,h| .plus A B,h| .ofc A,h| .whn A,h=>by simp[multiplicative]at h
theorem qZ:∀A:Formula,multiplicative A=true->(cK A).length=L_ A
 | .atom _ _,_=>rfl
 | .tensor A B,h| .par A B,h=>by simp only[multiplicative,bC]at h;simp[cK,L_,qZ A h.1,qZ B h.2]
 | .wth A B,h| .plus A B,h| .ofc A,h| .whn A,h=>by simp[multiplicative]at h
theorem places_len:∀A:Formula,multiplicative A=true->(placesOf A).length=L_ A
 | .atom _ _,_=>rfl
 | .tensor A B,h| .par A B,h=>by simp only[multiplicative,bC]at h;simp[placesOf,L_,places_len A h.1,places_len B h.2]
 | .wth A B,h| .plus A B,h| .ofc A,h| .whn A,h=>by simp[multiplicative]at h
theorem yK:∀(A:Formula),∀x∈cK A,x<nodes A
 | .atom _ _,x,hx=>by simp[cK]at hx;simp[nodes,hx]
 | .tensor A B,x,hx| .par A B,x,hx=>by
  simp only[cK,c9,eu]at hx;simp only[nodes];rcases hx with⟨y,hy,rfl⟩|⟨y,hy,rfl⟩
  .have:=yK A y hy;lia
  .have:=yK B y hy;lia
 | .wth A B,x,hx| .plus A B,x,hx| .ofc A,x,hx| .whn A,x,hx=>by simp[cK]at hx;simp[nodes,hx];lia
theorem yL:∀(A:Formula) (n k:Nat),multiplicative A=true->dS (L8 n A) k=(cK A).map (k+·)
 | .atom _ _,n,k,_=>by simp[L8,dS,cK]
 | .tensor A B,n,k,h| .par A B,n,k,h=>by
  simp only[multiplicative,bC]at h;rw[L8];show dS (L8 (n+1) A++L8 (n+1+nodes A) B) (k+1)=_;rw[tH,yL A _ _ h.1,yL B _ _ h.2,dq A _ h.1,cK,iD,kL,kL];congr 1
  .exact sZ λx _=>by show k+1+x=k+(x+1);lia
  .exact sZ λx _=>by show k+1+nodes A+x=k+(x+(1+nodes A));lia
 | .wth A B,_,_,h| .plus A B,_,_,h| .ofc A,_,_,h| .whn A,_,_,h=>by simp[multiplicative]at h
noncomputable def cQ(fs:List Formula)(f:Nat):Nat:=Vanete.sum ((fs.take f).map L_)
theorem foldl_add(l:List Nat):∀a,l.foldl (·+·) a=a+l.foldl (·+·) 0:=by
 induction l with
 |nil=>intro a;simp
 |cons x r ih=>intro a;rw[sR,sR,ih (a+x),ih (0+x)];lia
theorem sum_cons(x:Nat)(l:List Nat):Vanete.sum (x::l)=x+Vanete.sum l:=by unfold Vanete.sum;rw[sR,foldl_add];lia
theorem sum_nil:Vanete.sum []=0:=rfl
theorem sum_append(a b:List Nat):Vanete.sum (a++b)=Vanete.sum a+Vanete.sum b:=by
 induction a with
 |nil=>simp[sum_nil]
 |cons x r ih=>rw[mX,sum_cons,sum_cons,ih];lia
theorem lT(A:Formula)(r:List Formula)(f:Nat):cQ (A::r) (f+1)=L_ A+cQ r f:=by unfold cQ;rw[Ib,ez,sum_cons]
theorem pQ(fs:List Formula):cQ fs 0=0:=rfl
structure At(fs:List Formula)(i f k:Nat)(A:Formula):Prop where
 fm:fs[f]? =some A
 lt:k<L_ A
 eq:i=cQ fs f+k
theorem yM:∀(fs:List Formula) (i:Nat),i<Vanete.sum (fs.map L_)->∃f k A,At fs i f k A
 |[],i,h=>by simp[sum_nil]at h
 |A::r,i,h=>by
  rw[ez,sum_cons]at h;by_cases c:i<L_ A
  .exact⟨0,i,A,U,c,by rw[pQ];lia⟩
  .obtain⟨f,k,B,a⟩:=yM r (i-L_ A) (by lia)
   exact⟨f+1,k,B,a.fm,a.lt,by rw[lT];have:=a.eq;lia⟩
theorem At.tell:∀{fs:List Formula} {i f k:Nat} {A:Formula} (i0:Nat),At fs i f k A->Mr fs i0 i=(i0+f,(placesOf A).getD k [])
 |[],_,_,_,_,_,a=>by have:=a.fm;simp at this
 |B::r,i,0,k,A,i0,a=>by have e:B=A:=aM a.fm;subst e;have:=a.eq;rw[pQ]at this;have h:=a.lt;unfold Mr;rw[aI (by lia),show i=k by lia];rfl
 |B::r,i,f+1,k,A,i0,a=>by have:=a.eq;rw[lT]at this;unfold Mr;rw[ay (by lia),At.tell (f:=f) (k:=k) (A:=A) (i0+1) ⟨a.fm,a.lt,by lia⟩];congr 1;lia
theorem At.root:∀{fs:List Formula} {i f k:Nat} {A:Formula} (n:Nat),eO fs->At fs i f k A->∃r d,(Mm n fs)[f]? =some r/\ (cK A)[k]? =some d/\ n<=r/\ (dS (Ml n fs) n)[i]? =some (r+d)
 |[],_,_,_,_,_,_,a=>by have:=a.fm;simp at this
 |B::r,i,0,k,A,n,hm,a=>by
  have e:B=A:=aM a.fm;subst e;have hB:=hm B (by simp);have:=a.eq;rw[pQ]at this;have hk:k<(cK B).length:=by rw[qZ B hB];exact a.lt
  refine⟨n,(cK B)[k],U,cC hk,a_ _,?_⟩;rw[Ml,tH,yL B _ _ hB,show i=k by lia,fe (by rw[aX];exact hk),ft,cC hk];rfl
 |B::r,i,f+1,k,A,n,hm,a=>by
  have hB:=hm B (by simp);have:=a.eq;rw[lT]at this;obtain⟨q,d,h1,h2,h3,h4⟩:=At.root (f:=f) (k:=k) (A:=A) (n+nodes B) (λC hC=>hm C (by simp[hC])) ⟨a.fm,a.lt,U⟩;refine⟨q,d,h1,h2,by lia,?_⟩;have hl:((cK B).map (n+·)).length=L_ B:=by rw[aX,qZ B hB]
  rw[Ml,tH,yL B _ _ hB,dq B _ hB,fK (by lia),show i-((cK B).map (n+·)).length=cQ r f+k by lia];exact h4
noncomputable def iL:Nat->List Formula->List Nat
 |_,[]=>[]
 |j,A::r=>List.replicate (nodes A) j++iL (j+1) r
theorem yN:∀{fs:List Formula} {f r d n:Nat} {A:Formula} (j:Nat),fs[f]? =some A->(Mm n fs)[f]? =some r->d<nodes A->(iL j fs)[r-n+d]? =some (j+f)
 |[],_,_,_,_,_,_,h,_,_=>by simp at h
 |B::q,0,r,d,n,A,j,h,h2,hd=>by have e:B=A:=aM h;subst e;have e2:n=r:=aM h2;subst e2;rw[iL,fe (by rw[qL];lia),aeJ,aI (by lia)];rfl
 |B::q,f+1,r,d,n,A,j,h,h2,hd=>by have h2:(Mm (n+nodes B) q)[f]? =some r:=h2;have ge:=vm q (n+nodes B) r (cN h2);have ih:=yN (j+1) (show q[f]? =some A from h) h2 hd;rw[iL,fK (by rw[qL];lia),qL,show r-n+d-nodes B=r-(n+nodes B)+d by lia,ih];congr 1;lia
theorem Jo:∀(fs:List Formula) (j:Nat),(iL j fs).length=bf fs
 |[],_=>rfl
 |A::r,j=>by simp[iL,bf,Jo r]
inductive ia(be si:List Int):Nat->List Nat->Prop
 |root {p:Nat}:be[p]? =some (-1)->ia be si p []
 |up {p j sd:Nat} {π:List Nat}:be[p]? =some (j:Int)->si[p]? =some (sd:Int)->ia be si j π->ia be si p (π++[sd])
structure Seg(xs ys:List Int)(n:Nat)(as bs:List Int)(m:Nat):Prop where
 a:∀d,d<m->xs[n+d]? =as[d]?
 b:∀d,d<m->ys[n+d]? =bs[d]?
theorem T_{be si:List Int}{A B:Formula}(hA:multiplicative A=true)(hB:multiplicative B=true){n:Nat}{b sd:Int}{π:List Nat}
  (ihA:∀{n:Nat} {b sd:Int} {π:List Nat},Seg be si n (dg n b A) (dh sd A) (nodes A)->ia be si n π->∀{k d:Nat} {pl:List Nat},(cK A)[k]? =some d->(placesOf A)[k]? =some pl->ia be si (n+d) (π++pl))
  (ihB:∀{n:Nat} {b sd:Int} {π:List Nat},Seg be si n (dg n b B) (dh sd B) (nodes B)->ia be si n π->∀{k d:Nat} {pl:List Nat},(cK B)[k]? =some d->(placesOf B)[k]? =some pl->ia be si (n+d) (π++pl))
  (sg:Seg be si n (b::(dg (n+1) (n:Int) A++dg (n+1+nodes A) (n:Int) B)) (sd::(dh 0 A++dh 1 B)) (1+nodes A+nodes B)) (c:ia be si n π) {k d:Nat} {pl:List Nat}
  (hk:((cK A).map (·+1)++(cK B).map (·+(1+nodes A)))[k]? =some d) (hp:((placesOf A).map (λp=>0::p)++(placesOf B).map λp=>1::p)[k]? =some pl):ia be si (n+d) (π++pl):=by
 have nA:=fz A;have nB:=fz B;have lA:(dg (n+1) (n:Int) A).length=nodes A:=gu A _ _ hA;have lS:(dh 0 A).length=nodes A:=hX A _ hA;have sA:Seg be si (n+1) (dg (n+1) (n:Int) A) (dh 0 A) (nodes A):=by
  constructor
  .intro d hd
   have:=sg.a (1+d) (by lia);rw[show n+(1+d)=n+1+d by lia,show 1+d=d+1 by lia,gD,fe (by lia)]at this;exact this
  .intro d hd
   have:=sg.b (1+d) (by lia);rw[show n+(1+d)=n+1+d by lia,show 1+d=d+1 by lia,gD,fe (by lia)]at this;exact this
 have sB:Seg be si (n+1+nodes A) (dg (n+1+nodes A) (n:Int) B) (dh 1 B) (nodes B):=by
  constructor
  .intro d hd
   have:=sg.a (1+nodes A+d) (by lia);rw[show n+(1+nodes A+d)=n+1+nodes A+d by lia,show 1+nodes A+d=(nodes A+d)+1 by lia,gD,fK (by lia),lA,show nodes A+d-nodes A=d by lia]at this;exact this
  .intro d hd
   have:=sg.b (1+nodes A+d) (by lia);rw[show n+(1+nodes A+d)=n+1+nodes A+d by lia,show 1+nodes A+d=(nodes A+d)+1 by lia,gD,fK (by lia),lS,show nodes A+d-nodes A=d by lia]at this;exact this
 have loA:((cK A).map (·+1)).length=L_ A:=by rw[aX,qZ A hA]
 have lpA:((placesOf A).map (λp=>0::p)).length=L_ A:=by rw[aX,places_len A hA]
 have cA:ia be si (n+1) (π++[0]):=by
  have z:=oy A (n+1) (n:Int) 0 hA;refine .up (j:=n) (sd:=0) ?_ ?_ c
  .have:=sA.a 0 nA;rw[qJ,z.1]at this;exact this
  .have:=sA.b 0 nA;rw[qJ,z.2]at this;exact this
 have cB:ia be si (n+1+nodes A) (π++[1]):=by
  have z:=oy B (n+1+nodes A) (n:Int) 1 hB;refine .up (j:=n) (sd:=1) ?_ ?_ c
  .have:=sB.a 0 nB;rw[qJ,z.1]at this;exact this
  .have:=sB.b 0 nB;rw[qJ,z.2]at this;exact this
 by_cases aU:k<L_ A
 .rw[fe (by lia),ft]at hk hp
  obtain⟨d',h1,rfl⟩:=fq.mp hk;obtain⟨p',h2,rfl⟩:=fq.mp hp;have:=ihA sA cA h1 h2;rw[gC]at this;rw[show n+(d'+1)=n+1+d' by lia];exact this
 .rw[fK (by lia),ft]at hk hp
  obtain⟨d',h1,rfl⟩:=fq.mp hk;obtain⟨p',h2,rfl⟩:=fq.mp hp;rw[loA]at h1;rw[lpA]at h2;have:=ihB sB cB h1 h2;rw[gC]at this;rw[show n+(d'+(1+nodes A))=n+1+nodes A+d' by lia];exact this
theorem Cz{be si:List Int}:∀(A:Formula),multiplicative A=true->∀{n:Nat} {b sd:Int} {π:List Nat},Seg be si n (dg n b A) (dh sd A) (nodes A)->ia be si n π->
  ∀{k d:Nat} {pl:List Nat},(cK A)[k]? =some d->(placesOf A)[k]? =some pl->ia be si (n+d) (π++pl)
 | .atom _ _,_,n,b,sd,π,sg,c,k,d,pl,h1,h2=>by
  have:k=0:=by have:=(da.mp h1).1;simp[cK]at this;exact this
  subst this;have e1:0=d:=aM h1;have e2:[]=pl:=aM h2;subst e1 e2;rw[i5];exact c
 | .tensor A B,h,n,b,sd,π,sg,c,k,d,pl,h1,h2| .par A B,h,n,b,sd,π,sg,c,k,d,pl,h1,h2=>by simp only[multiplicative,bC]at h;exact T_ h.1 h.2 (λsg c=>Cz A h.1 sg c) (λsg c=>Cz B h.2 sg c) sg c h1 h2
 | .wth A B,h,_,_,_,_,_,_,_,_,_,_,_| .plus A B,h,_,_,_,_,_,_,_,_,_,_,_| .ofc A,h,_,_,_,_,_,_,_,_,_,_,_| .whn A,h,_,_,_,_,_,_,_,_,_,_,_=>by simp[multiplicative]at h
theorem yO:∀{fs:List Formula} {f r n:Nat} {A:Formula},eO fs->fs[f]? =some A->(Mm n fs)[f]? =some r->n<=r/\ ∀d,d<nodes A->
  (f_ n fs)[r-n+d]? =(dg r (-1) A)[d]?/\ (iK fs)[r-n+d]? =(dh (-1) A)[d]?/\ (i7 n fs)[r-n+d]? =(dG r A)[d]?/\ (fs.flatMap enc)[r-n+d]? =(enc A)[d]?
 |[],_,_,_,_,_,h,_=>by simp at h
 |B::q,0,r,n,A,hm,h,h2=>by have e:B=A:=aM h;subst e;have e2:n=r:=aM h2;subst e2;have hB:=hm B (by simp);refine⟨a_ _,λd hd=>?_⟩;rw[show n-n+d=d by lia,f_,iK,i7,iE];exact⟨fe (by rw[gu B _ _ hB];exact hd),fe (by rw[hX B _ hB];exact hd),fe (by rw[gG B _ hB];exact hd),fe (by rw[bJ];exact hd)⟩
 |B::q,f+1,r,n,A,hm,h,h2=>by
  have hB:=hm B (by simp);have h2:(Mm (n+nodes B) q)[f]? =some r:=h2;obtain⟨h3,ih⟩:=yO (λC hC=>hm C (by simp[hC])) (show q[f]? =some A from h) h2;refine⟨by lia,λd hd=>?_⟩;obtain⟨i1,i2,i3,i4⟩:=ih d hd;rw[f_,iK,i7,iE];have e:r-n+d-nodes B=r-(n+nodes B)+d:=by lia
  refine⟨?_,?_,?_,?_⟩
  .rw[fK (by rw[gu B _ _ hB];lia),gu B _ _ hB,e];exact i1
  .rw[fK (by rw[hX B _ hB];lia),hX B _ hB,e];exact i2
  .rw[fK (by rw[gG B _ hB];lia),gG B _ hB,e];exact i3
  .rw[fK (by rw[bJ];lia),bJ,e];exact i4
theorem At.T'{fs:List Formula}{i f k:Nat}{A:Formula}(hm:eO fs)(a:At fs i f k A){p:Nat}(hp:(dS (Ml 0 fs) 0)[i]? =some p):ia (f_ 0 fs) (iK fs) p ((placesOf A).getD k []):=by
 obtain⟨r,d,h1,h2,h3,h4⟩:=a.root 0 hm;rw[hp]at h4;have e:p=r+d:=aM h4;subst e;have hA:=hm A (cN a.fm);obtain⟨_,sg⟩:=yO hm a.fm h1;have hk:k<(placesOf A).length:=by rw[places_len A hA];exact a.lt
 have c:=Cz (be:=f_ 0 fs) (si:=iK fs) A hA (n:=r) (b:= -1) (sd:= -1) (π:=[]) ⟨λd hd=>by have:=(sg d hd).1;rw[jQ]at this;exact this,λd hd=>by have:=(sg d hd).2.1;rw[jQ]at this;exact this⟩
  (.root (by have:=(sg 0 (fz A)).1;rw[jQ,qJ,(oy A r (-1) (-1) hA).1]at this;exact this)) h2 (cC hk)
 rw[nY]at c;rw[og,cC hk];exact c
noncomputable def desc:Formula->List Int->Option Nat
 | .tensor A B,p| .par A B,p=>match p with
  |[]=>none
  |z::r=>if z=0 then(desc A r).map (·+1)else if z=1 then(desc B r).map (·+(1+nodes A))else none
 |_,p=>match p with
  |[]=>some 0
  |_::_=>none
noncomputable def atPlace(A:Formula)(p:List Int):Option Nat:=(MZ p).bind λq=>(placesOf A).findIdx? λx=>x==q
theorem Jp(z:Int)(r:List Int):MZ (z::r)=if 0<=z then(MZ r).map λq=>z.toNat::q else none:=by
 unfold MZ;by_cases h:0<=z
 .rw[aI h]
  by_cases k:r.all (λn=>decide (0<=n))=true
  .rw[aI (by rw[iG,k];simp[h]),aI k];rfl
  .rw[ay (by rw[iG];simp only[bC];exact λc=>k c.2),ay k];rfl
 .rw[ay h,ay (by rw[iG];simp[h])]
theorem tM{l:List (List Nat)}{P:List Nat->Bool}(h:∀x∈l,P x=false):l.findIdx? P=none:=by rw[List.findIdx?_eq_none_iff];exact h
theorem Jq(i:Nat)(l:List (List Nat))(q:List Nat):(l.map λp=>i::p).findIdx? (λx=>x==i::q)=l.findIdx? λx=>x==q:=by rw[List.findIdx?_map];congr 1;funext x;simp
theorem Ua{A B:Formula}(hA:multiplicative A=true)(hB:multiplicative B=true)
  (ihA:∀p,desc A p=(atPlace A p).bind λk=>(cK A)[k]?) (ihB:∀p,desc B p=(atPlace B p).bind λk=>(cK B)[k]?) (p:List Int):
  (match p with
  |[]=>none
  |z::r=>if z=0 then(desc A r).map (·+1)else if z=1 then(desc B r).map (·+(1+nodes A))else none)=
  ((MZ p).bind λq=>((placesOf A).map (λp=>0::p)++(placesOf B).map λp=>1::p).findIdx? λx=>x==q).bind λk=>((cK A).map (·+1)++(cK B).map (·+(1+nodes A)))[k]?:=by
 have loA:((cK A).map (·+1)).length=L_ A:=by rw[aX,qZ A hA]
 have lpA:((placesOf A).map (λp=>0::p)).length=L_ A:=by rw[aX,places_len A hA]
 cases p with
 |nil=>show none=Option.bind (Option.bind (some []) _) _;rw[dQ,ya,tM (by intro x hx;obtain⟨y,_,rfl⟩:=eu.mp hx;rfl),tM (by intro x hx;obtain⟨y,_,rfl⟩:=eu.mp hx;rfl)];rfl
 |cons z r=>
  simp only;rw[Jp];by_cases h0:z=0
  .subst h0
   rw[aI U,aI (Int.le_refl 0),ihA];unfold atPlace;cases MZ r with
   |none=>rfl
   |some q=>
    simp only[mW,dQ];rw[ya,show Int.toNat 0=0 from rfl,Jq];cases hf:(placesOf A).findIdx? λx=>x==q with
    |none=>rw[tM (by intro x hx;obtain⟨y,_,rfl⟩:=eu.mp hx;simp)];rfl
    |some k=>
     have hk:k<(placesOf A).length:=by have:=aeK.mp hf;exact this.1
     rw[places_len A hA]at hk;simp only[Option.some_or,dQ];rw[fe (by lia),ft]
  .rw[ay h0]
   by_cases h1:z=1
   .subst h1
    rw[aI U,aI (by decide),ihB];unfold atPlace;cases MZ r with
    |none=>rfl
    |some q=>
     simp only[mW,dQ];rw[ya,show Int.toNat 1=1 from rfl,Jq,tM (l:=(placesOf A).map λp=>0::p) (by intro x hx;obtain⟨y,_,rfl⟩:=eu.mp hx;simp)];cases hf:(placesOf B).findIdx? λx=>x==q with
     |none=>rfl
     |some k=>simp only[Option.none_or,mW,dQ];rw[lpA,fK (by lia),loA,ft,show k+L_ A-L_ A=k by lia]
   .rw[ay h1]
    by_cases hz:0<=z
    .rw[aI hz]
     cases MZ r with
     |none=>rfl
     |some q=>simp only[mW,dQ];rw[ya,tM (by intro x hx;obtain⟨y,_,rfl⟩:=eu.mp hx;simp;intro e;lia),tM (by intro x hx;obtain⟨y,_,rfl⟩:=eu.mp hx;simp;intro e;lia)];rfl
    .rw[ay hz];rfl
theorem yP:∀(A:Formula),multiplicative A=true->∀p,desc A p=(atPlace A p).bind λk=>(cK A)[k]?
 | .atom _ _,_,p=>by
  unfold atPlace;cases p with
  |nil=>rfl
  |cons z r=>
   rw[Jp];show none=_;split
   .cases MZ r with
    |none|some q=>rfl
   .rfl
 | .tensor A B,h,p| .par A B,h,p=>by simp only[multiplicative,bC]at h;exact Ua h.1 h.2 (yP A h.1) (yP B h.2) p
 | .wth A B,h,_| .plus A B,h,_| .ofc A,h,_| .whn A,h,_=>by simp[multiplicative]at h
theorem Ub{A:Formula}(h:multiplicative A=true){p:List Int}{k:Nat}(e:atPlace A p=some k):k<L_ A:=by unfold atPlace at e;obtain⟨q,_,h2⟩:=cY.mp e;have:=(aeK.mp h2).1;rwa[places_len A h]at this
theorem Uc{s:Net}{i:Nat}{A:Formula}(hi:s.concl[i]? =some A){p:List Int}(hA:multiplicative A=true)(h:Mz s (i:Int) p=none):desc A p=none:=by
 unfold Mz at h;rw[ay (by lia),jO]at h;rw[yP A hA];unfold atPlace;cases hp:MZ p with
 |none=>rfl
 |some q=>rw[hp]at h;simp only[dQ]at h⊢;unfold leafAt at h;rw[hi]at h;simp only[dQ]at h;rw[Option.map_eq_none_iff]at h;rw[h];rfl
theorem CA{s:Net}{i:Nat}{A:Formula}(hi:s.concl[i]? =some A){p:List Int}{n:Nat}(hA:multiplicative A=true)(h:Mz s (i:Int) p=some n):∃k d,At s.concl n i k A/\ (cK A)[k]? =some d/\ desc A p=some d:=by
 unfold Mz at h;rw[ay (by lia),jO]at h;obtain⟨q,hq,h⟩:=cY.mp h;unfold leafAt at h;rw[hi]at h;simp only[dQ]at h;obtain⟨k,hk,e⟩:=fq.mp h;have ap:atPlace A p=some k:=by unfold atPlace;rw[hq];exact hk
 have lt:=Ub hA ap;have lo:k<(cK A).length:=by rw[qZ A hA];exact lt
 refine⟨k,(cK A)[k],⟨hi,lt,e.symm⟩,cC lo,?_⟩;rw[yP A hA,ap,dQ,cC lo]
structure lU(nd:List Node)(se:List Int)(n:Nat)(A:Formula):Prop where
 mul:multiplicative A=true
 nd:∀d,d<nodes A->nd[n+d]? =(enc A)[d]?
 se:∀d,d<nodes A->se[n+d]? =(dG n A)[d]?
theorem lU.two{nd:List Node}{se:List Int}{n k:Nat}{C A B:Formula}(h:lU nd se n C)(e:C= .tensor A B/\ k=2\/C= .par A B/\ k=3):
  nd[n]? =some (k,[])/\ se[n]? =some ((n+1+nodes A:Nat):Int)/\ lU nd se (n+1) A/\ lU nd se (n+1+nodes A) B:=by
 have hm:multiplicative A=true/\ multiplicative B=true:=by rcases e with⟨rfl,_⟩|⟨rfl,_⟩<;>(have:=h.mul;simp only[multiplicative,bC]at this;exact this)
 have hn:nodes C=1+nodes A+nodes B:=by rcases e with⟨rfl,_⟩|⟨rfl,_⟩<;>rfl
 have he:enc C=(k,[])::(enc A++enc B):=by rcases e with⟨rfl,rfl⟩|⟨rfl,rfl⟩<;>rfl
 have hs:dG n C=((n+1+nodes A:Nat):Int)::(dG (n+1) A++dG (n+1+nodes A) B):=by rcases e with⟨rfl,rfl⟩|⟨rfl,rfl⟩<;>rfl
 have nA:=fz A;have nB:=fz B;have lE:(enc A).length=nodes A:=bJ A;have lS:(dG (n+1) A).length=nodes A:=gG A _ hm.1;refine⟨?_,?_,⟨hm.1,λd hd=>?_,λd hd=>?_⟩,⟨hm.2,λd hd=>?_,λd hd=>?_⟩⟩
 .have:=h.nd 0 (by lia);rw[he]at this;exact this
 .have:=h.se 0 (by lia);rw[hs]at this;exact this
 .have:=h.nd (d+1) (by lia)
  rw[he,gD,fe (by lia),show n+(d+1)=n+1+d by lia]at this;exact this
 .have:=h.se (d+1) (by lia)
  rw[hs,gD,fe (by lia),show n+(d+1)=n+1+d by lia]at this;exact this
 .have:=h.nd (nodes A+d+1) (by lia)
  rw[he,gD,fK (by lia),lE,show n+(nodes A+d+1)=n+1+nodes A+d by lia,show nodes A+d-nodes A=d by lia]at this;exact this
 .have:=h.se (nodes A+d+1) (by lia)
  rw[hs,gD,fK (by lia),lS,show n+(nodes A+d+1)=n+1+nodes A+d by lia,show nodes A+d-nodes A=d by lia]at this;exact this
theorem lU.of{fs:List Formula}{f r:Nat}{A:Formula}(hm:eO fs)(h:fs[f]? =some A)(h2:(Mm 0 fs)[f]? =some r):lU (fs.flatMap enc) (i7 0 fs) r A:=by
 obtain⟨_,sg⟩:=yO hm h h2;refine⟨hm A (cN h),λd hd=>?_,λd hd=>?_⟩
 .have:=(sg d hd).2.2.2;rw[jQ]at this;exact this
 .have:=(sg d hd).2.2.1;rw[jQ]at this;exact this
theorem lU.head{nd:List Node}{se:List Int}{n:Nat}{A:Formula}(h:lU nd se n A):∃x,nd[n]? =some x/\ (enc A)[0]? =some x:=by
 have:=h.nd 0 (fz A);have hl:0<(enc A).length:=by rw[bJ];exact fz A
 exact⟨(enc A)[0],by rw[qJ,cC hl]at this;exact this,cC hl⟩
section
variable{α:Type}{step:α->Option α}{I:α->Prop}
noncomputable def iter(step:α->Option α):Nat->α->Option α
 |0,x=>some x
 |k+1,x=>(iter step k x).bind step
theorem pR(hI:∀x y,I x->step x=some y->I y){x:α}(hx:I x):∀(k:Nat) (y:α),iter step k x=some y->I y
 |0,y,h=>by have:x=y:=aM h;rw[<-this];exact hx
 |k+1,y,h=>by obtain⟨z,h1,h2⟩:=cY.mp h;exact hI z y (pR hI hx k z h1) h2
theorem CB(hI:∀x y,I x->step x=some y->I y)(hj:∀x y z,I x->I y->step x=some z->step y=some z->x=y){x y:α}(hx:I x)(hy:I y):
  ∀(k m:Nat) (z:α),iter step k x=some z->iter step (m+k) y=some z->iter step m y=some x
 |0,m,z,h1,h2=>by have:x=z:=aM h1;rw[this];exact h2
 |k+1,m,z,h1,h2=>by obtain⟨a,a1,a2⟩:=cY.mp h1;obtain⟨b,b1,b2⟩:=cY.mp (show(iter step (m+k) y).bind step=some z from h2);have e:=hj a b z (pR hI hx k a a1) (pR hI hy (m+k) b b1) a2 b2;subst e;exact CB hI hj hx hy k m a a1 b1
theorem ends{code:α->Nat}{N:Nat}{x0:α}(h0:I x0)(hI:∀x y,I x->step x=some y->I y)(hj:∀x y z,I x->I y->step x=some z->step y=some z->x=y)
  (CC:∀x,I x->step x≠some x0) (hc:∀x z,I x->step x=some z->code z<N) (q0:∀x y z w,I x->I y->step x=some z->step y=some w->code z=code w->z=w):
  ∃k x,k<=N/\ iter step k x0=some x/\ step x=none:=by
 apply u7;intro hn;have go:∀k,k<=N->∀x,iter step k x0=some x->∃y,step x=some y:=by
  intro k hk x hx;cases e:step x with
  |none=>exact absurd ⟨k,x,hk,hx,e⟩ hn
  |some y=>exact⟨y,U⟩
 have all:∀k,k<=N+1->∃x,iter step k x0=some x:=by
  intro k;induction k with
  |zero=>intro _;exact⟨x0,U⟩
  |succ k ih=>intro hk;obtain⟨x,hx⟩:=ih (by lia);obtain⟨y,hy⟩:=go k (by lia) x hx;exact⟨y,by show(iter step k x0).bind step=some y;rw[hx];exact hy⟩
 let g:Nat->α:=λk=>(iter step k x0).getD x0;have hg:∀k,k<=N+1->iter step k x0=some (g k):=by intro k hk;obtain⟨x,hx⟩:=all k hk;show _=some ((iter step k x0).getD x0);rw[hx];rfl
 have gs:∀k,k<=N->step (g k)=some (g (k+1)):=by intro k hk;have h1:=hg (k+1) (by lia);have h2:(iter step k x0).bind step=some (g (k+1)):=h1;rw[hg k (by lia)]at h2;exact h2
 have gI:∀k,k<=N+1->I (g k):=λk hk=>pR hI h0 k _ (hg k hk);have nd:((List.range (N+1)).map λk=>code (g (k+1))).Nodup:=by
  rw[List.Nodup,aev];refine afJ ?_ aew;intro i j hi vD iH e;rw[jP]at hi vD;have e2:=q0 _ _ _ _ (gI i (by lia)) (gI j (by lia)) (gs i (by lia)) (gs j (by lia)) e;have h1:=hg (i+1) (by lia);have h2:=hg (j+1) (by lia);rw[e2]at h1;have c:=CB hI hj h0 h0 (i+1) (j-i) _ h1 (by rw[show j-i+(i+1)=j+1 by lia];exact h2);have c2:(iter step (j-i-1) x0).bind step=some x0:=by
   have:j-i=(j-i-1)+1:=by lia
   rw[this]at c;exact c
  obtain⟨z,z1,z2⟩:=cY.mp c2;exact CC z (pR hI h0 _ _ z1) z2
 have le:=tD nd (m:=List.range N) (by
  intro x hx;obtain⟨k,hk,rfl⟩:=eu.mp hx;rw[jP]at hk⊢;exact hc _ _ (gI k (by lia)) (gs k (by lia)))
 simp at le;lia
end
noncomputable def cM(cuts:List Formula):List Formula:=cuts.flatMap λA=>[A,L7 A]
theorem vE:∀(cuts:List Formula) (o p:Nat),o<=p->p<o+Vanete.sum ((cM cuts).map L_)->
  ∃c k A,cuts[c]? =some A/\ k<L_ A/\ (cM cuts)[2*c]? =some A/\ (cM cuts)[2*c+1]? =some (L7 A)/\
   ((p=o+(cQ (cM cuts) (2*c)+k)/\ Vanete.over o cuts p=o+(cQ (cM cuts) (2*c+1)+k))\/(p=o+(cQ (cM cuts) (2*c+1)+k)/\ Vanete.over o cuts p=o+(cQ (cM cuts) (2*c)+k)))
 |[],o,p,h1,h2=>by simp[cM,sum_nil]at h2;lia
 |A::r,o,p,h1,h2=>by
  have eF:cM (A::r)=A::L7 A::cM r:=rfl;have ed:=lI A;rw[eF]at h2⊢;rw[ez,ez,sum_cons,sum_cons]at h2;have b0:cQ (A::L7 A::cM r) 0=0:=rfl;have b1:cQ (A::L7 A::cM r) 1=L_ A:=by rw[show(1:Nat)=0+1 from rfl,lT,pQ];lia
  by_cases c1:p<o+L_ A
  .refine⟨0,p-o,A,U,by lia,U,U, .inl ⟨?_,?_⟩⟩
   .show p=o+(cQ (A::L7 A::cM r) 0+_);rw[b0];lia
   .unfold Vanete.over;rw[aI c1];show _=o+(cQ (A::L7 A::cM r) 1+_);rw[b1];lia
  .by_cases c2:p<o+2*L_ A
   .refine⟨0,p-o-L_ A,A,U,by lia,U,U, .inr ⟨?_,?_⟩⟩
    .show p=o+(cQ (A::L7 A::cM r) 1+_);rw[b1];lia
    .unfold Vanete.over;rw[ay c1,aI c2];show _=o+(cQ (A::L7 A::cM r) 0+_);rw[b0];lia
   .obtain⟨c,k,B,e1,e2,e3,e4,e5⟩:=vE r (o+2*L_ A) p (by lia) (by lia)
    have s0:∀f,cQ (A::L7 A::cM r) (f+2)=2*L_ A+cQ (cM r) f:=by intro f;rw[show f+2=(f+1)+1 from rfl,lT,lT];lia
    refine⟨c+1,k,B,e1,e2,?_,?_,?_⟩
    .rw[show 2*(c+1)=2*c+1+1 by lia,gD,gD];exact e3
    .rw[show 2*(c+1)+1=2*c+1+1+1 by lia,gD,gD];exact e4
    .rw[show 2*(c+1)=2*c+2 by lia,show 2*c+2+1=2*c+1+2 by lia,s0,s0]
     have eo:Vanete.over o (A::r) p=Vanete.over (o+2*L_ A) r p:=by rw[Vanete.over,ay c1,ay c2]
     rw[eo];rcases e5 with⟨q1,q2⟩|⟨q1,q2⟩
     .exact .inl ⟨by lia,by lia⟩
     .exact .inr ⟨by lia,by lia⟩
theorem q_:∀{fs:List Formula} {i f k g m:Nat} {A B:Formula},At fs i f k A->At fs i g m B->f=g/\ k=m/\ A=B
 |[],_,_,_,_,_,_,_,a,_=>by have:=a.fm;simp at this
 |C::r,i,0,k,0,m,A,B,a,b=>by have h1:=a.eq;have h2:=b.eq;have e:A=B:=aM (a.fm.symm.trans b.fm);exact⟨U,by lia,e⟩
 |C::r,i,0,k,g+1,m,A,B,a,b=>by have h1:=a.eq;have h2:=b.eq;rw[pQ]at h1;rw[lT]at h2;have e:C=A:=aM a.fm;have:=a.lt;subst e;lia
 |C::r,i,f+1,k,0,m,A,B,a,b=>by have h1:=a.eq;have h2:=b.eq;rw[pQ]at h2;rw[lT]at h1;have e:C=B:=aM b.fm;have:=b.lt;subst e;lia
 |C::r,i,f+1,k,g+1,m,A,B,a,b=>by have h1:=a.eq;have h2:=b.eq;rw[lT]at h1 h2;obtain⟨e1,e2,e3⟩:=q_ (fs:=r) (i:=cQ r f+k) (f:=f) (k:=k) (g:=g) (m:=m) (A:=A) (B:=B) ⟨a.fm,a.lt,U⟩ ⟨b.fm,b.lt,by lia⟩;exact⟨by lia,e2,e3⟩
theorem Ud(cuts:List Formula)(o p:Nat)(h1:o<=p)(h2:p<o+Vanete.sum ((cM cuts).map L_)):o<=Vanete.over o cuts p/\ Vanete.over o cuts (Vanete.over o cuts p)=p:=by
 obtain⟨c,k,A,e1,e2,e3,e4,e5⟩:=vE cuts o p h1 h2;have ed:=lI A;have key:∀f B j,At (cM cuts) j f k B->o+j<o+Vanete.sum ((cM cuts).map L_):=by
  intro f B j a;have h:=a.eq;have:∀(fs:List Formula) (f k j:Nat) (B:Formula),At fs j f k B->j<Vanete.sum (fs.map L_):=by
   intro fs;induction fs with
   |nil=>intro f k j B a;have:=a.fm;simp at this
   |cons C r ih=>
    intro f k j B a;rw[ez,sum_cons];cases f with
    |zero=>have h:=a.eq;rw[pQ]at h;have e:C=B:=aM a.fm;have:=a.lt;subst e;lia
    |succ f=>have h:=a.eq;rw[lT]at h;have:=ih f k (cQ r f+k) B ⟨a.fm,a.lt,U⟩;lia
  have:=this _ _ _ _ _ a;lia
 rcases e5 with⟨q1,q2⟩|⟨q1,q2⟩
 .refine⟨by lia,?_⟩
  have aq:At (cM cuts) (cQ (cM cuts) (2*c+1)+k) (2*c+1) k (L7 A):=⟨e4,by lia,U⟩
  obtain⟨c',k',A',f1,f2,f3,f4,f5⟩:=vE cuts o (Vanete.over o cuts p) (by lia) (by rw[q2];exact key _ _ _ aq);rcases f5 with⟨r1,r2⟩|⟨r1,r2⟩
  .have:=q_ aq (show At (cM cuts) (cQ (cM cuts) (2*c+1)+k) (2*c') k' A' from⟨f3,f2,by lia⟩)
   lia
  .have:=q_ aq (show At (cM cuts) (cQ (cM cuts) (2*c+1)+k) (2*c'+1) k' (L7 A')from⟨f4,by rw[lI];exact f2,by lia⟩)
   have hc:c=c':=by lia
   subst hc;lia
 .refine⟨by lia,?_⟩
  have aq:At (cM cuts) (cQ (cM cuts) (2*c)+k) (2*c) k A:=⟨e3,e2,U⟩
  obtain⟨c',k',A',f1,f2,f3,f4,f5⟩:=vE cuts o (Vanete.over o cuts p) (by lia) (by rw[q2];exact key _ _ _ aq);rcases f5 with⟨r1,r2⟩|⟨r1,r2⟩
  .have:=q_ aq (show At (cM cuts) (cQ (cM cuts) (2*c)+k) (2*c') k' A' from⟨f3,f2,by lia⟩)
   have hc:c=c':=by lia
   subst hc;lia
  .have:=q_ aq (show At (cM cuts) (cQ (cM cuts) (2*c)+k) (2*c'+1) k' (L7 A')from⟨f4,by rw[lI];exact f2,by lia⟩)
   lia
theorem At.tN:∀{fs:List Formula} {j f k:Nat} {B:Formula},At fs j f k B->j<Vanete.sum (fs.map L_)
 |[],_,_,_,_,a=>by have:=a.fm;simp at this
 |C::r,j,0,k,B,a=>by rw[ez,sum_cons];have h:=a.eq;rw[pQ]at h;have e:C=B:=aM a.fm;have:=a.lt;subst e;lia
 |C::r,j,f+1,k,B,a=>by rw[ez,sum_cons];have h:=a.eq;rw[lT]at h;have:=At.tN (fs:=r) (f:=f) (k:=k) (B:=B) (j:=cQ r f+k) ⟨a.fm,a.lt,U⟩;lia
theorem vF(s:Net):tQ s=s.concl++cM s.cuts:=rfl
theorem Ue(a b:List Formula)(f:Nat):cQ (a++b) (a.length+f)=Vanete.sum (a.map L_)+cQ b f:=by unfold cQ;rw[List.take_append,qM (by lia),iD,sum_append,show a.length+f-a.length=f by lia]
theorem Jr(a b:List Formula){f:Nat}(h:f<a.length):cQ (a++b) f=cQ a f:=by unfold cQ;rw[List.take_append_of_le_length (by lia)]
theorem At.left{a b:List Formula}{i f k:Nat}{A:Formula}(h:At a i f k A):At (a++b) i f k A:=by have hf:f<a.length:=(da.mp h.fm).1;exact⟨by rw[fe hf];exact h.fm,h.lt,by rw[Jr a b hf];exact h.eq⟩
theorem At.right{a b:List Formula}{i f k:Nat}{A:Formula}(h:At b i f k A):At (a++b) (Vanete.sum (a.map L_)+i) (a.length+f) k A:=⟨by rw[fK (by lia),show a.length+f-a.length=f by lia];exact h.fm,h.lt,by rw[Ue];have:=h.eq;lia⟩
theorem At.of_left{a b:List Formula}{i f k:Nat}{A:Formula}(h:At (a++b) i f k A)(hf:f<a.length):At a i f k A:=⟨by have:=h.fm;rwa[fe hf]at this,h.lt,by rw[<-Jr a b hf];exact h.eq⟩
theorem At.outer{s:Net}{i f k:Nat}{A:Formula}(h:At (tQ s) i f k A):i<Vanete.outer s↔f<s.concl.length:=by
 constructor
 .intro hi
  obtain⟨f',k',A',a⟩:=yM s.concl i hi;have:=q_ h a.left;have hf:f'<s.concl.length:=(da.mp a.fm).1;lia
 .intro hf
  exact(h.of_left hf).tN
theorem rf(s:Net):Vanete.sum ((tQ s).map L_)=Vanete.outer s+Vanete.sum ((cM s.cuts).map L_):=by rw[vF,iD,sum_append];rfl
theorem Js(fs:List Formula):(fs.flatMap leaves).length=Vanete.sum (fs.map L_):=by
 induction fs with
 |nil=>rfl
 |cons A r ih=>rw[iE,cP,ih,ez,sum_cons,qU]
theorem Good.total{s:Net}(g:Good s):s.to.length=Vanete.sum ((tQ s).map L_):=by rw[g.len,gZ];show(dS (Ml 0 (tQ s)) 0).length=_;rw[B' _ _ _ g.mul,Js]
noncomputable abbrev cv(s:Net):List Nat:=dS (points s) 0
theorem Good.leaf{s:Net}(g:Good s){i:Nat}(hi:i<s.to.length):∃f k A r d,At (tQ s) i f k A/\ (dR s)[f]? =some r/\ (cK A)[k]? =some d/\ d<nodes A/\ (cv s)[i]? =some (r+d)/\ (iL 0 (tQ s))[r+d]? =some f:=by obtain⟨f,k,A,a⟩:=yM (tQ s) i (by rw[<-g.total];exact hi);obtain⟨r,d,h1,h2,h3,h4⟩:=a.root 0 g.mul;have hd:=yK A d (cN h2);have ho:=yN 0 a.fm h1 hd;rw[jQ,afZ]at ho;exact⟨f,k,A,r,d,a,h1,h2,hd,h4,ho⟩
theorem Jt:∀(l:List Nat) (c a b:Nat),l[2*c]? =some a->l[2*c+1]? =some b->(a,Stand.cut b)∈Mu l/\ (b,Stand.cut a)∈Mu l
 |[],c,a,b,h,_=>by simp at h
 |[x],c,a,b,h,k=>by simp at k
 |x::y::r,0,a,b,h,k=>by have e1:x=a:=aM h;have e2:y=b:=aM k;subst e1 e2;simp[Mu]
 |x::y::r,c+1,a,b,h,k=>by
  have h:r[2*c]? =some a:=by rw[show 2*(c+1)=2*c+1+1 by lia]at h;exact h
  have k:r[2*c+1]? =some b:=by rw[show 2*(c+1)+1=2*c+1+1+1 by lia]at k;exact k
  have:=Jt r c a b h k;simp only[Mu,br];exact⟨.inr (.inr this.1), .inr (.inr this.2)⟩
theorem Good.over{s:Net}(g:Good s){i:Nat}(h1:Vanete.outer s<=i)(h2:i<s.to.length):
  ∃f r d q,(cv s)[i]? =some (r+d)/\ (iL 0 (tQ s))[r+d]? =some f/\ s.concl.length<=f/\ (dR s)[f]? =some r/\ Mo (Me s) r= .cut q/\ (cv s)[Vanete.over (Vanete.outer s) s.cuts i]? =some (q+d)/\ r<(points s).length/\
   Vanete.outer s<=Vanete.over (Vanete.outer s) s.cuts i/\ Vanete.over (Vanete.outer s) s.cuts i<s.to.length:=by
 have ht:=g.total;rw[rf]at ht;obtain⟨c,k,A,e1,e2,e3,e4,e5⟩:=vE s.cuts (Vanete.outer s) i h1 (by lia);have hA:multiplicative A=true:=g.mul A (by rw[vF];exact jN _ (cN e3));have a0:At (tQ s) (Vanete.outer s+(cQ (cM s.cuts) (2*c)+k)) (s.concl.length+2*c) k A:=At.right ⟨e3,e2,U⟩;have a1:At (tQ s) (Vanete.outer s+(cQ (cM s.cuts) (2*c+1)+k)) (s.concl.length+(2*c+1)) k (L7 A):=At.right ⟨e4,by rw[lI];exact e2,U⟩;obtain⟨r0,d0,p1,p2,_,p4⟩:=a0.root 0 g.mul;obtain⟨r1,d1,q1,q2,_,q4⟩:=a1.root 0 g.mul;rw[yJ A hA,p2]at q2;have ed:d0=d1:=aM q2;subst ed;have hd:=yK A d0 (cN p2);have o0:=yN 0 a0.fm p1 hd;have o1:=yN 0 a1.fm q1 (by rw[yk];exact hd);rw[jQ,afZ]at o0 o1;have g0:(eV s)[2*c]? =some r0:=by unfold eV;rw[oa];exact p1
 have g1:(eV s)[2*c+1]? =some r1:=by unfold eV;rw[oa];exact q1
 have cr:=Jt _ c r0 r1 g0 g1;have mem:∀x,x∈Mu (eV s)->x∈Me s:=λx hx=>by unfold Me;exact jN _ hx
 have s0:=ox (ou g.mul) (mem _ cr.1);have s1:=ox (ou g.mul) (mem _ cr.2);have hn:(points s).length=bf (tQ s):=jV _ _ g.mul;have l0:=m8 _ _ r0 (cN p1);have l1:=m8 _ _ r1 (cN q1);have t0:=a0.tN;have t1:=a1.tN;rw[<-g.total]at t0 t1;rcases e5 with⟨z1,z2⟩|⟨z1,z2⟩
 .exact⟨s.concl.length+2*c,r0,d0,r1,by rw[z1];exact p4,o0,by lia,p1,s0,by rw[z2];exact q4,by lia,by lia,by lia⟩
 .exact⟨s.concl.length+(2*c+1),r1,d0,r0,by rw[z1];exact q4,o1,by lia,q1,s1,by rw[z2];exact p4,by lia,by lia,by lia⟩
noncomputable def dI(s:Net)(x:Nat):Option Nat:=if s.to.getD x 0<Vanete.outer s then none else some (Vanete.over (Vanete.outer s) s.cuts (s.to.getD x 0))
theorem Good.toD{s:Net}(g:Good s){i:Nat}(hi:i<s.to.length):s.to.getD i 0<s.to.length/\ s.to.getD (s.to.getD i 0) 0=i:=by obtain⟨j,h1,h2,h3⟩:=g.to hi;rw[eX h1,eX h2];exact⟨h3,U⟩
theorem rg{s:Net}(g:Good s){x y:Nat}(hx:x<s.to.length)(h:dI s x=some y):y<s.to.length/\ Vanete.outer s<=y/\ s.to.getD (Vanete.over (Vanete.outer s) s.cuts y) 0=x:=by
 unfold dI at h;split at h
 .cases h
 .have e:=aM h
  obtain⟨t1,t2⟩:=g.toD hx;obtain⟨f,r,d,q,_,_,_,_,_,_,_,k1,k2⟩:=g.over (by lia) t1;have ht:=g.total;rw[rf]at ht;have oi:=Ud s.cuts (Vanete.outer s) (s.to.getD x 0) (by lia) (by lia);rw[<-e];exact⟨k2,k1,by rw[oi.2,t2]⟩
theorem Ju{s:Net}(g:Good s)(x y z:Nat)(hx:x<s.to.length)(hy:y<s.to.length)(h1:dI s x=some z)(h2:dI s y=some z):x=y:=by rw[<-(rg g hx h1).2.2,(rg g hy h2).2.2]
theorem Ug{s:Net}(g:Good s){i:Nat}(hi:i<Vanete.outer s):∃k x,k<=s.to.length/\ iter (dI s) k i=some x/\ dI s x=none:=by
 have ht:=g.total;rw[rf]at ht;exact ends (I:=λx=>x<s.to.length) (code:=λx=>x) (by lia) (λx y hx h=>(rg g hx h).1) (λx y z hx hy=>Ju g x y z hx hy) (λx hx e=>by have:=(rg g hx e).2.1;lia)
  (λx z hx h=>(rg g hx h).1) (λx y z w _ _ _ _ e=>e)
theorem Jv(s:Net):∀(k f n i x:Nat),k<f->iter (dI s) k i=some x->dI s x=none->adF s f n i=some (s.to.getD x 0,n+k)
 |0,f+1,n,i,x,_,h,hx=>by
  have e:i=x:=aM h;subst e;unfold dI at hx;split at hx
  .unfold adF;simp only;rw[aI (by assumption)];rfl
  .cases hx
 |k+1,f+1,n,i,x,hk,h,hx=>by
  have sh:∀(m:Nat) (y:Nat),iter (dI s) (m+1) y=(dI s y).bind (iter (dI s) m):=by
   intro m;induction m with
   |zero=>intro y;show(some y).bind (dI s)=_;rw[dQ];cases dI s y<;>rfl
   |succ m ih=>intro y;show(iter (dI s) (m+1) y).bind (dI s)=_;rw[ih];cases dI s y<;>rfl
  rw[sh]at h;obtain⟨y,h1,h2⟩:=cY.mp h;have ih:=Jv s k f (n+1) y x (by lia) h2 hx;unfold dI at h1;split at h1
  .cases h1
  .have e:=aM h1
   unfold adF;simp only;rw[ay (by assumption),e,ih];congr 2;lia
structure Out(s:Net)(i y n:Nat):Prop where
 ex:∃x,iter (dI s) n i=some x/\ dI s x=none/\ y=s.to.getD x 0
theorem Good.out{s:Net}(g:Good s){i:Nat}(hi:i<Vanete.outer s):Out s i (L5 s i).1 (L5 s i).2/\ (L5 s i).1<Vanete.outer s/\ (L5 s i).2<=s.to.length:=by
 obtain⟨k,x,h1,h2,h3⟩:=Ug g hi;have w:=Jv s k (s.to.length+1) 0 i x (by lia) h2 h3;have e:L5 s i=(s.to.getD x 0,0+k):=by unfold L5 Vanete.walk;rw[w];rfl
 rw[e];refine⟨⟨x,by rw[afZ];exact h2,h3,U⟩,?_,by simpa using h1⟩;unfold dI at h3;split at h3
 .assumption
 .cases h3
theorem Good.Uh{s:Net}(g:Good s){i j:Nat}(hi:i<Vanete.outer s)(hj:j<Vanete.outer s)(e:(L5 s i).1=(L5 s j).1):i=j:=by
 obtain⟨⟨x,x1,x2,x3⟩,_,_⟩:=g.out hi;obtain⟨⟨y,y1,y2,y3⟩,_,_⟩:=g.out hj;have ht:=g.total;rw[rf]at ht;have I0:∀x y,x<s.to.length->dI s x=some y->y<s.to.length:=λx y hx h=>(rg g hx h).1;have lx:=pR (I:=λx=>x<s.to.length) I0 (by lia) _ _ x1;have ly:=pR (I:=λx=>x<s.to.length) I0 (by lia) _ _ y1;have exy:x=y:=by have h1:=(g.toD lx).2;have h2:=(g.toD ly).2;rw[<-x3]at h1;rw[<-y3]at h2;rw[<-h1,<-h2,e]
 subst exy;have J:=Ju g;have fin:∀(a b m k:Nat),a<Vanete.outer s->b<Vanete.outer s->iter (dI s) k a=some x->iter (dI s) (m+k) b=some x->a=b:=by
  intro a b m k ha hb h1 h2;have c:=CB (I:=λx=>x<s.to.length) I0 J (by lia:a<s.to.length) (by lia:b<s.to.length) k m x h1 h2;cases m with
  |zero=>exact(aM c).symm
  |succ m=>obtain⟨z,z1,z2⟩:=cY.mp (show(iter (dI s) m b).bind (dI s)=some a from c);have lz:=pR (I:=λx=>x<s.to.length) I0 (by lia) _ _ z1;have:=(rg g lz z2).2.1;lia
 by_cases hle:(L5 s i).2<=(L5 s j).2
 .exact fin i j ((L5 s j).2-(L5 s i).2) (L5 s i).2 hi hj x1 (by rw[show(L5 s j).2-(L5 s i).2+(L5 s i).2=(L5 s j).2 by lia];exact y1)
 .exact(fin j i ((L5 s i).2-(L5 s j).2) (L5 s j).2 hj hi y1 (by rw[show(L5 s i).2-(L5 s j).2+(L5 s j).2=(L5 s i).2 by lia];exact x1)).symm
structure Meet(s t:Net)(i j:Nat)(A:Formula):Prop where
 gs:Good s
 gt:Good t
 hi:s.concl[i]? =some A
 hj:t.concl[j]? =some (L7 A)
noncomputable def c4(s t:Net)(b:Bool):Net:=if b=true then t else s
noncomputable def lV(i j:Nat)(b:Bool):Nat:=if b=true then j else i
noncomputable def tO(A:Formula)(b:Bool):Formula:=if b=true then L7 A else A
theorem Meet.good{s t:Net}{i j:Nat}{A:Formula}(m:Meet s t i j A)(b:Bool):Good (c4 s t b):=by cases b;exact m.gs;exact m.gt
theorem Meet.fm{s t:Net}{i j:Nat}{A:Formula}(m:Meet s t i j A)(b:Bool):(c4 s t b).concl[lV i j b]? =some (tO A b):=by cases b;exact m.hi;exact m.hj
theorem Jw(A:Formula)(b:Bool):L_ (tO A b)=L_ A:=by cases b;rfl;exact lI A
theorem Meet.mul{s t:Net}{i j:Nat}{A:Formula}(m:Meet s t i j A):multiplicative A=true:=m.gs.mul A (nZ _ (cN m.hi))
theorem Meet.cK{s t:Net}{i j:Nat}{A:Formula}(m:Meet s t i j A)(b:Bool):cK (tO A b)=cK A:=by cases b;rfl;exact yJ A m.mul
noncomputable def bX(s t:Net)(i j:Nat)(b:Bool):Nat:=cQ (c4 s t b).concl (lV i j b)
def ib(s t:Net)(i j:Nat)(A:Formula)(b:Bool)(y:Nat):Prop:=bX s t i j b<=y/\ y<bX s t i j b+L_ A
noncomputable instance(s t:Net)(i j:Nat)(A:Formula)(b:Bool)(y:Nat):Decidable (ib s t i j A b y):=by unfold ib;infer_instance
noncomputable def ic(s t:Net)(i j:Nat)(A:Formula)(z:Bool×Nat):Option (Bool×Nat):=
 let y:=(L5 (c4 s t z.1) z.2).1
 if ib s t i j A z.1 y then some (!z.1,bX s t i j (!z.1)+(y-bX s t i j z.1))else none
theorem Meet.at{s t:Net}{i j:Nat}{A:Formula}(m:Meet s t i j A)(b:Bool){y:Nat}(h:ib s t i j A b y):At (c4 s t b).concl y (lV i j b) (y-bX s t i j b) (tO A b):=⟨m.fm b,by rw[Jw];have:=h.2;have:=h.1;lia,by have:=h.1;show y=bX s t i j b+_;lia⟩
theorem Meet.Jx{s t:Net}{i j:Nat}{A:Formula}(m:Meet s t i j A)(b:Bool){y f k:Nat}{B:Formula}(a:At (c4 s t b).concl y f k B):ib s t i j A b y↔f=lV i j b:=by
 constructor
 .intro h;exact(q_ a (m.at b h)).1
 .rintro rfl
  have e:B=tO A b:=aM (a.fm.symm.trans (m.fm b));have h1:=a.lt;have h2:=a.eq;rw[e,Jw]at h1;exact⟨by show cQ _ _<=y;lia,by show y<cQ _ _+_;lia⟩
theorem pS{s t:Net}{i j:Nat}{A:Formula}(m:Meet s t i j A){z w:Bool×Nat}(hz:z.2<Vanete.outer (c4 s t z.1))(h:ic s t i j A z=some w):
  w.1= !z.1/\ ib s t i j A w.1 w.2/\ w.2<Vanete.outer (c4 s t w.1)/\ (L5 (c4 s t z.1) z.2).1=bX s t i j z.1+(w.2-bX s t i j w.1):=by
 unfold ic at h;simp only at h;split at h
 case isFalse=>cases h
 case isTrue jW=>
  have e:=aM h;have hb:ib s t i j A w.1 w.2:=by rw[<-e];have:=jW.1;have:=jW.2;exact⟨by show bX s t i j (!z.1)<=_;lia,by show _<bX s t i j (!z.1)+_;lia⟩
  refine⟨by rw[<-e],hb,(m.at w.1 hb).tN,?_⟩;rw[<-e];have:=jW.1;show _=bX s t i j z.1+(bX s t i j (!z.1)+_-bX s t i j (!z.1));lia
theorem Ui{s t:Net}{i j:Nat}{A:Formula}(m:Meet s t i j A){leaf:Nat}(hl:leaf<Vanete.outer s)(rh:¬ib s t i j A false leaf):∃k z,k<=2*L_ A/\ iter (ic s t i j A) k (false,leaf)=some z/\ ic s t i j A z=none:=by
 refine ends (I:=λz=>z.2<Vanete.outer (c4 s t z.1)) (code:=λz=>(z.2-bX s t i j z.1)+if z.1=true then L_ A else 0) (x0:=(false,leaf)) hl (λz w hz h=>(pS m hz h).2.2.1) ?_ ?_ ?_ ?_
 .intro x y z hx hy h1 h2
  obtain⟨a1,a2,a3,a4⟩:=pS m hx h1;obtain⟨b1,b2,b3,b4⟩:=pS m hy h2;obtain⟨x1,x2⟩:=x;obtain⟨y1,y2⟩:=y;have e1:x1=y1:=by have:(!x1)=(!y1):=a1.symm.trans b1;cases x1<;>cases y1<;>simp at this⊢
  subst e1;have e2:x2=y2:=(m.good x1).Uh hx hy (a4.trans b4.symm);rw[e2]
 .intro z hz h
  obtain⟨a1,a2,a3,a4⟩:=pS m hz h;exact rh a2
 .intro x z hx h
  obtain⟨a1,a2,a3,a4⟩:=pS m hx h;have:=a2.1;have:=a2.2;show(z.2-bX s t i j z.1)+(if z.1=true then L_ A else 0)<2*L_ A;split<;>lia
 .intro x y z w hx hy h1 h2 e
  obtain⟨a1,a2,a3,a4⟩:=pS m hx h1;obtain⟨b1,b2,b3,b4⟩:=pS m hy h2;obtain⟨z1,z2⟩:=z;obtain⟨w1,w2⟩:=w;have:=a2.1;have:=a2.2;have:=b2.1;have:=b2.2;simp only at*;cases z1<;>cases w1<;>simp only[pH,if_false,if_true]at e
  .congr 1;lia
  .lia
  .lia
  .congr 1;lia
theorem Uj{s t:Net}{i j:Nat}{A:Formula}(m:Meet s t i j A):adG s.concl i=(bX s t i j false,L_ A)/\ adG t.concl j=(bX s t i j true,L_ A):=by unfold adG;rw[m.hi,m.hj];exact⟨U,by simp only[mW,afw,lI];rfl⟩
theorem Jy{s t:Net}{i j:Nat}{A:Formula}(m:Meet s t i j A)(f:Nat)(b:Bool)(leaf n:Nat):playFrom s t i j (f+1) b leaf n=match ic s t i j A (b,leaf)with
  |some w=>playFrom s t i j f w.1 w.2 (n+1)
  |none=>some (b,(L5 (c4 s t b) leaf).1,n):=by
 obtain⟨e1,e2⟩:=Uj m;rw[playFrom,e1,e2];unfold ic;cases b with
 |false=>
  simp only[pH,if_false,c4,x_];by_cases h:ib s t i j A false (L5 s leaf).1
  .rw[aI (show ib s t i j A false (L5 s leaf).1 from h)]
   have h':bX s t i j false<=(L5 s leaf).1/\ (L5 s leaf).1<bX s t i j false+L_ A:=h;rw[aI h']
  .rw[ay (show¬ib s t i j A false (L5 s leaf).1 from h)]
   have h':¬(bX s t i j false<=(L5 s leaf).1/\ (L5 s leaf).1<bX s t i j false+L_ A):=h;rw[ay h']
 |true=>
  simp only[if_true,c4,Bool.not_true];by_cases h:ib s t i j A true (L5 t leaf).1
  .rw[aI (show ib s t i j A true (L5 t leaf).1 from h)]
   have h':bX s t i j true<=(L5 t leaf).1/\ (L5 t leaf).1<bX s t i j true+L_ A:=h;rw[aI h']
  .rw[ay (show¬ib s t i j A true (L5 t leaf).1 from h)]
   have h':¬(bX s t i j true<=(L5 t leaf).1/\ (L5 t leaf).1<bX s t i j true+L_ A):=h;rw[ay h']
theorem Uk{α:Type}{step:α->Option α}:∀(m:Nat) (y:α),iter step (m+1) y=(step y).bind (iter step m):=by
 intro m;induction m with
 |zero=>intro y;show(some y).bind step=_;rw[dQ];cases step y<;>rfl
 |succ m ih=>intro y;show(iter step (m+1) y).bind step=_;rw[ih];cases step y<;>rfl
theorem Jz{s t:Net}{i j:Nat}{A:Formula}(m:Meet s t i j A):∀(k f n:Nat) (z w:Bool×Nat),k<f->iter (ic s t i j A) k z=some w->ic s t i j A w=none->playFrom s t i j f z.1 z.2 n=some (w.1,(L5 (c4 s t w.1) w.2).1,n+k)
 |0,f+1,n,z,w,_,h,hw=>by have e:z=w:=aM h;subst e;rw[Jy m,show(z.1,z.2)=z from rfl,hw];rfl
 |k+1,f+1,n,z,w,hk,h,hw=>by rw[Uk]at h;obtain⟨y,h1,h2⟩:=cY.mp h;rw[Jy m,show(z.1,z.2)=z from rfl,h1];simp only;rw[Jz m k f (n+1) y w (by lia) h2 hw];congr 3;lia
theorem Ul{s t:Net}{i j:Nat}{A:Formula}(m:Meet s t i j A){leaf:Nat}(hl:leaf<Vanete.outer s)(rh:¬ib s t i j A false leaf):
  ∃k w,iter (ic s t i j A) k (false,leaf)=some w/\ ic s t i j A w=none/\ k<=2*L_ A/\ Vanetg.play s t i j A leaf=(w.1,(L5 (c4 s t w.1) w.2).1,k):=by
 obtain⟨k,w,h1,h2,h3⟩:=Ui m hl rh;refine⟨k,w,h2,h3,h1,?_⟩;unfold Vanetg.play;rw[Jz m k (2*L_ A+2) 0 (false,leaf) w (by lia) h2 h3,afZ];rfl
theorem JA:∀n,Ms (n+1)=(Ms n).flatMap λw=>[w++[false],w++[true]]
 |0=>rfl
 |n+1=>by
  have ih:=JA n;rw[show Ms (n+1+1)=(Ms (n+1)).map (λw=>false::w)++(Ms (n+1)).map λw=>true::w from rfl];rw[show(Ms (n+1)).flatMap (λw=>[w++[false],w++[true]])=((Ms n).map (λw=>false::w)++(Ms n).map λw=>true::w).flatMap λw=>[w++[false],w++[true]]from rfl];rw[pG,aeN,aeN]
  conv=>lhs;rw[ih]
  rw[Ic,Ic];rfl
theorem vG:∀n,∀w∈Ms n,w.length=n
 |0,w,h=>by simp[Ms]at h;rw[h];rfl
 |n+1,w,h=>by simp only[Ms,c9,eu]at h;rcases h with⟨v,hv,rfl⟩|⟨v,hv,rfl⟩<;>simp[vG n v hv]
theorem CD:∀n,(Ms n).length=2^n
 |0=>rfl
 |n+1=>by simp only[Ms,cP,aX,CD n,Nat.pow_succ];lia
theorem JB{s:Net}(g:Good s)(w:List Bool)(hp:0<(points s).length):abh s w= !decide ((Vanetg.trip s w 0).length<2*(points s).length):=by
 obtain⟨k,h1,h2,h3,h4,h5⟩:=Cd g w (p:=0) (by lia);unfold abh;have e:(points s).isEmpty=false:=by cases h:points s with
  |nil=>rw[h]at hp;simp at hp
  |cons a r=>rfl
 have hl:(Vanetg.trip s w 0).length=k:=by rw[h5];simp
 rw[e,hl];simp only[x_,n6];by_cases c:k<2*(points s).length
 .rw[bb c]
  exact beq_eq_false_iff_ne.mpr (by lia)
 .rw[cO c]
  exact beq_iff_eq.mpr (by lia)
noncomputable def idx{α:Type}(P:α->Bool):List α->Nat->List Nat
 |[],_=>[]
 |a::r,k=>if P a=true then k::idx P r (k+1)else idx P r (k+1)
theorem CF{α β:Type}{P:α->Bool}{Q:β->Bool}:∀(l:List α) (m:List β) (k:Nat),l.length=m.length->(∀(i:Nat) (a:α) (b:β),l[i]? =some a->m[i]? =some b->P a=Q b)->idx P l k=idx Q m k
 |[],[],_,_,_=>rfl
 |[],b::m,_,h,_|a::l,[],_,h,_=>by simp at h
 |a::l,b::m,k,h,e=>by unfold idx;rw[e 0 a b U U,CF l m (k+1) (by simpa using h) λi x y hx hy=>e (i+1) x y hx hy]
theorem JC:∀(ps:List Point) (k:Nat),dS ps k=idx (λp=> !isJunction p) ps k
 |[],_=>rfl
 | .leaf::r,k| .tensor _ _::r,k| .par _ _::r,k=>by unfold dS idx;rw[JC r];rfl
noncomputable def vH(d9:Bool)(x:Nat×Point):Option Par:=match x.2 with
 | .tensor l r=>if d9=true then some (x.1,l,r)else none
 | .par l r=>if d9=true then none else some (x.1,l,r)
 | .leaf=>none
noncomputable def gx(d9:Bool)(ps:List Point)(k:Nat):List Par:=((List.range' k ps.length).zip ps).filterMap (vH d9)
theorem JD(d9:Bool)(p:Point)(ps:List Point)(k:Nat):gx d9 (p::ps) k=(match vH d9 (k,p)with|some x=>x::gx d9 ps (k+1)|none=>gx d9 ps (k+1)):=by unfold gx;rw[bj,sQ,sY,jr];cases vH d9 (k,p)<;>rfl
theorem JE{α β:Type}{f g:α->Option β}:∀{l:List α},(∀x∈l,f x=g x)->l.filterMap f=l.filterMap g
 |[],_=>rfl
 |a::r,h=>by rw[jr,jr,h a (by simp),JE λx hx=>h x (by simp[hx])]
theorem yQ(s:Net):pars s=gx false (points s) 0:=by unfold pars gx;rw[pF];congr 1;funext x;cases x with|mk a p=>cases p<;>rfl
theorem JF(ps:List Point):tensorEdges ps=(gx true ps 0).flatMap λt=>[(t.1,t.2.1),(t.1,t.2.2)]:=by
 unfold tensorEdges;rw[pF];have:∀(ps:List Point) (k:Nat),((List.range' k ps.length).zip ps).flatMap (λx=>match x.2 with
   | .tensor l r=>[(x.1,l),(x.1,r)]
   |_=>[])=(gx true ps k).flatMap λt=>[(t.1,t.2.1),(t.1,t.2.2)]:=by
  intro ps;induction ps with
  |nil=>intro k;rfl
  |cons p r ih=>intro k;rw[bj,sQ,sY,iE,ih,JD];cases p<;>rfl
 exact this ps 0
theorem JG(d9:Bool):∀(ps:List Point) (k:Nat),(gx d9 ps k).map (·.1)=idx (λp=>kd p==if d9=true then 2 else 3) ps k
 |[],_=>rfl
 |p::ps,k=>by rw[JD];unfold idx;cases p<;>cases d9<;>simp[vH,kd,JG]
theorem CG{d9:Bool}{ps:List Point}{k:Nat}{t:Par}(h:t∈gx d9 ps k):∃p,t.1=k+p/\ (if d9=true then ps[p]? =some (.tensor t.2.1 t.2.2)else ps[p]? =some (.par t.2.1 t.2.2)):=by
 unfold gx at h;obtain⟨x,hx,e⟩:=uX.mp h;obtain⟨p,hp,ep⟩:=BM.mp hx;rw[BN]at ep;have hl:p<ps.length:=by rw[aeI,List.length_range']at hp;lia
 obtain⟨x1,x2⟩:=x;have e1:x1=k+p:=by have:=congrArg Prod.fst ep;simp at this;lia
 have e2:ps[p]? =some x2:=by rw[cC hl];exact congrArg some (congrArg Prod.snd ep)
 refine⟨p,?_⟩;cases x2<;>cases d9<;>simp[vH]at e
 .rw[<-e];exact⟨e1,e2⟩
 .rw[<-e];exact⟨e1,e2⟩
theorem CH:∀(ps:List Point) (k:Nat),(dS ps k).Pairwise (·<·)
 |[],_=> .nil
 | .leaf::r,k=>by show(k::dS r (k+1)).Pairwise (·<·);exact n8.mpr ⟨λx hx=>by have:=yw r (k+1) x hx;lia,CH r (k+1)⟩
 | .tensor _ _::r,k| .par _ _::r,k=>CH r (k+1)
theorem JH:∀(fs:List Formula) (n:Nat),(Mm n fs).Pairwise (·<·)
 |[],_=> .nil
 |A::r,n=>by show(n::Mm (n+nodes A) r).Pairwise (·<·);exact n8.mpr ⟨λx hx=>by have:=vm r (n+nodes A) x hx;have:=fz A;lia,JH r _⟩
theorem Um{l:List Nat}(h:l.Pairwise (·<·)){i j x y:Nat}(hi:l[i]? =some x)(hj:l[j]? =some y):i<j↔x<y:=by
 obtain⟨li,ei⟩:=da.mp hi;obtain⟨lj,ej⟩:=da.mp hj;have key:=yb.mp h;constructor
 .intro c;have:=key i j li lj c;rw[ei,ej]at this;exact this
 .intro c
  rcases afq i j with q|q|q
  .exact q
  .subst q;rw[ei]at ej;lia
  .have:=key j i lj li q;rw[ei,ej]at this;lia
noncomputable def fg(f:Nat->Nat)(p:Nat):Option Edge:=if p<f p then some (p,f p)else none
theorem JI{s:Net}(g:Good s):linkEdges (points s) s.to=(cv s).filterMap (fg (partner s)):=by
 have hl:(cv s).length=s.to.length:=by rw[g.len,gZ]
 have e1:cv s=(List.range s.to.length).map λi=>(cv s).getD i 0:=by
  apply yc;intro i;by_cases hi:i<s.to.length
  .rw[ft,qR hi,cC (by lia),mW,eX (cC (by lia))]
  .rw[kN (by lia),kN (by simp;lia)]
 have e2:(List.range s.to.length).zip s.to=(List.range s.to.length).map λi=>(i,s.to.getD i 0):=by
  apply yc;intro i;by_cases hi:i<s.to.length
  .rw[ft,qR hi,xR (z:=(i,s.to[i]))|>.mpr ⟨qR hi,cC hi⟩,mW,eX (cC hi)]
  .rw[kN (by simp;lia),kN (by simp;lia)]
 unfold linkEdges;rw[gZ];simp only;rw[e2]
 conv=>rhs;rw[e1]
 rw[ae4,ae4];apply JE;intro i hi;rw[jP]at hi;obtain⟨t1,t2⟩:=g.toD hi;have gg:∀q,q<(cv s).length->(cv s)[q]? =some ((cv s).getD q 0):=λq hq=>by rw[cC hq,eX (cC hq)]
 have a:=gg i (by lia);have b:=gg (s.to.getD i 0) (by lia);have ep:partner s ((cv s).getD i 0)=(cv s).getD (s.to.getD i 0) 0:=by unfold partner;rw[gZ,yx (pL _ _) a]
 have st:=Um (CH (points s) 0) a b;show(if i<s.to.getD i 0 then some ((cv s).getD i 0,(cv s).getD (s.to.getD i 0) 0)else none)=fg (partner s) ((cv s).getD i 0);unfold fg;rw[ep];by_cases c:i<s.to.getD i 0
 .rw[aI c,aI (st.mp c)]
 .rw[ay c,ay λz=>c (st.mpr z)]
noncomputable def gc(s:Net)(r:Nat):Nat:=match Mo (Me s) r with
 | .cut q=>q
 |_=>r
theorem JJ(f:Nat->Nat):∀(l:List Nat),yt l.length->l.Pairwise (·<·)->(∀x y,(x,Stand.cut y)∈Mu l->f x=y)->inPairs l=l.filterMap (fg f)
 |[],_,_,_=>rfl
 |[x],⟨k,h⟩,_,_=>by simp at h;lia
 |x::y::r,⟨k,h⟩,hs,hf=>by
  have h1:=hf x y (by simp[Mu]);have h2:=hf y x (by simp[Mu]);have lt:x<y:=by have:=(n8.mp hs).1 y (by simp);exact this
  rw[inPairs,jr,jr];have u1:fg f x=some (x,y):=by unfold fg;rw[h1,aI lt]
  have u2:fg f y=none:=by unfold fg;rw[h2,ay (by lia)]
  rw[u1,u2];simp only;rw[JJ f r ⟨k-1,by simp at h;lia⟩ ((n8.mp (n8.mp hs).2).2) λa b g_=>hf a b (by simp[Mu,g_])]
theorem JK{s:Net}(g:Good s):cutEdges s=(dR s).filterMap (fg (gc s)):=by
 have e:cutEdges s=inPairs (eV s):=rfl;have es:(dR s)=(dR s).take s.concl.length++eV s:=(u5 _ _).symm;rw[e,JJ (gc s) (eV s) (vo s) ((JH _ _).sublist (BI _ _)) ?_]
 .rw[es,xS]
  have:((dR s).take s.concl.length).filterMap (fg (gc s))=[]:=by
   rw[List.filterMap_eq_nil_iff];intro x hx;have hr:x∈dR s:=acZ hx;have nc:x∉eV s:=by intro c;have nd:=yr (tQ s) 0;rw[show Mm 0 (tQ s)=dR s from rfl,es]at nd;have:=(qQ.mp nd).2.2 x hx x c;exact this U
   have nk:x∉keys (Me s):=by
    rw[B9];intro c;rcases c9.mp c with c|c
    .exact(B7 (tQ s) 0 g.mul).2.2 x hr c
    .exact nc c
   have:Mo (Me s) x= .concl:=by unfold Mo;rw[TB nk]
   unfold fg gc;rw[this];simp
  rw[this,nY]
 .intro x y h
  have:=ox (ou g.mul) (show(x,Stand.cut y)∈Me s by unfold Me;exact jN _ h);unfold gc;rw[this]
theorem Uo{s:Net}(g:Good s):Cy (points s).length (edges s):=by
 have hn:(points s).length=bf (tQ s):=jV _ _ g.mul;intro e he;unfold edges at he;rw[JF,JI g,JK g]at he;rcases c9.mp he with he|he
 .obtain⟨t,ht,h⟩:=gT.mp he
  obtain⟨p,e1,e2⟩:=CG ht;have hp:p<(points s).length:=(da.mp e2).1;have k:=lL (tQ s) 0 p t.2.1 t.2.2 g.mul (.inl e2);simp at h;rcases h with rfl|rfl
  .exact⟨by simp;lia,by simp;lia⟩
  .exact⟨by simp;lia,by simp;lia⟩
 .rcases c9.mp he with he|he
  .obtain⟨p,hp,h⟩:=uX.mp he
   unfold fg at h;split at h
   .have e:=aM h
    subst e;obtain⟨q,e1,e2⟩:=(vt _ _ _).mp hp;rw[afZ]at e1;subst e1;have h1:=(da.mp e2).1;have h2:=(da.mp (g.IK e2).1).1;exact⟨h1,h2⟩
   .cases h
  .obtain⟨p,hp,h⟩:=uX.mp he
   have lp:=m8 _ _ p hp;unfold fg at h;split at h
   .rename_i aU
    have e:=aM h;subst e;refine⟨by simp;lia,?_⟩;unfold gc at aU⊢;cases hs:Mo (Me s) p with
    |cut q=>
     have b8:Mo (Me s) p≠ .concl:=by rw[hs];intro z;cases z
     have:=IF b8;rw[hs]at this;unfold Me at this;rcases c9.mp this with c|c
     .rw[tF]at c
      obtain⟨j,x,_,hy⟩:=B8 c;cases x<;>simp[iI]at hy
     .obtain⟨y,h1,h2⟩:=vq _ _ _ c
      cases h1;have hq:q∈keys (Mu (eV s)):=eu.mpr ⟨_,h2,U⟩;rw[vn _ (vo s)]at hq;have:=m8 _ _ q (vp s q hq);simp only;lia
    |concl|tensor _ _ _|par _ _=>simp only;lia
   .cases h
theorem JL{s:Net}(g:Good s):pO (points s).length (pars s):=by have hn:(points s).length=bf (tQ s):=jV _ _ g.mul;intro t ht;rw[yQ]at ht;obtain⟨p,e1,e2⟩:=CG ht;have e2:(points s)[p]? =some (.par t.2.1 t.2.2):=e2;have hp:p<(points s).length:=(da.mp e2).1;have k:=lL (tQ s) 0 p t.2.1 t.2.2 g.mul (.inr e2);exact⟨by lia,by lia,by lia⟩
theorem Up{s:Net}(g:Good s)(links:List (Nat×Nat)):(arrOf s links).below=f_ 0 (tQ s)/\ (arrOf s links).sides=iK (tQ s)/\ (arrOf s links).seconds=i7 0 (tQ s)/\ (arrOf s links).nodes=(tQ s).flatMap enc:=by have e:=yB (tQ s) PA.empty g.mul ⟨U,U⟩;have e0:PA.empty.nodes.length=0:=rfl;rw[e0]at e;simp only[PA.empty,nY,afZ]at e;unfold arrOf PA.empty;rw[e];exact⟨U,U,U,U⟩
theorem JM{s:Net}{S:PA}(a:Arr s S)(d9:Bool):idx (λx=>x.1==if d9=true then 2 else 3) S.nodes 0=(gx d9 (points s) 0).map (·.1):=by
 rw[JG];refine CF _ _ 0 a.ln λi x p hx hp=>?_;cases p with
 |leaf=>obtain⟨⟨y,h1,h2⟩,_⟩:=a.leaf hp;rw[hx]at h1;have e:=aM h1;subst e;show(x.1==_)=(0==_);cases d9<;>simp<;>lia
 |tensor l r=>have h1:=(a.lP (k:=2) (.inl ⟨hp,U⟩)).1;rw[hx]at h1;have e:=aM h1;subst e;rfl
 |par l r=>have h1:=(a.lP (k:=3) (.inr ⟨hp,U⟩)).1;rw[hx]at h1;have e:=aM h1;subst e;rfl
theorem yR{s:Net}{S:PA}(a:Arr s S):idx (λx=> !bR x) S.nodes 0=cv s:=by
 rw[show cv s=dS (points s) 0 from rfl,JC];refine CF _ _ 0 a.ln λi x p hx hp=>?_;cases p with
 |leaf=>obtain⟨⟨y,h1,h2⟩,_⟩:=a.leaf hp;rw[hx]at h1;have e:=aM h1;subst e;show(!decide (2<=x.1))=true;rw[cO (by lia)];rfl
 |tensor l r=>have h1:=(a.lP (k:=2) (.inl ⟨hp,U⟩)).1;rw[hx]at h1;have e:=aM h1;subst e;rfl
 |par l r=>have h1:=(a.lP (k:=3) (.inr ⟨hp,U⟩)).1;rw[hx]at h1;have e:=aM h1;subst e;rfl
noncomputable def dM:Mc->Text
 | .name a=>a
 | .sign c=>[c]
 | .arrow=>[45,111]
noncomputable def nq(c:UInt8):Bool:=c==126||(c==42||(c==124||(c==40||c==41)))
noncomputable def shortName(t:Text):Bool:=(t.head?).any MW&&decide (t.length<=12)
noncomputable def yS(c:UInt8)(r:Text):Text:=
 if isWord c=true then(if shortName (c::r.takeWhile isWord)=true then c::r.takeWhile isWord else[])
 else if nq c=true then[c]
 else if c=45/\ r.head? =some 111 then[45,111]
 else[]
theorem Uq{c:UInt8}(h:isWord c=true):isSign c=false/\ nq c=false/\ c≠45/\ c≠32:=by
 have h':97<=c.toNat/\ c.toNat<=122\/48<=c.toNat/\ c.toNat<=57:=by unfold isWord MW at h;simp only[qP,bC,iB,UInt8.le_iff_toNat_le]at h;exact h
 have ne:∀n:UInt8,n.toNat<48\/(57<n.toNat/\ n.toNat<97)\/122<n.toNat->(c==n)=false:=by intro n hn;rw[beq_eq_false_iff_ne];intro e;subst e;lia
 have n126:=ne 126 (by decide);have n42:=ne 42 (by decide);have n124:=ne 124 (by decide);have n38:=ne 38 (by decide);have n43:=ne 43 (by decide);have n33:=ne 33 (by decide);have n63:=ne 63 (by decide);have n40:=ne 40 (by decide);have n41:=ne 41 (by decide);have n45:=ne 45 (by decide);have n32:=ne 32 (by decide);refine⟨?_,?_,beq_eq_false_iff_ne.mp n45,beq_eq_false_iff_ne.mp n32⟩
 .unfold isSign;rw[n126,n42,n124,n38,n43,n33,n63,n40,n41];rfl
 .unfold nq;rw[n126,n42,n124,n40,n41];rfl
theorem Ur{c:UInt8}(h:nq c=true):isSign c=true:=by unfold nq at h;unfold isSign;simp only[qP]at h⊢;rcases h with h|h|h|h|h<;>simp[h]
theorem takeWhile_all{p:UInt8->Bool}:∀r:Text,(r.takeWhile p).all p=true
 |[]=>rfl
 |a::r=>by
  rw[yd];split
  .rw[iG,takeWhile_all r];simp[*]
  .rfl
theorem Us{c:UInt8}{r:Text}(h:isWord c=true):isName (c::r.takeWhile isWord)=shortName (c::r.takeWhile isWord):=by unfold isName shortName;rw[iG,h,takeWhile_all];simp
theorem Ut(c:UInt8)(r:Text):yS c r=match lJ c r with
  |some x=>dM x.1
  |none=>[]:=by
 unfold yS lJ one?;by_cases hw:isWord c=true
 .obtain⟨h1,h2,h3,_⟩:=Uq hw
  rw[aI hw,ay (c:=isSign c=true) (by rw[h1];simp),ay h3,aI hw,Us hw];by_cases hn:shortName (c::r.takeWhile isWord)=true
  .rw[aI hn,aI hn];rfl
  .rw[ay hn,ay hn];rfl
 .rw[ay hw]
  by_cases hf:nq c=true
  .rw[aI hf,aI (Ur hf)]
   show[c]=match Option.filter _ (some (Token.sign c,r))with
    |some x=>dM x.1
    |none=>[]
   rw[ye,aI (show fu (.sign c)=true from hf)];rfl
  .rw[ay hf]
   by_cases hs:isSign c=true
   .rw[aI hs,ye,ay (show¬fu (.sign c)=true from hf)]
    have:¬(c=45/\ r.head? =some 111):=by rintro⟨rfl,_⟩;exact absurd hs (by decide)
    rw[ay this]
   .rw[ay hs]
    by_cases CI:c=45
    .subst CI
     rw[aI (c:=(45:UInt8)=45) U];cases r with
     |nil=>rw[ay (by simp)];rfl
     |cons a q=>
      by_cases ha:a=111
      .subst ha;rw[aI ⟨U,U⟩];rfl
      .rw[ay (by rintro⟨_,h⟩;exact ha (aM h))]
       have:arr? (a::q)=none:=by
        unfold arr?;split
        .rename_i s e;cases e;exact absurd U ha
        .rfl
       rw[this];rfl
    .rw[ay CI,ay λh=>CI h.1,ay hw];rfl
theorem yT{c:UInt8}{r:Text}{x:Mc×Text}(h:lJ c r=some x):c::r=dM x.1++x.2/\ dM x.1≠ []/\ fu x.1=true:=by
 unfold lJ at h;rw[yf]at h;obtain⟨h,ok⟩:=h;refine⟨?_,?_,ok⟩
 all_goals
  unfold one? at h;split at h
  .have e:=aM h;subst e;simp[dM]
  .split at h
   .unfold arr? at h
    split at h
    .have e:=aM h
     subst e;simp[dM, *]
    .cases h
   .split at h
    .split at h
     .have e:=aM h;subst e;simp[dM]
     .cases h
    .cases h
noncomputable def gK:Pd->List Node
 | .cf _ A| .arr A=>enc A
 |_=>[]
noncomputable def dA:Pd->Nat
 | .gp=>126
 | .gF=>40
 | .cf b _=>if b=true then 124 else 42
 | .arr _=>45
def JN:Pd->Prop
 | .cf _ A| .arr A=>multiplicative A=true
 |_=>True
noncomputable def cV:List Pd->Nat
 |[]=>0
 |e::r=>(gK e).length+1+cV r
def jX(p:List Pd):Prop:=∀e∈p,JN e
theorem JO{b:Bool}{A B:Formula}(hA:multiplicative A=true)(hB:multiplicative B=true):multiplicative (kO b A B)=true:=by unfold kO;split<;>simp[multiplicative,hA,hB]
theorem yU(b:Bool)(A B:Formula):enc (kO b A B)=((if b=true then 3 else 2),[])::(enc A++enc B):=by unfold kO;cases b<;>rfl
theorem yV(A B:Formula):enc (.par A B)=(3,[])::(enc A++enc B):=rfl
theorem JP:∀(p:List Pd) (A:Formula),multiplicative A=true->jX p->multiplicative (eN A p).1=true/\ jX (eN A p).2/\ (enc (eN A p).1).length+cV (eN A p).2<=(enc A).length+cV p
 |[],A,h,hp=>⟨h,hp,a_ _⟩
 | .gp::r,A,h,hp=>by have ih:=JP r (L7 A) (by rw[jT];exact h) λe he=>hp e (by simp[he]);refine⟨ih.1,ih.2.1,?_⟩;have:=ih.2.2;rw[jS,aX]at this;simp only[eN,cV,gK,lF];lia
 | .gF::r,A,h,hp| .cf b B::r,A,h,hp| .arr B::r,A,h,hp=>⟨h,hp,a_ _⟩
theorem yW:∀(p:List Pd) (A:Formula),multiplicative A=true->jX p->multiplicative (de A p).1=true/\ jX (de A p).2/\ (enc (de A p).1).length+cV (de A p).2<=(enc A).length+cV p
 |[],A,h,hp=>⟨h,hp,a_ _⟩
 | .cf b B::r,A,h,hp=>by have hB:multiplicative B=true:=hp (.cf b B) (by simp);have ih:=yW r (kO b B A) (JO hB h) λe he=>hp e (by simp[he]);refine⟨ih.1,ih.2.1,?_⟩;have:=ih.2.2;rw[yU,bj,cP]at this;simp only[de,cV,gK];lia
 | .gp::r,A,h,hp| .gF::r,A,h,hp| .arr B::r,A,h,hp=>⟨h,hp,a_ _⟩
theorem JQ:∀(p:List Pd) (A:Formula),multiplicative A=true->jX p->multiplicative (jR A p).1=true/\ jX (jR A p).2/\ (enc (jR A p).1).length+cV (jR A p).2<=(enc A).length+cV p
 |[],A,h,hp=>⟨h,hp,a_ _⟩
 | .arr B::r,A,h,hp=>by have hB:multiplicative B=true:=hp (.arr B) (by simp);have ih:=JQ r (.par (L7 B) A) (by simp[multiplicative,jT,hB,h]) λe he=>hp e (by simp[he]);refine⟨ih.1,ih.2.1,?_⟩;have:=ih.2.2;rw[yV,bj,cP,jS,aX]at this;simp only[jR,cV,gK];lia
 | .gp::r,A,h,hp| .gF::r,A,h,hp| .cf b B::r,A,h,hp=>⟨h,hp,a_ _⟩
theorem CJ(p:List Pd)(A:Formula)(h:multiplicative A=true)(hp:jX p):multiplicative (gq A p).1=true/\ jX (gq A p).2/\ (enc (gq A p).1).length+cV (gq A p).2<=(enc A).length+cV p:=by have h1:=yW p A h hp;have h2:=JQ _ _ h1.1 h1.2.1;exact⟨h2.1,h2.2.1,c_ h2.2.2 h1.2.2⟩
noncomputable def ie:Option Formula->List Node
 |some A=>enc A
 |none=>[]
def Uu:Option Formula->Prop
 |some A=>multiplicative A=true
 |none=>True
noncomputable def jy(s:MS):Nat:=(ie s.form).length+cV s.pend
noncomputable def iM:List Node->Nat->Option Nat
 |[],n=>some n
 |x::r,n=>(iM r n).bind λm=>if bR x=true then(if 2<=m then some (m-1)else none)else some (m+1)
theorem CK:∀(a b:List Node) (n:Nat),iM (a++b) n=(iM b n).bind (iM a)
 |[],b,n=>by show iM b n=_;cases iM b n<;>rfl
 |x::r,b,n=>by show(iM (r++b) n).bind _=_;rw[CK r b n];cases iM b n<;>rfl
theorem CM:∀(A:Formula),multiplicative A=true->∀n,iM (enc A) n=some (n+1)
 | .atom b a,_,n=>by cases b<;>rfl
 | .tensor A B,h,n| .par A B,h,n=>by simp only[multiplicative,bC]at h;show(iM (enc A++enc B) n).bind _=_;rw[CK,CM B h.2,dQ,CM A h.1,dQ];show(if 2<=n+1+1 then some (n+1+1-1)else none)=some (n+1);rw[aI (by lia)];rfl
 | .wth A B,h,_| .plus A B,h,_| .ofc A,h,_| .whn A,h,_=>by simp[multiplicative]at h
theorem Uv{a b:List Node}{n m:Nat}(h:iM (a++b) n=some m):∃k,iM b n=some k:=by rw[CK]at h;obtain⟨k,h1,_⟩:=cY.mp h;exact⟨k,h1⟩
theorem JR:∀(l:List Node) (m:Nat),iM l 0=some m->(l.foldr m4 []).length=m
 |[],m,h=>by have:0=m:=aM h;rw[<-this];rfl
 |x::r,m,h=>by
  obtain⟨k,h1,h2⟩:=cY.mp h;have ih:=JR r k h1;rw[n_];generalize r.foldr m4 []=st at ih⊢;unfold m4;split at h2
  .rename_i hj
   rw[aI hj];split at h2
   .have e:=aM h2
    match st,ih with
    |a::b::q,ih=>simp at ih⊢;lia
    |[a],ih|[],ih=>simp at ih;lia
   .cases h2
  .rename_i hj
   rw[ay hj,bj,ih];exact aM h2
theorem JS:∀(l:List Node) (m:Nat),iM l 0=some m->(l.foldr gW []).length=m
 |[],m,h=>by have:0=m:=aM h;rw[<-this];rfl
 |x::r,m,h=>by
  obtain⟨k,h1,h2⟩:=cY.mp h;have ih:=JS r k h1;rw[n_];generalize r.foldr gW []=st at ih⊢;unfold gW;split at h2
  .rename_i hj
   rw[aI hj];split at h2
   .have e:=aM h2
    match st,ih with
    |a::b::q,ih=>simp at ih⊢;lia
    |[a],ih|[],ih=>simp at ih;lia
   .cases h2
  .rename_i hj
   rw[ay hj,bj,ih];exact aM h2
theorem CN:∀(l:List Node) (m:Nat),iM l 0=some m->m<=l.length
 |[],m,h=>by have:0=m:=aM h;lia
 |x::r,m,h=>by
  obtain⟨k,h1,h2⟩:=cY.mp h;have ih:=CN r k h1;rw[bj];split at h2
  .split at h2
   .have:=aM h2;lia
   .cases h2
  .have:=aM h2;lia
theorem JT{A:Formula}(h:multiplicative A=true){i:Nat}{x:Node}(hx:(enc A).reverse[i]? =some x):
  (enc A).drop ((enc A).length-(i+1))=x::(enc A).drop ((enc A).length-i)/\ ∃k,iM ((enc A).drop ((enc A).length-i)) 0=some k/\ (bR x=true->2<=k):=by
 have hi:i<(enc A).length:=by have:=(da.mp hx).1;simpa using this
 rw[x4 hi]at hx;have hd:(enc A).drop ((enc A).length-(i+1))=x::(enc A).drop ((enc A).length-i):=by
  have e:(enc A).length-1-i=(enc A).length-(i+1):=by lia
  rw[e]at hx;obtain⟨hl,ex⟩:=da.mp hx;rw[kM hl,ex];congr 2;lia
 refine⟨hd,?_⟩;have hw:=CM A h 0;have e2:enc A=(enc A).take ((enc A).length-(i+1))++(enc A).drop ((enc A).length-(i+1)):=(u5 _ _).symm;rw[e2]at hw;obtain⟨m,hm⟩:=Uv hw;rw[hd]at hm;obtain⟨k,h1,h2⟩:=cY.mp hm;refine⟨k,h1,λhj=>?_⟩;rw[aI hj]at h2;split at h2
 .assumption
 .cases h2
def nm(l:List Node):Prop:=∀x∈l,x.2.length<=12
theorem yX:nm []:=λx h=>by simp at h
theorem JU{a b:List Node}(h:nm a)(k:nm b):nm (a++b):=λx hx=>(c9.mp hx).elim (h x) (k x)
theorem JV{k:Nat}{a:List Node}(h:nm a):nm ((k,[])::a):=λx hx=>by
 rcases br.mp hx with rfl|hx
 .simp
 .exact h x hx
theorem JW{A:Formula}(h:nm (enc A)):nm (enc (L7 A)):=by rw[jS];intro x hx;obtain⟨y,hy,rfl⟩:=eu.mp hx;exact h y hy
def lW(p:List Pd):Prop:=∀e∈p,nm (gK e)
theorem JX:∀(p:List Pd) (A:Formula),nm (enc A)->lW p->nm (enc (eN A p).1)/\ lW (eN A p).2
 |[],A,h,hp=>⟨h,hp⟩
 | .gp::r,A,h,hp=>JX r (L7 A) (JW h) λe he=>hp e (by simp[he])
 | .gF::r,A,h,hp| .cf b B::r,A,h,hp| .arr B::r,A,h,hp=>⟨h,hp⟩
theorem CO:∀(p:List Pd) (A:Formula),nm (enc A)->lW p->nm (enc (de A p).1)/\ lW (de A p).2
 |[],A,h,hp=>⟨h,hp⟩
 | .cf b B::r,A,h,hp=>CO r (kO b B A) (by rw[yU];exact JV (JU (hp (.cf b B) (by simp)) h)) λe he=>hp e (by simp[he])
 | .gp::r,A,h,hp| .gF::r,A,h,hp| .arr B::r,A,h,hp=>⟨h,hp⟩
theorem JY:∀(p:List Pd) (A:Formula),nm (enc A)->lW p->nm (enc (jR A p).1)/\ lW (jR A p).2
 |[],A,h,hp=>⟨h,hp⟩
 | .arr B::r,A,h,hp=>JY r (.par (L7 B) A) (by rw[yV];exact JV (JU (JW (hp (.arr B) (by simp))) h)) λe he=>hp e (by simp[he])
 | .gp::r,A,h,hp| .gF::r,A,h,hp| .cf b B::r,A,h,hp=>⟨h,hp⟩
structure nu(s:MS):Prop where
 mul:Uu s.form
 gy:jX s.pend
 nm:nm (ie s.form)
 rj:lW s.pend
theorem JZ(p:List Pd)(A:Formula)(h:nm (enc A))(hp:lW p):nm (enc (gq A p).1)/\ lW (gq A p).2:=by have h1:=CO p A h hp;exact JY _ _ h1.1 h1.2
def vI:Mc->Prop
 | .name a=>a.length<=12
 |_=>True
theorem yY{e:Pd}{p:List Pd}{s':MS}(h:push e p=some s')(h1:JN e)(h2:jX p)(h3:nm (gK e))(h4:lW p):nu s'/\ jy s'=(gK e).length+1+cV p:=by
 unfold push at h;split at h
 .have e:=aM h
  subst e;refine⟨⟨trivial,λx hx=>?_,yX,λx hx=>?_⟩,?_⟩
  .rcases br.mp hx with rfl|hx
   .exact h1
   .exact h2 x hx
  .rcases br.mp hx with rfl|hx
   .exact h3
   .exact h4 x hx
  .show 0+((gK _).length+1+cV p)=_;lia
 .cases h
theorem J0{A:Formula}{p:List Pd}(h1:multiplicative A=true)(h2:jX p)(h3:nm (enc A))(h4:lW p):nu ⟨some (eN A p).1,(eN A p).2⟩/\ jy ⟨some (eN A p).1,(eN A p).2⟩<=(enc A).length+cV p:=by have a:=JP p A h1 h2;have b:=JX p A h3 h4;exact⟨⟨a.1,a.2.1,b.1,b.2⟩,a.2.2⟩
theorem J1{s s':MS}{k:Mc}(h:take s k=some s')(o:nu s)(hk:vI k):nu s'/\ jy s'<=jy s+1:=by
 obtain⟨f,p⟩:=s;unfold take at h;cases f with
 |none=>
  simp only at h;cases k with
  |name a=>have e:=aM h;subst e;have:=J0 (A:= .atom false a) (p:=p) U o.gy (λx hx=>by simp[enc]at hx;rw[hx];exact hk) o.rj;refine⟨this.1,c_ this.2 ?_⟩;show 1+cV p<=0+cV p+1;lia
  |sign c=>
   simp only at h;split at h
   .have:=yY h trivial o.gy yX o.rj
    refine⟨this.1,?_⟩;rw[this.2];show 0+1+cV p<=0+cV p+1;lia
   .split at h
    .have:=yY h trivial o.gy yX o.rj
     refine⟨this.1,?_⟩;rw[this.2];show 0+1+cV p<=0+cV p+1;lia
    .cases h
  |arrow=>cases h
 |some A=>
  have hA:multiplicative A=true:=o.mul;have nA:nm (enc A):=o.nm;have chain:∀b,i6 b A p=some s'->nu s'/\ jy s'<=jy ⟨some A,p⟩+1:=by
   intro b h;have key:push (.cf b A) p=some s':=by
    unfold i6 at h;split at h
    .split at h
     .exact h
     .cases h
    .exact h
   have:=yY key hA o.gy nA o.rj;refine⟨this.1,?_⟩;rw[this.2];show(enc A).length+1+cV p<=(enc A).length+cV p+1;lia
  simp only at h;cases k with
  |name a=>cases h
  |sign c=>
   simp only at h;split at h
   .exact chain _ h
   .split at h
    .exact chain _ h
    .split at h
     .unfold takeRight at h
      have a:=CJ p A hA o.gy;have b:=JZ p A nA o.rj;split at h
      .rename_i B r he
       rw[he]at a b;have e:=aM h;subst e;have:=J0 (A:=B) (p:=r) a.1 (λx hx=>a.2.1 x (by simp[hx])) b.1 (λx hx=>b.2 x (by simp[hx]));refine⟨this.1,c_ this.2 ?_⟩;have c:=a.2.2;simp only[cV,gK,lF]at c;show _<=(enc A).length+cV p+1;lia
      .cases h
     .cases h
  |arrow=>simp only at h;have a:=yW p A hA o.gy;have b:=CO p A nA o.rj;have:=yY h a.1 a.2.1 b.1 b.2;refine⟨this.1,?_⟩;rw[this.2];have c:=a.2.2;show _<=(enc A).length+cV p+1;simp only[gK];lia
theorem J2:∀(ts:List Mc) (s:MS) (A:Formula),run s ts=some A->nu s->(∀k∈ts,vI k)->multiplicative A=true/\ nm (enc A)/\ nodes A<=jy s+ts.length
 |[],s,A,h,o,_=>by
  obtain⟨f,p⟩:=s;unfold run whole at h;cases f with
  |none=>cases h
  |some B=>
   simp only at h;have a:=CJ p B o.mul o.gy;have b:=JZ p B o.nm o.rj;split at h
   .rename_i C he
    rw[he]at a b;have e:=aM h;subst e;refine⟨a.1,b.1,?_⟩;have c:=a.2.2;rw[bJ]at c;simp only[cV]at c;show _<=(enc B).length+cV p+0;lia
   .cases h
 |k::r,s,A,h,o,hk=>by
  unfold run at h;cases ht:take s k with
  |none=>rw[ht]at h;cases h
  |some s'=>rw[ht]at h;have t:=J1 ht o (hk k (by simp));have ih:=J2 r s' A h t.1 λx hx=>hk x (by simp[hx]);refine⟨ih.1,ih.2.1,c_ ih.2.2 ?_⟩;rw[bj];have:=t.2;lia
theorem Uw{c:UInt8}{r:Text}{x:Mc×Text}(h:lJ c r=some x):vI x.1:=by
 unfold lJ at h;rw[yf]at h;have h:=h.1;unfold one? at h;split at h
 .have e:=aM h;subst e;trivial
 .split at h
  .unfold arr? at h
   split at h
   .have e:=aM h;subst e;trivial
   .cases h
  .split at h
   .split at h
    .rename_i hn
     have e:=aM h;subst e;unfold isName at hn;simp only[bC,iB]at hn;exact hn.2.1
    .cases h
   .cases h
theorem vJ:∀(n:Nat) (t:Text) (ts:List Mc),t.length<=n->toks t=some ts->(∀k∈ts,vI k/\ fu k=true)/\ ts.length<=t.length
 |n,[],ts,_,h=>by rw[BX]at h;have e:=aM h;subst e;exact⟨λk hk=>by simp at hk,a_ _⟩
 |0,c::r,ts,hn,h=>by simp at hn
 |n+1,c::r,ts,hn,h=>by
  rw[BY]at h;rw[bj]at hn;split at h
  .have ih:=vJ n r ts (by lia) h
   exact⟨ih.1,by rw[bj];lia⟩
  .obtain⟨x,hx,h⟩:=cY.mp h
   obtain⟨l,hl,e⟩:=fq.mp h;subst e;have sp:=yT hx;have hle:x.2.length+1<=r.length+1:=by have:=congrArg List.length sp.1;rw[bj,cP]at this;have:0<(dM x.1).length:=sV.mpr sp.2.1;lia
   have ih:=vJ n x.2 l (by lia) hl;refine⟨λk hk=>?_,by rw[bj,bj];lia⟩;rcases br.mp hk with rfl|hk
   .exact⟨Uw hx,sp.2.2⟩
   .exact ih.1 k hk
theorem J3:nu ⟨none,[]⟩:=⟨trivial,λ_ h=>by simp at h,yX,λ_ h=>by simp at h⟩
theorem J4{t:Text}{A:Formula}(h:gX t=some A):multiplicative A=true/\ nm (enc A)/\ nodes A<=2000:=by
 unfold gX at h;split at h
 .cases h
 .obtain⟨ts,h1,h2⟩:=cY.mp h
  have k:=vJ _ t ts (a_ _) h1;have r:=J2 ts _ A h2 J3 λx hx=>(k.1 x hx).1;refine⟨r.1,r.2.1,?_⟩;have:=r.2.2;have e:jy ⟨none,[]⟩=0:=rfl;lia
noncomputable def pT:List Node->Nat
 |[]=>0
 |x::r=>x.2.length+5+pT r
theorem yZ:∀{l:List Node},nm l->pT l<=17*l.length
 |[],_=>a_ _
 |x::r,h=>by have:=yZ (l:=r) λy hy=>h y (by simp[hy]);have:=h x (by simp);simp only[pT,bj];lia
noncomputable def wsum:List Wr->Nat
 |[]=>0
 |x::r=>x.2.length+wsum r
theorem J5(b:Bool)(t:Text):(paren b t).length<=t.length+2:=by unfold paren;split<;>simp
theorem CP:∀(l:List Node),wsum (l.foldr gW [])<=pT l
 |[]=>a_ _
 |x::r=>by
  have ih:=CP r;rw[n_];generalize r.foldr gW []=st at ih⊢;unfold gW;split
  .split
   .rename_i a b q
    simp only[wsum,pT]at ih⊢;have h1:=J5 (decide (2<=a.1)) a.2;have h2:=J5 (decide (2<=b.1)&&b.1 !=x.1) b.2;unfold oo;rw[cP,bj];lia
   .simp only[pT];lia
  .simp only[wsum,pT]
   have:(qW x).length<=x.2.length+1:=by unfold qW;split<;>simp
   lia
theorem J6{A:Formula}(h:multiplicative A=true):(form A).length<=pT (enc A):=by have:=CP (enc A);rw[tq A h]at this;simpa [wsum]using this
end PM
section
namespace L2
open PySem PySem.Spec PyProof.Rows
abbrev Key:=Sum Int Str
noncomputable def tP:Key->cp->Bool
 | .inl k,v=>Value.isInt k v
 | .inr x,v=>Value.isStrOf x v
noncomputable def Ux(w:L9):Key->Int
 | .inl k=>hashInt k
 | .inr x=>hashStr w x
theorem oA:∀{k:Key} {v:cp},tP k v=true->(∃i t,k=Sum.inl i/\ v=Value.int i t)\/(∃x t,k=Sum.inr x/\ v=Value.str x t)
 | .inl i,v,h=>by obtain⟨t,e⟩:=Value.isInt_shape (k:=i) (v:=v) h;exact .inl ⟨i,t,U,e⟩
 | .inr x,v,h=>by obtain⟨t,e⟩:=Value.isStrOf_shape (x:=x) (v:=v) h;exact .inr ⟨x,t,U,e⟩
theorem Uy(i:Int)(t:Tok):tP (.inl i) (.int i t)=true:=by simp[tP,Value.isInt]
theorem Uz(x:Str)(t:Tok):tP (.inr x) (.str x t)=true:=by simp[tP,Value.isStrOf]
theorem UA(a b:Int):decide ((Sum.inl a:Key)=Sum.inl b)=(a==b):=by
 by_cases e:a=b
 .subst e;simp
 .have h:¬(Sum.inl a:Key)=Sum.inl b:=λq=>e (Sum.inl.inj q)
  rw[cO h];exact(beq_eq_false_iff_ne.mpr e).symm
theorem UB(a b:Str):decide ((Sum.inr a:Key)=Sum.inr b)=decide (a=b):=by
 by_cases e:a=b
 .subst e;simp
 .have h:¬(Sum.inr a:Key)=Sum.inr b:=λq=>e (Sum.inr.inj q)
  rw[cO h,cO e]
theorem UC(a:Int)(b:Str):decide ((Sum.inl a:Key)=Sum.inr b)=false:=cO (λq=>nomatch q)
theorem UD(a:Str)(b:Int):decide ((Sum.inr a:Key)=Sum.inl b)=false:=cO (λq=>nomatch q)
noncomputable def jY(prog:Mb)(w:L9):PySem.KeyKind prog w Key where
 is:=tP
 hash:=Ux w
 inj:=λv a b ha hb=>by
  rcases oA ha with⟨i,t,rfl,rfl⟩|⟨x,t,rfl,rfl⟩
  .rcases oA hb with⟨j,u,rfl,e⟩|⟨y,u,rfl,e⟩
   .injection e with e1 _;rw[e1]
   .exact nomatch e
  .rcases oA hb with⟨j,u,rfl,e⟩|⟨y,u,rfl,e⟩
   .exact nomatch e
   .injection e with e1 _;rw[e1]
 byValue:=λk v h=>by rcases oA h with⟨i,t,rfl,rfl⟩|⟨x,t,rfl,rfl⟩<;>rfl
 pyHash:=λhv h=>by
  rcases oA hv with⟨i,t,rfl,rfl⟩|⟨x,t,rfl,rfl⟩
  .exact wpAny_pyHash_int h
  .exact wpAny_pyHash_str h
 eqBool:=λhu hv h=>by
  rcases oA hu with⟨i,t,rfl,rfl⟩|⟨x,t,rfl,rfl⟩
  .rcases oA hv with⟨j,u,rfl,rfl⟩|⟨y,u,rfl,rfl⟩
   .rw[UA]at h;exact wpAny_eqBool_int h
   .rw[UC]at h;exact SeqAt.EqAt.int_str i t y u _ _ _ _ h
  .rcases oA hv with⟨j,u,rfl,rfl⟩|⟨y,u,rfl,rfl⟩
   .rw[UD]at h;exact SeqAt.EqAt.str_int x t j u _ _ _ _ h
   .rw[UB]at h;exact wpAny_eqBool_str h
 «strs»:=λk x t v h=>by
  rcases oA h with⟨i,u,rfl,e⟩|⟨y,u,rfl,e⟩
  .exact nomatch e
  .injection e with e1 _
   subst e1;cases v<;>rfl
theorem UE(prog:Mb)(w:L9)(i:Int)(t:Tok):(jY prog w).is (.inl i) (.int i t)=true:=Uy i t
theorem UG(prog:Mb)(w:L9)(x:Str)(t:Tok):(jY prog w).is (.inr x) (.str x t)=true:=Uz x t
end L2
namespace L2
open PySem PySem.Spec PyProof.Rows
inductive V where
 |aO|bl (b:Bool)|int (i:Int)|str (x:Str)|iN (b:Array UInt8)|flt (b:UInt64)|ref (a:Addr)|ty (n:String)
 deriving DecidableEq
def RelV:V->cp->Prop
 | .aO,u=>u=Value.none
 | .bl b,u=>u=Value.bool b
 | .int i,u=>∃t,u=Value.int i t
 | .str x,u=>∃t,u=Value.str x t
 | .iN b,u=>∃t,u=Value.bytes b t
 | .flt b,u=>∃t,u=Value.float b t
 | .ref a,u=>u=Value.ref a
 | .ty n,u=>u=Value.type n
abbrev Vals:List V->List cp->Prop:=Paired RelV
theorem Vals.length{xs:List V}{us:List cp}(r:Vals xs us):xs.length=us.length:=Paired.length r
theorem Vals.get:∀{xs:List V} {us:List cp} {i:Nat} {x:V},Vals xs us->xs[i]? =some x->∃u,us[i]? =some u/\ RelV x u
 |_,_,_,_, .nil,e=>by simp at e
 |_,_,0,_, .cons r _,e=>by simp at e;subst e;exact⟨_,U,r⟩
 |_,_,i+1,x, .cons _ t,e=>by obtain⟨u,h1,h2⟩:=Vals.get (i:=i) (x:=x) t (by simpa using e);exact⟨u,by simpa using h1,h2⟩
theorem Vals.set{x:V}{u:cp}(r:RelV x u):∀{xs:List V} {us:List cp} (i:Nat),Vals xs us->Vals (xs.set i x) (us.set i u)
 |_,_,_, .nil=> .nil
 |_,_,0, .cons _ t=> .cons r t
 |_,_,i+1, .cons q t=> .cons q (Vals.set r i t)
theorem Vals.append:∀{xs ys:List V} {us ws:List cp},Vals xs us->Vals ys ws->Vals (xs++ys) (us++ws)
 |_,_,_,_, .nil,s=>s
 |_,_,_,_, .cons r t,s=> .cons r (Vals.append t s)
theorem Vals.take:∀{xs:List V} {us:List cp} (n:Nat),Vals xs us->Vals (xs.take n) (us.take n)
 |_,_,0,_|_,_,_+1, .nil=> .nil
 |_,_,n+1, .cons r t=> .cons r (Vals.take n t)
theorem Vals.drop:∀{xs:List V} {us:List cp} (n:Nat),Vals xs us->Vals (xs.drop n) (us.drop n)
 |_,_,0,r=>r
 |_,_,_+1, .nil=> .nil
 |_,_,n+1, .cons _ t=>Vals.drop n t
def iO:Option V->Option cp->Prop
 |some v,some u=>RelV v u
 |none,none=>True
 |_,_=>False
def KV{κ:Type}:List (κ×V)->List (κ×cp)->Prop:=Paired λ(p:κ×V) (q:κ×cp)=>p.1=q.1/\ RelV p.2 q.2
noncomputable def kV:Key->V
 | .inl i=> .int i
 | .inr x=> .str x
inductive HO where
 |lst (xs:List V)
 |tup (xs:List V)
 |dK (ax:List (Key×V))|dT (ax:List (List Key×V))
 |set (S:Int->Bool) (n:Nat)
 |ins (C dx:Addr) (fs:List (Str×V))
 |own (x:Addr)
 |xd (fs:List (Str×V))
 |met (f x:Addr)
 |rk (lo hi:Int)
 |fT (o:Obj) (u:HO)
 |rm (ps:Array cp)
 |ext (φ:Heap->Prop)
abbrev Hp:=Addr->Option HO
noncomputable def upd(H:Hp)(a:Addr)(o:HO):Hp:=λb=>if b=a then some o else H b
theorem ae{H:Hp}{a:Addr}{o:HO}:upd H a o a=some o:=by unfold upd;rw[aI U]
theorem aD{H:Hp}{a b:Addr}{o:HO}(h:b≠a):upd H a o b=H b:=by unfold upd;rw[ay h]
theorem jz{H:Hp}{a:Addr}{o u:HO}:upd (upd H a o) a u=upd H a u:=by funext b;unfold upd;split<;>rfl
theorem ig{H:Hp}{a b:Addr}{o u:HO}(h:H a=some o)(h':H b=some u)(d:o≠u):a≠b:=by intro e;subst e;rw[h]at h';exact d (aM h')
theorem bS{H:Hp}{a b:Addr}{o:HO}(h:H a=some o)(h':H b=none):a≠b:=by intro e;subst e;rw[h]at h';cases h'
section
variable(P:Mb)(w:L9)
def dU(H:Hp)(h:Heap)(a:Addr):HO->Prop
 | .lst xs=>xs.length<=sizeLine/\ ∃(ai:List cp) (n:Nat),Vals xs ai/\ h.get? a=some {cls:= .type "list",data:= .seq ai.toArray n}
 | .tup xs=>xs.length<=sizeLine/\ ∃ai:List cp,Vals xs ai/\ IsTup h a ai.toArray
 | .dK ax=>ax.length<=sizeLine/\ (a==M9)=false/\ ∃vs,KV ax vs/\ h.DictOf (jY P w) a vs
 | .dT ax=>ax.length<=sizeLine/\ (a==M9)=false/\ ∃xs:List (List Key×Addr×cp),
   Paired (λ(p:List Key×V) (q:List Key×Addr×cp)=>p.1=q.1/\ H q.2.1=some (.tup (p.1.map kV))/\ RelV p.2 q.2.2) ax xs/\
   ∃o es ep,h.get? a=some o/\ o.ExactDict/\ o.data= .dict es ep/\ es.toList=xs.map (entryOfKey (abv (jY P w)))/\ (xs.map (·.1)).Nodup
 | .set S n=>h.SetOf (intKind P w) a S n
 | .ins C dx fs=>H dx=some (.own a)/\ fs.length<=1000/\ dx≠a/\ h.get? a=some (Np C dx)/\
   ∃mA,h.Ns1 dx mA/\ (∀f,iO (fs.lookup f) (mA f))/\ adH mA (fs.map (·.1))
 | .own _=>∃o,h.get? a=some o
 | .xd fs=>∃mA,h.Ns1 a mA/\ ∀f,iO (fs.lookup f) (mA f)
 | .rk lo hi=>∃t u v,h.get? a=some {cls:= .type "range",data:= .fields #[.int lo t, .int hi u, .int 1 v]}
 | .fT o u=>h.get? a=some o/\ dU H h a u
 | .rm ps=>h.get? a=some {cls:= .none,data:= .fields ps}
 | .met f x=>h.get? a=some (adP (.ref f) (.ref x))
 | .ext φ=>φ h/\ (∃o,h.get? a=some o)/\ ∀h1 h2:Heap,φ h1->(∀o,h1.get? a=some o->h2.get? a=some o)->φ h2
def du(H:Hp)(h:Heap):Prop:=∀a o,H a=some o->dU P w H h a o
end
section
variable{P:Mb}{w:L9}{H H':Hp}{h h':Heap}{a:Addr}{o:HO}
theorem dU.lt(x:dU P w H h a o):a<h.objs.size:=by
 cases o with
 |lst xs=>obtain⟨_,_,_,_,e⟩:=x;exact Heap.lt_size e
 |tup xs=>obtain⟨_,_,_,p⟩:=x;exact p.lt
 |dK ax|dT ax=>obtain⟨_,_,_,_,o,_,_,e,_⟩:=x;exact Heap.lt_size e
 |set S n=>obtain⟨o,_,_,_,e,_⟩:=x;exact Heap.lt_size e
 |ins C dx fs=>obtain⟨_,_,_,e,_⟩:=x;exact Heap.lt_size e
 |own y=>obtain⟨_,e⟩:=x;exact Heap.lt_size e
 |xd fs=>obtain⟨_,⟨_,_,_,e,_⟩,_⟩:=x;exact Heap.lt_size e
 |rk lo hi=>obtain⟨_,_,_,e⟩:=x;exact Heap.lt_size e
 |fT ob u=>obtain⟨e,_⟩:=x;exact Heap.lt_size e
 |rm ps|met f y=>exact Heap.lt_size (show h.get? a=some _ from x)
 |ext φ=>obtain⟨_,⟨_,e⟩,_⟩:=x;exact Heap.lt_size e
theorem Paired.CQ{α β:Type}{F G:α->β->Prop}:∀{l₁:List α} {l₂:List β},Paired F l₁ l₂->(∀a b,F a b->G a b)->Paired G l₁ l₂
 |_,_, .nil,_=> .nil
 |_,_, .cons r t,f=> .cons (f _ _ r) (Paired.CQ t f)
theorem dU.rn(x:dU P w H h a o)(k:∀b u,(b=a\/H b=some (.own a))->h.get? b=some u->h'.get? b=some u)
  (ho:∀b,H b=some (.own a)->H' b=some (.own a)) (ht:∀b xs,H b=some (.tup xs)->H' b=some (.tup xs)):dU P w H' h' a o:=by
 induction o with
 |lst xs=>obtain⟨z,ai,n,r,e⟩:=x;exact⟨z,ai,n,r,k _ _ (.inl U) e⟩
 |tup xs=>obtain⟨z,ai,r,ob,e,c⟩:=x;exact⟨z,ai,r,ob,k _ _ (.inl U) e,c⟩
 |dK ax=>obtain⟨z,y,vs,r,ob,es,ep,e,c⟩:=x;exact⟨z,y,vs,r,ob,es,ep,k _ _ (.inl U) e,c⟩
 |dT ax=>obtain⟨z,y,xs,r,ob,es,ep,e,c⟩:=x;exact⟨z,y,xs,Paired.CQ r λp q z=>⟨z.1,ht _ _ z.2.1,z.2.2⟩,ob,es,ep,k _ _ (.inl U) e,c⟩
 |set S n=>obtain⟨ob,es,ep,t,e,c⟩:=x;exact⟨ob,es,ep,t,k _ _ (.inl U) e,c⟩
 |ins C dx fs=>obtain⟨d,z,ne,e,mA,⟨od,es,ep,e2,c⟩,r⟩:=x;exact⟨ho _ d,z,ne,k _ _ (.inl U) e,mA,⟨od,es,ep,k _ _ (.inr d) e2,c⟩,r⟩
 |own y=>obtain⟨ob,e⟩:=x;exact⟨ob,k _ _ (.inl U) e⟩
 |xd fs=>obtain⟨mA,⟨od,es,ep,e,c⟩,r⟩:=x;exact⟨mA,⟨od,es,ep,k _ _ (.inl U) e,c⟩,r⟩
 |rk lo hi=>obtain⟨t,u,v,e⟩:=x;exact⟨t,u,v,k _ _ (.inl U) e⟩
 |fT ob u ih=>obtain⟨e,q⟩:=x;exact⟨k _ _ (.inl U) e,ih q⟩
 |rm ps=>have e:h.get? a=some {cls:= .none,data:= .fields ps}:=x;show h'.get? a=some {cls:= .none,data:= .fields ps};exact k a _ (.inl U) e
 |met f y=>have e:h.get? a=some (adP (.ref f) (.ref y)):=x;show h'.get? a=some (adP (.ref f) (.ref y));exact k a _ (.inl U) e
 |ext φ=>obtain⟨p,⟨o,e⟩,st⟩:=x;exact⟨st _ _ p λo q=>k _ _ (.inl U) q,⟨o,k _ _ (.inl U) e⟩,st⟩
theorem du.lt(x:du P w H h)(e:H a=some o):a<h.objs.size:=(x a o e).lt
theorem du.fresh(x:du P w H h)(e:h.objs.size<=a):H a=none:=by
 cases q:H a with
 |none=>rfl
 |some u=>exact absurd (iF (x.lt q) e) (lG _)
theorem du.kept(x:du P w H h)(k:∀b u,h.get? b=some u->h'.get? b=some u):du P w H h':=λa o e=>(x a o e).rn (λb u _ q=>k b u q) (λ_ q=>q) λ_ _ q=>q
theorem du.laid(x:du P w H h)(k:∀b u,h.get? b=some u->h'.get? b=some u)(hp:h.objs.size<=a)(new:dU P w (upd H a o) h' a o):du P w (upd H a o) h':=λb u e=>by
 have hn:=x.fresh hp;by_cases hb:b=a
 .subst hb;rw[ae]at e;cases e;exact new
 .rw[aD hb]at e
  exact(x b u e).rn (λc v _ q=>k c v q) (λc q=>by rw[aD (bS q hn)];exact q) λc xs q=>by rw[aD (bS q hn)];exact q
end
def Rd(H:Hp)(a:Addr)(u:HO):Prop:=H a=some u\/∃o,H a=some (.fT o u)
theorem Rd.ok{P:Mb}{w:L9}{H:Hp}{h:Heap}{a:Addr}{u:HO}(r:Rd H a u)(x:du P w H h):dU P w H h a u:=by
 rcases r with r|⟨o,r⟩
 .exact x a u r
 .obtain⟨_,q⟩:=x a _ r
  exact q
def vK:Option HO->Prop
 |some (.lst _)|some (.dK _)|some (.dT _)|some (.set _ _)|some (.ins _ _ _)|some (.ext _)=>True
 |_=>False
section
variable{P:Mb}{w:L9}{H:Hp}{h h':Heap}{x e:Addr}{o':HO}
theorem du.write(ok:du P w H h)(mu:vK (H x))(he:e=x\/H e=some (.own x))(k:∀b u,b≠e->h.get? b=some u->h'.get? b=some u)(tR:∃u,h'.get? e=some u)
  (new:dU P w (upd H x o') h' x o'):du P w (upd H x o') h':=λb u q=>by
 have nown:∀c y,H c=some (.own y)->c≠x:=λc y r z=>by subst z;rw[r]at mu;exact mu
 have ntup:∀c xs,H c=some (.tup xs)->c≠x:=λc xs r z=>by subst z;rw[r]at mu;exact mu
 by_cases hb:b=x
 .subst hb;rw[ae]at q;cases q;exact new
 .rw[aD hb]at q
  by_cases rp:b=e
  .have q':H b=some (.own x):=by
    rcases he with z|z
    .exact absurd (rp.trans z) hb
    .rw[rp];exact z
   rw[q]at q';cases q';obtain⟨v,hv⟩:=tR;exact⟨v,by rw[rp];exact hv⟩
  .refine(ok b u q).rn (λc v hc r=>k c v ?_ r) (λc r=>by rw[aD (nown c b r)];exact r) λc xs r=>by rw[aD (ntup c xs r)];exact r
   rcases hc with rfl|hc
   .exact rp
   .rintro rfl
    rcases he with z|z
    .exact nown c b hc z
    .rw[hc]at z;cases z;exact hb U
end
structure Un(fs ex:List Addr)(H H':Hp)(h h':Heap):Prop where
 keep:∀b o,h.get? b=some o->H b=none->b∉fs->b∉ex->h'.get? b=some o
 slot:∀b o,h.get? b=some o->H b=none->b∈fs->b∉ex->∃sl,h'.get? b=some {o with slots:=sl}
 free:∀b o,h.get? b=some o->H b=none->b∉ex->H' b=none
 there:∀b o,h.get? b=some o->b∉ex->∃o',h'.get? b=some o'
 kR:∀b xs,H b=some (.tup xs)->H' b=some (.tup xs)
 jZ:∀b o u,H b=some (.fT o u)->H' b=some (.fT o u)
 kT:∀b ps,H b=some (.rm ps)->∃more,H' b=some (.rm (ps++more))
section
variable{fs lX ex J7:List Addr}{H H1 H2:Hp}{h h1 h2 h':Heap}{a x e:Addr}{o:HO}
theorem Un.any(u:Un fs ex H H1 h h1){b:Addr}{ob:Obj}(q:h.get? b=some ob)(n:H b=none)(hx:b∉ex):∃sl,h1.get? b=some {ob with slots:=sl}:=by
 by_cases hb:b∈fs
 .exact u.slot b ob q n hb hx
 .exact⟨ob.slots,u.keep b ob q n hb hx⟩
theorem Un.kept(k:∀b u,h.get? b=some u->h'.get? b=some u):Un fs ex H H h h':=⟨λb ob q _ _ _=>k b ob q,λb ob q _ _ _=>⟨ob.slots,k b ob q⟩,λ_ _ _ n _=>n,λb ob q _=>⟨ob,k b ob q⟩,λ_ _ q=>q,λ_ _ _ q=>q,λ_ ps q=>⟨#[],by rw[q];simp⟩⟩
theorem Un.refl:Un fs ex H H h h:=Un.kept λ_ _ q=>q
theorem Un.laid(k:∀b u,h.get? b=some u->h'.get? b=some u)(hp:h.objs.size<=a)(hn:H a=none):Un fs ex H (upd H a o) h h' where
 keep:=λb u q _ _ _=>k b u q
 slot:=λb u q _ _ _=>⟨u.slots,k b u q⟩
 free:=λb u q n _=>by rw[aD (gE (iF (Heap.lt_size q) hp))];exact n
 there:=λb u q _=>⟨u,k b u q⟩
 kR:=λb xs q=>by rw[aD (bS q hn)];exact q
 jZ:=λb u xs q=>by rw[aD (bS q hn)];exact q
 kT:=λb ps q=>⟨#[],by rw[aD (bS q hn),q];simp⟩
theorem Un.write(mu:vK (H x))(he:e=x\/H e=some (.own x))(k:∀b u,b≠e->h.get? b=some u->h'.get? b=some u)(tR:∃u,h'.get? e=some u):Un fs ex H (upd H x o) h h':=by
 have hx:∀b,H b=none->b≠x:=λb n z=>by subst z;rw[n]at mu;exact mu
 have hb:∀b,H b=none->b≠e:=λb n z=>by
  subst z;rcases he with r|r
  .exact hx b n r
  .rw[n]at r;cases r
 have hm:∀b u,H b=some u->¬vK (some u)->b≠x:=λb u q nm z=>by subst z;rw[q]at mu;exact nm mu
 refine⟨λb u q n _ _=>k b u (hb b n) q,λb u q n _ _=>⟨u.slots,k b u (hb b n) q⟩,λb u q n _=>by rw[aD (hx b n)];exact n,λb u q _=>?_,
  λb xs q=>by rw[aD (hm b _ q λz=>z)];exact q,λb u xs q=>by rw[aD (hm b _ q λz=>z)];exact q,λb ps q=>⟨#[],by rw[aD (hm b _ q λz=>z),q];simp⟩⟩
 by_cases rp:b=e
 .subst rp;exact tR
 .exact⟨u,k b u rp q⟩
end
noncomputable def y4(h:Heap)(H:Hp):List Addr:=(List.range h.objs.size).filter λa=>(H a).isSome
noncomputable def oB(h:Heap)(H:Hp):Heap:=PySem.W.hideAll h (y4 h H)
theorem UH(h:Heap)(H:Hp):(oB h H).objs.size=h.objs.size:=PySem.W.hideAll_size _ _
theorem UI{h:Heap}{H:Hp}{b:Addr}{o:Obj}(e:h.get? b=some o)(n:H b=none):(oB h H).get? b=some o:=
 PySem.W.hideAll_get _ e λhm=>by have q:(H b).isSome=true:=(uU.mp hm).2;rw[n]at q;simp at q
theorem UJ{h:Heap}{H:Hp}{b:Addr}{o:Obj}(e:(oB h H).get? b=some o):h.get? b=some o/\ H b=none:=by
 have e':h.get? b=some o:=PySem.W.of_hideAll (y4 h H) e;refine⟨e',?_⟩;cases q:H b with
 |none=>rfl
 |some x=>have hm:b∈y4 h H:=uU.mpr ⟨jP.mpr (Heap.lt_size e'),by simp[q]⟩;have z:(oB h H).get? b=none:=PySem.W.hideAll_none (y4 h H) hm;rw[z]at e;cases e
noncomputable def UK(g h:Heap)(L:Addr):List (Addr×Obj):=(List.range h.objs.size).filterMap λa=>if a=L\/(g.get? a).isSome=true then none else(h.get? a).map λo=>(a,o)
noncomputable def rest(g h:Heap)(L d:Addr):List (Addr×Obj):=(UK g h L).filter λp=>decide (p.1≠d)
end L2
namespace L2
open PySem PySem.Spec PyProof.Rows
structure Mod(K:FU)(mg:Str->Option cp)(base:Heap):Prop where
 vL:K.In base
 glob:base.Ns ML mg
 blt:∃mb,base.Ns builtinsNs mb/\ ∀x:Str,x≠"__name__"->mb x=MI x
 nolimit:base.NoLimit
structure Cx where
 prog:Mb
 w:L9
 K:FU
 mg:Str->Option cp
 base:Heap
 A:Mf
 N:List Str
 gd:me
 vM:Hp
 env:Env
 outer:List Env
 stack:List Env
 ex:List Addr
 fn:Str->Bool
 calm:Bool
 pn:List (Addr×Obj)
 xe:cp->me->Prop
noncomputable def lY(l:List Env):List Addr:=l.filterMap (·.frame)
noncomputable abbrev Cx.fs(X:Cx):List Addr:=lY X.outer
def tS(sc:Scope)(x:Str):Prop:=sc.names.lookup x=some .local\/sc.names.lookup x=some .cell\/sc.names.lookup x=some .free
def Loc(sc:Scope)(x:Str):Prop:=sc.names.lookup x=some .local\/sc.names.lookup x=some .cell
def Look(env:Env)(h:Heap)(m:Str->Option cp)(x:Str)(u:cp):Prop:=(env.kindOf x=some .local/\ m x=some u)\/((env.kindOf x=some .cell\/env.kindOf x=some .free)/\ ∃c,env.cells.lookup x=some c/\ h.IsCell c (some u))
structure Cx.Ok(X:Cx):Prop where
 mod:Mod X.K X.mg X.base
 kind:X.env.scope.kind= .function
 glob:X.env.globals=ML
 blt:X.env.builtins=builtinsNs
 above:X.gd.heap.objs.size<=X.env.locals
 inj:∀x y c,X.env.cells.lookup x=some c->X.env.cells.lookup y=some c->x=y
 has:∀x,(X.env.kindOf x=some .cell\/X.env.kindOf x=some .free)->∃c,X.env.cells.lookup x=some c
 vN:∀x c,X.fn x=true->X.env.cells.lookup x=some c->X.gd.heap.objs.size<=c
 hd:X.calm=true->X.A.handled=none
 frames:X.A.frames=some X.stack
 y6:X.stack=X.outer\/(X.stack=X.env::X.outer/\ X.env.frame=some X.env.locals)
 y8:∀b∈X.ex,b≠X.env.locals/\ ∀x c,X.env.cells.lookup x=some c->c≠b
 bs:∀b o,X.base.get? b=some o->X.gd.heap.get? b=some o/\ X.vM b=none
 lZ:X.base.objs.size<=X.gd.heap.objs.size
 vO:∀b o,X.base.get? b=some o->b∉X.ex
 vP:∀b∈X.ex,b∉X.fs
 j0:X.gd.heap.FunFrames X.base X.outer
 pU:∀b∈X.fs,X.vM b=none
structure Inv(X:Cx)(pins:List (Addr×Obj))(σ:List (Option V))(H:Hp)(s:me):Prop where
 ok:X.Ok
 os:s.os=X.gd.os
 bare:ND s.gens
 base:Un X.fs X.ex X.vM H X.gd.heap s.heap
 loc:∃m,s.heap.Ns X.env.locals m/\ ∀(i:Nat) (x:Str) (v:V),X.N[i]? =some x->σ[i]? =some (some v)->tS X.env.scope x->∃u,RelV v u/\ Look X.env s.heap m x u
 cell:∀x c,X.env.cells.lookup x=some c->∃v,s.heap.IsCell c v
 free:H X.env.locals=none
 l9:∀x c,X.env.cells.lookup x=some c->H c=none
 pin:∀p∈X.pn++pins,s.heap.get? p.1=some p.2/\ H p.1=none/\ p.1≠X.env.locals/\ p.1∉X.fs/\ ∀v,p.2.data≠ .cell v
 aK:du X.prog X.w H s.heap
 len:σ.length=X.N.length
section
variable{X:Cx}{pins:List (Addr×Obj)}{σ:List (Option V)}{H H':Hp}{s:me}{h':Heap}
theorem Cx.Ok.UL(ok:X.Ok){b:Addr}{o:Obj}(e:X.base.get? b=some o):b∉X.fs:=λhb=>by have:=(ok.j0.mem hb).1;rw[e]at this;cases this
theorem Inv.bs(I:Inv X pins σ H s):∀b o,X.base.get? b=some o->s.heap.get? b=some o/\ H b=none:=λb o e=>⟨I.base.keep b o (I.ok.bs b o e).1 (I.ok.bs b o e).2 (I.ok.UL e) (I.ok.vO b o e),I.base.free b o (I.ok.bs b o e).1 (I.ok.bs b o e).2 (I.ok.vO b o e)⟩
theorem Inv.bk(I:Inv X pins σ H s):∀b o,X.base.get? b=some o->s.heap.get? b=some o:=λb o e=>(I.bs b o e).1
theorem Inv.mod(I:Inv X pins σ H s):Mod X.K X.mg X.base:=I.ok.mod
theorem Inv.i9(I:Inv X pins σ H s):X.K.In s.heap:=I.ok.mod.vL.keeps I.bk
theorem Inv.fr(I:Inv X pins σ H s):∃m,Fr X.base X.env.locals s.heap m:=
 let⟨m,hn,_⟩:=I.loc
 ⟨m,hn,I.bk,c_ I.ok.lZ I.ok.above⟩
theorem Inv.lt(I:Inv X pins σ H s):X.env.locals<s.heap.objs.size:=let⟨_,hn,_⟩:=I.loc;hn.lt
theorem Inv.sz(I:Inv X pins σ H s):X.gd.heap.objs.size<=s.heap.objs.size:=c_ I.ok.above (yg I.lt)
theorem Inv.UM(I:Inv X pins σ H s){a:Addr}(h:s.heap.objs.size<=a):a∉X.fs:=λhb=>by obtain⟨_,o,ho,_⟩:=I.ok.j0.mem hb;exact absurd (iF (Heap.lt_size ho) (c_ I.sz h)) (lG _)
theorem Inv.rq(I:Inv X pins σ H s):∀x c,X.env.cells.lookup x=some c->c≠X.env.locals:=λx c e z=>by obtain⟨v,o,ho,hd⟩:=I.cell x c e;obtain⟨m,⟨o',es,ep,jA,CT,_⟩,_⟩:=I.loc;rw[z,jA]at ho;cases ho;rw[CT]at hd;cases hd
theorem Inv.j0(I:Inv X pins σ H s):s.heap.FunFrames X.base X.outer:=by
 have all:∀(l:List Env),(∀b∈lY l,b∈X.fs)->X.gd.heap.FunFrames X.base l->s.heap.FunFrames X.base l:=by
  intro l;induction l with
  |nil=>intro _ _;trivial
  |cons env r ih=>intro hs hl;obtain⟨hk,⟨L,o,hf,hn,ho,hd⟩,hr⟩:=hl;have hL:L∈X.fs:=hs L (by unfold lY;rw[jr,hf];exact iC);obtain⟨sl,e⟩:=I.base.slot L o ho (I.ok.pU L hL) hL λz=>I.ok.vP L z hL;exact⟨hk,⟨L,_,hf,hn,e,hd⟩,ih (λb hb=>hs b (by unfold lY;rw[jr,hf];exact fL _ hb)) hr⟩
 exact all X.outer (λ_ hb=>hb) I.ok.j0
theorem Inv.stack(I:Inv X pins σ H s):s.heap.FunFrames X.base X.stack:=by
 rcases I.ok.y6 with e|⟨e,hf⟩
 .rw[e];exact I.j0
 .rw[e]
  obtain⟨m,hn,_⟩:=I.loc;refine .cons (by rw[I.ok.kind];decide) hf hn ?_ I.j0;exact Heap.get?_none_of_le (c_ I.ok.lZ I.ok.above)
theorem Inv.CU(I:Inv X pins σ H s):∀b∈lY X.stack,b∈X.env.locals::X.fs:=λb hb=>by
 rcases I.ok.y6 with e|⟨e,hf⟩
 .rw[e]at hb;exact fL _ hb
 .rw[e]at hb
  unfold lY at hb;rw[jr,hf]at hb;exact hb
theorem Inv.J8(I:Inv X pins σ H s):∀b∈lY X.stack,H b=none:=λb hb=>by
 rcases br.mp (I.CU b hb)with e|hb
 .rw[e];exact I.free
 .obtain⟨_,o,ho,_⟩:=I.ok.j0.mem hb
  exact I.base.free b o ho (I.ok.pU b hb) λz=>I.ok.vP b z hb
theorem Inv.step{g':Array GenState}{t':Nat}{d':Drawn}{ch:List Addr}(I:Inv X pins σ H s)
  (ny:∀b∈ch,(b∈X.ex\/X.gd.heap.objs.size<=b)/\ b≠X.env.locals/\ (∀x c,X.env.cells.lookup x=some c->c≠b)/\ ∀p∈X.pn++pins,p.1≠b)
  (keep:∀b o,b≠X.env.locals->b∉X.fs->b∉ch->s.heap.get? b=some o->H b=none->h'.get? b=some o)
  (slot:∀b o,b≠X.env.locals->b∈X.fs->b∉ch->s.heap.get? b=some o->H b=none->∃sl,h'.get? b=some {o with slots:=sl}) (free:∀b o,b∉ch->s.heap.get? b=some o->H b=none->H' b=none)
  (there:∀b o,b∉ch->s.heap.get? b=some o->∃o',h'.get? b=some o')
  (kR:∀b xs,H b=some (.tup xs)->H' b=some (.tup xs)) (jZ:∀b o u,H b=some (.fT o u)->H' b=some (.fT o u)) (kT:∀b ps,H b=some (.rm ps)->∃more,H' b=some (.rm (ps++more)))
  (ns:∀m,s.heap.Ns X.env.locals m->h'.Ns X.env.locals m) (aK:du X.prog X.w H' h') (hg:ND g'):
  Inv X pins σ H' {s with heap:=h',gens:=g',drawn:=d',toks:=t'}:=by
 have neL:∀b o,X.gd.heap.get? b=some o->b≠X.env.locals:=λb o e=>gE (iF (Heap.lt_size e) I.ok.above);have neC:∀b o,X.gd.heap.get? b=some o->b∉X.ex->b∉ch:=λb o e hx hb=>by
  rcases(ny b hb).1 with z|z
  .exact hx z
  .exact absurd (iF (Heap.lt_size e) z) (lG _)
 have cellK:∀x c,X.env.cells.lookup x=some c->∀v,s.heap.IsCell c v->h'.IsCell c v:=λx c e v ⟨o,ho,hd⟩=>by
  have nch:c∉ch:=λz=>(ny c z).2.2.1 x c e U;by_cases hc:c∈X.fs
  .obtain⟨sl,q⟩:=slot c o (I.rq x c e) hc nch ho (I.l9 x c e)
   exact⟨_,q,hd⟩
  .exact⟨o,keep c o (I.rq x c e) hc nch ho (I.l9 x c e),hd⟩
 refine⟨I.ok,I.os,hg,⟨λb o e n hb hx=>?_,λb o e n hb hx=>?_,λb o e n hx=>?_,λb o e hx=>?_,λb xs e=>kR b xs (I.base.kR b xs e),λb o xs e=>jZ b o xs (I.base.jZ b o xs e),λb ps e=>?_⟩,?_,λx c e=>?_,?_,λx c e=>?_,λp hp=>?_,aK,I.len⟩
 .exact keep b o (neL b o e) hb (neC b o e hx) (I.base.keep b o e n hb hx) (I.base.free b o e n hx)
 .obtain⟨sl,e1⟩:=I.base.slot b o e n hb hx
  obtain⟨CS,e2⟩:=slot b _ (neL b o e) hb (neC b o e hx) e1 (I.base.free b o e n hx);exact⟨CS,e2⟩
 .obtain⟨o',e1⟩:=I.base.there b o e hx
  exact free b o' (neC b o e hx) e1 (I.base.free b o e n hx)
 .obtain⟨o',e1⟩:=I.base.there b o e hx
  exact there b o' (neC b o e hx) e1
 .obtain⟨m1,e1⟩:=I.base.kT b ps e
  obtain⟨m2,e2⟩:=kT b _ e1;exact⟨m1++m2,by rw[e2,Array.append_assoc]⟩
 .obtain⟨m,hn,hl⟩:=I.loc
  refine⟨m,ns m hn,λi x v e1 e2 e3=>?_⟩;obtain⟨u,r,l⟩:=hl i x v e1 e2 e3;refine⟨u,r,?_⟩;rcases l with l|⟨k,c,e,z⟩
  .exact .inl l
  .exact .inr ⟨k,c,e,cellK x c e _ z⟩
 .obtain⟨v,z⟩:=I.cell x c e
  exact⟨v,cellK x c e v z⟩
 .obtain⟨m,⟨o,_,_,ho,_⟩,_⟩:=I.loc
  exact free _ o (λz=>(ny _ z).2.1 U) ho I.free
 .obtain⟨v,o,ho,hd⟩:=I.cell x c e
  exact free c o (λz=>(ny c z).2.2.1 x c e U) ho (I.l9 x c e)
 .obtain⟨e,n,ne,nf,d⟩:=I.pin p hp
  have nch:p.1∉ch:=λz=>(ny p.1 z).2.2.2 p hp U;exact⟨keep p.1 p.2 ne nf nch e n,free p.1 p.2 nch e n,ne,nf,d⟩
theorem Inv.un{t':Nat}(I:Inv X pins σ H s)(u:Un X.fs [] H H' s.heap h')(aK:du X.prog X.w H' h'):Inv X pins σ H' {s with heap:=h',toks:=t'}:=by
 obtain⟨m,⟨o,es,ep,ho,r⟩,_⟩:=id I.loc;obtain⟨sl,hL⟩:=u.any ho I.free (by simp);exact I.step (g':=s.gens) (d':=s.drawn) (ch:=[]) (λ_ z=>nomatch z) (λb o _ hb _ e n=>u.keep b o e n hb (by simp)) (λb o _ hb _ e n=>u.slot b o e n hb (by simp)) (λb o _ e n=>u.free b o e n (by simp)) (λb o _ e=>u.there b o e (by simp)) u.kR u.jZ u.kT (λm' hm=>by obtain⟨o',CV,CW,jA,r'⟩:=hm;rw[ho]at jA;cases jA;exact⟨_,CV,CW,hL,r'⟩) aK I.bare
theorem Inv.call{g':Array GenState}{t':Nat}{d':Drawn}{ch:List Addr}(I:Inv X pins σ H s)(u:Un (lY X.stack) ch H H' s.heap h')(aK:du X.prog X.w H' h')(hg:ND g')
  (ny:∀b∈ch,(b∈X.ex\/X.gd.heap.objs.size<=b)/\ b≠X.env.locals/\ (∀x c,X.env.cells.lookup x=some c->c≠b)/\ ∀p∈X.pn++pins,p.1≠b):
  Inv X pins σ H' {s with heap:=h',gens:=g',drawn:=d',toks:=t'}:=by
 obtain⟨m,⟨o,es,ep,ho,r⟩,_⟩:=id I.loc;obtain⟨sl,hL⟩:=u.any ho I.free λz=>(ny _ z).2.1 U;exact I.step (ch:=ch) ny (λb o hL hb hc e n=>u.keep b o e n (λz=>(br.mp (I.CU b z)).elim hL hb) hc) (λb o _ _ hc e n=>u.any e n hc) (λb o hc e n=>u.free b o e n hc) (λb o hc e=>u.there b o e hc) u.kR u.jZ u.kT (λm' hm=>by obtain⟨o',CV,CW,jA,r'⟩:=hm;rw[ho]at jA;cases jA;exact⟨_,CV,CW,hL,r'⟩) aK hg
theorem Inv.turned{t':Nat}{it:Addr}(I:Inv X pins σ H s)(k:∀b o,b≠it->s.heap.get? b=some o->h'.get? b=some o)(hn:H it=none)(hL:it≠X.env.locals)
  (h1:it∈X.ex\/X.gd.heap.objs.size<=it) (h2:∀x c,X.env.cells.lookup x=some c->c≠it) (h3:∀p∈X.pn++pins,p.1≠it):Inv X pins σ H {s with heap:=h',toks:=t'}:=by
 have nit:∀b u,H b=some u->b≠it:=λb u e z=>by rw[z,hn]at e;cases e
 refine I.step (g':=s.gens) (d':=s.drawn) (ch:=[it]) (λb hb=>?_) (λb o _ _ hc e _=>k b o (λz=>hc (by simp[z])) e) (λb o _ _ hc e _=>⟨o.slots,k b o (λz=>hc (by simp[z])) e⟩) (λ_ _ _ _ n=>n)
  (λb o hc e=>⟨o,k b o (λz=>hc (by simp[z])) e⟩) (λ_ _ e=>e) (λ_ _ _ e=>e) (λb ps e=>⟨#[],by rw[e];simp⟩) (λm hm=>?_) (λb u e=>?_) I.bare
 .have e:b=it:=by simpa using hb
  subst e;exact⟨h1,hL,h2,h3⟩
 .obtain⟨o,es,ep,ho,r⟩:=hm
  exact⟨o,es,ep,k _ o (Ne.symm hL) ho,r⟩
 .refine(I.aK b u e).rn (λc v hc q=>k c v ?_ q) (λ_ q=>q) λ_ _ q=>q
  rcases hc with z|z
  .rw[z];exact nit b u e
  .exact nit c _ z
theorem Inv.tok(I:Inv X pins σ H s)(t:Nat):Inv X pins σ H {s with toks:=t}:=I.un (h':=s.heap) (t':=t) Un.refl I.aK
theorem Inv.kept{t':Nat}(I:Inv X pins σ H s)(k:∀b u,s.heap.get? b=some u->h'.get? b=some u):Inv X pins σ H {s with heap:=h',toks:=t'}:=I.un (Un.kept k) (I.aK.kept k)
theorem Inv.laid{a:Addr}{o:HO}{t':Nat}(I:Inv X pins σ H s)(k:∀b u,s.heap.get? b=some u->h'.get? b=some u)(hp:s.heap.objs.size<=a)(new:dU X.prog X.w (upd H a o) h' a o):
  Inv X pins σ (upd H a o) {s with heap:=h',toks:=t'}:=I.un (Un.laid k hp (I.aK.fresh hp)) (I.aK.laid k hp new)
theorem Inv.write{x e:Addr}{o:HO}{t':Nat}(I:Inv X pins σ H s)(mu:vK (H x))(he:e=x\/H e=some (.own x))(k:∀b u,b≠e->s.heap.get? b=some u->h'.get? b=some u)(tR:∃u,h'.get? e=some u)
  (new:dU X.prog X.w (upd H x o) h' x o):Inv X pins σ (upd H x o) {s with heap:=h',toks:=t'}:=I.un (Un.write mu he k tR) (I.aK.write mu he k tR new)
theorem Inv.weak{σ':List (Option V)}(I:Inv X pins σ H s)(hl:σ'.length=σ.length)(w:∀(i:Nat) v,σ'[i]? =some (some v)->σ[i]? =some (some v)):Inv X pins σ' H s:=⟨I.ok,I.os,I.bare,I.base,let⟨m,hn,dH⟩:=I.loc;⟨m,hn,λi x v e1 e2 e3=>dH i x v e1 (w i v e2) e3⟩,I.cell,I.free,I.l9,I.pin,I.aK,hl.trans I.len⟩
theorem Inv.J9{pins':List (Addr×Obj)}(I:Inv X pins σ H s)(h:∀p∈pins',s.heap.get? p.1=some p.2/\ H p.1=none/\ p.1≠X.env.locals/\ p.1∉X.fs/\ ∀v,p.2.data≠ .cell v):Inv X pins' σ H s:=⟨I.ok,I.os,I.bare,I.base,I.loc,I.cell,I.free,I.l9,λp hp=>(c9.mp hp).elim (λz=>I.pin p (nZ _ z)) (h p),I.aK,I.len⟩
theorem CY{N:List Str}(hN:N.Nodup){i j:Nat}{x:Str}(a:N[i]? =some x)(b:N[j]? =some x):i=j:=by obtain⟨h1,e1⟩:=da.mp a;obtain⟨h2,e2⟩:=da.mp b;exact(x9 hN).mp (e1.trans e2.symm)
theorem J_{M:Model}{A:Mf}{E:cp->me->Prop}{i:Nat}{x:Str}{v:V}{u:cp}{Q:Unit->me->Prop}(I:Inv X pins σ H s)(hN:X.N.Nodup)(hi:X.N[i]? =some x)(hx:Loc X.env.scope x)(r:RelV v u)
  (h:∀s',Inv X pins (σ.set i (some v)) H s'->(∃a,Heap.SameBut a s.heap s'.heap/\ (a=X.env.locals\/X.env.cells.lookup x=some a))->Q () s') (hf:autoParam (X.fn x=true\/X.env.scope.names.lookup x=some .local) NF._auto_1):L3 M A (storeName X.env x u) Q E s:=by
 obtain⟨m,hn,hl⟩:=id I.loc;have UN:(X.env.scope.kind== .class||(X.env.scope.kind== .module&&X.env.locals !=X.env.globals))=false:=by rw[I.ok.kind];rfl
 have hiσ:i<σ.length:=by rw[I.len];exact(da.mp hi).1
 have rq:=I.rq;have tracked:∀{a:Addr} {h':Heap},(∃o,s.heap.get? a=some o/\ H a=none)->Heap.SameBut a s.heap h'->du X.prog X.w H h':=λ{a h'} ha hs b ob e=>by
  obtain⟨_,_,hfree⟩:=ha;refine(I.aK b ob e).rn (λc w' hc q=>(hs.2 c ?_).trans q) (λ_ q=>q) λ_ _ q=>q;rintro rfl;rcases hc with rfl|hc
  .rw[hfree]at e;cases e
  .rw[hfree]at hc;cases hc
 rcases hx with hk|hk
 .refine wpAny_storeName_local hk hn (λh' rA hs=>?_) UN
  obtain⟨oL,_,_,hoL,_⟩:=id hn;refine h _ ⟨I.ok,I.os,I.bare,⟨λb o e n hb hx=>?_,λb o e n hb hx=>?_,I.base.free,λb o e hx=>?_,I.base.kR,I.base.jZ,I.base.kT⟩,⟨_,rA,λj y v' e1 e2 e3=>?_⟩,λy c e=>?_,I.free,I.l9,λp hp=>?_,tracked ⟨oL,hoL,I.free⟩ hs,by simpa using I.len⟩ ⟨_,hs, .inl U⟩
  .exact(hs.2 b (gE (iF (Heap.lt_size e) I.ok.above))).trans (I.base.keep b o e n hb hx)
  .obtain⟨sl,e1⟩:=I.base.slot b o e n hb hx
   exact⟨sl,(hs.2 b (gE (iF (Heap.lt_size e) I.ok.above))).trans e1⟩
  .obtain⟨o',e1⟩:=I.base.there b o e hx
   exact⟨o',(hs.2 b (gE (iF (Heap.lt_size e) I.ok.above))).trans e1⟩
  .by_cases hj:j=i
   .subst hj
    rw[hi]at e1;cases e1;rw[oh hiσ]at e2;cases e2;exact⟨u,r, .inl ⟨hk,by simp⟩⟩
   .rw[n0 (Ne.symm hj)]at e2
    obtain⟨u',r',q⟩:=hl j y v' e1 e2 e3;refine⟨u',r',?_⟩;rcases q with⟨k,e⟩|⟨k,c,e,z⟩
    .refine .inl ⟨k,?_⟩
     have:y≠x:=λe=>hj (CY hN e1 (e▸hi));simp[this,e]
    .exact .inr ⟨k,c,e,z.sameBut hs (rq y c e)⟩
  .obtain⟨w',z⟩:=I.cell y c e
   exact⟨w',z.sameBut hs (rq y c e)⟩
  .obtain⟨e,n,ne,nf,d⟩:=I.pin p hp
   exact⟨(hs.2 p.1 ne).trans e,n,ne,nf,d⟩
 .have CZ:X.fn x=true:=by
   rcases hf with z|z
   .exact z
   .rw[z]at hk;cases hk
  obtain⟨c,hc⟩:=I.ok.has x (.inl hk);obtain⟨w',z⟩:=I.cell x c hc;refine wpAny_storeName_cell I.ok.kind hk hc z (λh' i_ hs=>?_);obtain⟨oc,J',UO⟩:=id z;refine h {s with heap:=h'} ⟨I.ok,I.os,I.bare,⟨λb o e n hb hx=>?_,λb o e n hb hx=>?_,I.base.free,λb o e hx=>?_,I.base.kR,I.base.jZ,I.base.kT⟩,⟨m,hn.sameBut hs (Ne.symm (rq x c hc)),λj y v' e1 e2 e3=>?_⟩,λy c' e=>?_,I.free,I.l9,λp hp=>?_,tracked ⟨oc,J',I.l9 x c hc⟩ hs,by simpa using I.len⟩ ⟨c,hs, .inr hc⟩
  .exact(hs.2 b (gE (iF (Heap.lt_size e) (I.ok.vN x c CZ hc)))).trans (I.base.keep b o e n hb hx)
  .obtain⟨sl,e1⟩:=I.base.slot b o e n hb hx
   exact⟨sl,(hs.2 b (gE (iF (Heap.lt_size e) (I.ok.vN x c CZ hc)))).trans e1⟩
  .obtain⟨o',e1⟩:=I.base.there b o e hx
   exact⟨o',(hs.2 b (gE (iF (Heap.lt_size e) (I.ok.vN x c CZ hc)))).trans e1⟩
  .by_cases hj:j=i
   .subst hj
    rw[hi]at e1;cases e1;rw[oh hiσ]at e2;cases e2;exact⟨u,r, .inr ⟨.inl hk,c,hc,i_⟩⟩
   .rw[n0 (Ne.symm hj)]at e2
    obtain⟨u',r',q⟩:=hl j y v' e1 e2 e3;refine⟨u',r',?_⟩;rcases q with q|⟨k,c',e,z'⟩
    .exact .inl q
    .refine .inr ⟨k,c',e,z'.sameBut hs ?_⟩
     rintro rfl;exact hj (CY hN e1 (I.ok.inj _ _ _ e hc▸hi))
  .by_cases tT:c'=c
   .subst tT;exact⟨_,i_⟩
   .obtain⟨w2,z2⟩:=I.cell y c' e
    exact⟨w2,z2.sameBut hs tT⟩
  .obtain⟨e,n,ne,nf,d⟩:=I.pin p hp
   refine⟨(hs.2 p.1 ?_).trans e,n,ne,nf,d⟩;intro q;rw[q,J']at e;have q':oc=p.2:=aM e;exact d w' (by rw[<-q'];exact UO)
theorem C0{M:Model}{A:Mf}{E:cp->me->Prop}{i:Nat}{x:Str}{v:V}{u:cp}{Q:Unit->me->Prop}(I:Inv X pins σ H s)(hN:X.N.Nodup)(hi:X.N[i]? =some x)(hx:Loc X.env.scope x)(r:RelV v u)
  (h:∀s',Inv X pins (σ.set i (some v)) H s'->Q () s') (hf:autoParam (X.fn x=true\/X.env.scope.names.lookup x=some .local) NF._auto_1):L3 M A (storeName X.env x u) Q E s:=
 J_ I hN hi hx r (λs' I' _=>h s' I') hf
theorem Inv.UP{s':me}{ch:List Addr}(I:Inv X pins σ H s)(ho:s'.os=s.os)(u:Un (lY X.stack) ch H H' s.heap s'.heap)(aK:du X.prog X.w H' s'.heap)(hg:ND s'.gens)
  (ny:∀b∈ch,(b∈X.ex\/X.gd.heap.objs.size<=b)/\ b≠X.env.locals/\ (∀x c,X.env.cells.lookup x=some c->c≠b)/\ ∀p∈X.pn++pins,p.1≠b):Inv X pins σ H' s':=by
 obtain⟨h',g',d',t',o'⟩:=s';have e:o'=s.os:=ho;subst e;exact I.call (g':=g') (t':=t') (d':=d') u aK hg ny
end
abbrev XK:=cp->Option Addr->Hp->Prop
abbrev St:=List (Option V)
abbrev VK:=V->Hp->Prop
abbrev TE:=St->Hp->VK->Prop
abbrev TT:=St->Hp->(Bool->Hp->Prop)->Prop
abbrev TA:=St->Hp->(List V->Hp->Prop)->Prop
structure Ends where
 nx:St->Hp->Prop
 rt:VK
 bk:St->Hp->Prop:=λ_ _=>False
 ct:St->Hp->Prop:=λ_ _=>False
abbrev TS:=Ends->St->Hp->Prop
inductive EP(X:Cx)(pins:List (Addr×Obj))(σ:St)(Q:VK)(u:cp)(s':me):Prop
 |mk (v:_) (H':_):Inv X pins σ H' s'->RelV v u->Q v H'->EP X pins σ Q u s'
def TP(X:Cx)(pins:List (Addr×Obj))(σ:St)(Q:Bool->Hp->Prop)(b:Bool)(s':me):Prop:=∃H',Inv X pins σ H' s'/\ Q b H'
inductive AP(X:Cx)(pins:List (Addr×Obj))(σ:St)(Q:List V->Hp->Prop)(us:List cp)(s':me):Prop
 |mk (vs:_) (H':_):Inv X pins σ H' s'->Vals vs us->Q vs H'->AP X pins σ Q us s'
def SP(X:Cx)(pins:List (Addr×Obj))(D:Ends)(f:Flow)(s':me):Prop:=
 match f with
 | .next=>∃σ' H',Inv X pins σ' H' s'/\ D.nx σ' H'
 | .brk=>∃σ' H',Inv X pins σ' H' s'/\ D.bk σ' H'
 | .cont=>∃σ' H',Inv X pins σ' H' s'/\ D.ct σ' H'
 | .ret u=>∃v σ' H',Inv X pins σ' H' s'/\ RelV v u/\ D.rt v H'
def PE(X:Cx)(e:Lj)(t:TE):Prop:=∀(pins:List (Addr×Obj)) (s:me) (σ:St) (H:Hp) (Q:VK),Inv X pins σ H s->t σ H Q->L3 (L1 X.prog X.w) X.A (L6 e X.env) (EP X pins σ Q) X.xe s
def PT(X:Cx)(e:Lj)(t:TT):Prop:=∀(pins:List (Addr×Obj)) (s:me) (σ:St) (H:Hp) (Q:Bool->Hp->Prop),Inv X pins σ H s->t σ H Q->L3 (L1 X.prog X.w) X.A (isTrue e X.env (L6 e X.env)) (TP X pins σ Q) X.xe s
def PW(X:Cx)(e:Lj)(t:TT):Prop:=∀(whole:Sem cp) (pins:List (Addr×Obj)) (s:me) (σ:St) (H:Hp) (Q:Bool->Hp->Prop),Inv X pins σ H s->t σ H Q->L3 (L1 X.prog X.w) X.A (isTrue e X.env whole) (TP X pins σ Q) X.xe s
theorem PW.pt{X:Cx}{e:Lj}{t:TT}(h:PW X e t):PT X e t:=h _
noncomputable def PA(X:Cx)(es:List Lj)(t:TA):Prop:=∀(pos:Pos) (pins:List (Addr×Obj)) (s:me) (σ:St) (H:Hp) (Q:List V->Hp->Prop),Inv X pins σ H s->t σ H Q->L3 (L1 X.prog X.w) X.A (spliced (Mw pos (Ma es X.env))) (AP X pins σ Q) X.xe s
def PS(X:Cx)(st:Stmt)(t:TS):Prop:=∀(pins:List (Addr×Obj)) (s:me) (σ:St) (H:Hp) (D:Ends),Inv X pins σ H s->t D σ H->L3 (L1 X.prog X.w) X.A (exec st X.env) (SP X pins D) X.xe s
def jB(X:Cx)(st:List Stmt)(t:TS):Prop:=∀(pins:List (Addr×Obj)) (s:me) (σ:St) (H:Hp) (D:Ends),Inv X pins σ H s->t D σ H->L3 (L1 X.prog X.w) X.A (execs st X.env) (SP X pins D) X.xe s
theorem aV{α:Type}{t:Sem α}{Q Q':α->me->Prop}{M:Model}{A:Mf}{E:cp->me->Prop}{s:me}(h:L3 M A t Q E s)(hQ:∀a s,Q a s->Q' a s):L3 M A t Q' E s:=M4 h hQ λ_ _ x=>x
end L2
namespace L2
open PySem PySem.Spec PyProof.Rows
section
variable{X:Cx}
inductive aY(i:Nat)(σ:St)(H:Hp)(Q:VK):Prop
 |mk (v:_):σ[i]? =some (some v)->Q v H->aY i σ H Q
def tC(v:V):TE:=λ_ H Q=>Q v H
theorem UQ{i:Nat}{x:Str}{pos:Pos}(hN:X.N[i]? =some x)(hv:tS X.env.scope x)(hd:autoParam ((x==("__debug__":Str))=false) Mp._auto_1)(kU:autoParam ((x==("__classdict__":Str))=false) Mp._auto_1):PE X (.Name x pos) (aY i):=by
 intro pins s σ H Q I h;obtain⟨v,e,h⟩:=h;obtain⟨m,hn,hl⟩:=I.loc;obtain⟨u,r,l⟩:=hl i x v hN e hv;have fin:EP X pins σ Q u s:=⟨v,H,I,r,h⟩
 rcases l with⟨hk,hm⟩|⟨hk,c,hc,hcell⟩
 .exact wpAny_Name (wpAny_loadName_local I.ok.kind hk hn hm fin) hd
 .rcases hk with hk|hk
  .exact wpAny_Name (wpAny_loadName_cell I.ok.kind hk hc hcell fin) hd
  .exact wpAny_Name (wpAny_loadName_free I.ok.kind hk hc hcell fin kU) hd
theorem ak{i j pos}:PE X (.Constant (.int i) j pos) (tC (.int i)):=λ_ _ _ H _ I h=>wpAny_Constant_int ⟨.int i,H,I.tok _,⟨_,U⟩,h⟩
theorem iP{b j pos}:PE X (.Constant (.bool b) j pos) (tC (.bl b)):=λ_ _ _ H _ I h=>Constant_bool ⟨.bl b,H,I,U,h⟩
theorem ja{j pos}:PE X (.Constant .none j pos) (tC .aO):=λ_ _ _ H _ I h=>Constant_none ⟨.aO,H,I,U,h⟩
theorem Ka{x j pos}:PE X (.Constant (.str x) j pos) (tC (.str x)):=λ_ _ _ H _ I h=>Calls.Constant_str ⟨.str x,H,I.tok _,⟨_,U⟩,h⟩
def Gl(X:Cx)(x:Str):Prop:=X.env.kindOf x=some .globalImplicit
theorem y9{E:cp->me->Prop}{pins:List (Addr×Obj)}{s:me}{σ:St}{H:Hp}{x:Str}{u:cp}{pos:Pos}{Q:cp->me->Prop}(I:Inv X pins σ H s)(hg:Gl X x)(hm:X.mg x=some u)(h:Q u s)
  (hd:autoParam ((x==("__debug__":Str))=false) Mp._auto_1):L3 (L1 X.prog X.w) X.A (L6 (.Name x pos) X.env) Q E s:=
 Calls.Name_function_global I.ok.kind hg (Calls.loadGlobal_global (by rw[I.ok.glob];exact I.mod.glob.keeps I.bk) hm h) hd
theorem oC{E:cp->me->Prop}{pins:List (Addr×Obj)}{s:me}{σ:St}{H:Hp}{x:Str}{u:cp}{pos:Pos}{Q:cp->me->Prop}(I:Inv X pins σ H s)(hg:Gl X x)(hm:X.mg x=none)(hv:MI x=some u)(h:Q u s)
  (hn:autoParam (x≠"__name__") Mp._auto_1) (hd:autoParam ((x==("__debug__":Str))=false) Mp._auto_1):L3 (L1 X.prog X.w) X.A (L6 (.Name x pos) X.env) Q E s:=by
 obtain⟨mb,h1,h2⟩:=I.mod.blt;exact Calls.Name_function_global I.ok.kind hg (Calls.loadGlobal_builtin (by rw[I.ok.glob];exact I.mod.glob.keeps I.bk) hm (by rw[I.ok.blt];exact h1.keeps I.bk) ((h2 x hn).trans hv) h) hd
theorem C1{x:Str}{v:V}{u:cp}{pos:Pos}(hg:Gl X x)(hm:X.mg x=some u)(r:RelV v u)(hd:autoParam ((x==("__debug__":Str))=false) Mp._auto_1):PE X (.Name x pos) (tC v):=λ_ _ _ H _ I h=>y9 I hg hm ⟨v,H,I,r,h⟩ hd
variable{a b:Lj}{ta tb:TE}{pos:Pos}
def PC(X:Cx)(op:CmpOp)(a b:Lj)(t:TE):Prop:=
 ∀(pins:List (Addr×Obj)) (s:me) (σ:St) (H:Hp) (Q:VK),Inv X pins σ H s->t σ H Q->
  L3 (L1 X.prog X.w) X.A (L6 a X.env) (λv s₁=>L3 (L1 X.prog X.w) X.A (L6 b X.env) (λu s₂=>L3 (L1 X.prog X.w) X.A (MA op v u) (EP X pins σ Q) X.xe s₂) X.xe s₁) X.xe s
theorem UR(b:Lj){op:CmpOp}(h:op≠ .In)(h2:op≠ .NotIn):M_ op b=false:=by
 have e1:(op==CmpOp.In)=false:=by cases op<;>first|rfl|exact absurd U h
 have e2:(op==CmpOp.NotIn)=false:=by cases op<;>first|rfl|exact absurd U h2
 cases b<;>simp[M_,e1,e2]
inductive j3(Q:Bool->Hp->Prop)(x:V)(H1:Hp):Prop
 |mk (c:_):x= .bl c->Q c H1->j3 Q x H1
def tB(t:TE):TT:=λσ H Q=>t σ H λx H1=>j3 Q x H1
theorem Kb{op:CmpOp}{t:TE}(h:PC X op a b t)(h1:autoParam (M_ op b=false) af6._auto_1):PT X (.Compare a [op] [b] pos) (tB t):=by intro pins s σ H Q I hw;refine wpAny_isTrue_Compare1 (aV (h pins s σ H _ I hw) λv s1 h1=>aV h1 λu s2 h2=>aV h2 λc s3 ⟨x,H1,I1,r1,q1⟩=>?_) h1;obtain⟨d,rfl,q⟩:=q1;cases r1;exact M' ⟨H1,I1,q⟩
theorem dC{e:Lj}{t:TE}(h:PE X e t)(he:autoParam (∀whole,isTrue e X.env whole=(do let v<-whole;standAt e.pos;Nl [v] (truthy v))) abx._auto_1):PT X e (tB t):=by intro pins s σ H Q I hw;refine isTrue_plain (aV (h pins s σ H _ I hw) λv s1 ⟨x,H1,I1,r1,q1⟩=>?_) (he _);obtain⟨d,rfl,q⟩:=q1;cases r1;exact M' ⟨H1,I1,q⟩
variable{tA y_:TT}{rest:List Lj}
def Kc(t u:TT):TT:=λσ H Q=>t σ H λc H1=>if c=true then u σ H1 Q else Q false H1
def US(t u:TT):TT:=λσ H Q=>t σ H λc H1=>if c=true then Q true H1 else u σ H1 Q
def Kd(t:TT):TT:=λσ H Q=>t σ H λc H1=>Q (!c) H1
theorem tU(ha:PT X a tA):PW X (.BoolOp .And [a] pos) tA:=by
 intro wh pins s σ H Q I h;refine isTrue_and (aV (ha pins s σ H Q I h) λc s1 e=>?_);cases c with
 |true=>exact isTrue_and_nil e
 |false=>exact e
theorem oE(ha:PT X a tA):PW X (.BoolOp .Or [a] pos) tA:=by
 intro wh pins s σ H Q I h;refine isTrue_or (aV (ha pins s σ H Q I h) λc s1 e=>?_);cases c with
 |false=>exact isTrue_or_nil e
 |true=>exact e
theorem tV(ha:PT X a tA)(hb:PW X (.BoolOp .And (b::rest) pos) y_):PW X (.BoolOp .And (a::b::rest) pos) (Kc tA y_):=by
 intro wh pins s σ H Q I h;refine isTrue_and (aV (ha pins s σ H _ I h) λc s1 ⟨H1,I1,q1⟩=>?_);cases c with
 |true=>exact hb wh pins s1 σ H1 Q I1 q1
 |false=>exact⟨H1,I1,q1⟩
theorem kW(ha:PT X a tA)(hb:PW X (.BoolOp .Or (b::rest) pos) y_):PW X (.BoolOp .Or (a::b::rest) pos) (US tA y_):=by
 intro wh pins s σ H Q I h;refine isTrue_or (aV (ha pins s σ H _ I h) λc s1 ⟨H1,I1,q1⟩=>?_);cases c with
 |true=>exact⟨H1,I1,q1⟩
 |false=>exact hb wh pins s1 σ H1 Q I1 q1
theorem ij(ha:PT X a tA):PT X (.UnaryOp .Not a pos) (Kd tA):=by intro pins s σ H Q I h;exact isTrue_not (ha pins s σ H (λc H1=>Q (!c) H1) I h)
def UT(ta tb:TE):TE:=λσ H Q=>ta σ H λx H1=>∃c,x= .bl c/\ if c=true then tb σ H1 Q else Q (.bl false) H1
def UU(ta tb:TE):TE:=λσ H Q=>ta σ H λx H1=>∃c,x= .bl c/\ if c=true then Q (.bl true) H1 else tb σ H1 Q
theorem rB{op}{t:TE}(h:PE X a t):PE X (.BoolOp op [a] pos) t:=λpins s σ H Q I hw=>BoolOp_one (h pins s σ H Q I hw)
theorem vQ(ha:PE X a ta)(hb:PE X (.BoolOp .And (b::rest) pos) tb):PE X (.BoolOp .And (a::b::rest) pos) (UT ta tb):=by
 intro pins s σ H Q I h;refine BoolOp_and (aV (ha pins s σ H _ I h) λv s1 ⟨x,H1,I1,r1,q1⟩=>?_);obtain⟨c,rfl,q1⟩:=q1;cases r1;refine M' ?_;cases c with
 |true=>exact hb pins s1 σ H1 Q I1 q1
 |false=>exact⟨.bl false,H1,I1,U,q1⟩
theorem Ke(ha:PE X a ta)(hb:PE X (.BoolOp .Or (b::rest) pos) tb):PE X (.BoolOp .Or (a::b::rest) pos) (UU ta tb):=by
 intro pins s σ H Q I h;refine BoolOp_or (aV (ha pins s σ H _ I h) λv s1 ⟨x,H1,I1,r1,q1⟩=>?_);obtain⟨c,rfl,q1⟩:=q1;cases r1;refine M' ?_;cases c with
 |false=>exact hb pins s1 σ H1 Q I1 q1
 |true=>exact⟨.bl true,H1,I1,U,q1⟩
def rC(t:TT)(ta tb:TE):TE:=λσ H Q=>t σ H λc H1=>if c=true then ta σ H1 Q else tb σ H1 Q
theorem kX{c:Lj}(hc:PT X c tA)(ha:PE X a ta)(hb:PE X b tb):PE X (.IfExp c a b pos) (rC tA ta tb):=by
 intro pins s σ H Q I h;refine wpAny_IfExp (aV (hc pins s σ H _ I h) λd s1 ⟨H1,I1,q1⟩=>?_);cases d with
 |true=>exact ha pins s1 σ H1 Q I1 q1
 |false=>exact hb pins s1 σ H1 Q I1 q1
end
end L2
namespace L2
open PySem PySem.Spec PyProof.Rows
def ab(K:FU)(H:Hp)(a:Addr)(xs:List V):Prop:=
 Rd H a (.lst xs)\/
  ∃(o:Obj) (ai:Array cp) (n:Nat),K.lookup a=some o/\ o.cls= .type "list"/\ o.dict=none/\ o.data= .seq ai n/\ ai.size<=sizeLine/\ Vals xs ai.toList
def bx(K:FU)(H:Hp)(a:Addr)(xs:List V):Prop:=
 Rd H a (.tup xs)\/
  ∃(o:Obj) (ai:Array cp) (n:Nat),K.lookup a=some o/\ o.cls= .type "tuple"/\ o.data= .seq ai n/\ ai.size<=sizeLine/\ Vals xs ai.toList
noncomputable def UW:cp->Option V
 | .none=>some .aO
 | .bool b=>some (.bl b)
 | .int i _=>some (.int i)
 | .str x _=>some (.str x)
 | .bytes b _=>some (.iN b)
 | .float b _=>some (.flt b)
 | .ref a=>some (.ref a)
 | .type n=>some (.ty n)
 |_=>none
theorem RelV.abs{x:V}{u:cp}(r:RelV x u):UW u=some x:=by
 cases x with
 |aO|bl _=>cases r;rfl
 |int _|str _|iN _|flt _=>obtain⟨t,rfl⟩:=r;rfl
 |ref _|ty _=>cases r;rfl
theorem RelV.inj{x y:V}{u:cp}(r:RelV x u)(q:RelV y u):x=y:=aM (r.abs.symm.trans q.abs)
theorem Vals.inj:∀{xs ys:List V} {us:List cp},Vals xs us->Vals ys us->xs=ys
 |_,_,_, .nil, .nil=>rfl
 |_,_,_, .cons r t, .cons r' t'=>by rw[r.inj r',Vals.inj t t']
section
variable{X:Cx}{pins:List (Addr×Obj)}{σ:St}{H:Hp}{s:me}{a:Addr}{xs ys:List V}
theorem ab.of{K:FU}(h:H a=some (.lst xs)):ab K H a xs:= .inl (.inl h)
theorem bx.of{K:FU}(h:H a=some (.tup xs)):bx K H a xs:= .inl (.inl h)
theorem Inv.list(I:Inv X pins σ H s)(h:ab X.K H a xs):∃ai:List cp,Vals xs ai/\ PlainL s.heap a ai.toArray/\ xs.length<=sizeLine:=by
 rcases h with h|⟨o,ai,n,hk,hc,hd,hs,hz,r⟩
 .obtain⟨z,ai,n,r,e⟩:=h.ok I.aK
  exact⟨ai,r,⟨_,n,e,U,U,U⟩,z⟩
 .refine⟨ai.toList,r,⟨o,n,I.i9 a o hk,hc,hd,by simpa using hs⟩,?_⟩
  have e:=r.length;simp only[afL]at e;lia
theorem Inv.tuple(I:Inv X pins σ H s)(h:bx X.K H a xs):∃ai:List cp,Vals xs ai/\ IsTup s.heap a ai.toArray/\ xs.length<=sizeLine:=by
 rcases h with h|⟨o,ai,n,hk,hc,hs,hz,r⟩
 .obtain⟨z,ai,r,p⟩:=h.ok I.aK
  exact⟨ai,r,p,z⟩
 .refine⟨ai.toList,r,⟨o,I.i9 a o hk,hc,n,by simpa using hs⟩,?_⟩
  have e:=r.length;simp only[afL]at e;lia
theorem Inv.vR(I:Inv X pins σ H s)(h:ab X.K H a xs)(h':ab X.K H a ys):xs=ys:=by
 obtain⟨ai,r,⟨o,n,e,_,_,d⟩,_⟩:=I.list h;obtain⟨its',r',⟨o',n',e',_,_,d'⟩,_⟩:=I.list h';rw[e]at e';cases e';rw[d]at d';injection d' with d1 _;have:ai=its':=by simpa using congrArg Array.toList d1
 subst this;exact r.inj r'
end
noncomputable abbrev Cx.kY(X:Cx)(E:cp->me->Prop):Cx:={X with xe:=E}
noncomputable abbrev Cx.oF(X:Cx):Cx:=X.kY λ_ _=>False
theorem Cx.Ok.kY{X:Cx}(ok:X.Ok)(E:cp->me->Prop):(X.kY E).Ok:=⟨ok.mod,ok.kind,ok.glob,ok.blt,ok.above,ok.inj,ok.has,ok.vN,ok.hd,ok.frames,ok.y6,ok.y8,ok.bs,ok.lZ,ok.vO,ok.vP,ok.j0,ok.pU⟩
theorem Cx.Ok.pV{X:Cx}{E:cp->me->Prop}(ok:(X.kY E).Ok):X.Ok:=⟨ok.mod,ok.kind,ok.glob,ok.blt,ok.above,ok.inj,ok.has,ok.vN,ok.hd,ok.frames,ok.y6,ok.y8,ok.bs,ok.lZ,ok.vO,ok.vP,ok.j0,ok.pU⟩
section
variable{X:Cx}{pins:List (Addr×Obj)}{σ:St}{H:Hp}{s:me}{E:cp->me->Prop}
theorem Inv.kY(I:Inv X pins σ H s)(E:cp->me->Prop):Inv (X.kY E) pins σ H s:=⟨I.ok.kY E,I.os,I.bare,I.base,I.loc,I.cell,I.free,I.l9,I.pin,I.aK,I.len⟩
theorem Inv.pV(I:Inv (X.kY E) pins σ H s):Inv X pins σ H s:=⟨I.ok.pV,I.os,I.bare,I.base,I.loc,I.cell,I.free,I.l9,I.pin,I.aK,I.len⟩
theorem SP.pV{D:Ends}{f:Flow}{s':me}(h:SP (X.kY E) pins D f s'):SP X pins D f s':=by
 cases f with
 |next|brk|cont=>obtain⟨σ',H',I,q⟩:=h;exact⟨σ',H',I.pV,q⟩
 |ret u=>obtain⟨v,σ',H',I,r,q⟩:=h;exact⟨v,σ',H',I.pV,r,q⟩
theorem jB.oF{st:List Stmt}{t:TS}(h:jB X.oF st t):jB X st t:=λpins s σ H D I hw=>M4 (h pins s σ H D (I.kY _) hw) (λ_ _ q=>q.pV) λ_ _ z=>False.elim z
end
section
variable{X:Cx}{st:Stmt}{rest:List Stmt}{t u:TS}{e:Lj}{te:TE}{pos:Pos}
def iQ:TS:=λD σ H=>D.nx σ H
noncomputable def UX(D:Ends)(f:St->Hp->Prop):Ends:={D with nx:=f}
def fA(t u:TS):TS:=λD σ H=>t (UX D (u D)) σ H
theorem bt:jB X [] iQ:=λ_ _ σ H _ I h=>abW ⟨σ,H,I,h⟩
theorem af(h1:PS X st t)(h2:jB X rest u):jB X (st::rest) (fA t u):=by
 intro pins s σ H D I h;refine wpAny_execs_cons (aV (h1 pins s σ H {D with nx:=u D} I h) λf s1 q=>?_);cases f with
 |next=>obtain⟨σ',H',I',q⟩:=q;exact h2 pins s1 σ' H' D I' q
 |ret v|brk|cont=>exact q
theorem ag(h1:PS X st t):jB X [st] t:=by
 intro pins s σ H D I h;refine wpAny_execs_cons (aV (h1 pins s σ H D I h) λf s1 q=>?_);cases f with
 |next=>exact abW q
 |ret v|brk|cont=>exact q
theorem Inv.quiet{pins:List (Addr×Obj)}{σ:St}{H:Hp}{s:me}(I:Inv X pins σ H s):interactive X.env=false:=by simp[interactive,I.ok.kind]
def za(te:TE):TS:=λD σ H=>te σ H λ_ H1=>D.nx σ H1
theorem bF(he:PE X e te)(hs:autoParam (Na e none pos.line X.env=pure false) L'._auto_1):PS X (.Expr e pos) (za te):=by intro pins s σ H D I h;exact wpAny_Expr_any (aV (he pins s σ H _ I h) λv s1 ⟨x,H1,I1,r1,q1⟩=>⟨σ,H1,I1,q1⟩) I.quiet hs
def jC(te:TE):TS:=λD σ H=>te σ H D.rt
theorem aB(he:PE X e te):PS X (.Return (some e) pos) (jC te):=by intro pins s σ H D I h;exact wpAny_Return_some (aV (he pins s σ H _ I h) λv s1 ⟨x,H1,I1,r1,q1⟩=>⟨x,σ,H1,I1,r1,q1⟩)
def rD(c:TT)(t u:TS):TS:=λD σ H=>c σ H λb H1=>if b=true then t D σ H1 else u D σ H1
theorem a9{c:Lj}{a b:List Stmt}{tc:TT}(hc:PT X c tc)(ha:jB X a t)(hb:jB X b u):PS X (.If c a b pos) (rD tc t u):=by
 intro pins s σ H D I h;refine wpAny_If (aV (hc pins s σ H _ I h) λd s1 ⟨H1,I1,q1⟩=>?_);cases d with
 |true=>exact ha pins s1 σ H1 D I1 q1
 |false=>exact hb pins s1 σ H1 D I1 q1
end
abbrev TG:=V->St->Hp->(St->Hp->Prop)->Prop
abbrev rE:=List V->St->Hp->(St->Hp->Prop)->Prop
def PG(X:Cx)(target:Lj)(t:TG):Prop:=
 ∀(pins:List (Addr×Obj)) (s:me) (σ:St) (H:Hp) (v:V) (u:cp) (Q:St->Hp->Prop),Inv X pins σ H s->RelV v u->t v σ H Q->
  L3 (L1 X.prog X.w) X.A (assign target X.env u) (λ_ s'=>∃σ' H',Inv X pins σ' H' s'/\ Q σ' H') X.xe s
def vS(X:Cx)(ts:List Lj)(t:rE):Prop:=
 ∀(pins:List (Addr×Obj)) (s:me) (σ:St) (H:Hp) (vs:List V) (us:List cp) (Q:St->Hp->Prop),Inv X pins σ H s->Vals vs us->t vs σ H Q->
  L3 (L1 X.prog X.w) X.A (assignInOrder ((Nm ts X.env).map (·.2)) us) (λ_ s'=>∃σ' H',Inv X pins σ' H' s'/\ Q σ' H') X.xe s
abbrev C2:=V->V->V->Hp->(Hp->Prop)->Prop
def Kf(X:Cx)(t:C2):Prop:=
 ∀(pins:List (Addr×Obj)) (s:me) (σ:St) (H:Hp) (o i v:V) (ov iv u:cp) (Q:Hp->Prop),Inv X pins σ H s->RelV o ov->RelV i iv->RelV v u->t o i v H Q->
  L3 (L1 X.prog X.w) X.A (setItem ov iv u) (λ_ s'=>∃H',Inv X pins σ H' s'/\ Q H') X.xe s
abbrev C3:=V->V->Hp->VK->Prop
def UY(X:Cx)(op:Operator)(t:C3):Prop:=
 ∀(pins:List (Addr×Obj)) (s:me) (σ:St) (H:Hp) (x y:V) (v u:cp) (Q:VK),Inv X pins σ H s->RelV x v->RelV y u->t x y H Q->
  L3 (L1 X.prog X.w) X.A (abw op v u) (EP X pins σ Q) X.xe s
section
variable{X:Cx}{pos:Pos}
def ik(i:Nat):TG:=λv σ H Q=>Q (σ.set i (some v)) H
theorem UZ{i:Nat}{x:Str}(hN:X.N.Nodup)(hi:X.N[i]? =some x)(hx:Loc X.env.scope x)(hf:autoParam (X.fn x=true\/X.env.scope.names.lookup x=some .local) NF._auto_1):PG X (.Name x pos) (ik i):=by intro pins s σ H v u Q I r h;exact wpAny_assign_Name (C0 I hN hi hx r (λs' I'=>⟨_,H,I',h⟩) hf)
def zb:rE:=λvs σ H Q=>vs=[]/\ Q σ H
inductive pW(t:TG)(u:rE)(vs:List V)(σ:St)(H:Hp)(Q:St->Hp->Prop):Prop
 |mk (v:_) (r:_):vs=v::r->(t v σ H λσ' H'=>u r σ' H' Q)->pW t u vs σ H Q
theorem tW:vS X [] zb:=by intro pins s σ H vs us Q I r h;obtain⟨e,h⟩:=h;subst e;cases r;exact assignInOrder_nil ⟨σ,H,I,h⟩
theorem kZ{e:Lj}{es:List Lj}{t:TG}{u:rE}(h1:PG X e t)(h2:vS X es u)
  (hs:autoParam ((Nm (e::es) X.env).map (·.2)=assign e X.env::(Nm es X.env).map (·.2)) L'._auto_1):vS X (e::es) (pW t u):=by
 intro pins s σ H vs us Q I r h;obtain⟨v,vr,e1,h⟩:=h;subst e1;cases r with
 |cons r rr=>rw[hs];refine assignInOrder_cons (aV (h1 pins s σ H _ _ _ I r h) λ_ s1 ⟨σ1,H1,I1,q1⟩=>?_);exact h2 pins s1 σ1 H1 _ _ Q I1 rr q1
inductive tX(K:FU)(n:Nat)(t:rE)(v:V)(σ:St)(H:Hp)(Q:St->Hp->Prop):Prop
 |mk (a:_) (xs:_):v= .ref a->bx K H a xs->xs.length=n->t xs σ H Q->tX K n t v σ H Q
theorem C4{es:List Lj}{k:Nat}{t:rE}{n:Nat}(hc:X.calm=true)(h:vS X es t)
  (hn:autoParam ((Nm es X.env).length=n) L'._auto_1) (cD:autoParam ((Nm es X.env).findIdx? (·.1)=none) L'._auto_1):PG X (.Tuple es k pos) (tX X.K n t):=by
 intro pins s σ H v u Q I r hw;obtain⟨a,xs,e1,hq,hl,hw⟩:=hw;subst e1;cases r;obtain⟨ai,rv,ht,hz⟩:=I.tuple hq;refine assign_Tuple_tuple (I.ok.hd hc) ht (by simp[hn,<-hl,rv.length]) cD λh' hx=>?_;have I1:Inv X pins σ H {s with heap:=h'}:=I.kept (t':=s.toks) λb o e=>hx b o (gE (Heap.lt_size e)) e;exact h pins _ σ H xs _ Q I1 (by simpa using rv) hw
def U0(to ti:TE)(t:C2):TG:=λv σ H Q=>to σ H λo H1=>ti σ H1 λi H2=>t o i v H2 λH3=>Q σ H3
theorem tY{o i:Lj}{to ti:TE}{t:C2}(ho:PE X o to)(hi:PE X i ti)(hs:Kf X t)
  (ha:autoParam (∀v,assign (.Subscript o i pos) X.env v=(do
   let ov<-Nl [v] (L6 o X.env);let iv<-Nl [v,ov] (L6 i X.env)
   standAt pos
   Nl [v,ov,iv] (setItem ov iv v)
   release [v,ov,iv] [])) abx._auto_1):PG X (.Subscript o i pos) (U0 to ti t):=by
 intro pins s σ H v u Q I r h;rw[ha];refine Mn (abY (aV (ho pins s σ H _ I h) λov s1 ⟨x,H1,I1,r1,q1⟩=>?_));refine Mn (abY (aV (hi pins s1 σ H1 _ I1 q1) λiv s2 ⟨y,H2,I2,r2,q2⟩=>?_));refine Mn (wpAny_standAt (Mn (abY (aV (hs pins s2 σ H2 x y v ov iv u _ I2 r1 r2 r q2) λ_ s3 ⟨H3,I3,q3⟩=>?_))));exact wpAny_release ⟨σ,H3,I3,q3⟩
def oG(te:TE)(g:TG):TS:=λD σ H=>te σ H λx H1=>g x σ H1 D.nx
theorem tZ{tg e:Lj}{te:TE}{g:TG}(he:PE X e te)(hg:PG X tg g)(hs:autoParam (swapsWithSole [tg] e pos.line X.env=pure false) L'._auto_1)(hw:autoParam (swappedStores [tg] e X.env=pure none) L'._auto_1)
  (h1:autoParam ((Nm [tg] X.env).map (·.2)=[assign tg X.env]) L'._auto_1):PS X (.Assign [tg] e pos) (oG te g):=by
 intro pins s σ H D I h;refine wpAny_Assign_stores (aV (he pins s σ H _ I h) λv s1 ⟨x,H1,I1,r1,q1⟩=>?_) hs hw;rw[h1];exact aV (hg pins s1 σ H1 x v _ I1 r1 q1) λ_ s2 q=>q
theorem U1{i:Nat}{x:Str}{e:Lj}{te:TE}{pos':Pos}(hN:X.N.Nodup)(hi:X.N[i]? =some x)(hx:Loc X.env.scope x)(he:PE X e te)(hs:autoParam (Na e (some (.Name x pos')) pos.line X.env=pure false) L'._auto_1)(hf:autoParam (X.fn x=true\/X.env.scope.names.lookup x=some .local) NF._auto_1):
  PS X (.Assign [.Name x pos'] e pos) (oG te (ik i)):=by
 intro pins s σ H D I h;refine wpAny_Assign_Name (aV (he pins s σ H _ I h) λv s1 ⟨y,H1,I1,r1,q1⟩=>?_) hs;exact C0 I1 hN hi hx r1 (λs2 I2=>⟨_,H1,I2,q1⟩) hf
def Kg(i:Nat)(te:TE)(ti:C3):TS:=λD σ H=>∃x,σ[i]? =some (some x)/\ te σ H λy H1=>ti x y H1 λz H2=>D.nx (σ.set i (some z)) H2
theorem vT{i:Nat}{x:Str}{e:Lj}{te:TE}{op:Operator}{ti:C3}{pos':Pos}(hN:X.N.Nodup)(hi:X.N[i]? =some x)(hx:Loc X.env.scope x)(he:PE X e te)(ho:UY X op ti)(hf:autoParam (X.fn x=true\/X.env.scope.names.lookup x=some .local) NF._auto_1):
  PS X (.AugAssign (.Name x pos') op e pos) (Kg i te ti):=by
 intro pins s σ H D I h;obtain⟨v,e1,h⟩:=h;obtain⟨m,hn,hl⟩:=I.loc;have vis:tS X.env.scope x:=by rcases hx with k|k;exact .inl k;exact .inr (.inl k)
 obtain⟨u,r,l⟩:=hl i x v hi e1 vis;refine wpAny_AugAssign_Name ?_;have go:L3 (L1 X.prog X.w) X.A (L6 e X.env) (λw s₂=>L3 (L1 X.prog X.w) X.A (abw op u w) (λr s₃=>L3 (L1 X.prog X.w) X.A (storeName X.env x r) (λ_=>SP X pins D .next) X.xe s₃) X.xe s₂) X.xe s:=by refine aV (he pins s σ H _ I h) λw s1 ⟨y,H1,I1,r1,q1⟩=>?_;refine aV (ho pins s1 σ H1 v y u w _ I1 r r1 q1) λz s2 ⟨zv,H2,I2,r2,q2⟩=>?_;exact C0 I2 hN hi hx r2 (λs3 I3=>⟨_,H2,I3,q2⟩) hf
 rcases l with⟨hk,hm⟩|⟨hk,c,hc,hcell⟩
 .exact wpAny_loadName_local I.ok.kind hk hn hm go
 .rcases hk with hk|hk
  .exact wpAny_loadName_cell I.ok.kind hk hc hcell go
  .rcases hx with k|k
   .have:X.env.scope.names.lookup x=some .free:=hk
    rw[k]at this;cases this
   .have:X.env.scope.names.lookup x=some .free:=hk
    rw[k]at this;cases this
end
section
variable{X:Cx}{pos:Pos}
def MV(D:Ends)(N:St->Hp->Prop):Ends:={D with nx:=N,ct:=N,bk:=D.nx}
inductive MO(W:Nat->St->Hp->Prop)(m:Nat)(σ:St)(H:Hp):Prop
 |mk (m':Nat):m'<m->W m' σ H->MO W m σ H
inductive Kh(c:TT)(tb:TS)(D:Ends)(σ:St)(H:Hp):Prop
 |mk (W:Nat->St->Hp->Prop):(∃m,W m σ H)->(∀m σ H,W m σ H->c σ H λb H1=>if b=true then tb (MV D (MO W m)) σ H1 else D.nx σ H1)->Kh c tb D σ H
theorem j4{c:Lj}{body:List Stmt}{tc:TT}{tb:TS}(hp:PassesOwn (L1 X.prog X.w) X.A X.env X.xe)(hc:PT X c tc)(hb:jB X body tb):PS X (.While c body [] pos) (Kh tc tb):=by
 intro pins s σ H D I h;obtain⟨W,⟨m0,w0⟩,turn⟩:=h;refine wpAny_While (codeAny_whileLoop (λn s'=>∃σ' H',Inv X pins σ' H' s'/\ W n σ' H') ?_ m0 ⟨σ,H,I,w0⟩);rintro n s1 ⟨σ1,H1,I1,w1⟩;refine Nw hp (aV (hc pins s1 σ1 H1 _ I1 (turn n σ1 H1 w1)) λb s2 ⟨H2,I2,q2⟩=>?_);cases b with
 |true=>
  replace q2:tb (MV D (MO W n)) σ1 H2:=q2;rw[aI U];refine Nw hp (aV (hb pins s2 σ1 H2 _ I2 q2) λf s3 q3=>?_);cases f with
  |next|cont=>obtain⟨σ3,H3,I3,n3⟩:=q3;obtain⟨m',hm,w3⟩:=n3;exact⟨m',hm,σ3,H3,I3,w3⟩
  |brk|ret v=>exact q3
 |false=>rw[ay gn];exact abW ⟨σ1,H2,I2,q2⟩
end
structure It where
 go:Nat->Hp->Prop
 j5:Nat->Hp->V->Hp->Prop
 stop:Nat->Hp->Prop
def j6(X:Cx)(pins:List (Addr×Obj))(H:Hp)(b:Addr):Prop:=H b=none/\ b≠X.env.locals/\ b∉X.fs/\ (b∈X.ex\/X.gd.heap.objs.size<=b)/\ (∀x c,X.env.cells.lookup x=some c->c≠b)/\ ∀p∈X.pn++pins,p.1≠b
theorem Inv.rH{X:Cx}{pins:List (Addr×Obj)}{σ:St}{H H':Hp}{s:me}{b:Addr}(I:Inv X pins σ H s)(hb:s.heap.objs.size<=b)(hn:H' b=none):j6 X pins H' b:=by
 refine⟨hn,ada (iF I.lt hb),I.UM hb, .inr (c_ I.sz hb),λx c e z=>?_,λp hp z=>?_⟩
 .obtain⟨v,q⟩:=I.cell x c e
  exact absurd (iF q.lt (by rw[z];exact hb)) (lG _)
 .exact absurd (iF (Heap.lt_size (I.pin p hp).1) (by rw[z];exact hb)) (lG _)
structure Turn(P:Mb)(w:L9)(K:FU)(tg:Lj)(J:It)(fp:List Addr)(it:Addr)(tn:Nat->Heap->Prop):Prop where
 mem:it∈fp
 obj:∀i h,tn i h->∀b∈fp,∃o,h.get? b=some o/\ ∀v,o.data≠ .cell v
 keep:∀i h h',tn i h->(∀b∈fp,∀o,h.get? b=some o->h'.get? b=some o)->tn i h'
 item:∀(X:Cx),X.prog=P->X.w=w->X.K=K->X.calm=true->∀(i:Nat) (pins:List (Addr×Obj)) (s:me) (σ:St) (H:Hp) (E:cp->me->Prop),Inv X pins σ H s->(∀b∈fp,j6 X pins H b)->tn i s.heap->J.go i H->
  L3 (L1 P w) X.A (pyNext (.ref it)) (λr s1=>∃u,r=some u/\
   L3 (L1 P w) X.A (abZ tg (.ref it) u) (λ_ s2=>∃x H',Inv X pins σ H' s2/\ RelV x u/\ J.j5 i H x H'/\ tn (i+1) s2.heap/\ ∀b∈fp,H' b=none) E s1) E s
 done:∀(X:Cx),X.prog=P->X.w=w->X.K=K->X.calm=true->∀(i:Nat) (pins:List (Addr×Obj)) (s:me) (σ:St) (H:Hp) (E:cp->me->Prop),Inv X pins σ H s->(∀b∈fp,j6 X pins H b)->tn i s.heap->J.stop i H->
  L3 (L1 P w) X.A (pyNext (.ref it)) (λr s1=>r=none/\ Inv X pins σ H s1) E s
 self:∀(A:Mf) (i:Nat) (s:me) (Q:cp->me->Prop) (E:cp->me->Prop),tn i s.heap->Q (.ref it) s->L3 (L1 P w) A (pyIter (.ref it)) Q E s
abbrev TI:=St->Hp->(It->Hp->Prop)->Prop
def C5(X:Cx)(pins:List (Addr×Obj))(σ:St)(tg:Lj)(R:It->Hp->Prop)(itv:cp)(s2:me):Prop:=∃(it:Addr) (fp:List Addr) (tn:Nat->Heap->Prop) (J:It) (H':Hp),itv= .ref it/\ Inv X pins σ H' s2/\ Turn X.prog X.w X.K tg J fp it tn/\ tn 0 s2.heap/\ (∀b∈fp,j6 X pins H' b)/\ R J H'
def PI(X:Cx)(tg iter:Lj)(wi:TI):Prop:=
 ∀(pins:List (Addr×Obj)) (s:me) (σ:St) (H:Hp) (R:It->Hp->Prop),Inv X pins σ H s->wi σ H R->
  L3 (L1 X.prog X.w) X.A (L6 iter X.env) (λv s1=>L3 (L1 X.prog X.w) X.A (pyIter v) (C5 X pins σ tg R) X.xe s1) X.xe s
theorem vU{M:Model}{A:Mf}{E:cp->me->Prop}{s:me}{tg:Lj}{it:Addr}{u:cp}{o:Obj}{n:String}{vs:Array cp}{Q:Unit->me->Prop}(ho:s.heap.get? it=some o)(hc:o.cls= .type n)(hd:o.data= .fields vs)
  (hn:["enumerate","zip","dict_itemiterator","dict_reverseitemiterator","odict_iterator","itertools.zip_longest","itertools.pairwise"].contains n=false) (hQ:Q () s):L3 M A (abZ tg (.ref it) u) Q E s:=by
 unfold abZ;cases tg<;>first
  |exact MD hQ
  |(cases u<;>first
    |exact MD hQ
    |(refine Mn (wpAny_load ho ?_)
      rw[hc,hd];show L3 M A (if(["enumerate","zip","dict_itemiterator","dict_reverseitemiterator","odict_iterator","itertools.zip_longest","itertools.pairwise"].contains n&&vs[0]? ==some (rawInt _))=true then _ else _) Q E s;rw[ay (by intro h;rw[hn,om]at h;cases h)];exact MD hQ))
noncomputable def pX(K:FU)(a:Addr):It:=⟨λi H=>∃xs x,ab K H a xs/\ xs[i]? =some x,λi H x H'=>H'=H/\ ∀xs,ab K H a xs->xs[i]? =some x,λi H=>∃xs,ab K H a xs/\ xs.length<=i⟩
noncomputable def t6(lo:Int)(n:Nat):It:=⟨λi _=>i<n,λi H x H'=>H'=H/\ x= .int (lo+i),λi _=>n<=i⟩
theorem U2{P:Mb}{w:L9}{K:FU}{tg:Lj}(a it:Addr):Turn P w K tg (pX K a) [it] it (λi h=>h.IsListIter it a i) where
 mem:=by simp
 obj:=λi h st b hb=>by
  have e:b=it:=by simpa using hb
  subst e;obtain⟨o,e,c,d⟩:=st;exact⟨o,e,λv z=>by rw[d]at z;cases z⟩
 keep:=λi h h' st k=>st.at λo e=>k it (by simp) o e
 item:=by intro X hP hw hK hc i pins s σ H E I hf st hg;subst hP hw hK;obtain⟨xs,x,hq,hx⟩:=hg;obtain⟨ai,rv,p,hz⟩:=I.list hq;obtain⟨u,hu,ru⟩:=rv.get hx;obtain⟨f0,f1,f2,f3,f4,f5⟩:=hf it (by simp);refine wpAny_pyNext_list_item st p.isList (x:=u) (by simpa using hu) λh' jb sb=>?_;have I1:Inv X pins σ H {s with heap:=h'}:=I.turned (t':=s.toks) (λb o hb e=>(sb.2 b hb).trans e) f0 f1 f3 f4 f5;obtain⟨o,e,c,d⟩:=id jb;exact⟨u,U,vU (s:={s with heap:=h'}) e c d (by decide) ⟨x,H,I1,ru,⟨U,λys hy=>by rw[I.vR hy hq];exact hx⟩,jb,λb hb=>(hf b hb).1⟩⟩
 done:=by intro X hP hw hK hc i pins s σ H E I hf st hg;subst hP hw hK;obtain⟨xs,hq,hx⟩:=hg;obtain⟨ai,rv,p,hz⟩:=I.list hq;obtain⟨f0,f1,f2,f3,f4,f5⟩:=hf it (by simp);have hl:=rv.length;exact wpAny_pyNext_list_end (I.ok.hd hc) st p.isList (by simp;lia) λh' eb=>⟨U,I.turned (t':=s.toks) (λb o hb e=>eb b o hb e) f0 f1 f3 f4 f5⟩
 self:=λ_ _ _ _ _ st h=>wpAny_pyIter_listiter st h
theorem U3{P:Mb}{w:L9}{K:FU}{tg:Lj}(it:Addr)(lo:Int)(n:Nat):Turn P w K tg (t6 lo n) [it] it (λi h=>ab1 h it (lo+(i:Nat)*1) ((n:Int)-(i:Nat)) 1) where
 mem:=by simp
 obj:=λi h st b hb=>by
  have e:b=it:=by simpa using hb
  subst e;exact⟨_,st,λv z=>by have z':Data.fields _=Data.cell v:=z;cases z'⟩
 keep:=λi h h' st k=>k it (by simp) _ st
 item:=by intro X hP hw hK hc i pins s σ H E I hf st hg;subst hP hw hK;obtain⟨f0,f1,f2,f3,f4,f5⟩:=hf it (by simp);have W:=Walks.range (prog:=X.prog) (w:=X.w) (I.ok.hd hc) it lo 1 n;refine W.item i s _ _ hg st λv h' tk hv jb kk=>?_;obtain⟨t,rfl⟩:=hv;have I1:Inv X pins σ H {s with heap:=h',toks:=tk}:=I.turned (λb o hb e=>kk b o (by simpa using hb) e) f0 f1 f3 f4 f5;refine⟨_,U,vU (s:={s with heap:=h',toks:=tk}) (n:="range_iterator") jb U U (by decide) ⟨.int (lo+i),H,I1,⟨t,?_⟩,⟨U,U⟩,jb,λb hb=>(hf b hb).1⟩⟩;rw[Int.mul_one]
 done:=by intro X hP hw hK hc i pins s σ H E I hf st hg;subst hP hw hK;obtain⟨f0,f1,f2,f3,f4,f5⟩:=hf it (by simp);exact wpAny_pyNext_range_end (I.ok.hd hc) st (by have:n<=i:=hg;lia) λh' eb=>⟨U,I.turned (t':=s.toks) (λb o hb e=>eb b o hb e) f0 f1 f3 f4 f5⟩
 self:=λ_ _ _ _ _ st h=>wpAny_pyIter_rangeiter st h
end L2
namespace L2
open PySem PySem.Spec PyProof.Rows
section
variable{X:Cx}{tg:Lj}
inductive Ki(K:FU)(R:It->Hp->Prop)(x:V)(H1:Hp):Prop
 |mk (a:_):x= .ref a->(∃xs,ab K H1 a xs)->R (pX K a) H1->Ki K R x H1
def Kj(K:FU)(tl:TE):TI:=λσ H R=>tl σ H λx H1=>Ki K R x H1
theorem eE{l:Lj}{tl:TE}(hl:PE X l tl):PI X tg l (Kj X.K tl):=by
 intro pins s σ H R I h;refine aV (hl pins s σ H _ I h) λv s1 ⟨x,H1,I1,r1,q1⟩=>?_;obtain⟨a,e,⟨xs,hq⟩,q⟩:=q1;subst e;cases r1;obtain⟨ai,rv,p,hz⟩:=I1.list hq;refine wpAny_pyIter_list p.isList ?_;refine⟨s1.heap.objs.size,[s1.heap.objs.size],_,_,H1,U,I1.kept (t':=s1.toks) λb o e=>Heap.get?_push_of_some _ e,U2 a _,⟨_,Heap.get?_push_size _ U,U,U⟩,λb hb=>?_,q⟩;have e:b=s1.heap.objs.size:=by simpa using hb
 subst e;exact I1.rH (a_ _) (I1.aK.fresh (a_ _))
theorem U4{pins:List (Addr×Obj)}{σ:St}{H:Hp}{s:me}{R:It->Hp->Prop}{E:cp->me->Prop}{lo hi:Int}{t u v:Tok}{tk:Nat}(I:Inv X pins σ H s)(h1: -(2^62)<=lo)(h2:lo<2^62)(h3: -(2^62)<=hi)(h4:hi<2^62)
  (q:R (t6 lo (hi-lo).toNat) H):L3 (L1 X.prog X.w) X.A (pyIter (.ref s.heap.objs.size)) (C5 X pins σ tg R) E {s with heap:=s.heap.push {cls:= .type "range",data:= .fields #[.int lo t, .int hi u, .int 1 v]},toks:=tk}:=by
 refine wpAny_pyIter_range (IsRange.new ..) (small_one h1 h2 h3 h4) ?_;have I1:Inv X pins σ H {s with heap:=s.heap.push {cls:= .type "range",data:= .fields #[.int lo t, .int hi u, .int 1 v]},toks:=tk}:=I.kept λb o e=>Heap.get?_push_of_some _ e;refine⟨(s.heap.push {cls:= .type "range",data:= .fields #[.int lo t, .int hi u, .int 1 v]}).objs.size,[(s.heap.push {cls:= .type "range",data:= .fields #[.int lo t, .int hi u, .int 1 v]}).objs.size],_,_,H,U,
  I1.kept (t':=tk) λb o e=>Heap.get?_push_of_some _ e,U3 _ lo (hi-lo).toNat,?_,λb hb=>?_,q⟩
 .have e1:lo+((0:Nat):Int)*1=lo:=by simp
  have e2:(((hi-lo).toNat:Nat):Int)-((0:Nat):Int)=Builtin.Range.rangeSize lo hi 1:=by rw[rangeSize_one];split<;>lia
  show ab1 _ _ (lo+((0:Nat):Int)*1) ((((hi-lo).toNat:Nat):Int)-((0:Nat):Int)) 1;rw[e1,e2];exact Heap.get?_push_size _ U
 .have e:b=(s.heap.push {cls:= .type "range",data:= .fields #[.int lo t, .int hi u, .int 1 v]}).objs.size:=by simpa using hb
  subst e;exact I1.rH (a_ _) (I1.aK.fresh (a_ _))
def U5(ta:TA):TI:=λσ H R=>ta σ H λvs H1=>∃j:Int,vs=[.int j]/\ -(2^62)<=j/\ j<2^62/\ R (t6 0 j.toNat) H1
theorem Kk{a:Lj}{ta:TA}{p pos:Pos}(hg:Gl X "range")(hm:X.mg "range"=none)(ha:PA X [a] ta)(hs:autoParam (Ma [a] X.env=[(false,L6 a X.env)]) L'._auto_1):PI X tg (.Call (.Name "range" p) [a] [] pos) (U5 ta):=by
 intro pins s σ H R I h;refine Call_ (oC I hg hm boot_range (PyProof.Rows.callWith_type1 (aV (ha pos pins s σ H _ I h) λus s1 ⟨vs,H1,I1,r1,q1⟩=>?_) hs U));obtain⟨j,e,q1,q2,q⟩:=q1;subst e;cases r1 with
 |cons r rr=>
  cases rr;obtain⟨t,rfl⟩:=r;exact call_range_1 (U4 I1 (by lia) (by lia) q1 q2 (by simpa using q))
inductive af2(J:It)(g:TG)(tb:TS)(D:Ends)(σ:St)(H1:Hp):Prop
 |mk (W:Nat->Nat->St->Hp->Prop):(∃m,W 0 m σ H1)->(∀i m σ H,W i m σ H->(J.stop i H/\ D.nx σ H)\/(J.go i H/\ ∃N:St->Hp->Prop,(∀σ' H',N σ' H'->∃m',m'<m/\ W (i+1) m' σ' H')/\ ∀x H',J.j5 i H x H'->g x σ H' λσ2 H2=>tb (MV D N) σ2 H2))->af2 J g tb D σ H1
def Kl(wi:TI)(g:TG)(tb:TS):TS:=λD σ H=>wi σ H λJ H1=>af2 J g tb D σ H1
noncomputable def vV(fp:List Addr)(h:Heap):List (Addr×Obj):=fp.filterMap λb=>(h.get? b).map λo=>(b,o)
theorem C6{fp:List Addr}{h:Heap}{b:Addr}{o:Obj}(hb:b∈fp)(e:h.get? b=some o):(b,o)∈vV fp h:=uX.mpr ⟨b,hb,by rw[e];rfl⟩
theorem U6{fp:List Addr}{h:Heap}{p:Addr×Obj}(hp:p∈vV fp h):p.1∈fp/\ h.get? p.1=some p.2:=by
 obtain⟨b,hb,e⟩:=uX.mp hp;cases q:h.get? b with
 |none=>rw[q]at e;cases e
 |some o=>rw[q]at e;have e':(b,o)=p:=aM e;subst e';exact⟨hb,q⟩
theorem Inv.pinned{pins:List (Addr×Obj)}{σ:St}{H:Hp}{s:me}{fp:List Addr}(I:Inv X pins σ H s)(hf:∀b∈fp,j6 X pins H b)(ho:∀b∈fp,∃o,s.heap.get? b=some o/\ ∀v,o.data≠ .cell v):Inv X (pins++vV fp s.heap) σ H s:=
 I.J9 λp hp=>(c9.mp hp).elim (λz=>I.pin p (jN _ z)) λz=>by obtain⟨hb,e⟩:=U6 z;obtain⟨f0,f1,f2,_⟩:=hf p.1 hb;obtain⟨o,e',d⟩:=ho p.1 hb;rw[e]at e';cases e';exact⟨e,f0,f1,f2,d⟩
theorem Inv.zc{pins pl:List (Addr×Obj)}{σ:St}{H:Hp}{s:me}(I:Inv X (pins++pl) σ H s):Inv X pins σ H s:=I.J9 λp hp=>I.pin p (jN _ (nZ _ hp))
theorem eZ{iter:Lj}{body:List Stmt}{wi:TI}{g:TG}{tb:TS}{pos:Pos}(hp:PassesOwn (L1 X.prog X.w) X.A X.env X.xe)(hc:X.calm=true)(hi:PI X tg iter wi)(hg:PG X tg g)(hb:jB X body tb)
  (hs:autoParam (∀x,ab6 iter X.env x=pure x) abx._auto_1):PS X (.For tg iter body [] pos) (Kl wi g tb):=by
 intro pins s σ H D I h;refine wpAny_For (aV (hi pins s σ H _ I h) λv s1 h1=>aV h1 λitv s2 h2=>?_) hs;obtain⟨it,fp,tn,J,H2,e,I2,T,zd,f2,W,⟨m0,w0⟩,turn⟩:=h2;subst e;have stat:∀{H':Hp},(∀b∈fp,H' b=none)->∀b∈fp,j6 X pins H' b:=λhn b hb=>⟨hn b hb,(f2 b hb).2⟩
 refine codeAny_forLoop_any (λn s'=>∃i σ' H',Inv X pins σ' H' s'/\ tn i s'.heap/\ (∀b∈fp,H' b=none)/\ W i n σ' H') ?_ m0 ⟨0,σ,H2,I2,zd,λb hb=>(f2 b hb).1,w0⟩;rintro n s3 ⟨i,σ3,H3,I3,ze,Km,w3⟩;rcases turn i n σ3 H3 w3 with⟨stop,qn⟩|⟨go,N,hN,step⟩
 .refine Nw hp (aV (T.done X U U U hc i pins s3 σ3 H3 X.xe I3 (stat Km) ze stop) λr s4 ⟨hr,I4⟩=>?_)
  subst hr;exact abW ⟨σ3,H3,I4,qn⟩
 .refine Nw hp (aV (T.item X U U U hc i pins s3 σ3 H3 X.xe I3 (stat Km) ze go) λr s4 ⟨u,hr,h4⟩=>?_)
  subst hr;refine Nw hp (aV h4 λ_ s5 ⟨x,H5,I5,r5,y5,t7,U7⟩=>?_);have I5':=I5.pinned (stat U7) (T.obj _ _ t7);refine Nw hp (aV (hg _ s5 σ3 H5 x u _ I5' r5 (step x H5 y5)) λ_ s6 ⟨σ6,H6,I6,q6⟩=>?_);refine Nw hp (aV (hb _ s6 σ6 H6 _ I6 q6) λf s7 q7=>?_);have again:∀{σ7:St} {H7:Hp},Inv X (pins++vV fp s5.heap) σ7 H7 s7->N σ7 H7->∃m,m<n/\ ∃i σ' H',Inv X pins σ' H' s7/\ tn i s7.heap/\ (∀b∈fp,H' b=none)/\ W i m σ' H':=λ{σ7 H7} I7 n7=>by obtain⟨m',hm,w7⟩:=hN σ7 H7 n7;refine⟨m',hm,i+1,σ7,H7,I7.zc,T.keep _ _ _ t7 λb hb o e=>(I7.pin (b,o) (jN _ (jN _ (C6 hb e)))).1,λb hb=>?_,w7⟩;obtain⟨o,e,d⟩:=T.obj _ _ t7 b hb;exact(I7.pin (b,o) (jN _ (jN _ (C6 hb e)))).2.1
  cases f with
  |next|cont=>obtain⟨σ7,H7,I7,n7⟩:=q7;exact again I7 n7
  |brk=>obtain⟨σ7,H7,I7,q7⟩:=q7;exact⟨σ7,H7,I7.zc,q7⟩
  |ret v=>obtain⟨x7,σ7,H7,I7,r7,q7⟩:=q7;exact⟨x7,σ7,H7,I7.zc,r7,q7⟩
end
theorem gL{K:FU}{a:Addr}{xs:List V}{g:TG}{tb:TS}{D:Ends}{σ:St}{H:Hp}(Pv:Nat->St->Hp->Prop)(h0:Pv 0 σ H)(hl:∀i σ H,i<=xs.length->Pv i σ H->ab K H a xs)
  (hs:∀i x σ H,xs[i]? =some x->Pv i σ H->g x σ H λσ2 H2=>tb (MV D (Pv (i+1))) σ2 H2) (hd:∀σ H,Pv xs.length σ H->D.nx σ H):
  af2 (pX K a) g tb D σ H:=by
 refine⟨λi m σ H=>m=xs.length-i/\ i<=xs.length/\ Pv i σ H,⟨xs.length,by simp,bL _,h0⟩,?_⟩;rintro i m σ H ⟨rfl,hi,p⟩;have q:=hl i σ H hi p;by_cases aU:i<xs.length
 .refine .inr ⟨⟨xs,xs[i],q,by simp[aU]⟩,Pv (i+1),λσ' H' p'=>⟨xs.length-(i+1),by lia,U,aU,p'⟩,λx H' y=>?_⟩
  obtain⟨e,y⟩:=y;subst e;exact hs i x σ _ (y xs q) p
 .have e:i=xs.length:=by lia
  subst e;exact .inl ⟨⟨xs,q,a_ _⟩,hd σ H p⟩
theorem Ko{lo:Int}{n:Nat}{g:TG}{tb:TS}{D:Ends}{σ:St}{H:Hp}(Pv:Nat->St->Hp->Prop)(h0:Pv 0 σ H)
  (hs:∀i σ H,i<n->Pv i σ H->g (.int (lo+i)) σ H λσ2 H2=>tb (MV D (Pv (i+1))) σ2 H2) (hd:∀σ H,Pv n σ H->D.nx σ H):
  af2 (t6 lo n) g tb D σ H:=by
 refine⟨λi m σ H=>m=n-i/\ i<=n/\ Pv i σ H,⟨n,by simp,bL _,h0⟩,?_⟩;rintro i m σ H ⟨rfl,hi,p⟩;by_cases aU:i<n
 .refine .inr ⟨aU,Pv (i+1),λσ' H' p'=>⟨n-(i+1),by lia,U,aU,p'⟩,λx H' y=>?_⟩
  obtain⟨e,y⟩:=y;subst e y;exact hs i σ _ aU p
 .have e:i=n:=by lia
  subst e;exact .inl ⟨a_ _,hd σ H p⟩
end L2
namespace L2
open PySem PySem.Spec PyProof.Rows
abbrev R2:=V->V->Hp->VK->Prop
def dN(X:Cx)(f:cp->cp->Sem cp)(r:R2):Prop:=
 ∀(pins:List (Addr×Obj)) (s:me) (σ:St) (H:Hp) (x y:V) (v u:cp) (Q:VK),Inv X pins σ H s->RelV x v->RelV y u->r x y H Q->
  L3 (L1 X.prog X.w) X.A (f v u) (EP X pins σ Q) X.xe s
def C7(X:Cx)(f:cp->Sem cp)(r:V->Hp->VK->Prop):Prop:=
 ∀(pins:List (Addr×Obj)) (s:me) (σ:St) (H:Hp) (x:V) (v:cp) (Q:VK),Inv X pins σ H s->RelV x v->r x H Q->
  L3 (L1 X.prog X.w) X.A (f v) (EP X pins σ Q) X.xe s
def jD(X:Cx)(f:cp)(r:List V->Hp->VK->Prop):Prop:=
 ∀(pins:List (Addr×Obj)) (s:me) (σ:St) (H:Hp) (xs:List V) (us:List cp) (Q:VK),Inv X pins σ H s->Vals xs us->r xs H Q->
  L3 (L1 X.prog X.w) X.A (call f us) (EP X pins σ Q) X.xe s
def cw(r:R2)(ta tb:TE):TE:=λσ H Q=>ta σ H λx H1=>tb σ H1 λy H2=>r x y H2 Q
def zf(r:V->Hp->VK->Prop)(ta:TE):TE:=λσ H Q=>ta σ H λx H1=>r x H1 Q
inductive rI(C:Int->Int->Prop)(g:Int->Int->V)(x y:V)(H:Hp)(Q:VK):Prop
 |mk (i:_) (j:_):x= .int i->y= .int j->C i j->Q (g i j) H->rI C g x y H Q
inductive iR(g:Int->Int->V)(x y:V)(H:Hp)(Q:VK):Prop
 |mk (i:_) (j:_):x= .int i->y= .int j->Q (g i j) H->iR g x y H Q
inductive rU(g:Int->V)(x:V)(H:Hp)(Q:VK):Prop
 |mk (i:_):x= .int i->Q (g i) H->rU g x H Q
section
variable{X:Cx}{a b c:Lj}{ta tb tc:TE}{pos:Pos}
theorem C8(ha:PE X a ta)(hb:PE X b tb){pins:List (Addr×Obj)}{s:me}{σ:St}{H:Hp}{R:V->V->Hp->Prop}(I:Inv X pins σ H s)
  (h:ta σ H λx H1=>tb σ H1 λy H2=>R x y H2) {Q:cp->me->Prop} {f:cp->cp->Sem cp}
  (hf:∀v u s2 x y H2,Inv X pins σ H2 s2->RelV x v->RelV y u->R x y H2->L3 (L1 X.prog X.w) X.A (f v u) Q X.xe s2):
  L3 (L1 X.prog X.w) X.A (L6 a X.env) (λv s₁=>L3 (L1 X.prog X.w) X.A (L6 b X.env) (λu s₂=>L3 (L1 X.prog X.w) X.A (f v u) Q X.xe s₂) X.xe s₁) X.xe s:=by
 refine aV (ha pins s σ H _ I h) λv s1 ⟨x,H1,I1,r1,q1⟩=>?_;refine aV (hb pins s1 σ H1 _ I1 q1) λu s2 ⟨y,H2,I2,r2,q2⟩=>?_;exact hf v u s2 x y H2 I2 r1 r2 q2
theorem b_{op:Operator}{r:R2}(ho:dN X (Ny op) r)(ha:PE X a ta)(hb:PE X b tb):PE X (.BinOp a op b pos) (cw r ta tb):=by intro pins s σ H Q I h;exact wpAny_BinOp (C8 ha hb I h λv u s2 x y H2 I2 rx ry q=>ho pins s2 σ H2 x y v u Q I2 rx ry q)
theorem il{op:UnaryOp}{r:V->Hp->VK->Prop}(ho:C7 X (unaryOp op) r)(ha:PE X a ta):PE X (.UnaryOp op a pos) (zf r ta):=by intro pins s σ H Q I h;exact UnaryOp_ (aV (ha pins s σ H _ I h) λv s1 ⟨x,H1,I1,r1,q1⟩=>ho pins s1 σ H1 x v Q I1 r1 q1)
theorem C9{f:cp->cp->Sem cp}{C:Int->Int->Prop}{g:Int->Int->Int}
  (rule:∀(i j:Int) (t u:Tok) (s:me) (Q:cp->me->Prop) (E:cp->me->Prop),C i j->Q (.int (g i j) s.toks) {s with toks:=s.toks+1}->L3 (L1 X.prog X.w) X.A (f (.int i t) (.int j u)) Q E s):
  dN X f (rI C λi j=> .int (g i j)):=by
 intro pins s σ H x y v u Q I rx ry h;obtain⟨i,j,rfl,rfl,hc,q⟩:=h;obtain⟨t,rfl⟩:=rx;obtain⟨t',rfl⟩:=ry;exact rule i j t t' s _ _ hc ⟨.int (g i j),H,I.tok _,⟨_,U⟩,q⟩
theorem zg{f:cp->cp->Sem cp}{g:Int->Int->Int}
  (rule:∀(i j:Int) (t u:Tok) (s:me) (Q:cp->me->Prop) (E:cp->me->Prop),Q (.int (g i j) s.toks) {s with toks:=s.toks+1}->L3 (L1 X.prog X.w) X.A (f (.int i t) (.int j u)) Q E s):
  dN X f (iR λi j=> .int (g i j)):=by
 intro pins s σ H x y v u Q I rx ry h;obtain⟨i,j,rfl,rfl,q⟩:=h;obtain⟨t,rfl⟩:=rx;obtain⟨t',rfl⟩:=ry;exact rule i j t t' s _ _ ⟨.int (g i j),H,I.tok _,⟨_,U⟩,q⟩
theorem zh{f:cp->cp->Sem cp}{g:Int->Int->Bool}
  (rule:∀(i j:Int) (t u:Tok) (s:me) (Q:cp->me->Prop) (E:cp->me->Prop),Q (.bool (g i j)) s->L3 (L1 X.prog X.w) X.A (f (.int i t) (.int j u)) Q E s):
  dN X f (iR λi j=> .bl (g i j)):=by
 intro pins s σ H x y v u Q I rx ry h;obtain⟨i,j,rfl,rfl,q⟩:=h;obtain⟨t,rfl⟩:=rx;obtain⟨t',rfl⟩:=ry;exact rule i j t t' s _ _ ⟨.bl (g i j),H,I,U,q⟩
def U8(i j:Int):Prop:=0<j/\ j<1073741824
def zi(i j:Int):Prop:=(-(2^64)<i/\ i<2^64)\/(-(2^64)<j/\ j<2^64)
theorem zi.ok{i j:Int}(h:zi i j):IntMulOk i j:=by
 rcases h with⟨h1,h2⟩|⟨h1,h2⟩
 .exact .of_left (intBits_le_64 h1 h2)
 .exact .of_right (intBits_le_64 h1 h2)
theorem jd:dN X (Ny .Add) (iR λi j=> .int (i+j)):=zg λ_ _ _ _ _ _ _ q=>add_int q
theorem rJ:dN X (Ny .Sub) (iR λi j=> .int (i-j)):=zg λ_ _ _ _ _ _ _ q=>sub_int q
theorem zj:dN X (Ny .Mult) (rI zi λi j=> .int (i*j)):=C9 λ_ _ _ _ _ _ _ hc q=>mul_int q hc.ok
theorem Kp:dN X (Ny .FloorDiv) (rI U8 λi j=> .int (i/j)):=C9 λi j _ _ _ _ _ hc q=>by have h1:(0:Int)<j:=hc.1;have h2:j<1073741824:=hc.2;exact floordiv_int (by lia) (by rw[Int.fdiv_eq_ediv_of_nonneg i (by lia)];exact q) (.inl (PyProof.noPylong_small (by lia)))
theorem U9:dN X (Ny .Mod) (rI (λ_ j=>0<j) λi j=> .int (i%j)):=C9 λi j _ _ _ _ _ hc q=>by have h1:(0:Int)<j:=hc;exact mod_int' (by lia) (by rw[Int.fmod_eq_emod_of_nonneg i (by lia)];exact q)
theorem zk:dN X (abw .Add) (iR λi j=> .int (i+j)):=zg λ_ _ _ _ _ _ _ q=>iadd_int q
theorem U_:dN X (abw .Sub) (iR λi j=> .int (i-j)):=zg λ_ _ _ _ _ _ _ q=>isub_int q
theorem U'{f:cp->Sem cp}{g:Int->Int}
  (rule:∀(i:Int) (t:Tok) (s:me) (Q:cp->me->Prop) (E:cp->me->Prop),Q (.int (g i) s.toks) {s with toks:=s.toks+1}->L3 (L1 X.prog X.w) X.A (f (.int i t)) Q E s):
  C7 X f (rU λi=> .int (g i)):=by
 intro pins s σ H x v Q I rx h;obtain⟨i,rfl,q⟩:=h;obtain⟨t,rfl⟩:=rx;exact rule i t s _ _ ⟨.int (g i),H,I.tok _,⟨_,U⟩,q⟩
theorem ip:C7 X (unaryOp .USub) (rU λi=> .int (-i)):=U' λ_ _ _ _ _ q=>neg_int q
end
noncomputable def C_:V->V->Bool
 | .aO, .aO=>true| .aO, .int _=>true| .int _, .aO=>true| .aO, .bl _=>true| .bl _, .aO=>true| .aO, .str _=>true| .str _, .aO=>true
 | .int _, .int _=>true| .bl _, .bl _=>true| .str _, .str _=>true| .iN _, .iN _=>true
 | .int _, .str _=>true| .str _, .int _=>true| .bl _, .str _=>true| .str _, .bl _=>true
 |_,_=>false
def l_:R2:=λx y H Q=>C_ x y=true/\ Q (.bl (decide (x=y))) H
def Va:R2:=λx y H Q=>C_ x y=true/\ Q (.bl (!decide (x=y))) H
theorem Kq{i j:Int}:decide (V.int i=V.int j)=(i==j):=by rw[js];simp
theorem Kr{i j:Bool}:decide (V.bl i=V.bl j)=(i==j):=by rw[js];simp
theorem Ks{i j:Str}:decide (V.str i=V.str j)=(i==j):=by rw[js];simp
theorem Kt{i j:Array UInt8}:decide (V.iN i=V.iN j)=(i.toList==j.toList):=by rw[js];cases i;cases j;simp
section
variable{X:Cx}{a b c:Lj}{ta tb tc:TE}{pos:Pos}
theorem dW{pins:List (Addr×Obj)}{σ:St}{H:Hp}{s:me}{Q:VK}{k k':Bool}(I:Inv X pins σ H s)(q:Q (.bl k) H)(e:k=k'):EP X pins σ Q (.bool k') s:=by subst e;exact⟨.bl k,H,I,U,q⟩
theorem cj:dN X (MA .Eq) l_:=by
 intro pins s σ H x y v u Q I rx ry h;obtain⟨hs,q⟩:=h;cases x with
 |aO=>
  cases rx;cases y with
  |aO=>cases ry;exact PySem.EqNone.eq_none_none (dW I q (by simp))
  |bl j=>cases ry;exact PySem.EqNone.eq_none_bool (dW I q (by simp))
  |int j=>obtain⟨t',rfl⟩:=ry;exact PySem.EqNone.eq_none_int (dW I q (by simp))
  |str j=>obtain⟨t',rfl⟩:=ry;exact PySem.EqNone.eq_none_str (dW I q (by simp))
  |_=>exact absurd (show false=true from hs) gn
 |bl i=>
  cases rx;cases y with
  |aO=>cases ry;exact PySem.EqNone.eq_bool_none (dW I q (by simp))
  |bl j=>cases ry;exact eq_bool (dW I q Kr)
  |str j=>obtain⟨t',rfl⟩:=ry;exact PySem.EqMixed.eq_bool_str (dW I q (by simp))
  |_=>exact absurd (show false=true from hs) gn
 |int i=>
  obtain⟨t,rfl⟩:=rx;cases y with
  |aO=>cases ry;exact PySem.EqNone.eq_int_none (dW I q (by simp))
  |int j=>obtain⟨t',rfl⟩:=ry;exact eq_int (dW I q Kq)
  |str j=>obtain⟨t',rfl⟩:=ry;exact PySem.EqMixed.eq_int_str (dW I q (by simp))
  |_=>exact absurd (show false=true from hs) gn
 |str i=>
  obtain⟨t,rfl⟩:=rx;cases y with
  |aO=>cases ry;exact PySem.EqNone.eq_str_none (dW I q (by simp))
  |bl j=>cases ry;exact PySem.EqMixed.eq_str_bool (dW I q (by simp))
  |int j=>obtain⟨t',rfl⟩:=ry;exact PySem.EqMixed.eq_str_int (dW I q (by simp))
  |str j=>obtain⟨t',rfl⟩:=ry;exact eq_str (dW I q Ks)
  |_=>exact absurd (show false=true from hs) gn
 |iN i=>
  obtain⟨t,rfl⟩:=rx;cases y with
  |iN j=>obtain⟨t',rfl⟩:=ry;exact PySem.W.eq_bytes (dW I q Kt)
  |_=>exact absurd (show false=true from hs) gn
 |_=>cases y<;>exact absurd (show false=true from hs) gn
theorem t8:dN X (MA .NotEq) Va:=by
 intro pins s σ H x y v u Q I rx ry h;obtain⟨hs,q⟩:=h;cases x with
 |aO=>
  cases rx;cases y with
  |aO=>cases ry;exact PySem.EqNone.ne_none_none (dW I q (by simp))
  |bl j=>cases ry;exact PySem.EqNone.ne_none_bool (dW I q (by simp))
  |int j=>obtain⟨t',rfl⟩:=ry;exact PySem.EqNone.ne_none_int (dW I q (by simp))
  |str j=>obtain⟨t',rfl⟩:=ry;exact PySem.EqNone.ne_none_str (dW I q (by simp))
  |_=>exact absurd (show false=true from hs) gn
 |bl i=>
  cases rx;cases y with
  |aO=>cases ry;exact PySem.EqNone.ne_bool_none (dW I q (by simp))
  |bl j=>cases ry;exact ne_bool (dW I q (congrArg not Kr))
  |str j=>obtain⟨t',rfl⟩:=ry;exact PySem.EqMixed.ne_bool_str (dW I q (by simp))
  |_=>exact absurd (show false=true from hs) gn
 |int i=>
  obtain⟨t,rfl⟩:=rx;cases y with
  |aO=>cases ry;exact PySem.EqNone.ne_int_none (dW I q (by simp))
  |int j=>obtain⟨t',rfl⟩:=ry;exact ne_int (dW I q (congrArg not Kq))
  |str j=>obtain⟨t',rfl⟩:=ry;exact PySem.EqMixed.ne_int_str (dW I q (by simp))
  |_=>exact absurd (show false=true from hs) gn
 |str i=>
  obtain⟨t,rfl⟩:=rx;cases y with
  |aO=>cases ry;exact PySem.EqNone.ne_str_none (dW I q (by simp))
  |bl j=>cases ry;exact PySem.EqMixed.ne_str_bool (dW I q (by simp))
  |int j=>obtain⟨t',rfl⟩:=ry;exact PySem.EqMixed.ne_str_int (dW I q (by simp))
  |str j=>obtain⟨t',rfl⟩:=ry;exact ne_str (dW I q (congrArg not Ks))
  |_=>exact absurd (show false=true from hs) gn
 |iN i=>
  obtain⟨t,rfl⟩:=rx;cases y with
  |iN j=>obtain⟨t',rfl⟩:=ry;exact PySem.W.ne_bytes (dW I q (congrArg not Kt))
  |_=>exact absurd (show false=true from hs) gn
 |_=>cases y<;>exact absurd (show false=true from hs) gn
theorem iq:dN X (MA .Lt) (iR λi j=> .bl (decide (i<j))):=zh λ_ _ _ _ _ _ _ q=>lt_int q
theorem j7:dN X (MA .LtE) (iR λi j=> .bl (decide (i<=j))):=zh λ_ _ _ _ _ _ _ q=>le_int q
theorem rK:dN X (MA .Gt) (iR λi j=> .bl (decide (j<i))):=zh λ_ _ _ _ _ _ _ q=>gt_int q
theorem Vb:dN X (MA .GtE) (iR λi j=> .bl (decide (j<=i))):=zh λ_ _ _ _ _ _ _ q=>ge_int q
theorem rL:dN X (MA .Is) (λx y H Q=>y= .aO/\ Q (.bl (decide (x= .aO))) H):=by
 intro pins s σ H x y v u Q I rx ry h;obtain⟨rfl,q⟩:=h;cases ry;refine is_none_gen (dW I q ?_);cases x<;>first
  |(cases rx;rfl)
  |(obtain⟨t,rfl⟩:=rx;rfl)
theorem Ku(b:Lj){op:CmpOp}(h:autoParam (op≠ .In) Mp._auto_1)(h2:autoParam (op≠ .NotIn) Mp._auto_1):M_ op b=false:=by
 have e1:(op==CmpOp.In)=false:=by cases op<;>first|rfl|exact absurd U h
 have e2:(op==CmpOp.NotIn)=false:=by cases op<;>first|rfl|exact absurd U h2
 cases b<;>simp[M_,e1,e2]
theorem Vc{op:CmpOp}{r:R2}(ho:dN X (MA op) r)(ha:PE X a ta)(hb:PE X b tb)(hm:M_ op b=false):PE X (.Compare a [op] [b] pos) (cw r ta tb):=by intro pins s σ H Q I h;exact wpAny_Compare1 (C8 ha hb I h λv u s2 x y H2 I2 rx ry q=>ho pins s2 σ H2 x y v u Q I2 rx ry q) hm
def md(t:TE):TT:=λσ H Q=>t σ H λx H'=>j3 Q x H'
theorem Vd{op:CmpOp}{r:R2}(ho:dN X (MA op) r)(ha:PE X a ta)(hb:PE X b tb)(hm:M_ op b=false):PT X (.Compare a [op] [b] pos) (md (cw r ta tb)):=by
 intro pins s σ H Q I h;refine wpAny_isTrue_Compare1 (aV (ha pins s σ H _ I h) λv s1 ⟨x,H1,I1,r1,q1⟩=>aV (hb pins s1 σ H1 _ I1 q1) λu s2 ⟨y,H2,I2,r2,q2⟩=>aV (ho pins s2 σ H2 x y v u _ I2 r1 r2 q2) λc s3 ⟨z,H3,I3,r3,k,e,q3⟩=>?_) hm
 subst e;cases r3;exact M' ⟨H3,I3,q3⟩
def Kv(r r':R2)(ta tb tc:TE):TE:=λσ H Q=>ta σ H λx H1=>tb σ H1 λy H2=>r x y H2 λz H3=>∃k,z= .bl k/\
 (if k=true then tc σ H3 λw' H4=>r' y w' H4 Q else Q (.bl false) H3)
theorem zl{op rM:CmpOp}{r r':R2}(ho:dN X (MA op) r)(jA:dN X (MA rM) r')(ha:PE X a ta)(hb:PE X b tb)(hc:PE X c tc)
  (hm:autoParam (lastMarks [op,rM] [b,c]=false) afV._auto_1):PE X (.Compare a [op,rM] [b,c] pos) (Kv r r' ta tb tc):=by
 intro pins s σ H Q I h;refine Compare_chain (aV (ha pins s σ H _ I h) λv s1 ⟨x,H1,I1,r1,q1⟩=>chain_link (aV (hb pins s1 σ H1 _ I1 q1) λu s2 ⟨y,H2,I2,r2,q2⟩=>aV (ho pins s2 σ H2 x y v u _ I2 r1 r2 q2) λd s3 ⟨z,H3,I3,r3,k,e,q3⟩=>?_)) hm
 subst e;cases r3;refine M' ?_;cases k with
 |false=>exact ite_ff ⟨.bl false,H3,I3,U,q3⟩
 |true=>exact ite_tt (chain_last (aV (hc pins s3 σ H3 _ I3 q3) λw' s4 ⟨z',H4,I4,r4,q4⟩=>jA pins s4 σ H4 y z' u w' Q I4 r2 r4 q4))
theorem Ve{op rM:CmpOp}{r r':R2}(ho:dN X (MA op) r)(jA:dN X (MA rM) r')(ha:PE X a ta)(hb:PE X b tb)(hc:PE X c tc)
  (hm:autoParam (lastMarks [op,rM] [b,c]=false) afV._auto_1):PT X (.Compare a [op,rM] [b,c] pos) (md (Kv r r' ta tb tc)):=by
 intro pins s σ H Q I h;refine isTrue_chain (aV (ha pins s σ H _ I h) λv s1 ⟨x,H1,I1,r1,q1⟩=>test_link (aV (hb pins s1 σ H1 _ I1 q1) λu s2 ⟨y,H2,I2,r2,q2⟩=>aV (ho pins s2 σ H2 x y v u _ I2 r1 r2 q2) λd s3 ⟨z,H3,I3,r3,k,e,q3⟩=>?_)) hm
 subst e;cases r3;refine M' ?_;cases k with
 |false=>obtain⟨k',e',q'⟩:=q3;cases e';exact ite_ff ⟨H3,I3,q'⟩
 |true=>refine ite_tt (test_last (aV (hc pins s3 σ H3 _ I3 q3) λw' s4 ⟨z',H4,I4,r4,q4⟩=>aV (jA pins s4 σ H4 y z' u w' _ I4 r2 r4 q4) λd' s5 ⟨z2,H5,I5,r5,k2,e2,q5⟩=>?_));subst e2;cases r5;exact M' ⟨H5,I5,q5⟩
theorem zm:(sizeLine:Nat)<2^63:=by rw[ab8];decide
theorem vals1{x:V}{us:List cp}(r:Vals [x] us):∃u,us=[u]/\ RelV x u:=by
 cases r with
 |cons r1 r2=>cases r2;exact⟨_,U,r1⟩
theorem vals2{x y:V}{us:List cp}(r:Vals [x,y] us):∃u w',us=[u,w']/\ RelV x u/\ RelV y w':=by
 cases r with
 |cons r1 r2=>
  cases r2 with
  |cons r3 r4=>cases r4;exact⟨_,_,U,r1,r3⟩
theorem Vf(hc:X.calm=true):jD X (.builtin "max") (λxs H Q=>∃i j,xs=[.int i, .int j]/\ Q (.int (if j>i then j else i)) H):=by
 intro pins s σ H xs us Q I r h;obtain⟨i,j,rfl,q⟩:=h;obtain⟨u,w',rfl,⟨t,rfl⟩,⟨t',rfl⟩⟩:=vals2 r;refine max_two_ints (I.ok.hd hc) λh' tk k=>⟨_,H,I.kept k,?_,q⟩
 by_cases hj:j>i
 .rw[aI hj,aI hj];exact⟨_,U⟩
 .rw[ay hj,ay hj];exact⟨_,U⟩
theorem Kw:jD X (.type "str") (λxs H Q=>∃i,xs=[.int i]/\ i.natAbs.log2<1920/\ Q (.str (toString i)) H):=by intro pins s σ H xs us Q I r h;obtain⟨i,rfl,hz,q⟩:=h;obtain⟨u,rfl,t,rfl⟩:=vals1 r;exact PySem.P.str_of_int hz ⟨.str _,H,I.tok _,⟨_,U⟩,q⟩
theorem Vg:jD X (.builtin "ord") (λxs H Q=>∃x,xs=[.str x]/\ x.length=1/\ Q (.int (x.cps.getD 0 0:Nat)) H):=by intro pins s σ H xs us Q I r h;obtain⟨x,rfl,hz,q⟩:=h;obtain⟨u,rfl,t,rfl⟩:=vals1 r;exact ord_of_one hz ⟨.int _,H,I.tok _,⟨_,U⟩,q⟩
end
end L2
namespace L2
open PySem PySem.Spec PyProof.Rows
structure rO(h:Heap)(x dx C:Addr)(mA:Str->Option cp):Prop where
 obj:h.get? x=some (Np C dx)
 ns:h.Ns1 dx mA
 ne:dx≠x
theorem Vh{h:Heap}{dx:Addr}{mA:Str->Option cp}(n:h.Ns1 dx mA):∃od,h.get? dx=some od/\ ∀name,acs name od=some (mA name):=by
 obtain⟨o,es,ep,ho,hd,hk,_,hm⟩:=n;refine⟨o,ho,λname=>?_⟩;have e:=hm name;unfold nsFind findBy at e;rw[<-Array.find?_toList]at e;unfold acs;rw[hd];dsimp only;split
 .rename_i y q
  rw[q]at e;exact congrArg some e
 .rename_i q
  rw[q]at e;have a:es.toList.any (·.refKey)=false:=by rw[List.any_eq_false];intro y hy;obtain⟨z,t,Vi⟩:=hk y (Array.mem_toList_iff.mp hy);simp[DictEntry.refKey,Vi]
  have a':¬es.toList.any (·.refKey)=true:=by rw[a];exact gn
  rw[ay a'];exact congrArg some e
theorem rO.look{h:Heap}{x dx C:Addr}{mA:Str->Option cp}(I:rO h x dx C mA):∃od,PySem.W.InstAt h x (Np C dx) C (some od)/\ ∀name,acs name od=some (mA name):=
 let⟨od,ho,hl⟩:=Vh I.ns
 ⟨od,⟨I.obj,U,U,ho⟩,hl⟩
section
variable{prog:Mb}{w:L9}{A:Mf}{E:cp->me->Prop}{s:me}{K:FU}{x dx C f:Addr}{mA:Str->Option cp}{name:Str}{v:cp}
theorem get_map{expr:Bool}{Q:cp->me->Prop}(X:K.In s.heap)(I:rO s.heap x dx C mA)(hg:acx K C name=true)(hh:adU K C=true)
  (ha:Nf K (.ref C) name=some none) (hv:mA name=some v) (t9:PySem.W.handedIn v=true) (h:Q v {s with toks:=s.toks+1}):
  L3 (L1 prog w) A (getAttr (.ref x) name expr) Q E s:=by
 obtain⟨od,J,hl⟩:=I.look;exact PySem.W.get_value X J (adY hg).1 (PySem.W.findObj_own hh ha U (by rw[hl,hv])) t9 h
theorem Vj{pl:Sem Bool}{Q:cp×List cp->me->Prop}(X:K.In s.heap)(I:rO s.heap x dx C mA)(hg:acx K C name=true)
  (hf:Nf K (.ref C) name=some (some (.ref f))) (ht:ad_ K (.ref f)=true) (hv:mA name=none) (h:Q (.ref f,[.ref x]) s):
  L3 (L1 prog w) A (NI (.ref x) name pl) Q E s:=by
 obtain⟨od,J,hl⟩:=I.look;exact PySem.W.method_fn X J (adY hg).1 (adY hg).2 hf (beq_iff_eq.mp ht) (by show(acs name od).map (·.isSome)=some false;rw[hl,hv];rfl) h
theorem Vk{ns:List Str}{Q:Unit->me->Prop}(X:K.In s.heap)(I:rO s.heap x dx C mA)
  (hs:Nf K (.ref C) "__setattr__"=some (some (.builtin "object.__setattr__"))) (hp:afQ K C=true) (ht:ad' K C name=some none) (hh:adU K C=true)
  (hw:adH mA ns) (hsz:ns.length<=sizeLine)
  (h:∀h',rO h' x dx C (λy=>if y=name then some v else mA y)->Heap.SameBut dx s.heap h'->Q () {s with heap:=h',toks:=s.toks+2}):
  L3 (L1 prog w) A (setAttr (.ref x) name v) Q E s:=by
 obtain⟨od,J,hl⟩:=I.look;refine PySem.W.set_plain X J hs (PySem.W.osa_open (s:={s with toks:=s.toks+1}) (r:=none) X J hp ht λb=>?_);obtain⟨cd,hc,CT⟩:=PySem.W.any_some hh;have hx:s.heap.get? x=some ⟨.ref C,some dx, .plain, #[]⟩:=I.obj;refine Mn (MD (Mn (Mn (wpAny_loadPart hx (Mn (PySem.W.Looks.here (s:={s with toks:=s.toks+1}) (PySem.W.looks_clsIn X hc) ?_))))));rw[CT];refine MD (a:=some dx) (Mn (MD (Mn ?_)));refine wpAny_nsSet1 (s:={s with toks:=s.toks+1}) I.ns λh' zo vW=>?_;obtain⟨oD,esD,epD,hoD,hdD,hcD⟩:=zo.count (PySem.Within.cons name v hw);refine Mn (wpAny_lookBehind hoD (by rw[hdD];exact pastItsLine_dict (c_ hcD (by rw[bj];lia))) ?_);exact MD (h _ ⟨(vW.2 _ (Ne.symm I.ne)).trans I.obj,zo,I.ne⟩ vW)
theorem Vl{R:Result->me->Prop}{vs:List cp}{kw:List (Str×cp)}(X:K.In s.heap)(hm:PySem.W.makesIn K C=true)
  (hi:Nf K (.ref C) "__init__"=some (some (.ref f))) (hf:PySem.W.typeIn K (.ref f)=some (.type "function"))
  (h:Nb (L1 prog w) (A.under (.builtin "type.__call__" ⟨.ref C::vs,kw⟩)) (.call (.ref f) ⟨.ref (s.heap.objs.size+1)::vs,kw⟩) (PySem.W.InitBack (s.heap.objs.size+1) R)
   {s with heap:=(s.heap.push PySem.W.emptyDict).push (Np C s.heap.objs.size)}):
  Nb (L1 prog w) A (.call (.ref C) ⟨vs,kw⟩) R s:=by
 obtain⟨hh,g,d,t,os⟩:=s;exact PySem.W.make_core (PySem.W.makes_of X hm) (PySem.W.looks_findIn X hi) (λself=>PySem.W.bind_fn X self hf) (.inl U) h
end
noncomputable def bA(f:Str)(v:V):List (Str×V)->List (Str×V)
 |[]=>[(f,v)]
 |(g,x)::r=>if g=f then(g,v)::r else(g,x)::bA f v r
theorem Kx(f g:Str)(v:V):∀fs:List (Str×V),(bA f v fs).lookup g=if g=f then some v else fs.lookup g
 |[]=>by
  show List.lookup g [(f,v)]=_;by_cases h:g=f
  .have hb:(g==f)=true:=beq_iff_eq.mpr h
   simp only[List.lookup,hb,aI h]
  .have hb:(g==f)=false:=beq_eq_false_iff_ne.mpr h
   simp only[List.lookup,hb,ay h]
 |(k,x)::r=>by
  have ih:=Kx f g v r;rw[show bA f v ((k,x)::r)=(if k=f then(k,v)::r else(k,x)::bA f v r)from rfl];by_cases hk:k=f
  .rw[aI hk]
   by_cases h:g=k
   .have hb:(g==k)=true:=beq_iff_eq.mpr h
    simp only[List.lookup,hb,aI (h.trans hk)]
   .have hb:(g==k)=false:=beq_eq_false_iff_ne.mpr h
    simp only[List.lookup,hb,ay (λe:g=f=>h (e.trans hk.symm))]
  .rw[ay hk]
   by_cases h:g=k
   .have hb:(g==k)=true:=beq_iff_eq.mpr h
    simp only[List.lookup,hb,ay (λe:g=f=>hk (h.symm.trans e))]
   .have hb:(g==k)=false:=beq_eq_false_iff_ne.mpr h
    simp only[List.lookup,hb];exact ih
theorem Dc(f:Str)(v:V):∀fs:List (Str×V),f∈(bA f v fs).map (·.1)/\ ∀g,g∈fs.map (·.1)->g∈(bA f v fs).map (·.1)
 |[]=>⟨by simp[bA],λg h=>by simp at h⟩
 |(k,x)::r=>by
  obtain⟨i1,i2⟩:=Dc f v r;rw[show bA f v ((k,x)::r)=(if k=f then(k,v)::r else(k,x)::bA f v r)from rfl];by_cases hk:k=f
  .rw[aI hk]
   subst hk;exact⟨by simp,λg h=>by simpa using h⟩
  .rw[ay hk]
   refine⟨?_,λg h=>?_⟩
   .rw[ez]
    exact fL _ i1
   .rw[ez]at h⊢
    rcases br.mp h with e|e
    .exact br.mpr (.inl e)
    .exact fL _ (i2 g e)
theorem Kz(f:Str)(v:V):∀fs:List (Str×V),(bA f v fs).length<=fs.length+1
 |[]=>by simp[bA]
 |(k,x)::r=>by
  have ih:=Kz f v r;rw[show bA f v ((k,x)::r)=(if k=f then(k,v)::r else(k,x)::bA f v r)from rfl];by_cases hk:k=f
  .rw[aI hk,bj,bj];lia
  .rw[ay hk,bj,bj];lia
theorem iO.some_of{v:V}{o:Option cp}(r:iO (some v) o):∃u,o=some u/\ RelV v u:=by
 cases o with
 |none=>exact(show False from r).elim
 |some u=>exact⟨u,U,r⟩
theorem iO.none_of{o:Option cp}(r:iO none o):o=none:=by
 cases o with
 |none=>rfl
 |some u=>exact(show False from r).elim
theorem Vm{v:V}{u:cp}(r:RelV v u):PySem.W.handedIn u=true:=by
 cases v with
 |aO=>cases (show u=Value.none from r);rfl
 |bl b=>cases (show u=Value.bool b from r);rfl
 |int i=>obtain⟨t,e⟩:=(show∃t,u=Value.int i t from r);cases e;rfl
 |str x=>obtain⟨t,e⟩:=(show∃t,u=Value.str x t from r);cases e;rfl
 |iN b=>obtain⟨t,e⟩:=(show∃t,u=Value.bytes b t from r);cases e;rfl
 |flt b=>obtain⟨t,e⟩:=(show∃t,u=Value.float b t from r);cases e;rfl
 |ref a=>cases (show u=Value.ref a from r);rfl
 |ty n=>cases (show u=Value.type n from r);rfl
section
variable{P:Mb}{w:L9}{H H':Hp}{h h':Heap}{a C dx:Addr}{fs lX:List (Str×V)}
theorem Dd(aK:du P w H h)(e:H a=some (.ins C dx fs)):∃mA,rO h a dx C mA/\ (∀f,iO (fs.lookup f) (mA f))/\ adH mA (fs.map (·.1))/\ fs.length<=1000/\ H dx=some (.own a):=by
 obtain⟨d,z,ne,ob,mA,n,r,q⟩:=(show dU P w H h a (.ins C dx fs)from aK a _ e)
 exact⟨mA,⟨ob,n,ne⟩,r,q,z,d⟩
end
structure gf(K:FU)(C:Addr):Prop where
 pg:acx K C Str.empty=true
 hd:adU K C=true
 po:afQ K C=true
 sa:Nf K (.ref C) "__setattr__"=some (some (.builtin "object.__setattr__"))
theorem gf.get{K:FU}{C:Addr}(c:gf K C)(f:Str):acx K C f=true:=c.pg
def dv(K:FU)(C:Addr)(f:Str):Prop:=Nf K (.ref C) f=some none
theorem dv.Vn{K:FU}{C:Addr}{f:Str}(n:dv K C f):ad' K C f=some none:=by unfold ad';rw[show Nf K (.ref C) f=some none from n];rfl
structure Meth(K:FU)(C:Addr)(m:Str)(f:Addr):Prop where
 at_:Nf K (.ref C) m=some (some (.ref f))
 fn:ad_ K (.ref f)=true
 kp:NL K (.ref f)=true
section
variable{X:Cx}{pins:List (Addr×Obj)}{σ:St}{H:Hp}{s:me}{a C dx:Addr}{fs:List (Str×V)}{f:Str}{v:V}{A:Mf}{E:cp->me->Prop}
theorem KA{b:Bool}{Q:cp->me->Prop}(I:Inv X pins σ H s)(e:H a=some (.ins C dx fs))(c:gf X.K C)(n:dv X.K C f)(l:fs.lookup f=some v)
  (h:∀u s',Inv X pins σ H s'->RelV v u->Q u s'):L3 (L1 X.prog X.w) A (getAttr (.ref a) f b) Q E s:=by
 obtain⟨mA,O,r,_,_,_⟩:=Dd I.aK e;obtain⟨u,hu,ru⟩:=iO.some_of (v:=v) (o:=mA f) (by rw[<-l];exact r f);exact get_map I.i9 O (c.get f) c.hd n hu (Vm ru) (h u _ (I.tok _) ru)
theorem KC{m:Str}{g:Addr}{pl:Sem Bool}{Q:cp×List cp->me->Prop}(I:Inv X pins σ H s)(e:H a=some (.ins C dx fs))(c:gf X.K C)(k:Meth X.K C m g)(l:fs.lookup m=none)
  (h:Q (.ref g,[.ref a]) s):L3 (L1 X.prog X.w) A (NI (.ref a) m pl) Q E s:=by
 obtain⟨mA,O,r,_,_,_⟩:=Dd I.aK e;have hn:mA m=none:=iO.none_of (by rw[<-l];exact r m);exact Vj I.i9 O (c.get m) k.at_ k.fn hn h
theorem KD{y:V}{u:cp}{Q:Unit->me->Prop}(I:Inv X pins σ H s)(e:H a=some (.ins C dx fs))(c:gf X.K C)(n:dv X.K C f)(hl:fs.length<1000)(ry:RelV y u)
  (h:∀s',Inv X pins σ (upd H a (.ins C dx (bA f y fs))) s'->Q () s'):L3 (L1 X.prog X.w) A (setAttr (.ref a) f u) Q E s:=by
 obtain⟨mA,O,r,wi,_,ho⟩:=Dd I.aK e;have hz:(fs.map (·.1)).length<=sizeLine:=by rw[aX,ab8];lia
 refine Vk I.i9 O c.sa c.po n.Vn c.hd wi hz λh' O' sb=>h _ ?_;have hd:∃o,h'.get? dx=some o:=let⟨o,_,_,e',_⟩:=O'.ns;⟨o,e'⟩;refine I.write (x:=a) (e:=dx) (by rw[e];exact True.intro) (.inr ho) (λb q hb z=>(sb.2 b hb).trans z) hd ?_;refine⟨by rw[aD O.ne];exact ho,?_,O.ne,O'.obj,_,O'.ns,λg=>?_,λg hg=>?_⟩
 .have:=Kz f y fs;lia
 .show iO ((bA f y fs).lookup g) (if g=f then some u else mA g)
  rw[Kx];by_cases q:g=f
  .rw[aI q,aI q];exact ry
  .rw[ay q,ay q];exact r g
 .by_cases q:g=f
  .rw[q];exact(Dc f y fs).1
  .refine(Dc f y fs).2 g (wi g λz=>hg ?_)
   show(if g=f then some u else mA g)=none;rw[ay q];exact z
theorem Inv.made(I:Inv X pins σ H s):Inv X pins σ (upd (upd H s.heap.objs.size (.own (s.heap.objs.size+1))) (s.heap.objs.size+1) (.ins C s.heap.objs.size []))
  {s with heap:=(s.heap.push PySem.W.emptyDict).push (Np C s.heap.objs.size)}:=by
 have e1:(s.heap.push PySem.W.emptyDict).get? s.heap.objs.size=some PySem.W.emptyDict:=Heap.get?_push_size s.heap U;have e2:((s.heap.push PySem.W.emptyDict).push (Np C s.heap.objs.size)).get? (s.heap.objs.size+1)=some (Np C s.heap.objs.size):=by have:=Heap.get?_push_size (s.heap.push PySem.W.emptyDict) (o:=Np C s.heap.objs.size) U;rwa[Heap.size_push]at this
 have e3:(s.heap.push PySem.W.emptyDict).Ns s.heap.objs.size (λ_=>none):=⟨PySem.W.emptyDict, #[],_,e1,U,(λe he=>absurd he (by simp)),λ_=>rfl⟩
 have I1:=I.laid (a:=s.heap.objs.size) (o:= .own (s.heap.objs.size+1)) (h':=s.heap.push PySem.W.emptyDict) (t':=s.toks) (λb u q=>Heap.get?_push_of_some _ q) (a_ _) ⟨_,e1⟩;refine I1.laid (a:=s.heap.objs.size+1) (o:= .ins C s.heap.objs.size []) (t':=s.toks) (λb u q=>Heap.get?_push_of_some _ q) (Bw (Heap.size_push _ _)) ?_;have ne:s.heap.objs.size≠s.heap.objs.size+1:=gE (adb _);refine⟨by rw[aD ne,ae],bL _,ne,e2,λ_=>none,(Heap.Ns1.of_empty e3).at λo q=>Heap.get?_push_of_some _ q,λ_=>True.intro,λy hy=>absurd U hy⟩
theorem Vo{prog:Mb}{w:L9}{env:Env}{e:Lj}{f:Str}{pos:Pos}{s:me}{Q:cp->me->Prop}(hb:Nc e f env (L6 e env)=L6 e env)
  (h:L3 (L1 prog w) A (L6 e env) (λo s₁=>L3 (L1 prog w) A (getAttr o f true) Q E s₁) E s):L3 (L1 prog w) A (L6 (.Attribute e f pos) env) Q E s:=
 Attribute_any_ h (by rw[arm_eval_Attribute,hb])
end
inductive KG(K:FU)(f:Str)(Q:VK)(x:V)(H1:Hp):Prop
 |mk (a:_) (C:_) (dx:_) (fs:_) (v:_):x= .ref a->H1 a=some (.ins C dx fs)->gf K C->dv K C f->fs.lookup f=some v->Q v H1->KG K f Q x H1
def ir(K:FU)(ta:TE)(f:Str):TE:=λσ H Q=>ta σ H λx H1=>KG K f Q x H1
inductive KH(K:FU)(f:Str)(D:Ends)(σ:St)(y x:V)(H2:Hp):Prop
 |mk (a:_) (C:_) (dx:_) (fs:_):x= .ref a->H2 a=some (.ins C dx fs)->gf K C->dv K C f->fs.length<1000->D.nx σ (upd H2 a (.ins C dx (bA f y fs)))->KH K f D σ y x H2
def KI(K:FU)(ta tv:TE)(f:Str):TS:=λD σ H=>tv σ H λy H1=>ta σ H1 λx H2=>KH K f D σ y x H2
def KJ(X:Cx)(op:Operator)(rd:V->V->Hp->VK->Prop):Prop:=∀(pins:List (Addr×Obj)) (s:me) (σ:St) (H:Hp) (x y:V) (u v:cp) (Q:VK),Inv X pins σ H s->RelV x u->RelV y v->rd x y H Q->L3 (L1 X.prog X.w) X.A (abw op u v) (EP X pins σ Q) X.xe s
def Vp(K:FU)(ta tv:TE)(rd:V->V->Hp->VK->Prop)(f:Str):TS:=λD σ H=>ta σ H λx H1=>∃a C dx fs v,x= .ref a/\ H1 a=some (.ins C dx fs)/\ gf K C/\ dv K C f/\ fs.lookup f=some v/\
 tv σ H1 λy H2=>rd v y H2 λz H3=>∃rP lX,H3 a=some (.ins C rP lX)/\ lX.length<1000/\ D.nx σ (upd H3 a (.ins C rP (bA f z lX)))
section
variable{X:Cx}{o e value:Lj}{f:Str}{pos pos' tpos:Pos}{ta tv:TE}
theorem KL(he:PE X e ta)(hb:Nc e f X.env (L6 e X.env)=L6 e X.env):PE X (.Attribute e f pos) (ir X.K ta f):=by intro pins s σ H Q I h;refine Vo hb (aV (he pins s σ H _ I h) λu s1 ⟨x,H1,I1,rx,a,C,dx,fs,v,ex,ea,c,n,l,q⟩=>?_);subst ex;obtain rfl:u=Value.ref a:=rx;exact KA I1 ea c n l λu' s2 I2 ru=>⟨v,H1,I2,ru,q⟩
theorem Vq(ha:PE X o ta)(hv:PE X value tv)(hs:Na value (some (.Attribute o f pos')) pos.line X.env=pure false):PS X (.Assign [.Attribute o f pos'] value pos) (KI X.K ta tv f):=by intro pins s σ H D I h;refine plainObj_wpAny_Assign_Attribute (aV (hv pins s σ H _ I h) λu s1 ⟨y,H1,I1,ry,q⟩=>aV (ha pins s1 σ H1 _ I1 q) λov s2 ⟨x,H2,I2,rx,a,C,dx,fs,ex,ea,c,n,l,q2⟩=>?_) hs;subst ex;obtain rfl:ov=Value.ref a:=rx;exact KD I2 ea c n l ry λs3 I3=>⟨σ,_,I3,q2⟩
theorem De{op:Operator}{rd:V->V->Hp->VK->Prop}(ha:PE X o ta)(hv:PE X value tv)(Vr:KJ X op rd):PS X (.AugAssign (.Attribute o f tpos) op value pos) (Vp X.K ta tv rd f):=by intro pins s σ H D I h;refine wpAny_AugAssign_AttributeAny (aV (ha pins s σ H _ I h) λov s1 ⟨x,H1,I1,rx,a,C,dx,fs,v,ex,ea,c,n,l,q⟩=>?_);subst ex;obtain rfl:ov=Value.ref a:=rx;refine KA I1 ea c n l λu s2 I2 ru=>aV (hv pins s2 σ H1 _ I2 q) λw3 s3 ⟨y,H2,I3,ry,q3⟩=>aV (Vr pins s3 σ H2 v y u w3 _ I3 ru ry q3) λw4 s4 ⟨z,H3,I4,rz,rP,lX,Vs,l',q4⟩=>?_;exact KD I4 Vs c n l' rz λs5 I5=>⟨σ,_,I5,q4⟩
def Vt:V->V->Hp->VK->Prop:=λx y H Q=>∃i j,x= .int i/\ y= .int j/\ Q (.int (i+j)) H
theorem Df:KJ X .Add Vt:=by
 rintro pins s σ H x y u v Q I rx ry ⟨i,j,rfl,rfl,q⟩;obtain⟨t,rfl⟩:=(show∃t,u=Value.int i t from rx)
 obtain⟨t',rfl⟩:=(show∃t',v=Value.int j t' from ry)
 exact PyProof.Rows.iadd_int ⟨.int (i+j),H,I.tok _,⟨_,U⟩,q⟩
end
section
variable{X:Cx}{pins:List (Addr×Obj)}{σ:St}{H:Hp}{s:me}{A:Mf}{E:cp->me->Prop}{Q:cp->me->Prop}{c:cp}{b:Bool}
end
end L2
namespace L2
open PySem PySem.Spec PyProof.Rows
structure di(k:Nat)(A:Mf):Prop where
 hd:A.handled=none
 dp:A.depth+3*k+5<recursionLimit
 un:A.units+16*k+200<cLine
theorem di.mono{j k:Nat}{A:Mf}(r:di k A)(h:j<=k):di j A:=⟨r.hd,by have:=r.dp;lia,by have:=r.un;lia⟩
theorem di.deeper{k:Nat}{A:Mf}(r:di (k+1) A)(env:Env):di k (A.deeper env):=⟨r.hd,by have:=r.dp;show A.depth+1+3*k+5<_;lia,by have:=r.un;show A.units+3+16*k+200<_;lia⟩
theorem Vu{A:Mf}{C:Addr}{us:List cp}{kw:List (Str×cp)}:(A.under (.builtin "type.__call__" ⟨.ref C::us,kw⟩)).depth=A.depth+1:=by
 first|rfl|simp[Around.under,Code.weight,Code.isCreation,Code.isGuard,Code.isCaller,Code.frames,Code.isFrame,guardIds]
theorem Vv{A:Mf}{C:Addr}{us:List cp}{kw:List (Str×cp)}:(A.under (.builtin "type.__call__" ⟨.ref C::us,kw⟩)).units=A.units+1:=by
 first|rfl|simp[Around.under,Code.cUnits,Code.frames,Code.isFrame]
theorem di.make{k:Nat}{A:Mf}(r:di (k+1) A)(C:Addr)(us:List cp)(kw:List (Str×cp)):di k (A.under (.builtin "type.__call__" ⟨.ref C::us,kw⟩)):=⟨r.hd,by have:=r.dp;rw[Vu];lia,by have:=r.un;rw[Vv];lia⟩
theorem di.depth{k:Nat}{A:Mf}(r:di k A):A.depth<recursionLimit:=by have:=r.dp;lia
theorem di.units{k:Nat}{A:Mf}(r:di k A):A.units+64<cLine:=by have:=r.un;lia
def eI:TA:=λ_ H Q=>Q [] H
def d_(ta:TE)(tr:TA):TA:=λσ H Q=>ta σ H λx H1=>tr σ H1 λxs H2=>Q (x::xs) H2
section
variable{X:Cx}{e:Lj}{es:List Lj}{te:TE}{t:TA}{pos:Pos}
theorem bY:PA X [] eI:=λ_ _ _ _ H Q I h=>Calls.spliced_nil ⟨[],H,I, .nil,h⟩
theorem fM(ha:PE X e te)(hr:PA X es t)(hs:autoParam (Ma (e::es) X.env=(false,L6 e X.env)::Ma es X.env) L'._auto_1):PA X (e::es) (d_ te t):=by intro pos pins s σ H Q I h;rw[hs];show L3 _ _ (spliced ((false,L6 e X.env)::Mw pos (Ma es X.env))) _ _ s;refine Calls.spliced_cons (aV (ha pins s σ H _ I h) λu s1 ⟨x,H1,I1,r1,q1⟩=>?_);exact aV (hr pos pins s1 σ H1 _ I1 q1) λus s2 ⟨xs,H2,I2,r2,q2⟩=>⟨x::xs,H2,I2, .cons r1 r2,q2⟩
def Vw(t:TA):TE:=λσ H Q=>t σ H λxs H1=>xs.length<=sizeLine/\ ∀p,H1 p=none->Q (.ref p) (upd H1 p (.tup xs))
def zq(t:TA):TE:=λσ H Q=>t σ H λxs H1=>xs.length<=sizeLine/\ ∀p,H1 p=none->Q (.ref p) (upd H1 p (.lst xs))
theorem gh{x1}(h:PA X es t):PE X (.Tuple es x1 pos) (Vw t):=by intro pins s σ H Q I hq;refine wpAny_Tuple_spliced (aV (h pos pins s σ H _ I hq) λus s1 ⟨xs,H1,I1,r,z,q⟩=>⟨by rw[<-r.length];exact z,?_⟩);have hf:H1 s1.heap.objs.size=none:=I1.aK.fresh (a_ _);refine⟨.ref s1.heap.objs.size,upd H1 s1.heap.objs.size (.tup xs),I1.laid (t':=s1.toks) (λb u e=>Heap.get?_push_of_some _ e) (a_ _) ?_,U,q _ hf⟩;exact⟨z,us,r,⟨_,Heap.get?_push_size _ U,U,_,U⟩⟩
theorem aS(h:PA X es t):PE X (.List es pos) (zq t):=by intro pins s σ H Q I hq;refine wpAny_List_spliced (aV (h pos pins s σ H _ I hq) λus s1 ⟨xs,H1,I1,r,z,q⟩=>⟨by rw[<-r.length];exact z,?_⟩);have hf:H1 s1.heap.objs.size=none:=I1.aK.fresh (a_ _);refine⟨.ref s1.heap.objs.size,upd H1 s1.heap.objs.size (.lst xs),I1.laid (t':=s1.toks) (λb u e=>Heap.get?_push_of_some _ e) (a_ _) ?_,U,q _ hf⟩;exact⟨z,us,0,r,Heap.get?_push_size _ U⟩
end
abbrev Sp:=List V->Hp->VK->XK->Prop
abbrev j8:=List Env->Hp->me->XK->cp->me->Prop
structure nz(P:Mb)(w:L9)(K:FU)(mg:Str->Option cp)(base:Heap)(A:Mf)(outer:List Env)(s:me)(H:Hp):Prop where
 frames:A.frames=some outer
 mod:Mod K mg base
 bs:∀b o,base.get? b=some o->s.heap.get? b=some o/\ H b=none
 lZ:base.objs.size<=s.heap.objs.size
 j0:s.heap.FunFrames base outer
 pU:∀b∈lY outer,H b=none
 aK:du P w H s.heap
 bare:ND s.gens
def CE(outer:List Env)(P:Mb)(w:L9)(H:Hp)(s:me)(Q:VK)(u:cp)(s':me):Prop:=∃v H',s'.os=s.os/\ ND s'.gens/\ Un (lY outer) [] H H' s.heap s'.heap/\ du P w H' s'.heap/\ RelV v u/\ Q v H'
def CR(CX:j8)(outer:List Env)(P:Mb)(w:L9)(H:Hp)(s:me)(Q:VK)(E:XK)(r:Result)(s':me):Prop:=
 match r with
 | .ok (.ret u)=>CE outer P w H s Q u s'
 | .ok _=>False
 | .error e=>CX outer H s E e s'
structure iu(P:Mb)(w:L9)(K:FU)(mg:Str->Option cp)(base:Heap)(CX:j8)(k:Nat)(f:Addr)(fd:MG)(ps:List Str)(sp:Sp):Prop where
 len:∀vs H Q E,sp vs H Q E->vs.length=ps.length
 run:∀(A:Mf) (outer:List Env) (s:me) (H:Hp) (args:Args) (us:List cp) (vs:List V) (Q:VK) (E:XK),di k A->nz P w K mg base A outer s H->BindsTo s fd args (ps.zip us)->Vals vs us->sp vs H Q E->
  Nb (L1 P w) A (.call (.ref f) args) (CR CX outer P w H s Q E) s
theorem nz.make{P:Mb}{w:L9}{K:FU}{mg:Str->Option cp}{base:Heap}{A:Mf}{outer:List Env}{s:me}{H:Hp}(e:nz P w K mg base A outer s H)(C:Addr)(us:List cp)(kw:List (Str×cp)):
  nz P w K mg base (A.under (.builtin "type.__call__" ⟨.ref C::us,kw⟩)) outer s H:=⟨by first|exact e.frames|(simpa [Around.under,Code.envs,Code.isFrame,pushEnvs]using e.frames),e.mod,e.bs,e.lZ,e.j0,e.pU,e.aK,e.bare⟩
section
variable{X:Cx}{pins:List (Addr×Obj)}{σ:St}{H:Hp}{s s':me}
theorem Inv.KN(I:Inv X pins σ H s):nz X.prog X.w X.K X.mg X.base X.A X.stack s H:=⟨I.ok.frames,I.ok.mod,I.bs,c_ I.ok.lZ I.sz,I.stack,I.J8,I.aK,I.bare⟩
theorem Inv.after{Q:VK}{u:cp}(I:Inv X pins σ H s)(h:CE X.stack X.prog X.w H s Q u s'):EP X pins σ Q u s':=by obtain⟨v,H',os,bare,un,aK,r,q⟩:=h;obtain⟨hh,g,d,t,Vx⟩:=s';obtain rfl:Vx=s.os:=os;exact⟨v,H',I.call (h':=hh) (g':=g) (d':=d) (t':=t) (ch:=[]) un aK bare (λb z=>absurd z (by simp)),r,q⟩
end
def iS(sp:Sp)(dvs:List V)(E:XK)(t:TA):TE:=λσ H Q=>t σ H λvs H1=>sp (vs++dvs) H1 Q E
inductive KO(C:Addr)(m:Str)(sp:Sp)(dvs:List V)(E:XK)(t:TA)(σ:St)(Q:VK)(x:V)(H1:Hp):Prop
 |mk (a:_) (dx:_) (fs:_):x= .ref a->H1 a=some (.ins C dx fs)->fs.lookup m=none->(t σ H1 λvs H2=>sp (x::(vs++dvs)) H2 Q E)->KO C m sp dvs E t σ Q x H1
def oH(C:Addr)(m:Str)(sp:Sp)(dvs:List V)(E:XK)(ta:TE)(t:TA):TE:=λσ H Q=>ta σ H λx H1=>KO C m sp dvs E t σ Q x H1
def KP(C:Addr)(sp:Sp)(dvs:List V)(E:XK)(t:TA):TE:=λσ H Q=>t σ H λvs H1=>∀x dx,H1 x=none->H1 dx=none->dx≠x->
 sp (.ref x::(vs++dvs)) (upd (upd H1 dx (.own x)) x (.ins C dx [])) (λv H2=>v= .aO/\ Q (.ref x) H2) E
def Binds(K:FU)(fd:MG)(ps:List Str)(ds:List cp):Prop:=∀(s:me) (us:List cp),K.In s.heap->(us++ds).length=ps.length->BindsTo s fd ⟨us,[]⟩ (ps.zip (us++ds))
theorem Binds.all{K:FU}{fd:MG}{ps:List Str}(h:∀us:List cp,us.length=ps.length->bindArgs fd ⟨us,[]⟩=pure (ps.zip us)):Binds K fd ps []:=λs us _ hl=>by rw[i5]at hl⊢;exact .of_eq (h us hl)
def Passes(CX:j8)(X:Cx)(E:XK):Prop:=∀(pins:List (Addr×Obj)) (σ:St) (H:Hp) (s:me) (e:cp) (s':me),Inv X pins σ H s->CX X.stack H s E e s'->X.xe e s'
section
variable{X:Cx}{CX:j8}{k:Nat}{f C:Addr}{fd:MG}{ps:List Str}{sp:Sp}{dvs:List V}{ds:List cp}{E:XK}{x m:Str}{p pos apos:Pos}{e o:Lj}{es:List Lj}{ta:TE}{t:TA}
theorem Dg{pins:List (Addr×Obj)}{σ:St}{H:Hp}{s:me}{Q:VK}{us:List cp}{vs:List V}(F:iu X.prog X.w X.K X.mg X.base CX k f fd ps sp)(hr:di k X.A)(hb:Binds X.K fd ps ds)(hd:Vals dvs ds)(hx:Passes CX X E)
  (I:Inv X pins σ H s) (r:Vals vs us) (h:sp (vs++dvs) H Q E):L3 (L1 X.prog X.w) X.A (call (.ref f) us) (EP X pins σ Q) X.xe s:=by
 have r2:Vals (vs++dvs) (us++ds):=r.append hd;have hl:(us++ds).length=ps.length:=by rw[<-r2.length];exact F.len _ _ _ _ h
 refine wpAny_call (acg (F.run X.A X.stack s H ⟨us,[]⟩ (us++ds) (vs++dvs) Q E hr I.KN (hb s us I.i9 hl) r2 h) λr s' hq=>?_);cases r with
 |error e=>exact hx pins σ H s e s' I hq
 |ok fl=>
  cases fl with
  |ret u=>exact I.after hq
  |next|brk|cont=>exact False.elim hq
theorem Vy(F:iu X.prog X.w X.K X.mg X.base CX k f fd ps sp)(hr:di k X.A)(hg:Gl X x)(hm:X.mg x=some (.ref f))(hk:NL X.K (.ref f)=true)(hb:Binds X.K fd ps ds)(hd:Vals dvs ds)(hx:Passes CX X E)
  (ha:PA X (e::es) t) (fN:autoParam ((x==("__debug__":Str))=false) Mp._auto_1) (he:autoParam (Ma (e::es) X.env=(false,L6 e X.env)::Ma es X.env) L'._auto_1) (bK:autoParam ((Mw pos (Ma es X.env)).any (·.1)=false) L'._auto_1):
  PE X (.Call (.Name x p) (e::es) [] pos) (iS sp dvs E t):=by
 intro pins s σ H Q I h;refine Nz (y9 I hg hm ?_ fN);refine aec (h₀:=X.base) I.ok.mod.vL hk (aV (ha pos pins s σ H _ I h) λus s1 ⟨vs,H1,I1,r,q⟩=>⟨I1.i9,?_⟩) he bK;exact Dg F hr hb hd hx I1 r q
theorem Vz{pl:Sem Bool}(he:PE X o ta)(c:gf X.K C)(hm:Meth X.K C m f)(F:iu X.prog X.w X.K X.mg X.base CX k f fd ps sp)(hr:di k X.A)(hb:Binds X.K fd ps ds)(hd:Vals dvs ds)(hx:Passes CX X E)(ha:PA X (e::es) t)
  (cD:autoParam (Ma (e::es) X.env=(false,L6 e X.env)::Ma es X.env) L'._auto_1) (bK:autoParam ((Mw pos (Ma es X.env)).any (·.1)=false) L'._auto_1)
  (ht:autoParam (L6 (.Call (.Attribute o m apos) (e::es) [] pos) X.env=(do
   let ov<-L6 o X.env
   standAt apos.atName
   let(f,first)<-Nl [ov] (NI ov m pl)
   callWith pos f first (Mw pos (Ma (e::es) X.env)) (NJ pos (NK [] X.env)))) L'._auto_1):
  PE X (.Call (.Attribute o m apos) (e::es) [] pos) (oH C m sp dvs E ta t):=by
 intro pins s σ H Q I h;refine afR (pl:=pl) (aV (he pins s σ H _ I h) λu s1 ⟨x,H1,I1,rx,a,dx,fs,ex,ea,l,q⟩=>?_) ht;subst ex;obtain rfl:u=Value.ref a:=rx;refine KC I1 ea c hm l ?_;refine aec (first:=[.ref a]) (h₀:=X.base) I.ok.mod.vL hm.kp (aV (ha pos pins s1 σ H1 _ I1 q) λus s2 ⟨vs,H2,I2,r,q2⟩=>⟨I2.i9,?_⟩) cD bK;exact Dg (us:= .ref a::us) (vs:= .ref a::vs) F hr hb hd hx I2 (.cons U r) q2
theorem VA{pl:Sem Bool}(he:PE X o ta)(c:gf X.K C)(hm:Meth X.K C m f)(F:iu X.prog X.w X.K X.mg X.base CX k f fd ps sp)(hr:di k X.A)(hb:Binds X.K fd ps ds)(hd:Vals dvs ds)(hx:Passes CX X E)
  (ht:autoParam (L6 (.Call (.Attribute o m apos) [] [] pos) X.env=(do
   let ov<-L6 o X.env
   standAt apos.atName
   let(f,first)<-Nl [ov] (NI ov m pl)
   callWith pos f first (Mw pos (Ma [] X.env)) (NJ pos (NK [] X.env)))) L'._auto_1):
  PE X (.Call (.Attribute o m apos) [] [] pos) (oH C m sp dvs E ta eI):=by
 intro pins s σ H Q I h;refine afR (pl:=pl) (aV (he pins s σ H _ I h) λu s1 ⟨x,H1,I1,rx,a,dx,fs,ex,ea,l,q⟩=>?_) ht;subst ex;obtain rfl:u=Value.ref a:=rx;refine KC I1 ea c hm l ?_;exact afS (first:=[.ref a]) I1.i9 hm.kp (Dg (us:=[.ref a]) (vs:=[.ref a]) F hr hb hd hx I1 (.cons U .nil) q)
structure Mk(K:FU)(C f:Addr):Prop where
 makes:PySem.W.makesIn K C=true
 init:Nf K (.ref C) "__init__"=some (some (.ref f))
 fn:ad_ K (.ref f)=true
 kp:NL K (.ref C)=true
theorem KQ{pins:List (Addr×Obj)}{σ:St}{H:Hp}{s:me}{Q:VK}{us:List cp}{vs:List V}(M:Mk X.K C f)(F:iu X.prog X.w X.K X.mg X.base CX k f fd ps sp)(hr:di (k+1) X.A)(hb:Binds X.K fd ps ds)(hd:Vals dvs ds)
  (hx:Passes CX X E) (I:Inv X pins σ H s) (r:Vals vs us)
  (h:∀x dx,H x=none->H dx=none->dx≠x->sp (.ref x::(vs++dvs)) (upd (upd H dx (.own x)) x (.ins C dx [])) (λv H2=>v= .aO/\ Q (.ref x) H2) E):
  L3 (L1 X.prog X.w) X.A (call (.ref C) us) (EP X pins σ Q) X.xe s:=by
 have hq:=h (s.heap.objs.size+1) s.heap.objs.size (I.aK.fresh (Nat.le_succ _)) (I.aK.fresh (a_ _)) (gE (adb _));have I2:=Inv.made (C:=C) I;have r2:Vals (V.ref (s.heap.objs.size+1)::(vs++dvs)) (Value.ref (s.heap.objs.size+1)::(us++ds)):= .cons U (r.append hd);have hl:(Value.ref (s.heap.objs.size+1)::us++ds).length=ps.length:=by have e:=r2.length;rw[F.len _ _ _ _ hq]at e;exact e.symm
 refine wpAny_call (Vl (f:=f) I.i9 M.makes M.init (beq_iff_eq.mp M.fn) (acg (F.run _ X.stack _ _ ⟨Value.ref (s.heap.objs.size+1)::us,[]⟩ (Value.ref (s.heap.objs.size+1)::(us++ds)) _ _ E (hr.make C us [])
  (I2.KN.make C us []) (hb _ (Value.ref (s.heap.objs.size+1)::us) I2.i9 hl) r2 hq) λr s' t_=>?_))
 cases r with
 |error e=>exact hx pins σ _ _ e s' I2 t_
 |ok fl=>
  cases fl with
  |ret u=>obtain⟨v,H',I3,rv,ev,q3⟩:=I2.after t_;subst ev;exact⟨rv,⟨V.ref (s.heap.objs.size+1),H',I3,U,q3⟩⟩
  |next|brk|cont=>exact False.elim t_
theorem VB(M:Mk X.K C f)(F:iu X.prog X.w X.K X.mg X.base CX k f fd ps sp)(hr:di (k+1) X.A)(hg:Gl X x)(hm:X.mg x=some (.ref C))(hb:Binds X.K fd ps ds)(hd:Vals dvs ds)(hx:Passes CX X E)
  (ha:PA X (e::es) t) (fN:autoParam ((x==("__debug__":Str))=false) Mp._auto_1) (he:autoParam (Ma (e::es) X.env=(false,L6 e X.env)::Ma es X.env) L'._auto_1) (bK:autoParam ((Mw pos (Ma es X.env)).any (·.1)=false) L'._auto_1):
  PE X (.Call (.Name x p) (e::es) [] pos) (KP C sp dvs E t):=by
 intro pins s σ H Q I h;refine Nz (y9 I hg hm ?_ fN);refine aec (h₀:=X.base) I.ok.mod.vL M.kp (aV (ha pos pins s σ H _ I h) λus s1 ⟨vs,H1,I1,r,q⟩=>⟨I1.i9,?_⟩) he bK;exact KQ M F hr hb hd hx I1 r q
theorem VC(M:Mk X.K C f)(F:iu X.prog X.w X.K X.mg X.base CX k f fd ps sp)(hr:di (k+1) X.A)(hg:Gl X x)(hm:X.mg x=some (.ref C))(hb:Binds X.K fd ps ds)(hd:Vals dvs ds)(hx:Passes CX X E)
  (fN:autoParam ((x==("__debug__":Str))=false) Mp._auto_1):PE X (.Call (.Name x p) [] [] pos) (KP C sp dvs E eI):=by
 intro pins s σ H Q I h;refine Nz (y9 I hg hm ?_ fN);exact afS I.i9 M.kp (KQ (us:=[]) M F hr hb hd hx I .nil h)
end
section
variable{X:Cx}{CX:j8}{k:Nat}{f C:Addr}{fd:MG}{ps ks:List Str}{sp:Sp}{E:XK}{x m:Str}{p pos apos kpos:Pos}{e o:Lj}{es:List Lj}{kws:List Keyword}{te ta:TE}{t tk:TA}{nm:Option Str}
variable{g:List cp->List cp->List cp}{gV:List V->List V->List V}
end
structure Dh(N P:List Str)(sc:Scope):Prop where
 kind:sc.kind= .function
 co:sc.isCoroutine=false
 gen:sc.isGenerator=false
 nd:N.Nodup
 pre:N.take P.length=P
 par:∀x∈P,sc.names.lookup x=some .local\/sc.names.lookup x=some .cell
 Di:∀y∈sc.names,y.2≠ .free
theorem KR{kindOf:Str->Option MH}{x:Str}:∀{binds:List (Str×cp)} {m:Str->Option cp},(∀v,(x,v)∉binds)->bindL kindOf binds m x=m x
 |[],_,_=>rfl
 |(n,v)::r,m,h=>by
  unfold bindL;rw[KR λw hw=>h w (fL _ hw)];split
  .have:x≠n:=by rintro rfl;exact h v iC
   simp[this]
  .rfl
theorem KS{kindOf:Str->Option MH}{x:Str}:∀{binds:List (Str×cp)} {m:Str->Option cp},(∀v,(x,v)∉binds)->bindC kindOf binds m x=m x
 |[],_,_=>rfl
 |(n,v)::r,m,h=>by
  unfold bindC;rw[KS λw hw=>h w (fL _ hw)];split
  .rfl
  .have:x≠n:=by rintro rfl;exact h v iC
   simp[this]
theorem KU{kindOf:Str->Option MH}{x:Str}{v:cp}:∀{P:List Str} {vs:List cp} {i:Nat} {m:Str->Option cp},P.Nodup->P[i]? =some x->vs[i]? =some v->kindOf x=some .local->
  bindL kindOf (P.zip vs) m x=some v
 |[],_,_,_,_,h,_,_|_::_,[],_,_,_,_,h,_=>by simp at h
 |p::P,w::vs,0,m,nd,h1,h2,hk=>by simp at h1 h2;subst h1;subst h2;show bindL kindOf ((p,w)::P.zip vs) m p=_;unfold bindL;rw[KR λv hv=>(fZ.mp nd).1 (ac5 hv).1,aI hk];simp
 |p::P,w::vs,i+1,m,nd,h1,h2,hk=>by show bindL kindOf ((p,w)::P.zip vs) m x=_;unfold bindL;exact KU (i:=i) (fZ.mp nd).2 (by simpa using h1) (by simpa using h2) hk
theorem KW{kindOf:Str->Option MH}{x:Str}{v:cp}:∀{P:List Str} {vs:List cp} {i:Nat} {m:Str->Option cp},P.Nodup->P[i]? =some x->vs[i]? =some v->kindOf x≠some .local->
  bindC kindOf (P.zip vs) m x=some v
 |[],_,_,_,_,h,_,_|_::_,[],_,_,_,_,h,_=>by simp at h
 |p::P,w::vs,0,m,nd,h1,h2,hk=>by simp at h1 h2;subst h1;subst h2;show bindC kindOf ((p,w)::P.zip vs) m p=_;unfold bindC;rw[KS λv hv=>(fZ.mp nd).1 (ac5 hv).1,ay hk];simp
 |p::P,w::vs,i+1,m,nd,h1,h2,hk=>by show bindC kindOf ((p,w)::P.zip vs) m x=_;unfold bindC;exact KW (i:=i) (fZ.mp nd).2 (by simpa using h1) (by simpa using h2) hk
noncomputable def start(N:List Str)(vs:List V):St:=vs.map some++List.replicate (N.length-vs.length) none
noncomputable def rQ(CX:j8)(P:Mb)(w:L9)(K:FU)(mg:Str->Option cp)(base:Heap)(N:List Str)(qual:Str)(scope:Scope)(f:Addr)(cd:cp)(A:Mf)(outer:List Env)(s:me)(H:Hp)(E:XK):Cx where
 prog:=P
 w:=w
 K:=K
 mg:=mg
 base:=base
 A:=A.deeper (M5 qual scope s.heap.objs.size f cd)
 N:=N
 gd:=s
 vM:=H
 env:=M5 qual scope s.heap.objs.size f cd
 outer:=outer
 stack:=M5 qual scope s.heap.objs.size f cd::outer
 ex:=[]
 calm:=true
 fn:=λ_=>true
 pn:=[]
 xe:=λe s'=>L3 (L1 P w) (A.deeper (M5 qual scope s.heap.objs.size f cd)) (leaving (M5 qual scope s.heap.objs.size f cd) e) (λ_ s''=>CX outer H s E e s'') (λe' s''=>CX outer H s E e' s'') s'
theorem KY{sc:Scope}{n:Nat}{x:Str}(h:sc.names.lookup x=some .cell):∃c,(MC n sc.names []).lookup x=some c:=by have q:=afT sc.names n [] (.inl h);exact Option.isSome_iff_exists.mp q
theorem VD{CX:j8}{P:Mb}{w:L9}{K:FU}{mg:Str->Option cp}{base:Heap}{N ps:List Str}{qual:Str}{scope:Scope}{f:Addr}{cd:cp}{A:Mf}{outer:List Env}{s s1:me}{H:Hp}{E:XK}{us:List cp}{vs:List V}
  (S:Dh N ps scope) (hd:A.handled=none) (e0:nz P w K mg base A outer s H) (hl:vs.length=ps.length) (r:Vals vs us)
  (x:InCallC s s.heap.objs.size (bindL (M5 qual scope s.heap.objs.size f cd).kindOf (ps.zip us) λ_=>none) (MC (s.heap.objs.size+1) scope.names []) (bindC (M5 qual scope s.heap.objs.size f cd).kindOf (ps.zip us) λ_=>none) s1):
  Inv (rQ CX P w K mg base N qual scope f cd A outer s H E) [] (start N vs) H s1:=by
 have bK:ps.length<=N.length:=by have:=congrArg List.length S.pre;rw[n9]at this;lia
 obtain⟨h1,tk,rfl,hk⟩:=x.done;have noA:∀b:Addr,b∉(rQ CX P w K mg base N qual scope f cd A outer s H E).ex:=λb z=>absurd (show b∈([]:List Addr)from z) (by simp);refine⟨⟨e0.mod,S.kind,U,U,a_ _,λy z c h1 h2=>?_,λy hy=>?_,λy c _ h=>?_,λ_=>hd,Around.frames_deeper e0.frames, .inr ⟨U,U⟩,λb z=>absurd z (noA b),e0.bs,e0.lZ,λb _ _=>noA b,λb z=>absurd z (noA b),e0.j0,e0.pU⟩,
  rfl,e0.bare,Un.kept hk,⟨_,x.toInCall.ns,λi y v h1 h2 h3=>?_⟩,λy c h=>⟨_,x.cell y c h⟩,e0.aK.fresh (a_ _),λy c h=>?_,λp hp=>absurd (show p∈([]:List (Addr×Obj))from hp) (by simp),e0.aK.kept hk,?_⟩
 .exact name_of_addr x.apart (MJ h1) (MJ h2)
 .have hy:scope.names.lookup y=some .cell\/scope.names.lookup y=some .free:=hy
  rcases hy with hy|hy
  .exact KY hy
  .exact absurd U (S.Di _ (MJ hy))
 .exact yg (x.above y c (MJ h))
 .have hi:i<vs.length:=by
   unfold start at h2;by_cases hi:i<vs.length
   .exact hi
   .rw[fK (by simpa using hi)]at h2
    rw[aeJ]at h2;split at h2<;>cases h2
  have ha:vs[i]? =some v:=by
   unfold start at h2;rw[fe (by simpa using hi),ft]at h2;cases e:vs[i]? with
   |none=>rw[e]at h2;cases h2
   |some a=>rw[e]at h2;cases h2;rfl
  obtain⟨u,hu,rv⟩:=r.get ha;have hp:ps[i]? =some y:=by rw[<-S.pre,ae9 (by lia)];exact h1
  have ndP:ps.Nodup:=by rw[<-S.pre];exact S.nd.sublist (List.take_sublist _ _)
  refine⟨u,rv,?_⟩;rcases S.par y (cN hp)with k|k
  .exact .inl ⟨k,KU ndP hp hu k⟩
  .obtain⟨c,e⟩:=KY (n:=s.heap.objs.size+1) k
   refine .inr ⟨.inl k,c,e,?_⟩;have q:=x.cell y c e;rw[KW ndP hp hu (by show scope.names.lookup y≠_;rw[k];decide)]at q;exact q
 .exact e0.aK.fresh (yg (x.above y c (MJ h)))
 .unfold start
  show _=N.length;rw[cP,aX,qL];lia
theorem VE{CX:j8}{P:Mb}{w:L9}{K:FU}{mg:Str->Option cp}{base:Heap}{k:Nat}{f:Addr}{name qual:Str}{params:Arguments}{body:List Stmt}{scope:Scope}{dV kV doc pm aC ct oc:cp}{an od:Option Addr}
  {osl:Array (Option cp)} {N ps:List Str} {sp:Sp} (lk:K.lookup f=some ⟨oc,od, .func (NB name qual params body scope dV kV doc pm an aC ct),osl⟩) (kU:aed K aC qual=true) (S:Dh N ps scope)
  (len:∀vs H Q E,sp vs H Q E->vs.length=ps.length)
  (hbody:∀(A:Mf) (outer:List Env) (s:me) (H:Hp) (vs:List V) (Q:VK) (E:XK),di k (A.deeper (M5 qual scope s.heap.objs.size f aC))->sp vs H Q E->
   ∃t,jB (rQ CX P w K mg base N qual scope f aC A outer s H E) body t/\ t {nx:=λ_ H'=>Q .aO H',rt:=Q} (start N vs) H):
  iu P w K mg base CX (k+1) f (NB name qual params body scope dV kV doc pm an aC ct) ps sp:=by
 refine⟨len,λA outer s H args us vs Q E hr e0 hb r nD=>?_⟩;have hl:=len _ _ _ _ nD;have KX:K.In s.heap:=e0.mod.vL.keeps λb o e=>(e0.bs b o e).1;have lim:s.heap.NoLimit:=e0.mod.nolimit.keeps λb o e=>(e0.bs b o e).1;have hkind:∀y∈ps.zip us,scope.names.lookup y.1=some .local\/(scope.names.lookup y.1=some .cell/\ ((MC (s.heap.objs.size+1) scope.names []).lookup y.1).isSome=true):=λ⟨n,v⟩ hy=>by
  rcases S.par n (ac5 hy).1 with q|q
  .exact .inl q
  .exact .inr ⟨q,afT _ _ _ (.inl q)⟩
 refine codeAny_call_function hr.depth (KX _ _ lk) U S.co S.gen U (PySem.W.codeRec_of KX kU) (hb _ _ _ _ ?_);refine wpAny_newFunctionEnv_cells S.kind hkind λenv he s1 x=>?_;subst he;refine⟨lim.keeps x.toInCall.keep,codeAny_func ?_⟩;obtain⟨t,ht,hq⟩:=hbody A outer s H vs Q E (hr.deeper _) nD;have I:Inv (rQ CX P w K mg base N qual scope f aC A outer s H E) [] (start N vs) H s1:=VD S hr.hd e0 hl r x;refine M4 (ht [] s1 (start N vs) H _ I hq) (λfl s' hs=>?_) λe s' hs=>hs;have fin:∀{σ':St} {H':Hp} {v:V} {u:cp},Inv (rQ CX P w K mg base N qual scope f aC A outer s H E) [] σ' H' s'->RelV v u->Q v H'->CE outer P w H s Q u s':=λ{σ' H' v u} J rv q=>⟨v,H',J.os,J.bare,J.base,J.aK,rv,q⟩
 cases fl with
 |ret u=>obtain⟨v,σ',H',J,rv,q⟩:=hs;exact fin J rv q
 |next=>obtain⟨σ',H',J,q⟩:=hs;exact fin (v:=V.aO) (u:=Value.none) J U q
 |brk|cont=>obtain⟨_,_,_,q⟩:=hs;exact False.elim q
end L2
namespace L2
open PySem PySem.Spec PyProof.Rows
section
variable{X:Cx}{x:Str}{p pos:Pos}{e:Lj}{es:List Lj}{t:TA}{id T:String}{r:List V->Hp->VK->Prop}
def KZ(r:List V->Hp->VK->Prop)(t:TA):TE:=λσ H Q=>t σ H λvs H1=>r vs H1 Q
theorem pY(hc:jD X (.builtin id) r)(hg:Gl X x)(hm:X.mg x=none)(hv:MI x=some (.builtin id))(ha:PA X (e::es) t)(hn:autoParam (x≠"__name__") Mp._auto_1)(fN:autoParam ((x==("__debug__":Str))=false) Mp._auto_1)
  (he:autoParam (Ma (e::es) X.env=(false,L6 e X.env)::Ma es X.env) L'._auto_1) (bK:autoParam ((Mw pos (Ma es X.env)).any (·.1)=false) L'._auto_1):PE X (.Call (.Name x p) (e::es) [] pos) (KZ r t):=by
 intro pins s σ H Q I h;refine Nz (oC I hg hm hv ?_ hn fN);exact PyProof.Rows.callWith_builtin1 (aV (ha pos pins s σ H _ I h) λus s1 ⟨vs,H1,I1,r1,q1⟩=>hc pins s1 σ H1 vs us Q I1 r1 q1) he bK
theorem oI(hc:jD X (.type T) r)(hg:Gl X x)(hm:X.mg x=none)(hv:MI x=some (.type T))(ha:PA X (e::es) t)(hn:autoParam (x≠"__name__") Mp._auto_1)(fN:autoParam ((x==("__debug__":Str))=false) Mp._auto_1)
  (he:autoParam (Ma (e::es) X.env=(false,L6 e X.env)::Ma es X.env) L'._auto_1) (bK:autoParam ((Mw pos (Ma es X.env)).any (·.1)=false) L'._auto_1):PE X (.Call (.Name x p) (e::es) [] pos) (KZ r t):=by
 intro pins s σ H Q I h;refine Nz (oC I hg hm hv ?_ hn fN);exact PyProof.Rows.callWith_type1 (aV (ha pos pins s σ H _ I h) λus s1 ⟨vs,H1,I1,r1,q1⟩=>hc pins s1 σ H1 vs us Q I1 r1 q1) he bK
end
end L2
namespace HT
open PySem PyProof.Rows
section
open PySem.SeqAt
open PySem.AutoSeq1 (wpAny_loadPart')
open PySem.MeetsSeq PySem.MeetsSeq2 PySem.MeetsSeq3
end
section
variable{prog:Mb}{w:L9}{A:Mf}{E:cp->me->Prop}{s:me}
noncomputable def iw(n d:Nat):Option Int->Nat
 |none=>d
 |some v=>if v<0 then(v+(n:Int)).toNat else min v.toNat n
theorem VF(n d:Nat):iw n d none=d:=rfl
theorem vX(n d k:Nat):iw n d (some (k:Int))=min k n:=by show(if(k:Int)<0 then((k:Int)+(n:Int)).toNat else min (k:Int).toNat n)=min k n;rw[ay (by lia),jO]
end
end HT
namespace L2
open PySem PySem.Spec PyProof.Rows
abbrev TO:=St->Hp->(Option Int->Hp->Prop)->Prop
def PO(X:Cx)(e:Option Lj)(t:TO):Prop:=
 ∀(pins:List (Addr×Obj)) (s:me) (σ:St) (H:Hp) (Q:Option Int->Hp->Prop),Inv X pins σ H s->t σ H Q->
  L3 (L1 X.prog X.w) X.A (evalPart e X.env) (λu s'=>∃o H',Inv X pins σ H' s'/\ IsPart u o/\ Q o H') X.xe s
def VG:TO:=λ_ H Q=>Q none H
def vY(t:TE):TO:=λσ H Q=>t σ H λx H1=>∃i,x= .int i/\ Q (some i) H1
theorem intsAre_of{ns:List Int}:∀{us:List cp},Vals (ns.map V.int) us->IntsAre us ns:=by
 induction ns with
 |nil=>intro us r;rw[qN]at r;cases r;exact .nil
 |cons n ns ih=>
  intro us r;rw[ez]at r;cases r with
  |cons r1 r2=>obtain⟨t,e⟩:=r1;subst e;exact .cons n t (ih r2)
section
variable{X:Cx}{e:Lj}{te:TE}{lo hi:Option Lj}{tl th:TO}{pos p2:Pos}
theorem Dj:PO X none VG:=by intro pins s σ H Q I h;rw[evalPart_none];exact MD ⟨none,H,I, .none,h⟩
theorem je(h:PE X e te):PO X (some e) (vY te):=by intro pins s σ H Q I hw;rw[evalPart_some];refine aV (h pins s σ H _ I hw) λu s1 ⟨x,H1,I1,r1,q1⟩=>?_;obtain⟨i,rfl,q⟩:=q1;obtain⟨t,rfl⟩:=r1;exact⟨some i,H1,I1, .int i t,q⟩
def K0(X:Cx)(r:V->Option Int->Option Int->Hp->VK->Prop):Prop:=
 ∀(pins:List (Addr×Obj)) (s:me) (σ:St) (H:Hp) (x:V) (v vl vu:cp) (lo hi:Option Int) (sl:Addr) (Q:VK),Inv X pins σ H s->RelV x v->s.heap.IsSliceOf sl vl vu .none->IsPart vl lo->IsPart vu hi->r x lo hi H Q->
  ∃T id,typeLookup (.type T) "__getitem__"=pure (some (.builtin id))/\ s.TypeIs v T/\ L3 (L1 X.prog X.w) X.A (getItem v (.ref sl)) (EP X pins σ Q) X.xe s
def Dk(r:V->Option Int->Option Int->Hp->VK->Prop)(te:TE)(tl th:TO):TE:=λσ H Q=>te σ H λx H1=>tl σ H1 λl H2=>th σ H2 λu H3=>r x l u H3 Q
theorem oJ{r:V->Option Int->Option Int->Hp->VK->Prop}(hr:K0 X r)(he:PE X e te)(hl:PO X lo tl)(hu:PO X hi th):PE X (.Subscript e (.Slice lo hi none p2) pos) (Dk r te tl th):=by intro pins s σ H Q I h;refine Subscript_ (aV (he pins s σ H _ I h) λv s1 ⟨x,H1,I1,r1,q1⟩=>?_);refine wpAny_Slice (aV (hl pins s1 σ H1 _ I1 q1) λvl s2 ⟨l,H2,I2,pl,q2⟩=>aV (hu pins s2 σ H2 _ I2 q2) λvu s3 ⟨u,H3,I3,pu,q3⟩=>?_);rw[evalPart_none];refine MD ?_;have I4:Inv X pins σ H3 {s3 with heap:=s3.heap.push {cls:= .type "slice",data:= .fields #[vl,vu, .none]}}:=I3.kept (t':=s3.toks) λb ob q=>Heap.get?_push_of_some _ q;obtain⟨T,id,hT,ht,hg⟩:=hr pins {s3 with heap:=s3.heap.push {cls:= .type "slice",data:= .fields #[vl,vu, .none]}} σ H3 x v vl vu l u s3.heap.objs.size Q I4 r1 (Heap.IsSliceOf.new ..) pl pu q3;show L3 (L1 X.prog X.w) X.A (subscriptTail e (.Slice lo hi none p2) v (.ref s3.heap.objs.size)) (EP X pins σ Q) X.xe {s3 with heap:=s3.heap.push {cls:= .type "slice",data:= .fields #[vl,vu, .none]}};exact tail_any (ops:=[.ref s3.heap.objs.size,v]) ht hT hg (by with_unfolding_all rfl)
noncomputable def fU(xs:List V)(lo hi:Option Int):List V:=(xs.drop (HT.iw xs.length 0 lo)).take (HT.iw xs.length xs.length hi-HT.iw xs.length 0 lo)
theorem VH(xs:List V)(lo hi:Option Int):(fU xs lo hi).length<=xs.length:=by unfold fU;rw[n9,jq];lia
end
end L2
namespace L2
open PySem PySem.Spec PyProof.Rows
noncomputable def mf(n:Nat)(i:Int):Option Nat:=if 0<=i then(if i<n then some i.toNat else none)else if-(n:Int)<=i then some (i+n).toNat else none
noncomputable def gi{α:Type}(xs:List α)(i:Int):Option α:=(mf xs.length i).bind λj=>xs[j]?
theorem K2{n:Nat}{i:Int}{j:Nat}(h:mf n i=some j):seqIndex? i n=some j/\ j<n/\ -(n:Int)<=i/\ i<n:=by
 unfold mf at h;by_cases h0:0<=i
 .rw[aI h0]at h
  by_cases h1:i<n
  .rw[aI h1]at h
   have e:i.toNat=j:=aM h;exact⟨by rw[seqIndex_of h0 h1,e],by lia,by lia,h1⟩
  .rw[ay h1]at h;cases h
 .rw[ay h0]at h
  by_cases h1: -(n:Int)<=i
  .rw[aI h1]at h
   have e:(i+n).toNat=j:=aM h;exact⟨by rw[seqIndex_neg (by lia) h1,e],by lia,h1,by lia⟩
  .rw[ay h1]at h;cases h
theorem K3{α:Type}{xs:List α}{i:Int}{v:α}(h:gi xs i=some v):∃j,seqIndex? i xs.length=some j/\ xs[j]? =some v/\ j<xs.length/\ -(xs.length:Int)<=i/\ i<xs.length:=by
 unfold gi at h;cases e:mf xs.length i with
 |none=>rw[e]at h;cases h
 |some j=>rw[e]at h;obtain⟨h1,h2,h3,h4⟩:=K2 e;exact⟨j,h1,h,h2,h3,h4⟩
theorem bH{α:Type}{xs:List α}{j:Nat}{v:α}(h:xs[j]? =some v):gi xs (j:Int)=some v:=by
 have hj:j<xs.length:=(da.mp h).1;have e:mf xs.length (j:Int)=some j:=by unfold mf;rw[aI (by lia),aI (by lia)];simp
 unfold gi;rw[e];exact h
theorem VI{α:Type}(xs:List α)(v:α):gi (xs++[v]) (-1)=some v:=by
 have hl:(xs++[v]).length=xs.length+1:=by simp
 have e:mf (xs++[v]).length (-1)=some xs.length:=by unfold mf;rw[hl,ay (by decide),aI (by lia)];congr 1;lia
 unfold gi;rw[e];show(xs++[v])[xs.length]? =some v;simp
def vZ(b:Lj):Prop:=∀o i,subscripted b false o i=operate [o,i] (getItem o i)
def v8(X:Cx)(r:R2):Prop:=
 ∀(value slice:Lj) (pins:List (Addr×Obj)) (s:me) (σ:St) (H:Hp) (x y:V) (v u:cp) (Q:VK),Inv X pins σ H s->RelV x v->RelV y u->r x y H Q->
  subscripted slice false v u=operate [v,u] (getItem v u)->L3 (L1 X.prog X.w) X.A (subscriptTail value slice v u) (EP X pins σ Q) X.xe s
def Dl(X:Cx)(id:String)(r:V->List V->Hp->VK->Prop):Prop:=
 ∀(pins:List (Addr×Obj)) (s:me) (σ:St) (H:Hp) (x:V) (xs:List V) (v:cp) (us:List cp) (Q:VK),Inv X pins σ H s->RelV x v->Vals xs us->r x xs H Q->
  L3 (L1 X.prog X.w) X.A (call (.builtin id) (v::us)) (EP X pins σ Q) X.xe s
section
variable{X:Cx}{a b:Lj}{ta tb:TE}{pos:Pos}
theorem zr{r:R2}(hr:v8 X r)(ha:PE X a ta)(hb:PE X b tb)(hs:vZ b):PE X (.Subscript a b pos) (cw r ta tb):=by intro pins s σ H Q I h;exact Subscript_ (C8 ha hb I h λv u s2 x y H2 I2 rx ry q=>hr a b pins s2 σ H2 x y v u Q I2 rx ry q (hs _ _))
inductive fO(K:FU)(x y:V)(H:Hp)(Q:VK):Prop
 |mk (p:_) (xs:_) (i:_) (v:_):x= .ref p->y= .int i->ab K H p xs->gi xs i=some v->Q v H->fO K x y H Q
inductive ub(K:FU)(x y:V)(H:Hp)(Q:VK):Prop
 |mk (p:_) (xs:_) (i:_) (v:_):x= .ref p->y= .int i->bx K H p xs->gi xs i=some v->Q v H->ub K x y H Q
theorem K4:v8 X (fO X.K):=by
 intro value slice pins s σ H x y v u Q I rx ry h hs;obtain⟨p,xs,i,z,rfl,rfl,hq,he,q⟩:=h;cases rx;obtain⟨t,rfl⟩:=ry;obtain⟨ai,r,pl,hz⟩:=I.list hq;obtain⟨j,h1,h2,h3,h4,h5⟩:=K3 he;obtain⟨w,ew,Dm⟩:=r.get h2;have hl:=r.length;have hn:=zm;have fin:EP X pins σ Q w s:=⟨z,H,I,Dm,q⟩
 by_cases h0:0<=i
 .have hj:i.toNat=j:=by
   rw[seqIndex_of h0 h5]at h1;exact aM h1
  exact item_listR pl.isList h0 (by lia) (by rw[hj];simpa using ew) fin hs
 .have hj:(i+(ai.toArray.size:Int)).toNat=j:=by
   rw[seqIndex_neg (by lia) h4]at h1;rw[eM,<-hl];exact aM h1
  exact subscriptTail_builtinR (x:=w) pl.isList.typeIs slot_list_getitem.lookup
   (wpAny_getItem_list_neg (Q:=λr s'=>r=w/\ EP X pins σ Q r s') pl.isList (by lia) (by rw[eM]<;>lia) (by lia) (by rw[hj];simpa using ew) ⟨U,fin⟩) hs
theorem K5:v8 X (ub X.K):=by
 intro value slice pins s σ H x y v u Q I rx ry h hs;obtain⟨p,xs,i,z,rfl,rfl,hq,he,q⟩:=h;cases rx;obtain⟨t,rfl⟩:=ry;obtain⟨ai,r,pl,hz⟩:=I.tuple hq;obtain⟨j,h1,h2,h3,h4,h5⟩:=K3 he;obtain⟨w,ew,Dm⟩:=r.get h2;have hl:=r.length;have hn:=zm;have fin:EP X pins σ Q w s:=⟨z,H,I,Dm,q⟩
 exact subscriptTail_builtinR (x:=w) pl.typeIs slot_tuple_getitem.lookup
  (getItem_tuple (j:=j) (Q:=λr s'=>r=w/\ EP X pins σ Q r s') pl (by lia) (by lia) (by rw[eM,<-hl];exact h1) (by simpa using ew) ⟨U,fin⟩) hs
theorem VJ(ai:List cp)(n j:Nat)(u:cp):Obj.mapSeq (·.setIfInBounds j u) {cls:= .type "list",data:= .seq ai.toArray n}={cls:= .type "list",data:= .seq (ai.set j u).toArray n}:=by simp[Obj.mapSeq]
theorem Inv.lst{pins:List (Addr×Obj)}{σ:St}{H:Hp}{s:me}{p:Addr}{xs:List V}(I:Inv X pins σ H s)(h:H p=some (.lst xs)):
  ∃(ai:List cp) (n:Nat),Vals xs ai/\ s.heap.get? p=some {cls:= .type "list",data:= .seq ai.toArray n}/\ xs.length<=sizeLine:=by
 obtain⟨z,ai,n,r,e⟩:=I.aK p _ h;exact⟨ai,n,r,e,z⟩
theorem Inv.VL{pins:List (Addr×Obj)}{σ:St}{H:Hp}{s:me}{p:Addr}{xs ys:List V}{ai its':List cp}{n n':Nat}{f:Obj->Obj}(I:Inv X pins σ H s)(h:H p=some (.lst xs))
  (ho:s.heap.get? p=some {cls:= .type "list",data:= .seq ai.toArray n}) (hf:f {cls:= .type "list",data:= .seq ai.toArray n}={cls:= .type "list",data:= .seq its'.toArray n'}) (r:Vals ys its') (hz:ys.length<=sizeLine) (t:Nat):
  Inv X pins σ (upd H p (.lst ys)) {s with heap:=s.heap.update p f,toks:=t}:=by
 have e:(s.heap.update p f).get? p=some {cls:= .type "list",data:= .seq its'.toArray n'}:=by rw[Heap.get?_update_self f ho (by rw[hf]<;>rfl),hf]
 refine I.write (x:=p) (e:=p) (by rw[h];trivial) (.inl U) (λb u hb q=>(Heap.get?_update_other _ _ (Ne.symm hb)).trans q) ⟨_,e⟩ ?_;exact⟨hz,its',n',r,e⟩
inductive K6(o i v:V)(H:Hp)(Q:Hp->Prop):Prop
 |mk (p:_) (xs:_) (k:_) (j:_):o= .ref p->i= .int k->H p=some (.lst xs)->mf xs.length k=some j->Q (upd H p (.lst (xs.set j v)))->K6 o i v H Q
theorem set_list:Kf X K6:=by
 intro pins s σ H o i v ov iv u Q I ro ri rv h;obtain⟨p,xs,k,j,rfl,rfl,hp,hj,q⟩:=h;cases ro;obtain⟨t,rfl⟩:=ri;obtain⟨ai,n,r,ho,hz⟩:=I.lst hp;obtain⟨h1,h2,h3,h4⟩:=K2 hj;have hl:=r.length;have hn:=zm;have I':Inv X pins σ (upd H p (.lst (xs.set j v))) {s with heap:=s.heap.update p (Obj.mapSeq (·.setIfInBounds j u))}:=I.VL hp ho (VJ ai n j u) (r.set rv j) (by rw[tf];exact hz) s.toks
 by_cases h0:0<=k
 .have hk:k.toNat=j:=by
   rw[seqIndex_of h0 h4]at h1;exact aM h1
  exact PySem.W.ki_setAt ho h0 (by lia) (by rw[eM,<-hl];exact h4) (by rw[hk];exact⟨_,I',q⟩)
 .have hk:(k+(ai.toArray.size:Int)).toNat=j:=by
   rw[seqIndex_neg (by lia) h3]at h1;rw[eM,<-hl];exact aM h1
  exact PySem.W.ki_setBack ho (by lia) (by rw[eM,<-hl];exact h3) (by lia) (by rw[hk];exact⟨_,I',q⟩)
theorem VM(lo hi:Option Int)(n:Nat):(NA lo hi none n).1=((HT.iw n 0 lo:Nat):Int)/\ (NA lo hi none n).2.1=((HT.iw n n hi:Nat):Int)/\ (NA lo hi none n).2.2=1:=by
 refine⟨?_,?_,U⟩
 .cases lo with
  |none=>simp[NA,HT.iw]
  |some i=>
   simp only[NA,HT.iw,afx,show(1:Int)>0 by decide,if_true];by_cases h:i<0
   .simp only[h,if_true]<;>lia
   .simp only[h,if_false]<;>lia
 .cases hi with
  |none=>simp[NA,HT.iw]
  |some i=>
   simp only[NA,HT.iw,afx,show(1:Int)>0 by decide,if_true];by_cases h:i<0
   .simp only[h,if_true]<;>lia
   .simp only[h,if_false]<;>lia
theorem VN(ai:List cp)(lo hi:Option Int):slicePick ai.toArray lo hi none=((ai.drop (HT.iw ai.length 0 lo)).take (HT.iw ai.length ai.length hi-HT.iw ai.length 0 lo)).toArray:=by obtain⟨h1,h2,h3⟩:=VM lo hi ai.toArray.size;unfold slicePick;rw[h1,h2,h3];simp only[sliceRange_one,pick_run,eM]<;>rfl
inductive zt(K:FU)(x:V)(lo hi:Option Int)(H:Hp)(Q:VK):Prop
 |mk (a:_) (xs:_):x= .ref a->ab K H a xs->(∀p,H p=none->Q (.ref p) (upd H p (.lst (fU xs lo hi))))->zt K x lo hi H Q
theorem oK:K0 X (zt X.K):=by intro pins s σ H x v vl vu lo hi sl Q I rx hs pl pu h;obtain⟨a,xs,rfl,hx,q⟩:=h;cases rx;obtain⟨ai,r,ht,hz⟩:=I.list hx;have hlen:=r.length;refine⟨"list",_,slot_list_getitem.lookup,ht.isList.typeIs,?_⟩;refine wpAny_getItem_list_slice ht.isList hs pl pu .none (by simp) ?_ (by rw[eM]<;>lia);rw[VN,<-hlen];refine⟨.ref s.heap.objs.size,_,I.laid (t':=s.toks) (o:= .lst (fU xs lo hi)) (λb ob q=>Heap.get?_push_of_some _ q) (a_ _) ?_,U,q _ (I.aK.fresh (a_ _))⟩;exact⟨c_ (VH xs lo hi) hz,_,0,(r.drop (HT.iw xs.length 0 lo)).take (HT.iw xs.length xs.length hi-HT.iw xs.length 0 lo),Heap.get?_push_size _ U⟩
noncomputable def pZ:V->Bool
 | .aO| .bl _| .int _| .str _=>true
 |_=>false
noncomputable def mh:V->V->Bool
 | .aO, .aO=>true
 | .bl a, .bl b=>a==b
 | .bl a, .int b=>(if a then 1 else 0)==b
 | .int a, .bl b=>a==(if b then 1 else 0)
 | .int a, .int b| .str a, .str b=>a==b
 |_,_=>false
theorem VO{A:Mf}{s:me}{y x:V}{u v:cp}(ry:RelV y u)(rx:RelV x v)(fy:pZ y=true)(fx:pZ x=true):SeqAt.EqAt A s u v (mh y x):=by
 cases y with
 |aO=>
  cases ry;cases x with
  |aO=>cases rx;exact SeqAt.EqAt.same _
  |bl b=>cases rx;exact SeqAt.EqAt.none_bool b
  |int b=>obtain⟨t,rfl⟩:=rx;exact SeqAt.EqAt.none_int b t
  |str b=>obtain⟨t,rfl⟩:=rx;exact SeqAt.EqAt.none_str b t
  |_=>exact absurd (show false=true from fx) gn
 |bl a=>
  cases ry;cases x with
  |aO=>cases rx;exact SeqAt.EqAt.bool_none a
  |bl b=>cases rx;exact SeqAt.EqAt.bool_bool a b
  |int b=>obtain⟨t,rfl⟩:=rx;exact SeqAt.EqAt.bool_int a b t
  |str b=>obtain⟨t,rfl⟩:=rx;exact SeqAt.EqAt.bool_str a b t
  |_=>exact absurd (show false=true from fx) gn
 |int a=>
  obtain⟨t',rfl⟩:=ry;cases x with
  |aO=>cases rx;exact SeqAt.EqAt.int_none a t'
  |bl b=>cases rx;exact SeqAt.EqAt.int_bool a t' b
  |int b=>obtain⟨t,rfl⟩:=rx;exact SeqAt.EqAt.int_int a t' b t
  |str b=>obtain⟨t,rfl⟩:=rx;exact SeqAt.EqAt.int_str a t' b t
  |_=>exact absurd (show false=true from fx) gn
 |str a=>
  obtain⟨t',rfl⟩:=ry;cases x with
  |aO=>cases rx;exact SeqAt.EqAt.str_none a t'
  |bl b=>cases rx;exact SeqAt.EqAt.str_bool a t' b
  |int b=>obtain⟨t,rfl⟩:=rx;exact SeqAt.EqAt.str_int a t' b t
  |str b=>obtain⟨t,rfl⟩:=rx;exact SeqAt.EqAt.str_str a t' b t
  |_=>exact absurd (show false=true from fx) gn
 |_=>exact absurd (show false=true from fy) gn
noncomputable def jf(x:V)(u:cp):Bool:=match u with
 | .none=>mh .aO x
 | .bool b=>mh (.bl b) x
 | .int i _=>mh (.int i) x
 | .str z _=>mh (.str z) x
 |_=>false
theorem K7{x y:V}{u:cp}(r:RelV y u)(f:pZ y=true):jf x u=mh y x:=by
 cases y with
 |aO|bl b=>cases r;rfl
 |int i|str z=>obtain⟨t,rfl⟩:=r;rfl
 |_=>exact absurd (show false=true from f) gn
theorem v_{x:V}:∀{xs:List V} {us:List cp},Vals xs us->xs.all pZ=true->us.any (jf x)=xs.any λy=>mh y x
 |_,_, .nil,_=>rfl
 |y::xs,u::us, .cons r t,f=>by rw[iG,bC]at f;rw[px,px,K7 r f.1,v_ t f.2]
theorem wb{A:Mf}{s:me}{x:V}{v:cp}(rx:RelV x v)(fx:pZ x=true):∀{xs:List V} {us:List cp},Vals xs us->xs.all pZ=true->∀u∈us,SeqAt.EqAt A s u v (jf x u)
 |_,_, .nil,_=>λu hu=>by cases hu
 |y::xs,u::us, .cons r t,f=>λu' hu=>by
  rw[iG,bC]at f;rcases br.mp hu with rfl|hu
  .rw[K7 r f.1];exact VO r rx f.1 fx
  .exact wb rx fx t f.2 u' hu
noncomputable def gj(x:V)(xs:List V):Bool:=xs.any λy=>mh y x
inductive zu(K:FU)(neg:Bool)(x y:V)(H:Hp)(Q:VK):Prop
 |mk (p:_) (xs:_):y= .ref p->(ab K H p xs\/bx K H p xs)->pZ x=true->xs.all pZ=true->(Q (.bl (if neg then !gj x xs else gj x xs)) H)->zu K neg x y H Q
theorem zw:dN X (MA .In) (zu X.K false):=by
 intro pins s σ H x y v u Q I rx ry h;obtain⟨p,xs,rfl,hq,fx,fs,q⟩:=h;cases ry;rcases hq with hq|hq
 .obtain⟨ai,r,pl,hz⟩:=I.list hq
  refine SeqAt.in_listAt (jf x) pl.isList (λw hw=>wb rx fx r fs w (by simpa using hw)) ⟨.bl _,H,I,U,?_⟩;rw[show ai.toArray.any (jf x)=ai.any (jf x) by simp,v_ r fs];exact q
 .obtain⟨ai,r,pl,hz⟩:=I.tuple hq
  refine SeqAt.in_tupleAt (jf x) pl (λw hw=>wb rx fx r fs w (by simpa using hw)) ⟨.bl _,H,I,U,?_⟩;rw[show ai.toArray.any (jf x)=ai.any (jf x) by simp,v_ r fs];exact q
theorem VP:dN X (MA .NotIn) (zu X.K true):=by
 intro pins s σ H x y v u Q I rx ry h;obtain⟨p,xs,rfl,hq,fx,fs,q⟩:=h;cases ry;rcases hq with hq|hq
 .obtain⟨ai,r,pl,hz⟩:=I.list hq
  refine SeqAt.notIn_listAt (jf x) pl.isList (λw hw=>wb rx fx r fs w (by simpa using hw)) ⟨.bl _,H,I,U,?_⟩;rw[show ai.toArray.any (jf x)=ai.any (jf x) by simp,v_ r fs];exact q
 .obtain⟨ai,r,pl,hz⟩:=I.tuple hq
  refine SeqAt.notIn_tupleAt (jf x) pl (λw hw=>wb rx fx r fs w (by simpa using hw)) ⟨.bl _,H,I,U,?_⟩;rw[show ai.toArray.any (jf x)=ai.any (jf x) by simp,v_ r fs];exact q
inductive afY(K:FU)(xs:List V)(H:Hp)(Q:VK):Prop
 |mk (p:_) (ys:_):xs=[.ref p]->(ab K H p ys\/bx K H p ys)->Q (.int ys.length) H->afY K xs H Q
theorem VQ:jD X (.builtin "len") (afY X.K):=by
 intro pins s σ H xs us Q I r h;obtain⟨p,ys,rfl,hq,q⟩:=h;obtain⟨u,rfl,rx⟩:=vals1 r;cases rx;have hn:=zm;rcases hq with hq|hq
 .obtain⟨ai,r',pl,hz⟩:=I.list hq
  have hlen:=r'.length;exact Calls.call_len_list pl.isList (by simp only[eM]<;>lia) ⟨.int ys.length,H,I.tok _,⟨s.toks+1,by rw[eM,hlen]⟩,q⟩
 .obtain⟨ai,r',pl,hz⟩:=I.tuple hq
  have hlen:=r'.length;exact len_tuple pl (by simp only[eM]<;>lia) ⟨.int ys.length,H,I.tok _,⟨s.toks+1,by rw[eM,hlen]⟩,q⟩
theorem Dn:jD X (.type "list") (λxs H Q=>∃p ys,xs=[.ref p]/\ (ab X.K H p ys\/bx X.K H p ys)/\ ∀l,H l=none->Q (.ref l) (upd H l (.lst ys))):=by
 intro pins s σ H xs us Q I r h;obtain⟨p,ys,rfl,hq,q⟩:=h;obtain⟨u,rfl,rx⟩:=vals1 r;cases rx;have fin:∀(ai:List cp),Vals ys ai->ys.length<=sizeLine->∀(h':Heap) (c':Nat),(∀b o',s.heap.get? b=some o'->h'.get? b=some o')->
   h'.get? s.heap.objs.size=some {cls:= .type "list",dict:=none,data:= .seq ai.toArray c',slots:= #[]}->EP X pins σ Q (.ref s.heap.objs.size) {s with heap:=h'}:=λai r' hz h' c' kp e=>
  ⟨.ref s.heap.objs.size,_,I.laid (t':=s.toks) kp (a_ _) (show dU X.prog X.w _ h' _ (.lst ys)from⟨hz,ai,c',r',e⟩),U,q _ (I.aK.fresh (a_ _))⟩
 rcases hq with hq|hq
 .obtain⟨ai,r',pl,hz⟩:=I.list hq
  have hlen:=r'.length;obtain⟨o,ho,hc,n,hd⟩:=pl.isList;exact call_list_seq p (.inl U) ho hc hd (λh' c' kp e=>fin ai r' hz h' c' kp e) (by simp only[eM]<;>lia)
 .obtain⟨ai,r',pl,hz⟩:=I.tuple hq
  have hlen:=r'.length;obtain⟨o,ho,hc,n,hd⟩:=pl;exact call_list_seq p (.inr U) ho hc hd (λh' c' kp e=>fin ai r' hz h' c' kp e) (by simp only[eM]<;>lia)
theorem VR:jD X (.type "tuple") (λxs H Q=>∃p ys,xs=[.ref p]/\ ((ab X.K H p ys/\ ∀l,H l=none->Q (.ref l) (upd H l (.tup ys)))\/(bx X.K H p ys/\ Q (.ref p) H))):=by
 intro pins s σ H xs us Q I r h;obtain⟨p,ys,rfl,h⟩:=h;obtain⟨u,rfl,rx⟩:=vals1 r;cases rx;rcases h with⟨hq,q⟩|⟨hq,q⟩
 .obtain⟨ai,r',pl,hz⟩:=I.list hq
  have hlen:=r'.length;refine call_tuple_list pl.isList (λh' kp=>?_) (by simp only[eM]<;>lia);have I1:Inv X pins σ H {s with heap:=h'}:=I.kept (t':=s.toks) kp;have I2:Inv X pins σ (upd H h'.objs.size (.tup ys)) {s with heap:=h'.push {cls:= .type "tuple",data:= .seq ai.toArray}}:=I1.laid (t':=s.toks) (λb o e=>Heap.get?_push_of_some _ e) (a_ _) (show dU X.prog X.w _ _ _ (.tup ys)from⟨hz,ai,r',IsTup.new _ _⟩)
  exact⟨.ref h'.objs.size,_,I2,U,q _ (I1.aK.fresh (a_ _))⟩
 .obtain⟨ai,r',pl,hz⟩:=I.tuple hq
  exact call_tuple_same pl ⟨.ref p,H,I,U,q⟩
def Dq(K:FU)(T:String)(x:V)(H:Hp):Prop:=match x with
 | .str _=>T="str"
 | .int _=>T="int"
 | .ref p=>(T="list"/\ ∃xs,ab K H p xs)\/(T="tuple"/\ ∃o,K.lookup p=some o/\ o.cls= .type "tuple"/\ o.dict=none)\/
   (T="dict"/\ ((∃ax,H p=some (.dK ax))\/∃ax,H p=some (.dT ax)))\/(T="set"/\ ∃S n,H p=some (.set S n))
 |_=>False
theorem K8{pins:List (Addr×Obj)}{σ:St}{H:Hp}{s:me}{T:String}{x:V}{v:cp}(I:Inv X pins σ H s)(r:RelV x v)(ty:Dq X.K T x H):
  s.TypeIs v T/\ ∀a,v= .ref a->∃ob,s.heap.get? a=some ob/\ ob.dict=none:=by
 cases x with
 |str z=>obtain⟨t,rfl⟩:=r;cases (show T="str" from ty);exact⟨typeIs_str s z t,λ_ e=>nomatch e⟩
 |int i=>obtain⟨t,rfl⟩:=r;cases (show T="int" from ty);exact⟨typeIs_int s i t,λ_ e=>nomatch e⟩
 |ref p=>
  cases r;rcases ty with⟨rfl,xs,hq⟩|⟨rfl,o,hk,hc,hd⟩|⟨rfl,hk⟩|⟨rfl,S,n,hk⟩
  .obtain⟨ai,_,pl,_⟩:=I.list hq
   refine⟨pl.isList.typeIs,λa e=>?_⟩;cases e;obtain⟨o,n,e,c,hd,_⟩:=pl;exact⟨o,e,hd⟩
  .refine⟨⟨o,I.i9 p o hk,hc⟩,λa e=>?_⟩
   cases e;exact⟨o,I.i9 _ o hk,hd⟩
  .have z:∃o,s.heap.get? p=some o/\ o.ExactDict:=by
    rcases hk with⟨ax,hk⟩|⟨ax,hk⟩
    .obtain⟨_,_,_,_,o,_,_,e,ex,_⟩:=I.aK p _ hk
     exact⟨o,e,ex⟩
    .obtain⟨_,_,_,_,o,_,_,e,ex,_⟩:=I.aK p _ hk
     exact⟨o,e,ex⟩
   obtain⟨o,e,ex⟩:=z;refine⟨⟨o,e,ex.1⟩,λa e2=>?_⟩;cases e2;exact⟨o,e,ex.2.1⟩
  .obtain⟨o,_,_,_,e,ex,_⟩:=I.aK p _ hk
   refine⟨⟨o,e,ex.1⟩,λa e2=>?_⟩;cases e2;exact⟨o,e,ex.2.1⟩
 |_=>exact False.elim ty
def VS(K:FU)(T:String)(r:V->List V->Hp->VK->Prop)(to:TE):TE:=λσ H Q=>to σ H λx H1=>Dq K T x H1/\ r x [] H1 Q
def VT(K:FU)(T:String)(r:V->List V->Hp->VK->Prop)(to:TE)(t:TA):TE:=λσ H Q=>to σ H λx H1=>Dq K T x H1/\ t σ H1 λxs H2=>r x xs H2 Q
variable{o e:Lj}{es:List Lj}{to:TE}{t:TA}{name:Str}{apos cpos:Pos}{T id:String}{r:V->List V->Hp->VK->Prop}
theorem oM(pa:PlainAttrs T)(slot:Slot T name id)(p6:typeOf (.builtin id)=pure (.type "method_descriptor"))(hm:Dl X id r)(ho:PE X o to)
  (hbase:autoParam (Nc o name X.env (L6 o X.env)=L6 o X.env) L'._auto_1) (hline:autoParam ((apos.endLine==cpos.line)=true) L'._auto_1):PE X (.Call (.Attribute o name apos) [] [] cpos) (VS X.K T r to):=by
 intro pins s σ H Q I h;refine wpAny_Call_method0_late hbase hline (aV (ho pins s σ H _ I h) λv s1 ⟨x,H1,I1,r1,ty,q1⟩=>?_);obtain⟨h1,h2⟩:=K8 I1 r1 ty;exact⟨T,id,pa,slot,p6,h1,h2,Calls.callWith_builtin U (afP (hm pins s1 σ H1 x [] v [] Q I1 r1 .nil q1))⟩
theorem wc(pa:PlainAttrs T)(slot:Slot T name id)(p6:typeOf (.builtin id)=pure (.type "method_descriptor"))(hm:Dl X id r)(ho:PE X o to)(ha:PA X (e::es) t)
  (hbase:autoParam (Nc o name X.env (L6 o X.env)=L6 o X.env) L'._auto_1)
  (Dr:autoParam (((Mw cpos (Ma (e::es) X.env)).all (λx=> !x.1)&&(NJ cpos (NK [] X.env)).all (λx=>x.1.isSome)
   &&decide ((e::es).length+([]:List Keyword).length+(if([]:List Keyword).isEmpty then 0 else 1)<30))=true) L'._auto_1)
  (hline:autoParam ((apos.endLine==cpos.line)=true) L'._auto_1) (hs:autoParam (Ma (e::es) X.env=(false,L6 e X.env)::Ma es X.env) L'._auto_1) (hplain:autoParam ((Mw cpos (Ma es X.env)).any (·.1)=false) L'._auto_1):
  PE X (.Call (.Attribute o name apos) (e::es) [] cpos) (VT X.K T r to t):=by
 intro pins s σ H Q I h;refine wpAny_Call_method_late hbase Dr hline U (aV (ho pins s σ H _ I h) λv s1 ⟨x,H1,I1,r1,ty,q1⟩=>?_);obtain⟨h1,h2⟩:=K8 I1 r1 ty;refine⟨T,id,pa,slot,p6,h1,h2,?_⟩;have hA:=ha cpos pins s1 σ H1 _ I1 q1;rw[hs]at hA⊢;refine Calls.callWith_builtin (by show(false||(Mw cpos (Ma es X.env)).any (·.1))=false;rw[hplain]<;>rfl) (Calls.evalArgs_plain ?_);exact aV hA λus s2 ⟨vs,H2,I2,r2,q2⟩=>hm pins s2 σ H2 x vs v us Q I2 r1 r2 q2
end
end L2
namespace L2
open PySem PySem.Spec PyProof.Rows
def Ds(X:Cx)(id:String)(r:V->List V->Hp->VK->Prop):Prop:=
 ∀(pins:List (Addr×Obj)) (s:me) (σ:St) (H:Hp) (x:V) (xs:List V) (v:cp) (us:List cp) (Q:VK),Inv X pins σ H s->RelV x v->Vals xs us->r x xs H Q->
  L3 (L1 X.prog X.w) X.A (call (.builtin id) (v::us)) (EP X pins σ Q) X.xe s
theorem Vals.one{x:V}{us:List cp}(h:Vals [x] us):∃u,us=[u]/\ RelV x u:=by
 cases h with
 |cons r h=>cases h;exact⟨_,U,r⟩
theorem Vals.zero:∀{us:List cp},Vals [] us->us=[]
 |_, .nil=>rfl
theorem Vals.dropLast{xs:List V}{us:List cp}(h:Vals xs us):Vals xs.dropLast us.dropLast:=by
 induction h with
 |nil=>exact .nil
 |cons r t ih=>
  cases t with
  |nil=>exact .nil
  |cons q t'=>exact .cons r ih
theorem VU{α:Type}(l:List α):l.eraseIdx (l.length-1)=l.dropLast:=by
 induction l with
 |nil=>rfl
 |cons a r ih=>
  cases r with
  |nil=>rfl
  |cons b r=>
   have e:(a::b::r).length-1=((b::r).length-1)+1:=by have h1:(a::b::r).length=r.length+2:=rfl;have h2:(b::r).length=r.length+1:=rfl;lia
   rw[e,List.eraseIdx_cons_succ,ih]
   all_goals rfl
section
variable{X:Cx}{pins:List (Addr×Obj)}{σ:St}{H:Hp}{s:me}{l b:Addr}{xs ys zs:List V}
theorem Inv.Dt{ai its':List cp}{n:Nat}{f:Array cp->Array cp}{t':Nat}(I:Inv X pins σ H s)(hH:H l=some (.lst xs))
  (e:s.heap.get? l=some {cls:= .type "list",data:= .seq ai.toArray n}) (hf:f ai.toArray=its'.toArray) (hv:Vals ys its') (hz:ys.length<=sizeLine):
  Inv X pins σ (upd H l (.lst ys)) {s with heap:=s.heap.update l (Obj.mapSeq f),toks:=t'}:=by
 have q:=PySem.IsL.update e f;rw[hf]at q;refine I.write (x:=l) (e:=l) (by rw[hH];exact trivial) (.inl U) (λb' u hb hu=>(Heap.get?_update_other s.heap (Obj.mapSeq f) (Ne.symm hb)).trans hu) ⟨_,q⟩ ?_;exact⟨hz,its',_,hv,q⟩
theorem Inv.VV{ai:List cp}{t':Nat}(I:Inv X pins σ H s)(hv:Vals ys ai)(hz:ys.length<=sizeLine):
  Inv X pins σ (upd H s.heap.objs.size (.lst ys)) {s with heap:=s.heap.push {cls:= .type "list",data:= .seq ai.toArray},toks:=t'}:=
 I.laid (λ_ _ q=>Heap.get?_push_of_some _ q) (a_ _) ⟨hz,ai,0,hv,Heap.get?_push_size _ U⟩
theorem Inv.fresh(I:Inv X pins σ H s):H s.heap.objs.size=none:=I.aK.fresh (a_ _)
theorem Inv.uc(I:Inv X pins σ H s)(hH:H l=some (.lst xs)):xs.length<=sizeLine/\ ∃(ai:List cp) (n:Nat),Vals xs ai/\ xs.length=ai.length/\ s.heap.get? l=some {cls:= .type "list",data:= .seq ai.toArray n}:=by obtain⟨z,ai,n,r,e⟩:=I.aK l _ hH;exact⟨z,ai,n,r,r.length,e⟩
theorem VW{n:Nat}(h:n<=sizeLine):Builtin.List.listTooLong n=false:=by unfold Builtin.List.listTooLong;exact cO (by lia)
end
section
variable{X:Cx}
inductive K9(x:V)(vs:List V)(H:Hp)(Q:VK):Prop
 |mk (l:_) (xs:_) (y:_):x= .ref l->vs=[y]->H l=some (.lst xs)->xs.length<sizeLine->Q .aO (upd H l (.lst (xs++[y])))->K9 x vs H Q
theorem VX:Ds X "list.append" K9:=by intro pins s σ H x vs v us Q I rx rv h;obtain⟨l,xs,y,rfl,rfl,hH,hz,q⟩:=h;cases rx;obtain⟨u,rfl,ru⟩:=rv.one;obtain⟨z,ai,n,r,hl,e⟩:=I.uc hH;refine call_meets F.slot_list_append ⟨_,e,U⟩ F.entry_list_append (F.args_list_append_2 _ _) (PySem.list_append l ai.toArray n u (by rw[eM];lia)) ⟨e,?_⟩;refine⟨.aO,_,I.Dt (its':=ai++[u]) hH e (by simp) (r.append (.cons ru .nil)) ?_,U,q⟩;rw[cP,aez];lia
inductive K_(x:V)(vs:List V)(H:Hp)(Q:VK):Prop
 |mk (l:_) (b:_) (xs:_) (zs:_):x= .ref l->vs=[.ref b]->H l=some (.lst xs)->H b=some (.lst zs)->xs.length+zs.length<=sizeLine->Q .aO (upd H l (.lst (xs++zs)))->K_ x vs H Q
theorem zx:Ds X "list.extend" K_:=by
 intro pins s σ H x vs v us Q I rx rv h;obtain⟨l,b,xs,zs,rfl,rfl,hH,hB,hz,q⟩:=h;cases rx;obtain⟨u,rfl,ru⟩:=rv.one;cases ru;obtain⟨z,ai,n,r,hl,e⟩:=I.uc hH;obtain⟨z2,its2,n2,r2,fh,e2⟩:=I.uc hB;have hsz:ai.toArray.size+its2.toArray.size<=sizeLine:=by rw[eM,eM];lia
 have hlong:¬(!ai.toArray.isEmpty&&Builtin.List.listTooLong (ai.toArray.size+its2.toArray.size))=true:=by rw[VW hsz,pz];exact gn
 refine call_meets F.slot_list_extend ⟨_,e,U⟩ F.entry_list_extend (F.args_list_extend_2 _ _)
  (AutoSeq1.list_extend_list_list_0 l ai.toArray n b its2.toArray n2 hlong (by rw[eM];lia) (by lia)) ⟨e,e2,?_⟩
 refine⟨.aO,_,I.Dt (its':=ai++its2) hH e (by simp) (r.append r2) ?_,U,q⟩;rw[cP];lia
inductive K'(x:V)(vs:List V)(H:Hp)(Q:VK):Prop
 |mk (l:_) (xs:_) (y:_):x= .ref l->vs=[]->H l=some (.lst xs)->xs[xs.length-1]? =some y->Q y (upd H l (.lst xs.dropLast))->K' x vs H Q
theorem oN:Ds X "list.pop" K':=by
 intro pins s σ H x vs v us Q I rx rv h;obtain⟨l,xs,y,rfl,rfl,hH,hy,q⟩:=h;cases rx;have zy:=rv.zero;subst zy;obtain⟨z,ai,n,r,hl,e⟩:=I.uc hH;obtain⟨u,hu,ru⟩:=r.get hy;have k9:ai.toArray[ai.toArray.size-1]? =some u:=by show ai.toArray[ai.length-1]? =some u;rw[<-afN,<-hl];exact hu
 refine call_meets F.slot_list_pop ⟨_,e,U⟩ F.entry_list_pop (F.args_list_pop_1 _) (MeetsSeq.list_pop_last l ai.toArray n u k9 (by rw[eM];lia)) ⟨e,?_⟩;refine⟨y,_,I.Dt (its':=ai.dropLast) hH e ?_ r.dropLast ?_,ru,q⟩
 .show ai.toArray.eraseIdxIfInBounds (ai.toArray.size-1)=ai.dropLast.toArray
  rw[eM,List.eraseIdxIfInBounds_toArray,VU]
 .rw[List.length_dropLast]
  lia
inductive p7(x y:V)(H:Hp)(Q:VK):Prop
 |mk (l:_) (b:_) (xs:_) (zs:_):x= .ref l->y= .ref b->H l=some (.lst xs)->H b=some (.lst zs)->xs.length+zs.length<=sizeLine->(∀p,H p=none->Q (.ref p) (upd H p (.lst (xs++zs))))->p7 x y H Q
theorem gz:dN X (Ny .Add) p7:=by
 intro pins s σ H x y v u Q I rx ry h;obtain⟨l,b,xs,zs,rfl,rfl,hH,hB,hz,q⟩:=h;cases rx;cases ry;obtain⟨z,ai,n,r,hl,e⟩:=I.uc hH;obtain⟨z2,its2,n2,r2,fh,e2⟩:=I.uc hB;refine PySem.P.add_list e e2 ?_ (by rw[eM,eM];lia);have ea:ai.toArray++its2.toArray=(ai++its2).toArray:=by simp
 rw[ea];exact⟨.ref _,_,I.VV (t':=s.toks) (r.append r2) (by rw[cP];lia),U,q _ I.fresh⟩
end
section
variable{prog:Mb}{w:L9}{A:Mf}{E:cp->me->Prop}{s:me}
set_option maxRecDepth 100000 in
end
section
variable{X:Cx}
end
end L2
namespace L2
open PySem PySem.Spec PyProof.Rows
theorem Vals.La:∀{bs:List Bool} {us:List cp},Vals (bs.map V.bl) us->us=bs.map Value.bool
 |[],us,h=>by rw[qN]at h;cases h;rfl
 |b::bs,us,h=>by
  rw[ez]at h;cases h with
  |cons r t=>
   cases r;rw[Vals.La t,ez]
theorem Vals.VY{a:Addr}{us:List cp}(r:Vals [V.ref a] us):us=[Value.ref a]:=by
 cases r with
 |cons r t=>
  cases t;cases r;rfl
section
variable{prog:Mb}{w:L9}{A:Mf}{E:cp->me->Prop}{s:me}{l:Addr}{ai:List cp}{ns:List Int}{Q:cp->me->Prop}
end
section
variable{X:Cx}
end
section
variable{X:Cx}
end
section
variable{X:Cx}
end
theorem VZ{prog:Mb}{w:L9}{A:Mf}{E:cp->me->Prop}{s:me}{l:Addr}{items:Array cp}{Q:cp->me->Prop}(hl:s.heap.IsList l items)
  (h:∀s₂:me,s₂={s with heap:=s.heap.push {cls:= .type "list_iterator",data:= .fields #[.ref l, .int 0 0]}}->
   (s₂.heap.IsListIter s.heap.objs.size l 0/\ s₂.heap.IsList l items)->l≠s.heap.objs.size->Q (.ref s.heap.objs.size) s₂):L3 (L1 prog w) A (pyIter (.ref l)) Q E s:=by
 have aU:l<s.heap.objs.size:=by obtain⟨_,e,_⟩:=hl;exact Heap.lt_size e
 exact wpAny_pyIter_list hl (h _ U ⟨⟨_,Heap.get?_push_size _ U,U,U⟩,hl.push _⟩ (gE aU))
theorem V0{prog:Mb}{w:L9}{A:Mf}{bs:List Bool}{ai:List cp}(e:ai=bs.map Value.bool):
  TruthOf prog w A (λi v=>ai.toArray[i]? =some v) (λi=>bs.getD i false):=λi v s Q E hv hq=>by
 have t9:ai[i]? =some v:=by simpa using hv
 rw[e,ft]at t9;obtain⟨b,hb,rfl⟩:=fq.mp t9;have hg:bs.getD i false=b:=by rw[og,hb]<;>rfl
 have t_:Q (bs.getD i false) s:=hq;rw[hg]at t_;exact M' t_
theorem all_range:∀bs:List Bool,(List.range bs.length).all (λi=>bs.getD i false)=bs.all id
 |[]=>rfl
 |b::bs=>by
  rw[bj,aex,iG,ac6,iG,<-all_range bs]
  all_goals rfl
section
variable{X:Cx}
def V1(K:FU):List V->Hp->VK->Prop:=λvs H Q=>∃(a:Addr) (bs:List Bool),vs=[V.ref a]/\ ab K H a (bs.map V.bl)/\ Q (.bl (bs.all id)) H
theorem Du(hc:X.calm=true):jD X (.builtin "all") (V1 X.K):=by
 intro pins s σ H vs us Q I r h;obtain⟨a,bs,rfl,hs,q⟩:=h;obtain⟨ai,rv,hl,_⟩:=I.list hs;rw[Vals.VY r];have hb:=rv.La;refine call_all_walk (VZ hl.isList λs₂ e2 st b8=>?_);subst e2;refine⟨_,_,_,_,_,_,_,U,Walks.list (A:=X.A.in1) (I.ok.hd hc) _ a b8 ai.toArray,st,V0 hb,λh' tk hk=>?_⟩;refine⟨.bl _,H,I.kept λb o eo=>hk b o (λDv=>?_) (Heap.get?_push_of_some _ eo),?_,q⟩
 .rcases br.mp Dv with e1|Dv
  .exact absurd (e1▸Heap.lt_size eo) (lG _)
  .cases Dv
 .show Value.bool _=Value.bool _
  rw[<-all_range,hb,eM,aX]
end
mutual
inductive Dp(K:FU)(H:Hp):V->PyData->Prop
 |aO:Dp K H .aO .none
 |bl (b:Bool):Dp K H (.bl b) (.bool b)
 |int (i:Int):Dp K H (.int i) (.int i)
 |str (x:Str):Dp K H (.str x) (.str x)
 |lst {a:Addr} {xs:List V} {ds:List PyData}:ab K H a xs->oO K H xs ds->Dp K H (.ref a) (.list ds)
 |tup {a:Addr} {xs:List V} {ds:List PyData}:bx K H a xs->oO K H xs ds->Dp K H (.ref a) (.tuple ds)
inductive oO(K:FU)(H:Hp):List V->List PyData->Prop
 |nil:oO K H [] []
 |cons {v:V} {vs:List V} {d:PyData} {ds:List PyData}:Dp K H v d->oO K H vs ds->oO K H (v::vs) (d::ds)
end
section
variable{X:Cx}{pins:List (Addr×Obj)}{σ:St}{H:Hp}{s:me}
mutual
theorem Dp.reads(I:Inv X pins σ H s):∀(d:PyData) (v:V) (u:cp),Dp X.K H v d->RelV v u->∃as,Reads s.heap u d as
 | .none,_,_,h,r=>by
  cases h;cases r;exact⟨_,Reads.none⟩
 | .bool b,_,_,h,r=>by
  cases h;cases r;exact⟨_,Reads.bool b⟩
 | .int i,_,_,h,r=>by
  cases h;obtain⟨t,rfl⟩:=r;exact⟨_,Reads.int i t⟩
 | .str x,_,_,h,r=>by
  cases h;obtain⟨t,rfl⟩:=r;exact⟨_,Reads.str x t⟩
 | .list ds,_,_,h,r=>by
  cases h with
  |lst hs ha=>
   cases r;obtain⟨ai,rv,⟨o,n,ho,hc,_,hd⟩,_⟩:=I.list hs;obtain⟨as,hr⟩:=Dp.readsAll I ds _ ai ha rv;exact⟨_,Reads.list ho hc hd hr⟩
 | .tuple ds,_,_,h,r=>by
  cases h with
  |tup hs ha=>
   cases r;obtain⟨ai,rv,⟨o,ho,hc,n,hd⟩,_⟩:=I.tuple hs;obtain⟨as,hr⟩:=Dp.readsAll I ds _ ai ha rv;exact⟨_,Reads.tuple ho hc hd hr⟩
 | .dict _,_,_,h,_=>by cases h
theorem Dp.readsAll(I:Inv X pins σ H s):∀(ds:List PyData) (vs:List V) (us:List cp),oO X.K H vs ds->Vals vs us->∃as,ReadsAll s.heap us ds as
 |[],_,_,h,r=>by
  cases h;cases r;exact⟨_,ReadsAll.nil⟩
 |d::ds,_,_,h,r=>by
  cases h with
  |cons h1 h2=>
   cases r with
   |cons r1 r2=>obtain⟨as,q1⟩:=Dp.reads I d _ _ h1 r1;obtain⟨bs,q2⟩:=Dp.readsAll I ds _ _ h2 r2;exact⟨_,ReadsAll.cons q1 q2⟩
end
end
section
variable{X:Cx}
def V2(K:FU):R2:=λx y H Q=>∃d e,Dp K H x d/\ Dp K H y e/\ SeqAt.shaped d=true/\ SeqAt.shaped e=true/\ Q (.bl (PyData.eqv d e)) H
def V3(K:FU):R2:=λx y H Q=>∃d e,Dp K H x d/\ Dp K H y e/\ SeqAt.shaped d=true/\ SeqAt.shaped e=true/\ Q (.bl (!PyData.eqv d e)) H
theorem mi(hu:X.A.units+64<cLine):dN X (MA .Eq) (V2 X.K):=by intro pins s σ H x y v u Q I rx ry h;obtain⟨d,e,hd,he,sd,se,q⟩:=h;obtain⟨as,r1⟩:=Dp.reads I d x v hd rx;obtain⟨bs,r2⟩:=Dp.reads I e y u he ry;exact SeqAt.compareEq_shaped r1 r2 sd se hu ⟨.bl _,H,I,U,q⟩
theorem Dx(hu:X.A.units+64<cLine):dN X (MA .NotEq) (V3 X.K):=by intro pins s σ H x y v u Q I rx ry h;obtain⟨d,e,hd,he,sd,se,q⟩:=h;obtain⟨as,r1⟩:=Dp.reads I d x v hd rx;obtain⟨bs,r2⟩:=Dp.reads I e y u he ry;exact SeqAt.compareNe_shaped r1 r2 sd se hu ⟨.bl _,H,I,U,q⟩
end
end L2
namespace L2
open PySem PySem.Spec PyProof.Rows
abbrev Lb(h:Heap)(c:Addr)(v:Option cp):Prop:=h.IsCell c v
noncomputable def V4(scope sc:Scope):Scope:={scope with names:=scope.names.map λ(n,k)=>if(k== .free&&sc.kind== .function&&sc.names.lookup n==some .cell)then(n, .cell)else(n,k)}
noncomputable def fV(cells:List (Str×Addr)):List (Str×MH)->List (Str×Addr)->List (Str×Addr)
 |[],acc=>acc
 |(n,k)::r,acc=>if k== .free then fV cells r ((n,(cells.lookup n).getD 0)::acc)else fV cells r acc
theorem Lc(env:Env)(f:Str×MH->List (Str×Addr)->Sem (ForInStep (List (Str×Addr))))
  (hf:∀n k c,f (n,k) c=if k== .free then(do let a<-cellOf env n;pure (.yield ((n,a)::c)))else pure (.yield c)):
  ∀(names:List (Str×MH)) (acc:List (Str×Addr)),(∀y∈names,y.2= .free->∃c,env.cells.lookup y.1=some c)->forIn names acc f=pure (fV env.cells names acc)
 |[],acc,_=>by rw[afa];rfl
 |(n,k)::r,acc,h=>by
  rw[List.forIn_cons,hf];have ih:=λacc=>Lc env f hf r acc λy hy=>h y (fL _ hy);unfold fV;by_cases hk:(k==NameKind.free)=true
  .rw[aI hk,aI hk]
   obtain⟨c,hc⟩:=h (n,k) iC (by simpa using hk);have e:cellOf env n=pure c:=by unfold cellOf;rw[hc]
   rw[e];have e2:(env.cells.lookup n).getD 0=c:=by rw[hc];rfl
   rw[e2];exact ih _
  .rw[ay hk,ay hk]
   exact ih _
theorem V5{scope:Scope}{env:Env}(h:∀y∈scope.names,y.2= .free->∃c,env.cells.lookup y.1=some c):closureFor scope env=pure (fV env.cells scope.names []):=by simp only[closureFor];rw[Lc env _ (λn k c=>rfl) scope.names [] h];rfl
theorem mem_lookup{α:Type}:∀{l:List (Str×α)} {n:Str} {c:α},(n,c)∈l->∃c',l.lookup n=some c'
 |(k,v)::r,n,c,h=>by
  rw[sU];cases hb:n==k with
  |true=>exact⟨_,U⟩
  |false=>
   rcases br.mp h with e|h
   .cases e;simp at hb
   .exact mem_lookup h
theorem zz{cells:List (Str×Addr)}:∀{names:List (Str×MH)} {acc:List (Str×Addr)} {n:Str} {c:Addr},(n,c)∈fV cells names acc->(n,c)∈acc\/((n, .free)∈names/\ c=(cells.lookup n).getD 0)
 |[],_,_,_,h=> .inl h
 |(m,k)::r,acc,n,c,h=>by
  unfold fV at h;split at h
  .rename_i hk
   have hk:k= .free:=by simpa using hk
   rcases zz h with h|⟨h1,h2⟩
   .rcases br.mp h with e|h
    .cases e;exact .inr ⟨hk▸iC,U⟩
    .exact .inl h
   .exact .inr ⟨fL _ h1,h2⟩
  .rcases zz h with h|⟨h1,h2⟩
   .exact .inl h
   .exact .inr ⟨fL _ h1,h2⟩
theorem Dy{cells:List (Str×Addr)}:∀{names:List (Str×MH)} {acc:List (Str×Addr)} {p:Str×Addr},p∈acc->p∈fV cells names acc
 |[],_,_,h=>h
 |(m,k)::r,acc,p,h=>by
  unfold fV;split
  .exact Dy (fL _ h)
  .exact Dy h
theorem Dz{cells:List (Str×Addr)}:∀{names:List (Str×MH)} {acc:List (Str×Addr)} {n:Str},(n, .free)∈names->(n,(cells.lookup n).getD 0)∈fV cells names acc
 |(m,k)::r,acc,n,h=>by
  unfold fV;rcases br.mp h with e|h
  .cases e
   exact Dy iC
  .split
   .exact Dz h
   .exact Dz h
theorem wd:∀{names:List (Str×MH)} {h:Heap} {acc:List (Str×Addr)} {x:Str} {c:Addr},(x,c)∈MC h.objs.size names acc->
  (x,c)∈acc\/((x, .cell)∈names/\ h.objs.size<=c/\ Lb (Nn h names) c none)
 |[],_,_,_,_,h=> .inl h
 |(n,k)::r,h,acc,x,c,hm=>by
  unfold MC at hm;unfold Nn;split at hm
  .rename_i hk
   rw[aI hk];have hk:k= .cell:=by simpa using hk
   rw[<-Heap.size_push h {cls:= .type "cell",data:= .cell none}]at hm;rcases wd hm with hm|⟨h1,h2,h3⟩
   .rcases br.mp hm with e|hm
    .cases e
     exact .inr ⟨hk▸iC,a_ _,_,ach r _ _ _ (Heap.get?_push_size _ U),U⟩
    .exact .inl hm
   .rw[Heap.size_push]at h2
    exact .inr ⟨fL _ h1,Bx h2,h3⟩
  .rename_i hk
   rw[ay hk];rcases wd hm with hm|⟨h1,h2,h3⟩
   .exact .inl hm
   .exact .inr ⟨fL _ h1,h2,h3⟩
theorem zA:∀{names:List (Str×MH)} {n:Nat} {acc:List (Str×Addr)} {p:Str×Addr},p∈acc->p∈MC n names acc
 |[],_,_,_,h=>h
 |(m,k)::r,n,acc,p,h=>by
  unfold MC;split
  .exact zA (fL _ h)
  .exact zA h
theorem DA:∀{names:List (Str×MH)} {n:Nat} {acc:List (Str×Addr)} {x:Str},(x, .cell)∈names->∃c,(x,c)∈MC n names acc
 |(m,k)::r,n,acc,x,h=>by
  unfold MC;rcases br.mp h with e|h
  .cases e
   exact⟨n,zA iC⟩
  .split
   .exact DA h
   .exact DA h
theorem DB:∀{names:List (Str×MH)} {h:Heap} {acc:List (Str×Addr)} {x y:Str} {c:Addr},(∀p∈acc,p.2<h.objs.size)->(∀x y c,(x,c)∈acc->(y,c)∈acc->x=y)->
  (x,c)∈MC h.objs.size names acc->(y,c)∈MC h.objs.size names acc->x=y
 |[],_,_,_,_,_,_,hi,h1,h2=>hi _ _ _ h1 h2
 |(n,k)::r,h,acc,x,y,c,hl,hi,h1,h2=>by
  unfold MC at h1 h2;split at h1
  .rename_i hk
   rw[aI hk]at h2;rw[<-Heap.size_push h {cls:= .type "cell",data:= .cell none}]at h1 h2;refine DB (h:=h.push _) (λp hp=>?_) (λx y c a b=>?_) h1 h2
   .rw[Heap.size_push]
    rcases br.mp hp with rfl|hp
    .exact adb _
    .exact adf (hl p hp)
   .rcases br.mp a with e|a<;>rcases br.mp b with e'|b
    .cases e;cases e';rfl
    .cases e;exact absurd (hl _ b) (lG _)
    .cases e';exact absurd (hl _ a) (lG _)
    .exact hi _ _ _ a b
  .rename_i hk
   rw[ay hk]at h2;exact DB hl hi h1 h2
theorem V6{M:Model}{A:Mf}{E:cp->me->Prop}{s:me}{scope:Scope}{globals:Addr}{closure:List (Str×Addr)}{qual:Str}{func:Option Addr}{code:cp}{around:Env}{builtins:Addr}{Q:Env->me->Prop}
  (h:Q (newEnv scope s.heap.objs.size globals (MC (s.heap.objs.size+1) scope.names closure) qual func code (some around) builtins)
   {s with heap:=Nn (s.heap.push {cls:= .type "dict",data:= .dict #[]}) scope.names}):
  L3 M A (newFunctionEnv scope globals closure [] qual func code (some around) builtins) Q E s:=by
 simp only[newFunctionEnv,afy,if_true];refine Mn (wpAny_alloc ?_);refine Mn (wpAny_layCells _ (λn k c=>rfl) scope.names closure _ _ ?_);rw[show({s with heap:=s.heap.push {cls:= .type "dict",data:= .dict #[]}}:me).heap.objs.size=s.heap.objs.size+1 from Heap.size_push ..];rw[afa];exact Mn (MD (MD h))
theorem DC{sc:Scope}:∀{names:List (Str×MH)} {x:Str} {k:MH},
  (names.map λ(n,k)=>if(k==NameKind.free&&sc.kind== .function&&sc.names.lookup n==some .cell)then(n,NameKind.cell)else(n,k)).lookup x=some k->
  ∃k',names.lookup x=some k'/\ (k=k'\/(k'= .free/\ k= .cell))
 |[],_,_,h=>by simp at h
 |(n,k₀)::r,x,k,h=>by
  have ih:= @DC sc r x k;have h':List.lookup x ((if(k₀==NameKind.free&&sc.kind== .function&&sc.names.lookup n==some .cell)=true then(n,NameKind.cell)else(n,k₀))::(r.map _))=some k:=h;cases hx:x==n with
  |true=>
   simp only[sU,hx];by_cases hc:(k₀==NameKind.free&&sc.kind== .function&&sc.names.lookup n==some .cell)=true
   .rw[aI hc]at h'
    simp only[sU,hx]at h';cases h';simp only[bC,beq_iff_eq]at hc;exact⟨k₀,U, .inr ⟨hc.1.1,U⟩⟩
   .rw[ay hc]at h'
    simp only[sU,hx]at h';cases h';exact⟨_,U, .inl U⟩
  |false=>
   simp only[sU,hx];by_cases hc:(k₀==NameKind.free&&sc.kind== .function&&sc.names.lookup n==some .cell)=true
   .rw[aI hc]at h'
    simp only[sU,hx]at h';exact ih h'
   .rw[ay hc]at h'
    simp only[sU,hx]at h';exact ih h'
structure we(N:List Str)(sc scope:Scope)(own:List (Str×Nat)):Prop where
 kind:scope.kind= .function
 uniq:∀y∈scope.names,scope.names.lookup y.1=some y.2
 ix:∀p∈own,N[p.2]? =some p.1
 free:∀y∈scope.names,y.2= .free->sc.names.lookup y.1=some .cell\/sc.names.lookup y.1=some .free
 own:∀y∈scope.names,y.2= .local\/y.2= .cell->y.1∈own.map (·.1)\/y.1∉N
noncomputable def wipe(σ:St):List Nat->St
 |[]=>σ
 |v::vs=>(wipe σ vs).set v none
theorem DD(σ:St):∀vs:List Nat,(wipe σ vs).length=σ.length
 |[]=>rfl
 |v::vs=>by unfold wipe;rw[tf,DD σ vs]
theorem DE{σ:St}{i:Nat}{x:V}:∀{vs:List Nat},(wipe σ vs)[i]? =some (some x)->σ[i]? =some (some x)/\ i∉vs
 |[],h=>⟨h,by simp⟩
 |v::vs,h=>by
  unfold wipe at h;by_cases hi:v=i
  .subst hi
   by_cases hv:v<(wipe σ vs).length
   .rw[oh hv]at h;cases h
   .rw[kN (by simpa using hv)]at h;cases h
  .rw[n0 hi]at h
   obtain⟨h1,h2⟩:=DE h;exact⟨h1,by simp only[br,not_or];exact⟨λe=>hi e.symm,h2⟩⟩
noncomputable abbrev Cx.bX(X:Cx)(s:me)(H:Hp)(scope:Scope)(cenv:Env)(fp:List Addr):Cx:={X with gd:=s,vM:=H,env:=cenv,outer:=X.stack,ex:=fp,fn:=λx=>scope.names.lookup x==some .cell,pn:=[],xe:=λ_ _=>False}
section
variable{X:Cx}{pins:List (Addr×Obj)}{σ:St}{H:Hp}{s:me}
theorem V7{scope:Scope}{own:List (Str×Nat)}{fp:List Addr}(I:Inv X pins σ H s)(ok:we X.N X.env.scope scope own)(hN:X.N.Nodup)(ud:∀b∈fp,j6 X pins H b/\ b<s.heap.objs.size):
  Inv (X.bX s H scope (MU scope (MC (s.heap.objs.size+1) scope.names (fV X.env.cells scope.names [])) s.heap.objs.size X.env) fp) [] (wipe σ (own.map (·.2))) H {s with heap:=Nn (s.heap.push {cls:= .type "dict",data:= .dict #[]}) scope.names}:=by
 have hfree:∀y∈scope.names,y.2= .free->∃c,X.env.cells.lookup y.1=some c:=λy hy e=>by
  rcases ok.free y hy e with k|k
  .exact I.ok.has _ (.inl k)
  .exact I.ok.has _ (.inr k)
 generalize hcenv:MU scope (MC (s.heap.objs.size+1) scope.names (fV X.env.cells scope.names [])) s.heap.objs.size X.env=cenv;have kp:∀b o,s.heap.get? b=some o->(Nn (s.heap.push {cls:= .type "dict",data:= .dict #[]}) scope.names).get? b=some o:=λb o e=>ach _ _ _ _ (Heap.get?_push_of_some _ e);have hL:cenv.locals=s.heap.objs.size:=by rw[<-hcenv];rfl
 have bD:cenv.cells=MC (s.heap.objs.size+1) scope.names (fV X.env.cells scope.names []):=by rw[<-hcenv];rfl
 have DF:cenv.scope=V4 scope X.env.scope:=by rw[<-hcenv];rfl
 rw[<-Heap.size_push s.heap {cls:= .type "dict",data:= .dict #[]}]at bD;have cm:∀{y c},(y,c)∈fV X.env.cells scope.names []->X.env.cells.lookup y=some c/\ c<s.heap.objs.size:=λ{y c} hm=>by
  rcases zz hm with hm|⟨h1,rfl⟩
  .cases hm
  .obtain⟨c,hc⟩:=hfree _ h1 U
   rw[hc];obtain⟨w,z⟩:=I.cell _ _ hc;exact⟨U,z.lt⟩
 have mem:∀{y c},cenv.cells.lookup y=some c->(X.env.cells.lookup y=some c/\ c<s.heap.objs.size)\/(s.heap.objs.size+1<=c/\ Lb (Nn (s.heap.push {cls:= .type "dict",data:= .dict #[]}) scope.names) c none):=λ{y c} e=>by
  rw[bD]at e;rcases wd (MJ e)with hm|⟨_,h2,h3⟩
  .exact .inl (cm hm)
  .rw[Heap.size_push]at h2;exact .inr ⟨h2,h3⟩
 have look:∀{y},scope.names.lookup y=some .free->∃c,cenv.cells.lookup y=some c/\ X.env.cells.lookup y=some c:=λ{y} hl=>by
  have hy:(y,NameKind.free)∈scope.names:=MJ hl;obtain⟨c',e'⟩:=mem_lookup (zA (names:=scope.names) (n:=(s.heap.push {cls:= .type "dict",data:= .dict #[]}).objs.size) (Dz (cells:=X.env.cells) (acc:=[]) hy));rw[<-bD]at e';refine⟨c',e',?_⟩;rw[bD]at e';rcases wd (MJ e')with hm|⟨h1,_,_⟩
  .exact(cm hm).1
  .have:=ok.uniq _ h1
   rw[hl]at this;cases this
 have okB:(X.bX s H scope cenv fp).Ok:=by
  refine⟨I.ok.mod,by show cenv.scope.kind=_;rw[DF];exact ok.kind,by show cenv.globals=_;rw[<-hcenv];exact I.ok.glob,by show cenv.builtins=_;rw[<-hcenv];exact I.ok.blt,by show s.heap.objs.size<=cenv.locals;rw[hL];exact a_ _,
   λy z c e1 e2=>?_,λy hy=>?_,λy c z e=>?_,I.ok.hd,I.ok.frames, .inl U,λb hb=>⟨?_,λy c e z=>?_⟩,I.bs,c_ I.ok.lZ I.sz,λb o e hb=>?_,λb hb z=>?_,I.stack,I.J8⟩
  .have e1:cenv.cells.lookup y=some c:=e1
   have e2:cenv.cells.lookup z=some c:=e2;rw[bD]at e1 e2;refine DB (λp hp=>?_) (λy z c a b=>I.ok.inj y z c (cm a).1 (cm b).1) (MJ e1) (MJ e2);rw[Heap.size_push];exact adf (cm (y:=p.1) (c:=p.2) hp).2
  .show∃c,cenv.cells.lookup y=some c
   have key:∀k,cenv.kindOf y=some k->(k= .cell\/k= .free)->∃c,cenv.cells.lookup y=some c:=λk hk zB=>by
    unfold Env.kindOf at hk;rw[DF]at hk;obtain⟨k',e,r⟩:=DC hk;have:k'= .cell\/k'= .free:=by
     rcases r with rfl|⟨rfl,_⟩
     .exact zB
     .exact .inr U
    rcases this with rfl|rfl
    .obtain⟨c,hm⟩:=DA (n:=(s.heap.push {cls:= .type "dict",data:= .dict #[]}).objs.size) (acc:=fV X.env.cells scope.names []) (MJ e)
     obtain⟨c',e'⟩:=mem_lookup hm;exact⟨c',by rw[bD];exact e'⟩
    .obtain⟨c,h1,_⟩:=look e
     exact⟨c,h1⟩
   rcases hy with hy|hy
   .exact key _ hy (.inl U)
   .exact key _ hy (.inr U)
  .have z:(scope.names.lookup y==some NameKind.cell)=true:=z
   have z:scope.names.lookup y=some .cell:=by simpa using z
   have e:cenv.cells.lookup y=some c:=e;rw[bD]at e;rcases wd (MJ e)with hm|⟨_,h2,_⟩
   .rcases zz hm with hm|⟨h1,_⟩
    .cases hm
    .have q:=ok.uniq _ h1
     rw[z]at q;cases q
   .rw[Heap.size_push]at h2
    exact Bx h2
  .show b≠cenv.locals
   rw[hL];exact gE (ud b hb).2
  .have e:cenv.cells.lookup y=some c:=e
   rcases mem e with⟨h1,_⟩|⟨h1,_⟩
   .exact(ud b hb).1.2.2.2.2.1 y c h1 z
   .have h2:s.heap.objs.size+1<=b:=by rw[<-z];exact h1
    exact absurd (iF (ud b hb).2 (Bx h2)) (lG _)
  .rcases(ud b hb).1.2.2.2.1 with z|z
   .exact I.ok.vO b o e z
   .exact absurd (iF (Heap.lt_size e) (c_ I.ok.lZ z)) (lG _)
  .rcases br.mp (I.CU b z)with z|z
   .exact(ud b hb).1.2.1 z
   .exact(ud b hb).1.2.2.1 z
 refine⟨okB,U,I.bare,Un.kept kp,⟨λ_=>none,?_,λi y av e1 e2 e3=>?_⟩,λy c e=>?_,?_,λy c e=>?_,λp hp=>?_,I.aK.kept kp,by rw[DD];exact I.len⟩
 .show Heap.Ns _ cenv.locals _
  rw[hL];exact Heap.Ns.keeps (Heap.Ns.new ..) λb o e=>ach _ _ _ _ e
 .obtain⟨e2,b8⟩:=DE e2
  have zC:scope.names.lookup y=some .free/\ (cenv.kindOf y=some .cell\/cenv.kindOf y=some .free):=by
   have key:∀k,cenv.scope.names.lookup y=some k->k= .local\/k= .cell\/k= .free->scope.names.lookup y=some .free/\ (cenv.kindOf y=some .cell\/cenv.kindOf y=some .free):=λk hk zB=>by
    have DG:=hk;rw[DF]at hk;obtain⟨k',e,r⟩:=DC hk;have no:¬(k'= .local\/k'= .cell):=λhh=>by
     rcases ok.own _ (MJ e) hh with e'|e'
     .obtain⟨p,hp,V8⟩:=eu.mp e'
      have e3:=ok.ix p hp;have:p.1=y:=V8;rw[this]at e3;exact b8 (eu.mpr ⟨p,hp,CY hN e3 e1⟩)
     .exact e' (cN e1)
    rcases r with rfl|⟨rfl,rfl⟩
    .rcases zB with rfl|rfl|rfl
     .exact absurd (.inl U) no
     .exact absurd (.inr U) no
     .exact⟨e, .inr DG⟩
    .exact⟨e, .inl DG⟩
   have e3:tS cenv.scope y:=e3;rcases e3 with e3|e3|e3
   .exact key _ e3 (.inl U)
   .exact key _ e3 (.inr (.inl U))
   .exact key _ e3 (.inr (.inr U))
  obtain⟨m,hn,hl⟩:=I.loc;have V9:tS X.env.scope y:=(ok.free _ (MJ zC.1) U).elim (λk=> .inr (.inl k)) (λk=> .inr (.inr k));obtain⟨w,r,q⟩:=hl i y av e1 e2 V9;refine⟨w,r, .inr ⟨zC.2,?_⟩⟩;obtain⟨c,h1,h2⟩:=look zC.1;rcases q with⟨k,_⟩|⟨_,c',e',z⟩
  .have k:X.env.scope.names.lookup y=some .local:=k
   rcases ok.free _ (MJ zC.1) rfl with k'|k'<;>rw[show X.env.scope.names.lookup y=_ from k']at k<;>cases k
  .rw[h2]at e';cases e'
   exact⟨c,h1,z.keeps kp⟩
 .have e:cenv.cells.lookup y=some c:=e
  rcases mem e with⟨h1,_⟩|⟨_,z⟩
  .obtain⟨w,z⟩:=I.cell y c h1
   exact⟨w,z.keeps kp⟩
  .exact⟨_,z⟩
 .show H cenv.locals=none
  rw[hL];exact I.aK.fresh (a_ _)
 .have e:cenv.cells.lookup y=some c:=e
  rcases mem e with⟨h1,_⟩|⟨h1,_⟩
  .exact I.l9 y c h1
  .exact I.aK.fresh (Bx h1)
 .exact absurd (show p∈([]:List (Addr×Obj))++[]from hp) (by simp)
theorem V_{E:cp->me->Prop}{D:Addr}{xs:List V}{y:V}{v:cp}{Q:cp->me->Prop}(I:Inv X pins σ H s)(hD:H D=some (.lst xs))(hz:xs.length<sizeLine)(r:RelV y v)
  (h:∀s',Inv X pins σ (upd H D (.lst (xs++[y]))) s'->Q .none s'):L3 (L1 X.prog X.w) X.A (call (.builtin "list.append") [.ref D,v]) Q E s:=by
 obtain⟨mj,ai,n,ri,e⟩:=I.aK D _ hD;have hl:=ri.length;refine append_at (hsz:=by rw[eM];lia) e λh' sb jA=>?_;refine h {s with heap:=h'} (I.write (t':=s.toks) (by rw[hD];trivial) (.inl U) (λb u hb q=>(sb.2 b hb).trans q) ⟨_,jA⟩ ⟨by rw[cP];exact hz,ai++[v],n+1,ri.append (.cons r .nil),?_⟩);rw[jA];simp
def wg(X:Cx)(ifs:List Lj)(t:TT):Prop:=
 ∀(pins:List (Addr×Obj)) (s:me) (σ:St) (H:Hp) (Q:Bool->Hp->Prop),Inv X pins σ H s->t σ H Q->
  L3 (L1 X.prog X.w) X.A (forIn ifs true λc r=>if r=true then do let ok<-isTrue c X.env (L6 c X.env);pure (ForInStep.yield ok)else pure (ForInStep.yield r)) (TP X pins σ Q) X.xe s
def Ld:TT:=λ_ H Q=>Q true H
theorem oP:wg X [] Ld:=λ_ _ _ H _ I h=>wpAny_tests_nil ⟨H,I,h⟩
theorem wj{c:Lj}{t:TT}(h:PT X c t):wg X [c] t:=λpins s σ H Q I hw=>wpAny_tests_one (h pins s σ H Q I hw)
end
theorem ue{α:Type}{t:Sem α}{Q Q':α->me->Prop}{M:Model}{A:Mf}{E:cp->me->Prop}{s:me}(h:L3 M A t Q (λ_ _=>False) s)(hQ:∀a s,Q a s->Q' a s):L3 M A t Q' E s:=M4 h hQ λ_ _ z=>False.elim z
theorem V'{prog:Mb}{w:L9}{A:Mf}{R:Result->me->Prop}{s:me}{elt target iter:Lj}{ifs:List Lj}{scope:Scope}{pos:Pos}{it acc:cp}{env:Env}(I:Nat->me->Prop)
  (turn:∀n s,I n s->L3 (L1 prog w) A (pyNext it) (λr s₁=>match r with
   |none=>R (.ok .next) s₁
   |some v=>L3 (L1 prog w) A (abZ target it v) (λ_ s₁'=>L3 (L1 prog w) A (assign target env v) (λ_ s₂=>
     L3 (L1 prog w) A (forIn ifs true λc r=>if r=true then do let ok<-isTrue c env (L6 c env);pure (ForInStep.yield ok)else pure (ForInStep.yield r)) (λok s₃=>
      if ok=true then L3 (L1 prog w) A (L6 elt env) (λx s₄=>L3 (L1 prog w) A (call (.builtin "list.append") [acc,x]) (λ_ s₅=>∃m,m<n/\ I m s₅) (notedBy (L1 prog w) A env λe s'=>R (.error e) s') s₄) (notedBy (L1 prog w) A env λe s'=>R (.error e) s') s₃
      else∃m,m<n/\ I m s₃) (notedBy (L1 prog w) A env λe s'=>R (.error e) s') s₂) (notedBy (L1 prog w) A env λe s'=>R (.error e) s') s₁') (notedBy (L1 prog w) A env λe s'=>R (.error e) s') s₁) (notedBy (L1 prog w) A env λe s'=>R (.error e) s') s)
  (n:Nat) (h:I n s):
  Nb (L1 prog w) A (.compLoop (.ListComp elt [⟨target,iter,ifs,0⟩] scope pos) 0 it acc env) R s:=by
 refine codeAny_loop U I (λn s hI=>?_) n h;show L3 _ A ((compTurn (.ListComp elt [⟨target,iter,ifs,0⟩] scope pos) 0 it acc env).onRaise (λx=>do noteFrame x env;theTreesLotGoes x)) _ _ s;refine wpAny_noted ?_;rw[compTurn_list];refine Mn (wpAny_standAt (Mn (M4 (turn n s hI) (λr s₁ h₁=>?_) λ_ _ h'=>h')));cases r with
 |none=>exact MD h₁
 |some v=>
  refine Mn (M4 h₁ (λ_ s₁' h₁'=>?_) λ_ _ h'=>h');refine Mn (M4 h₁' (λ_ s₂ h₂=>Mn (M4 h₂ (λok s₃ h₃=>?_) λ_ _ h'=>h')) λ_ _ h'=>h');cases ok with
  |false=>exact MD ⟨U,h₃⟩
  |true=>exact Mn (Mn (M4 h₃ (λx s₄ h₄=>Mn (M4 h₄ (λ_ s₅ h₅=>MD (MD ⟨U,h₅⟩)) λ_ _ h'=>h')) λ_ _ h'=>h'))
section
variable{X:Cx}
def zD(wi:TI)(g:TG)(tt:TT)(te:TE)(vs:List Nat):TE:=λσ H Q=>wi σ H λJ H1=>∀D,H1 D=none->∃W:Nat->Nat->Hp->Prop,(∃m,W 0 m (upd H1 D (.lst [])))/\ ∀i m H,W i m H->
 (J.stop i H/\ Q (.ref D) H)\/(J.go i H/\ ∃Nx:Hp->Prop,(∀H',Nx H'->∃m',m'<m/\ W (i+1) m' H')/\ ∀x H',J.j5 i H x H'->g x (wipe σ vs) H' λσ2 H2=>wipe σ2 vs=wipe σ vs/\ tt σ2 H2 λb H3=>if b=true then te σ2 H3 λy H4=>∃acc,H4 D=some (.lst acc)/\ acc.length<sizeLine/\ Nx (upd H4 D (.lst (acc++[y])))else Nx H3)
theorem Le{pins:List (Addr×Obj)}{s:me}{σ:St}{H:Hp}{Q:VK}{elt tg iter:Lj}{ifs:List Lj}{scope:Scope}{own:List (Str×Nat)}{pos pos':Pos}{wi:TI}{g:TG}{tt:TT}{te:TE}{use:Option (cp->Sem Unit)}{Qf:cp->me->Prop}
  (hc:X.calm=true) (hN:X.N.Nodup) (I:Inv X pins σ H s) (hi:PI X tg iter wi) (ok:we X.N X.env.scope scope own)
  (hg:∀(s:me) (H:Hp) (C:Addr) (cl:List (Str×Addr)) (fp:List Addr),PG (X.bX s H scope (MU scope cl C X.env) fp) tg g) (ht:∀(s:me) (H:Hp) (C:Addr) (cl:List (Str×Addr)) (fp:List Addr),wg (X.bX s H scope (MU scope cl C X.env) fp) ifs tt)
  (he:∀(s:me) (H:Hp) (C:Addr) (cl:List (Str×Addr)) (fp:List Addr),PE (X.bX s H scope (MU scope cl C X.env) fp) elt te) (hs:∀x,ab6 iter X.env x=pure x)
  (h:zD wi g tt te (own.map (·.2)) σ H Q)
  (hRR:∀D C s' m H',Inv X pins σ H' s'->Q (.ref D) H'->s'.heap.Ns C m->j6 X pins H' C->compPost (L1 X.prog X.w) X.A X.xe use Qf (.ref D) C (.ok .next) s'):
  L3 (L1 X.prog X.w) X.A (comprehension (.ListComp elt [⟨tg,iter,ifs,0⟩] scope pos) scope X.env pos' (newList []) false (L6 iter X.env) use) Qf X.xe s:=by
 have hfree:∀y∈scope.names,y.2= .free->∃c,X.env.cells.lookup y.1=some c:=λy hy e=>by
  rcases ok.free y hy e with k|k
  .exact I.ok.has _ (.inl k)
  .exact I.ok.has _ (.inr k)
 refine wpAny_comprehension_free (use:=use) U hs (V5 hfree) ok.kind (λy hy e=>by rw[ok.uniq y hy,e])
  (aV (hi pins s σ H _ I h) λxv s1 hx=>aV hx λitv s2 h2=>?_)
 obtain⟨it,fp,tn,J,H2,e,I2,T,zd,f2,q⟩:=h2;subst e;refine wpAny_newObj_type (V6 ?_) (by show 0<=sizeLine;decide);generalize hD:s2.heap.objs.size=D;have hDn:H2 D=none:=I2.aK.fresh (Bw hD);obtain⟨W,⟨m0,w0⟩,turn⟩:=q D hDn;generalize Lg:({s2 with heap:=s2.heap.push {cls:= .type "list",data:= .seq ([]:List cp).toArray}}:me)=s3;have I3:Inv X pins σ (upd H2 D (.lst [])) s3:=by rw[<-Lg];refine I2.laid (t':=s2.toks) (λb o e=>Heap.get?_push_of_some _ e) (Bw hD) ⟨bL _,[],0, .nil,?_⟩;rw[<-hD];exact Heap.get?_push_size _ U
 have h3:s3.heap=s2.heap.push {cls:= .type "list",data:= .seq ([]:List cp).toArray}:=by rw[<-Lg]
 have sz:∀b∈fp,b<s2.heap.objs.size:=λb hb=>by obtain⟨o,e,_⟩:=T.obj _ _ zd b hb;exact Heap.lt_size e
 have f3:∀b∈fp,j6 X pins (upd H2 D (.lst [])) b/\ b<s3.heap.objs.size:=λb hb=>by have aU:=sz b hb;refine⟨⟨?_,(f2 b hb).2⟩,by rw[h3,Heap.size_push];exact adf aU⟩;rw[aD (by rw[<-hD];exact gE aU)];exact(f2 b hb).1
 have ze:tn 0 s3.heap:=T.keep _ _ _ zd λb _ o e=>by rw[h3];exact Heap.get?_push_of_some _ e
 have I4:=V7 I3 ok hN f3;have pg:=hg s3 (upd H2 D (.lst [])) s3.heap.objs.size (MC (s3.heap.objs.size+1) scope.names (fV X.env.cells scope.names [])) fp;have pt:=ht s3 (upd H2 D (.lst [])) s3.heap.objs.size (MC (s3.heap.objs.size+1) scope.names (fV X.env.cells scope.names [])) fp;have pe:=he s3 (upd H2 D (.lst [])) s3.heap.objs.size (MC (s3.heap.objs.size+1) scope.names (fV X.env.cells scope.names [])) fp;show Nb _ _ (.compStart (.ListComp elt [⟨tg,iter,ifs,0⟩] scope pos) 0 (.ref it) (.ref D) (MU scope (MC (s3.heap.objs.size+1) scope.names (fV X.env.cells scope.names [])) s3.heap.objs.size X.env)) (compPost (L1 X.prog X.w) X.A X.xe use Qf (.ref D) s3.heap.objs.size) {s3 with heap:=Nn (s3.heap.push {cls:= .type "dict",data:= .dict #[]}) scope.names};have nfp:∀b∈fp,(upd H2 D (.lst [])) b=none:=λb hb=>(f3 b hb).1.1;generalize jE:MU scope (MC (s3.heap.objs.size+1) scope.names (fV X.env.cells scope.names [])) s3.heap.objs.size X.env=ce at I4 pg pt pe⊢;have cL:ce.locals=s3.heap.objs.size:=by subst jE;rfl
 generalize oQ:upd H2 D (.lst [])=H3 at I3 I4 pg pt pe w0 nfp f3;generalize Wa:({s3 with heap:=Nn (s3.heap.push {cls:= .type "dict",data:= .dict #[]}) scope.names}:me)=s4 at I4⊢;have Lh:tn 0 s4.heap:=T.keep _ _ _ ze λb _ o e=>by rw[<-Wa];exact ach _ _ _ _ (Heap.get?_push_of_some _ e)
 have stat:∀{σ':St} {H':Hp} {s':me},Inv (X.bX s3 H3 scope ce fp) [] σ' H' s'->(∀b∈fp,H' b=none)->∀b∈fp,j6 (X.bX s3 H3 scope ce fp) [] H' b:=λ{σ' H' s'} I' hn b hb=>⟨hn b hb,(I'.ok.y8 b hb).1,I'.ok.vP b hb, .inl hb,λx c e=>(I'.ok.y8 b hb).2 x c e,λp hp=>absurd (show p∈([]:List (Addr×Obj))++[]from hp) (by simp)⟩
 have loop:Nb (L1 X.prog X.w) X.A (.compLoop (.ListComp elt [⟨tg,iter,ifs,0⟩] scope pos) 0 (.ref it) (.ref D) ce) (compPost (L1 X.prog X.w) X.A X.xe use Qf (.ref D) s3.heap.objs.size) s4:=by
  refine V' (λn s'=>∃i H',Inv (X.bX s3 H3 scope ce fp) [] (wipe σ (own.map (·.2))) H' s'/\ tn i s'.heap/\ (∀b∈fp,H' b=none)/\ W i n H') ?_ m0 ⟨0,H3,I4,Lh,nfp,w0⟩;rintro n s5 ⟨i,H5,I5,t7,n5,w5⟩;rcases turn i n H5 w5 with⟨stop,qq⟩|⟨go,Nx,hNx,step⟩
  .have td:=T.done (X.bX s3 H3 scope ce fp) U U U hc i [] s5 _ H5 (λ_ _=>False) I5 (stat I5 n5) t7 stop
   refine ue td λr s6 ⟨hr,I6⟩=>?_;subst hr;have I7:Inv X pins σ H5 s6:=I3.UP (ch:=fp) I6.os I6.base I6.aK I6.bare λb hb=>⟨(f3 b hb).1.2.2.2.1,(f3 b hb).1.2.1,(f3 b hb).1.2.2.2.2.1,(f3 b hb).1.2.2.2.2.2⟩
   have nC:H5 s3.heap.objs.size=none:=by have z:H5 ce.locals=none:=I6.free;rw[cL]at z;exact z
   obtain⟨m,hn,_⟩:=I6.loc;have hn:s6.heap.Ns ce.locals m:=hn;rw[cL]at hn;exact hRR D s3.heap.objs.size s6 m H5 I7 qq hn (I3.rH (a_ _) nC)
  .have ti:=T.item (X.bX s3 H3 scope ce fp) U U U hc i [] s5 _ H5 (λ_ _=>False) I5 (stat I5 n5) t7 go
   refine ue ti λr s6 ⟨u,hr,h6⟩=>?_;subst hr;refine ue h6 λ_ s7 ⟨x,H7,I7,r7,y7,DH,n7⟩=>?_;have I7':=I7.pinned (stat I7 n7) (T.obj _ _ DH);refine ue (pg _ s7 _ H7 x u _ I7' r7 (step x H7 y7)) λ_ s8 ⟨σ8,H8,I8,Li,q8⟩=>?_;refine ue (pt _ s8 σ8 H8 _ I8 q8) λb s9 ⟨H9,I9,q9⟩=>?_;have fin:∀{s':me} {H':Hp},Inv (X.bX s3 H3 scope ce fp) ([]++vV fp s7.heap) σ8 H' s'->Nx H'->∃m,m<n/\ ∃i H',Inv (X.bX s3 H3 scope ce fp) [] (wipe σ (own.map (·.2))) H' s'/\ tn i s'.heap/\ (∀b∈fp,H' b=none)/\ W i m H':=λ{s' H'} I' nx=>by
    obtain⟨m',hm,w'⟩:=hNx H' nx;have pin':∀b∈fp,∀o,s7.heap.get? b=some o->s'.heap.get? b=some o/\ H' b=none:=λb hb o e=>
     let z:=I'.pin (b,o) (jN _ (jN _ (C6 hb e)))
     ⟨z.1,z.2.1⟩
    have hl:(wipe σ (own.map (·.2))).length=σ8.length:=by rw[<-Li,DD]
    refine⟨m',hm,i+1,H',(I'.zc (pins:=[])).weak hl (λj v e=>?_),T.keep _ _ _ DH λb hb o e=>(pin' b hb o e).1,λb hb=>?_,w'⟩
    .rw[<-Li]at e
     exact(DE e).1
    .obtain⟨o,e,_⟩:=T.obj _ _ DH b hb
     exact(pin' b hb o e).2
   cases b with
   |false=>simp only[pH,if_false]at q9⊢;exact fin I9 q9
   |true=>simp only[if_true]at q9⊢;refine ue (pe _ s9 σ8 H9 _ I9 q9) λz wk ⟨yv,H10,I10,r10,acc,Wb,Wc,nx⟩=>?_;exact V_ (X:=X.bX s3 H3 scope ce fp) I10 Wb Wc r10 λwm I11=>fin I11 nx
 exact codeAny_compStart_list loop (T.self X.A 0 _ _ _ Lh loop)
theorem ml{elt tg iter:Lj}{ifs:List Lj}{scope:Scope}{own:List (Str×Nat)}{pos:Pos}{wi:TI}{g:TG}{tt:TT}{te:TE}(hc:X.calm=true)(hN:X.N.Nodup)(hi:PI X tg iter wi)(ok:we X.N X.env.scope scope own)
  (hg:∀(s:me) (H:Hp) (C:Addr) (cl:List (Str×Addr)) (fp:List Addr),PG (X.bX s H scope (MU scope cl C X.env) fp) tg g) (ht:∀(s:me) (H:Hp) (C:Addr) (cl:List (Str×Addr)) (fp:List Addr),wg (X.bX s H scope (MU scope cl C X.env) fp) ifs tt)
  (he:∀(s:me) (H:Hp) (C:Addr) (cl:List (Str×Addr)) (fp:List Addr),PE (X.bX s H scope (MU scope cl C X.env) fp) elt te) (hs:autoParam (∀x,ab6 iter X.env x=pure x) abx._auto_1):
  PE X (.ListComp elt [⟨tg,iter,ifs,0⟩] scope pos) (zD wi g tt te (own.map (·.2))):=by
 intro pins s σ H Q I h;rw[eval_ListComp];refine Le hc hN I hi ok hg ht he hs h λD C s' m H' I' q hn f=>⟨m,hn,λp8 sb=>?_⟩
 obtain⟨f0,f1,f2,f3,f4,f5⟩:=f;exact⟨.ref D,H',I'.turned (t':=s'.toks) (λb o hb e=>(sb.2 b hb).trans e) f0 f1 f3 f4 f5,U,q⟩
theorem DI{i:Nat}{y:Str}{py:Pos}{elt tg iter:Lj}{ifs:List Lj}{scope:Scope}{own:List (Str×Nat)}{pos spos:Pos}{wi:TI}{g:TG}{tt:TT}{te:TE}(hc:X.calm=true)(hN:X.N.Nodup)(hy:X.N[i]? =some y)(h_:X.env.scope.names.lookup y=some .local)
  (zE:Na (.ListComp elt [⟨tg,iter,ifs,0⟩] scope pos) (some (.Name y py)) spos.line X.env=pure true) (hi:PI X tg iter wi) (ok:we X.N X.env.scope scope own)
  (hg:∀(s:me) (H:Hp) (C:Addr) (cl:List (Str×Addr)) (fp:List Addr),PG (X.bX s H scope (MU scope cl C X.env) fp) tg g) (ht:∀(s:me) (H:Hp) (C:Addr) (cl:List (Str×Addr)) (fp:List Addr),wg (X.bX s H scope (MU scope cl C X.env) fp) ifs tt)
  (he:∀(s:me) (H:Hp) (C:Addr) (cl:List (Str×Addr)) (fp:List Addr),PE (X.bX s H scope (MU scope cl C X.env) fp) elt te) (hs:autoParam (∀x,ab6 iter X.env x=pure x) abx._auto_1):
  PS X (.Assign [.Name y py] (.ListComp elt [⟨tg,iter,ifs,0⟩] scope pos) spos) (oG (zD wi g tt te (own.map (·.2))) (ik i)):=by
 intro pins s σ H D I h;rw[exec_Assign_Name_used _ _ _ _ zE];refine Mn (wpAny_standAt (Mn ?_));show L3 _ X.A (do let _<-comprehension (.ListComp elt [⟨tg,iter,ifs,0⟩] scope pos) scope X.env (firstIterPos [⟨tg,iter,ifs,0⟩] pos) (newList []) false (L6 iter X.env) (some (assign (.Name y py) X.env))) _ _ s;have h:zD wi g tt te (own.map (·.2)) σ H (λx H1=>ik i x σ H1 D.nx):=h;refine Mn (aV (Le (Qf:=λ_ s'=>SP X pins D .next s') hc hN I hi ok hg ht he hs h λL C s' m H' I' q hn f=>?_) λ_ s' hq=>MD (MD hq));show L3 _ _ (assign (.Name y py) X.env (.ref L)) _ _ _;refine wpAny_assign_Name (J_ (v:=V.ref L) I' hN hy (.inl h_) U (λs2 I2 ⟨a,sb,ha⟩=>?_) (.inr h_));obtain⟨f0,f1,f2,f3,f4,f5⟩:=f;have haC:C≠a:=by
  rcases ha with z|z
  .rw[z];exact f1
  .exact λe=>f4 y a z e.symm
 refine⟨m,hn.sameBut sb haC,λh3 Wd=>?_⟩;exact⟨_,H',I2.turned (t':=s2.toks) (λb o hb e=>(Wd.2 b hb).trans e) f0 f1 f3 f4 f5,q⟩
theorem DJ{elt:Lj}{gs:List Comprehension}{scope:Scope}{pos py:Pos}{y:Str}{l:Nat}{env:Env}(hk:env.scope.kind= .function)(hy:env.scope.names.lookup y=some .local)(hl:(py.line==pos.line)=true)
  (ha:(scope.names.any λ(n,k)=>n==y&&(k== .local||k== .cell))=false):Na (.ListComp elt gs scope pos) (some (.Name y py)) l env=pure true:=by
 have ky:env.kindOf y=some .local:=hy;have hb:env.blockKind= .function:=by unfold Env.blockKind;rw[hk];rfl
 unfold Na;simp only[hb,ky,ha,Expr.pos,hl];rfl
end
noncomputable def iT(N:List Str)(sc scope:Scope)(own:List (Str×Nat)):Bool:=
 (match scope.kind with| .function=>true|_=>false)&&(scope.names.all λy=>decide (scope.names.lookup y.1=some y.2))&&(own.all λp=>decide (N[p.2]? =some p.1))&&
  (scope.names.all λy=>match y.2 with
   | .free=>(match sc.names.lookup y.1 with|some .cell=>true|some .free=>true|_=>false)
   | .local| .cell=>decide (y.1∈own.map (·.1))||decide (y.1∉N)
   |_=>true)
theorem jF{N:List Str}{sc scope:Scope}{own:List (Str×Nat)}(h:iT N sc scope own=true):we N sc scope own:=by
 unfold iT at h;simp only[bC,iZ,iB]at h;obtain⟨⟨⟨h1,h2⟩,h3⟩,h4⟩:=h;refine⟨?_,h2,h3,λy hy e=>?_,λy hy e=>?_⟩
 .split at h1
  .assumption
  .cases h1
 .have q:=h4 y hy
  simp only[e]at q;split at q<;>first|exact .inl (by assumption)|exact .inr (by assumption)|cases q
 .have q:=h4 y hy
  rcases e with e|e<;>(simp only[e,qP,iB]at q;exact q)
end L2
namespace L2
open PySem PySem.Spec PyProof.Rows
section
variable{prog:Mb}{w:L9}{A:Mf}{R:Result->me->Prop}{s:me}{elt t0 i0 t1 i1:Lj}{ifs0 ifs1:List Lj}{scope:Scope}{pos:Pos}{it acc:cp}{env:Env}
end
section
variable{X:Cx}
end
end L2
namespace L2
open PySem PySem.Spec PyProof.Rows
section
variable{κ:Type}[DecidableEq κ]
noncomputable def gA(ax:List (κ×V))(k:κ):Option V:=(ax.find? λkv=>decide (kv.1=k)).map (·.2)
noncomputable def putK(ax:List (κ×V))(k:κ)(v:V):List (κ×V):=if(ax.any λkv=>decide (kv.1=k))=true then ax.map (λkv=>if kv.1=k then(kv.1,v)else kv)else ax++[(k,v)]
theorem DK{p:κ×V}{r:List (κ×V)}{k:κ}(e:p.1=k):gA (p::r) k=some p.2:=by simp[gA,oj,e]
theorem DL{p:κ×V}{r:List (κ×V)}{k:κ}(e:¬p.1=k):gA (p::r) k=gA r k:=by simp[gA,oj,e]
theorem wq(k:κ):∀ax:List (κ×V),(ax.any λkv=>decide (kv.1=k))=(gA ax k).isSome
 |[]=>rfl
 |p::r=>by
  rw[px];by_cases e:p.1=k
  .simp only[DK e,bb e,afu,afy]
  .rw[DL e,cO e,xT];exact wq k r
theorem Lk(ax:List (κ×V))(k:κ)(v:V):(putK ax k v).length<=ax.length+1:=by
 unfold putK;split
 .rw[aX];lia
 .rw[cP,bj,lF];lia
theorem Ll{ax:List (κ×V)}{k:κ}(v:V)(h:gA ax k=none):putK ax k v=ax++[(k,v)]:=by unfold putK;rw[wq,h];exact ay (by decide)
theorem iO.DM{o:Option V}{u:Option cp}(r:iO o u):o.isSome=u.isSome:=by
 cases o with
 |none=>cases u with
  |none=>rfl
  |some _=>exact(show False from r).elim
 |some _=>cases u with
  |none=>exact(show False from r).elim
  |some _=>rfl
theorem KV.val{ax:List (κ×V)}{vs:List (κ×cp)}(r:KV ax vs)(k:κ):iO (gA ax k) (valueAt vs k):=by
 unfold KV at r;induction r with
 |nil=>exact True.intro
 | @cons p q ps qs h t ih=>
  obtain⟨h1,h2⟩:=h;by_cases e:p.1=k
  .have e':q.1=k:=h1.symm.trans e
   have b:valueAt (q::qs) k=some q.2:=by simp[valueAt,oj,e']
   rw[DK e,b];exact h2
  .have e':¬q.1=k:=λz=>e (h1.trans z)
   have b:valueAt (q::qs) k=valueAt qs k:=by simp[valueAt,oj,e']
   rw[DL e,b];exact ih
theorem KV.any{ax:List (κ×V)}{vs:List (κ×cp)}(r:KV ax vs)(k:κ):(ax.any λkv=>decide (kv.1=k))=vs.any λkv=>decide (kv.1=k):=by
 unfold KV at r;induction r with
 |nil=>rfl
 |cons h t ih=>rw[px,px,ih,h.1]
theorem KV.DN{ax:List (κ×V)}{vs:List (κ×cp)}(r:KV ax vs)(k:κ){y:V}{u:cp}(ry:RelV y u):
  KV (ax.map λkv=>if kv.1=k then(kv.1,y)else kv) (vs.map λkv=>if kv.1=k then(kv.1,u)else kv):=by
 unfold KV at r⊢;induction r with
 |nil=>exact .nil
 | @cons p q ps qs h t ih=>
  rw[ez,ez];refine .cons ?_ ih;obtain⟨h1,h2⟩:=h;by_cases e:p.1=k
  .rw[aI e,aI (h1.symm.trans e)];exact⟨h1,ry⟩
  .rw[ay e,ay (λz=>e (h1.trans z))];exact⟨h1,h2⟩
theorem KV.put{ax:List (κ×V)}{vs:List (κ×cp)}(r:KV ax vs)(k:κ){y:V}{u:cp}(ry:RelV y u):KV (putK ax k y) (stored vs k u):=by
 unfold putK stored;rw[r.any k];by_cases e:(vs.any λkv=>decide (kv.1=k))=true
 .rw[aI e,aI e];exact r.DN k ry
 .rw[ay e,ay e];exact Paired.snoc r ⟨U,ry⟩
theorem KV.length{ax:List (κ×V)}{vs:List (κ×cp)}(r:KV ax vs):ax.length=vs.length:=Paired.length r
end
theorem DO{P:Mb}{w:L9}{k:Key}{u:cp}(r:RelV (kV k) u):(jY P w).is k u=true:=by
 cases k with
 |inl i=>obtain⟨t,e⟩:=(show∃t,u=Value.int i t from r);subst e;exact UE P w i t
 |inr x=>obtain⟨t,e⟩:=(show∃t,u=Value.str x t from r);subst e;exact UG P w x t
theorem Lm{P:Mb}{w:L9}:∀{ks:List Key} {us:List cp},Vals (ks.map kV) us->ItemsAre (jY P w) ks us
 |[],_,r=>by rw[qN]at r;cases r;exact .nil
 |k::ks,_,r=>by
  rw[ez]at r;cases r with
  |cons h t=>exact .cons (DO h) (Lm t)
abbrev KT(H:Hp):List (List Key×V)->List (List Key×Addr×cp)->Prop:=Paired λp q=>p.1=q.1/\ H q.2.1=some (.tup (p.1.map kV))/\ RelV p.2 q.2.2
theorem KT.val{H:Hp}{ax:List (List Key×V)}{xs:List (List Key×Addr×cp)}(r:KT H ax xs)(k:List Key):iO (gA ax k) ((atKey xs k).map (·.2)):=by
 induction r with
 |nil=>exact True.intro
 | @cons p q ps qs h t ih=>
  obtain⟨h1,_,h2⟩:=h;by_cases e:p.1=k
  .have e':q.1=k:=h1.symm.trans e
   have b:atKey (q::qs) k=some q.2:=by simp[atKey,oj,e']
   rw[DK e,b];exact h2
  .have e':¬q.1=k:=λz=>e (h1.trans z)
   have b:atKey (q::qs) k=atKey qs k:=by simp[atKey,oj,e']
   rw[DL e,b];exact ih
theorem KT.DN{H:Hp}{ax:List (List Key×V)}{xs:List (List Key×Addr×cp)}(r:KT H ax xs)(k:List Key){y:V}{u:cp}(ry:RelV y u):
  KT H (ax.map λkv=>if kv.1=k then(kv.1,y)else kv) (xs.map (putAt k u)):=by
 induction r with
 |nil=>exact .nil
 | @cons p q ps qs h t ih=>
  rw[ez,ez];refine .cons ?_ ih;obtain⟨h1,h2,h3⟩:=h;unfold putAt;by_cases e:p.1=k
  .rw[aI e,aI (h1.symm.trans e)];exact⟨h1,h2,ry⟩
  .rw[ay e,ay (λz=>e (h1.trans z))];exact⟨h1,h2,h3⟩
theorem KT.put{H:Hp}{ax:List (List Key×V)}{xs:List (List Key×Addr×cp)}(r:KT H ax xs)(k:List Key){b:Addr}{y:V}{u:cp}(hb:H b=some (.tup (k.map kV)))(ry:RelV y u):
  KT H (putK ax k y) (storedH xs k b u):=by
 have e:(ax.any λkv=>decide (kv.1=k))=(atKey xs k).isSome:=by rw[wq,(r.val k).DM,afB]
 unfold putK storedH;rw[e];by_cases q:(atKey xs k).isSome=true
 .rw[aI q,aI q];exact r.DN k ry
 .rw[ay q,ay q];exact Paired.snoc r ⟨U,hb,ry⟩
theorem KT.keeps{H H':Hp}{ax:List (List Key×V)}{xs:List (List Key×Addr×cp)}(r:KT H ax xs)(ht:∀b ys,H b=some (.tup ys)->H' b=some (.tup ys)):KT H' ax xs:=Paired.CQ r λ_ _ z=>⟨z.1,ht _ _ z.2.1,z.2.2⟩
section
variable{P:Mb}{w:L9}{H:Hp}{h:Heap}{a:Addr}
theorem Ln{u:HO}(ok:du P w H h)(e:Rd H a u):dU P w H h a u:=e.ok ok
theorem DP{ax:List (Key×V)}(ok:du P w H h)(e:Rd H a (.dK ax)):ax.length<=sizeLine/\ (a==M9)=false/\ ∃vs,KV ax vs/\ h.DictOf (jY P w) a vs:=show dU P w H h a (.dK ax)from Ln ok e
theorem We{ax:List (Key×V)}(ok:du P w H h)(e:H a=some (.dK ax)):ax.length<=sizeLine/\ (a==M9)=false/\ ∃vs,KV ax vs/\ h.DictOf (jY P w) a vs:=DP ok (.inl e)
theorem DQ{ks:List Key}(ok:du P w H h)(e:H a=some (.tup (ks.map kV))):(abv (jY P w)).is h ks a:=by
 obtain⟨_,ai,r,o,h1,h2,n,h3⟩:=(show dU P w H h a (.tup (ks.map kV))from ok a _ e)
 exact⟨o,ai.toArray,n,h1,h2,h3,by simpa using Lm r⟩
theorem Lo{ax:List (List Key×V)}(ok:du P w H h)(e:Rd H a (.dT ax)):ax.length<=sizeLine/\ (a==M9)=false/\
  ∃xs,KT H ax xs/\ h.DictOfH (abv (jY P w)) a xs:=by
 obtain⟨z,y,xs,r,o,es,ep,h1,h2,h3,h4,h5⟩:=(show dU P w H h a (.dT ax)from Ln ok e)
 refine⟨z,y,xs,r,o,es,ep,h1,h2,h3,h4,λx hx=>?_,h5⟩;have all:∀{l:List (List Key×V)} {m:List (List Key×Addr×cp)},KT H l m->∀x∈m,(abv (jY P w)).is h x.1 x.2.1:=by
  intro l m q;induction q with
  |nil=>intro x hx;exact nomatch hx
  | @cons p q ps qs hq t ih=>
   intro x hx;rcases br.mp hx with e|hx
   .subst e
    exact DQ ok (by rw[<-hq.1];exact hq.2.1)
   .exact ih x hx
 exact all r x hx
theorem Wf{ax:List (List Key×V)}(ok:du P w H h)(e:H a=some (.dT ax)):ax.length<=sizeLine/\ (a==M9)=false/\
  ∃xs,KT H ax xs/\ h.DictOfH (abv (jY P w)) a xs:=Lo ok (.inl e)
end
def p9(H:Hp)(a:Addr)(y:V)(r:Option V):Prop:=(∃ax k,Rd H a (.dK ax)/\ y=kV k/\ r=gA ax k)\/∃ax k b,Rd H a (.dT ax)/\ y= .ref b/\ H b=some (.tup (k.map kV))/\ r=gA ax k
def p_(H:Hp)(a:Addr)(y v:V)(H':Hp):Prop:=
 (∃ax k,H a=some (.dK ax)/\ y=kV k/\ ax.length<sizeLine/\ H'=upd H a (.dK (putK ax k v)))\/
 ∃ax k b,H a=some (.dT ax)/\ y= .ref b/\ H b=some (.tup (k.map kV))/\ ax.length<sizeLine/\ H'=upd H a (.dT (putK ax k v))
theorem p9.k{H:Hp}{a:Addr}{ax:List (Key×V)}{k:Key}(e:H a=some (.dK ax)):p9 H a (kV k) (gA ax k):= .inl ⟨ax,k, .inl e,U,U⟩
theorem p_.k{H:Hp}{a:Addr}{ax:List (Key×V)}{k:Key}{v:V}(e:H a=some (.dK ax))(hl:ax.length<sizeLine):p_ H a (kV k) v (upd H a (.dK (putK ax k v))):= .inl ⟨ax,k,e,U,hl,U⟩
section
variable{X:Cx}{pins:List (Addr×Obj)}{σ:St}{H:Hp}{s:me}{a:Addr}{y v:V}{u r:cp}{o:Option V}{A:Mf}{E:cp->me->Prop}
theorem Inv.big(I:Inv X pins σ H s):M9<s.heap.objs.size:=by have h:ML<s.heap.objs.size:=(I.mod.glob.keeps I.bk).lt;exact Nat.lt_trans (by decide) h
theorem Wg{Q:cp->me->Prop}(hu:A.units+1<cLine)(I:Inv X pins σ H s)(g:p9 H a y o)(ry:RelV y u)(h:∀s',Inv X pins σ H s'->Q (.bool o.isSome) s'):
  L3 (L1 X.prog X.w) A (MA .In u (.ref a)) Q E s:=by
 rcases g with⟨ax,k,e,ey,l⟩|⟨ax,k,b,e,ey,eb,l⟩
 .subst ey
  obtain⟨z,hd,vs,rel,dd⟩:=DP I.aK e;refine wpAny_in_of (DO ry) hd dd.mapOf ?_;rw[<-(rel.val k).DM,<-l];exact h _ (I.tok _)
 .subst ey
  cases (show u=Value.ref b from ry);obtain⟨z,hd,xs,rel,dd⟩:=Lo I.aK e;refine wpAny_in_heap (tupleKind_room_in1 hu) (DQ I.aK eb) hd dd ?_;have q:=(rel.val k).DM;rw[afB]at q;rw[<-q,<-l];exact h _ (I.tok _)
theorem Lp{h':Heap}{t':Nat}{ob:HO}(I:Inv X pins σ H s)(mu:vK (H a))(hs:Heap.SameBut a s.heap h')(he:∃q,h'.get? a=some q)(new:dU X.prog X.w (upd H a ob) h' a ob):
  Inv X pins σ (upd H a ob) {s with heap:=h',toks:=t'}:=
 I.write (x:=a) (e:=a) mu (.inl U) (λb q hb z=>(hs.2 b hb).trans z) he new
theorem Wh{P:Mb}{w:L9}{H':Hp}{h':Heap}{ax:List (Key×V)}{vs:List (Key×cp)}(z:ax.length<=sizeLine)(hd:(a==M9)=false)(rel:KV ax vs)(dd:h'.DictOf (jY P w) a vs):
  dU P w H' h' a (.dK ax):=⟨z,hd,vs,rel,dd⟩
theorem Wi{H':Hp}{Q:Unit->me->Prop}(hu:A.units+1<cLine)(I:Inv X pins σ H s)(g:p_ H a y v H')(ry:RelV y u)(rv:RelV v r)(h:∀s',Inv X pins σ H' s'->Q () s'):
  L3 (L1 X.prog X.w) A (setItem (.ref a) u r) Q E s:=by
 rcases g with⟨ax,k,e,ey,l,eH⟩|⟨ax,k,b,e,ey,eb,l,eH⟩
 .subst ey eH
  obtain⟨z,hd,vs,rel,dd⟩:=We I.aK e;have hz:vs.length<=sizeLine:=by rw[<-rel.length];exact z
  have hl:(putK ax k v).length<=sizeLine:=by have:=Lk ax k v;lia
  refine wpAny_setItem_pairs (hsz:=hz) (DO ry) dd λh' zF hs=>h _ ?_;have he:∃q,h'.get? a=some q:=let⟨q,_,_,hq,_⟩:=zF;⟨q,hq⟩;exact Lp I (by rw[e];exact True.intro) hs he (Wh hl hd (rel.put k rv) zF)
 .subst ey eH
  cases (show u=Value.ref b from ry);obtain⟨z,hd,xs,rel,dd⟩:=Wf I.aK e;have hz:xs.length<=sizeLine:=by rw[<-Paired.length rel];exact z
  have hl:(putK ax k v).length<=sizeLine:=by have:=Lk ax k v;lia
  refine wpAny_setItem_heap (hsz:=hz) (tupleKind_room_in1 hu) (DQ I.aK eb) dd λh' zF hs=>h _ ?_;obtain⟨q,es,ep,hq,h2,h3,h4,_,h5⟩:=zF;refine Lp I (by rw[e];exact True.intro) hs ⟨q,hq⟩ ⟨hl,hd,_,(rel.put k eb rv).keeps λc ys ec=>?_,q,es,ep,hq,h2,h3,h4,h5⟩;rw[aD (ig ec e (λz=>nomatch z))];exact ec
end
section
variable{X:Cx}{pins:List (Addr×Obj)}{σ:St}{H:Hp}{s:me}{a:Addr}{ax:List (Key×V)}{k:Key}{u:cp}{A:Mf}{E:cp->me->Prop}
theorem Wj{Q:cp->me->Prop}(I:Inv X pins σ H s)(e:Rd H a (.dK ax))(h:∀t s',Inv X pins σ H s'->Q (.int ax.length t) s'):L3 (L1 X.prog X.w) A (call (.builtin "len") [.ref a]) Q E s:=by obtain⟨z,hd,vs,rel,dd⟩:=DP I.aK e;refine call_len_dict hd dd (by rw[<-rel.length];rw[ab8]at z;lia) ?_;rw[<-rel.length];exact h _ _ (I.tok _)
end
def Wk(ty td:TE):TE:=λσ H Q=>ty σ H λy H1=>td σ H1 λx H2=>∃a o,x= .ref a/\ p9 H2 a y o/\ Q (.bl o.isSome) H2
def Wl(td ty tv:TE):TS:=λD σ H=>tv σ H λv H1=>td σ H1 λx H2=>ty σ H2 λy H3=>∃a H4,x= .ref a/\ p_ H3 a y v H4/\ D.nx σ H4
section
variable{X:Cx}{o i e value:Lj}{pos pos' tpos:Pos}{td ty tv:TE}
theorem Lq(hu:X.A.units+1<cLine)(hi:PE X i ty)(ho:PE X o td):PC X .In i o (Wk ty td):=by intro pins s σ H Q I h;refine aV (hi pins s σ H _ I h) λiv s1 ⟨y,H1,I1,ry,q1⟩=>aV (ho pins s1 σ H1 _ I1 q1) λu s2 ⟨x,H2,I2,rx,a,ov,ex,g,q2⟩=>?_;subst ex;obtain rfl:u=Value.ref a:=rx;exact Wg hu I2 g ry λs3 I3=>⟨.bl ov.isSome,H2,I3,U,q2⟩
theorem Lr(hu:X.A.units+1<cLine)(ho:PE X o td)(hi:PE X i ty)(hv:PE X value tv)(hs:Na value (some (.Subscript o i pos')) pos.line X.env=pure false):
  PS X (.Assign [.Subscript o i pos'] value pos) (Wl td ty tv):=by
 intro pins s σ H D I h;refine wpAny_Assign_Subscript (aV (hv pins s σ H _ I h) λr s1 ⟨v,H1,I1,rv,q1⟩=>aV (ho pins s1 σ H1 _ I1 q1) λu s2 ⟨x,H2,I2,rx,q2⟩=>aV (hi pins s2 σ H2 _ I2 q2) λiv s3 ⟨y,H3,I3,ry,a,H4,ex,g,q3⟩=>?_) hs;subst ex;obtain rfl:u=Value.ref a:=rx;exact Wi hu I3 g ry rv λs4 I4=>⟨σ,H4,I4,q3⟩
end
theorem Wm{P:Mb}{w:L9}{H:Hp}(h:Heap)(hb:M9<h.objs.size):dU P w H (h.push {cls:= .type "dict",data:= .dict #[]}) h.objs.size (.dK []):=⟨bL _,beq_eq_false_iff_ne.mpr (Ne.symm (gE hb)),[], .nil,Heap.DictOf.new h⟩
def Wn:TE:=λ_ H Q=>∀p,H p=none->Q (.ref p) (upd H p (.dK []))
section
variable{X:Cx}{pos:Pos}
theorem Wq:PE X (.Dict [] [] pos) Wn:=λpins s σ H Q I h=>wpAny_Dict_empty ⟨.ref s.heap.objs.size,_,I.laid (a:=s.heap.objs.size) (o:= .dK []) (t':=s.toks) (λ_ _ q=>Heap.get?_push_of_some _ q) (a_ _) (Wm s.heap I.big),U,h _ (I.aK.fresh (a_ _))⟩
end
section
variable{X:Cx}{pins:List (Addr×Obj)}{σ:St}{H:Hp}{s:me}{a:Addr}{y d:V}{u r:cp}{o:Option V}{A:Mf}{E:cp->me->Prop}
end
section
variable{X:Cx}{o e f:Lj}{apos cpos:Pos}{td ty tx:TE}
end
section
variable{X:Cx}{pins:List (Addr×Obj)}{σ:St}{H:Hp}{s:me}{a:Addr}{ax:List (Key×V)}{A:Mf}{E:cp->me->Prop}
end
section
variable{X:Cx}{pins:List (Addr×Obj)}{σ:St}{H:Hp}{s:me}{a:Addr}{y:V}{u:cp}{A:Mf}{E:cp->me->Prop}
end
end L2
namespace L2
open PySem PySem.Spec PyProof.Rows
section
variable{prog:Mb}{w:L9}{A:Mf}{E:cp->me->Prop}
end
section
variable{X:Cx}
end
end L2
namespace L2
open PySem PySem.Spec PyProof.Rows
theorem Ls:MI "reversed"=some (.type "reversed"):=by decide+kernel
section
variable{X:Cx}{pins:List (Addr×Obj)}{σ:St}{H:Hp}{s:me}{h':Heap}
theorem Inv.Wt{t':Nat}{ch:List Addr}(I:Inv X pins σ H s)(k:∀b o,b∉ch->s.heap.get? b=some o->h'.get? b=some o)(hf:∀b∈ch,j6 X pins H b):Inv X pins σ H {s with heap:=h',toks:=t'}:=by
 have nit:∀b u,H b=some u->b∉ch:=λb u e z=>by have q:=(hf b z).1;rw[q]at e;cases e
 refine I.step (g':=s.gens) (d':=s.drawn) (ch:=ch) (λb hb=>⟨(hf b hb).2.2.2.1,(hf b hb).2.1,(hf b hb).2.2.2.2.1,(hf b hb).2.2.2.2.2⟩) (λb o _ _ hc e _=>k b o hc e) (λb o _ _ hc e _=>⟨o.slots,k b o hc e⟩)
  (λ_ _ _ _ n=>n) (λb o hc e=>⟨o,k b o hc e⟩) (λ_ _ e=>e) (λ_ _ _ e=>e) (λb ps e=>⟨#[],by rw[e];simp⟩) (λm hm=>?_) (λb u e=>?_) I.bare
 .obtain⟨o,es,ep,ho,r⟩:=hm
  exact⟨o,es,ep,k _ o (λz=>(hf _ z).2.1 U) ho,r⟩
 .refine(I.aK b u e).rn (λc v hc q=>k c v ?_ q) (λ_ q=>q) λ_ _ q=>q
  rcases hc with z|z
  .rw[z];exact nit b u e
  .exact nit c _ z
theorem Inv.DR{t':Nat}{ch:List Addr}{T:Addr}{ob:HO}(I:Inv X pins σ H s)(k:∀b o,b∉ch->s.heap.get? b=some o->h'.get? b=some o)(hf:∀b∈ch,j6 X pins H b)(hT:s.heap.objs.size<=T)
  (new:dU X.prog X.w (upd H T ob) h' T ob):Inv X pins σ (upd H T ob) {s with heap:=h',toks:=t'}:=by
 have hn:H T=none:=I.aK.fresh hT;have nit:∀b u,H b=some u->b∉ch:=λb u e z=>by have q:=(hf b z).1;rw[q]at e;cases e
 refine I.step (g':=s.gens) (d':=s.drawn) (ch:=ch) (λb hb=>⟨(hf b hb).2.2.2.1,(hf b hb).2.1,(hf b hb).2.2.2.2.1,(hf b hb).2.2.2.2.2⟩) (λb o _ _ hc e _=>k b o hc e) (λb o _ _ hc e _=>⟨o.slots,k b o hc e⟩)
  (λb o _ e n=>?_) (λb o hc e=>⟨o,k b o hc e⟩) (λb xs e=>?_) (λb o u e=>?_) (λb ps e=>⟨#[],?_⟩) (λm hm=>?_) (λb u e=>?_) I.bare
 .rw[aD (gE (iF (Heap.lt_size e) hT))];exact n
 .rw[aD (bS e hn)];exact e
 .rw[aD (bS e hn)];exact e
 .rw[aD (bS e hn),e];simp
 .obtain⟨o,es,ep,ho,r⟩:=hm
  exact⟨o,es,ep,k _ o (λz=>(hf _ z).2.1 U) ho,r⟩
 .by_cases hb:b=T
  .subst hb
   rw[ae]at e;cases e;exact new
  .rw[aD hb]at e
   refine(I.aK b u e).rn (λc v hc q=>k c v ?_ q) (λc q=>by rw[aD (bS q hn)];exact q) λc xs q=>by rw[aD (bS q hn)];exact q
   rcases hc with z|z
   .rw[z];exact nit b u e
   .exact nit c _ z
end
section
variable{X:Cx}
theorem zG{tg:Lj}{pins:List (Addr×Obj)}{σ:St}{H:Hp}{s:me}{R:It->Hp->Prop}{J:It}{tn:Nat->Heap->Prop}{tk:Nat}(I:Inv X pins σ H s)(o:Obj)
  (T:Turn X.prog X.w X.K tg J [s.heap.objs.size] s.heap.objs.size tn) (st:tn 0 (s.heap.push o)) (q:R J H):C5 X pins σ tg R (.ref s.heap.objs.size) {s with heap:=s.heap.push o,toks:=tk}:=by
 refine⟨s.heap.objs.size,[s.heap.objs.size],tn,J,H,U,I.kept λb ob e=>Heap.get?_push_of_some _ e,T,st,λb hb=>?_,q⟩;have e:b=s.heap.objs.size:=by simpa using hb
 subst e;exact I.rH (a_ _) (I.aK.fresh (a_ _))
end
noncomputable def wt(lo c:Int)(n:Nat):It:=⟨λi _=>i<n,λi H x H'=>H'=H/\ x= .int (lo+(i:Nat)*c),λi _=>n<=i⟩
theorem Wu{P:Mb}{w:L9}{K:FU}{tg:Lj}(it:Addr)(lo c:Int)(n:Nat):Turn P w K tg (wt lo c n) [it] it (λi h=>ab1 h it (lo+(i:Nat)*c) ((n:Int)-(i:Nat)) c) where
 mem:=by simp
 obj:=λi h st b hb=>by
  have e:b=it:=by simpa using hb
  subst e;exact⟨_,st,λv z=>nomatch z⟩
 keep:=λi h h' st k=>k it (by simp) _ st
 item:=by intro X hP hw hK hc i pins s σ H E I hf st hg;subst hP hw hK;obtain⟨f0,f1,f2,f3,f4,f5⟩:=hf it (by simp);have W:=Walks.range (prog:=X.prog) (w:=X.w) (I.ok.hd hc) it lo c n;refine W.item i s _ _ hg st λv h' tk hv jb kk=>?_;obtain⟨t,rfl⟩:=hv;have I1:Inv X pins σ H {s with heap:=h',toks:=tk}:=I.turned (λb o hb e=>kk b o (by simpa using hb) e) f0 f1 f3 f4 f5;exact⟨_,U,vU (s:={s with heap:=h',toks:=tk}) (n:="range_iterator") jb U U (by decide) ⟨.int (lo+(i:Nat)*c),H,I1,⟨t,U⟩,⟨U,U⟩,jb,λb hb=>(hf b hb).1⟩⟩
 done:=by intro X hP hw hK hc i pins s σ H E I hf st hg;subst hP hw hK;obtain⟨f0,f1,f2,f3,f4,f5⟩:=hf it (by simp);exact wpAny_pyNext_range_end (I.ok.hd hc) st (by have:n<=i:=hg;lia) λh' eb=>⟨U,I.turned (t':=s.toks) (λb o hb e=>eb b o hb e) f0 f1 f3 f4 f5⟩
 self:=λA i s Q E st h=>wpAny_pyIter_rangeiter st h
def zH(i j c:Int)(n:Nat):Prop:=c≠0/\ c.natAbs<1073741824/\ Builtin.Range.small i j c=true/\ Builtin.Range.rangeSize i j c=n
def Wv(ta:TA):TI:=λσ H R=>ta σ H λvs H1=>∃(i j c:Int) (n:Nat),vs=[.int i, .int j, .int c]/\ zH i j c n/\ R (wt i c n) H1
section
variable{X:Cx}{tg:Lj}
theorem Ww{a b c:Lj}{ta:TA}{p pos:Pos}(hg:Gl X "range")(hm:X.mg "range"=none)(ha:PA X [a,b,c] ta)
  (hs:autoParam (Ma [a,b,c] X.env=(false,L6 a X.env)::Ma [b,c] X.env) L'._auto_1) (bK:autoParam ((Mw pos (Ma [b,c] X.env)).any (·.1)=false) L'._auto_1):
  PI X tg (.Call (.Name "range" p) [a,b,c] [] pos) (Wv ta):=by
 intro pins s σ H R I h;refine Call_ (oC I hg hm boot_range (PyProof.Rows.callWith_type1 (aV (ha pos pins s σ H _ I h) λus s1 ⟨vs,H1,I1,r1,q1⟩=>?_) hs bK));obtain⟨i,j,k,n,e,⟨c0,c1,c2,c3⟩,q⟩:=q1;subst e;cases r1 with
 |cons r rr=>
  cases rr with
  |cons r' rr=>
   cases rr with
   |cons r'' rr=>
    cases rr;obtain⟨t,rfl⟩:=r;obtain⟨t',rfl⟩:=r';obtain⟨t'',rfl⟩:=r'';refine call_range_3 c0 ?_ (.inl (PyProof.noPylong_small c1));refine wpAny_pyIter_range (IsRange.new ..) c2 ?_;have I2:Inv X pins σ H1 {s1 with heap:=s1.heap.push {cls:= .type "range",data:= .fields #[.int i t, .int j t', .int k t'']}}:=I1.kept (t':=s1.toks) λb o e=>Heap.get?_push_of_some _ e;refine zG (tk:=s1.toks) I2 _ (Wu _ i k n) ?_ q;have e1:i+((0:Nat):Int)*k=i:=by simp
    have e2:(n:Int)-((0:Nat):Int)=Builtin.Range.rangeSize i j k:=by rw[c3];simp
    show ab1 _ _ (i+((0:Nat):Int)*k) ((n:Int)-((0:Nat):Int)) k;rw[e1,e2];exact Heap.get?_push_size _ U
end
theorem Wx{lo c:Int}{n:Nat}{g:TG}{tb:TS}{D:Ends}{σ:St}{H:Hp}(Pv:Nat->St->Hp->Prop)(h0:Pv 0 σ H)
  (hs:∀i σ H,i<n->Pv i σ H->g (.int (lo+(i:Nat)*c)) σ H λσ2 H2=>tb (MV D (Pv (i+1))) σ2 H2) (hd:∀σ H,Pv n σ H->D.nx σ H):
  af2 (wt lo c n) g tb D σ H:=by
 refine⟨λi m σ H=>m=n-i/\ i<=n/\ Pv i σ H,⟨n,by simp,bL _,h0⟩,?_⟩;rintro i m σ H ⟨rfl,hi,p⟩;by_cases aU:i<n
 .refine .inr ⟨aU,Pv (i+1),λσ' H' p'=>⟨n-(i+1),by lia,U,aU,p'⟩,λx H' y=>?_⟩
  obtain⟨e,y⟩:=y;subst e y;exact hs i σ _ aU p
 .have e:i=n:=by lia
  subst e;exact .inl ⟨a_ _,hd σ H p⟩
noncomputable def wx(K:FU)(a:Addr)(n:Nat):It:=⟨λi H=>i<n/\ ∃(xs:List V) (x:V),ab K H a xs/\ xs[n-1-i]? =some x,λi H x H'=>H'=H/\ ∀xs,ab K H a xs->xs[n-1-i]? =some x,λi _=>n<=i⟩
theorem Wy{P:Mb}{w:L9}{K:FU}{tg:Lj}(a it:Addr)(n:Nat):Turn P w K tg (wx K a n) [it] it (λi h=>i<=n/\ h.IsRevIter it a ((n:Int)-1-(i:Nat))) where
 mem:=by simp
 obj:=λi h st b hb=>by
  have e:b=it:=by simpa using hb
  subst e;obtain⟨_,o,e,c,d⟩:=st;exact⟨o,e,λv z=>by rw[d]at z;cases z⟩
 keep:=λi h h' st k=>⟨st.1,st.2.at λo e=>k it (by simp) o e⟩
 item:=by
  intro X hP hw hK hc i pins s σ H E I hf st hg;subst hP hw hK;obtain⟨jW,xs,x,hq,hx⟩:=hg;obtain⟨ai,rv,p,hz⟩:=I.list hq;obtain⟨u,hu,ru⟩:=rv.get hx;obtain⟨f0,f1,f2,f3,f4,f5⟩:=hf it (by simp);obtain⟨_,hit⟩:=st;have e1:(n:Int)-1-((i:Nat):Int)=((n-1-i:Nat):Int):=by lia
  rw[e1]at hit;refine wpAny_pyNext_rev_item hit p.isList (x:=u) (by simpa using hu) λh' jb sb=>?_;have e2:((n-1-i:Nat):Int)-1=(n:Int)-1-((i+1:Nat):Int):=by lia
  rw[e2]at jb;have I1:Inv X pins σ H {s with heap:=h'}:=I.turned (t':=s.toks) (λb o hb e=>(sb.2 b hb).trans e) f0 f1 f3 f4 f5;obtain⟨o,e,c,d⟩:=id jb;exact⟨u,U,vU (s:={s with heap:=h'}) e c d (by decide) ⟨x,H,I1,ru,⟨U,λys hy=>by rw[I.vR hy hq];exact hx⟩,⟨jW,jb⟩,λb hb=>(hf b hb).1⟩⟩
 done:=by
  intro X hP hw hK hc i pins s σ H E I hf st hg;subst hP hw hK;obtain⟨f0,f1,f2,f3,f4,f5⟩:=hf it (by simp);obtain⟨jW,hit⟩:=st;have oR:n<=i:=hg;have e1:(n:Int)-1-((i:Nat):Int)= -1:=by lia
  rw[e1]at hit;exact wpAny_pyNext_rev_end (I.ok.hd hc) hit λh' eb=>⟨U,I.turned (t':=s.toks) (λb o hb e=>eb b o hb e) f0 f1 f3 f4 f5⟩
 self:=λA i s Q E st h=>adM st.2 h
def Wz(K:FU)(ta:TA):TI:=λσ H R=>ta σ H λvs H1=>∃(a:Addr) (xs:List V),vs=[.ref a]/\ ab K H1 a xs/\ R (wx K a xs.length) H1
section
variable{X:Cx}{tg:Lj}
theorem Lu{e:Lj}{ta:TA}{p pos:Pos}(hg:Gl X "reversed")(hm:X.mg "reversed"=none)(ha:PA X [e] ta)(hs:autoParam (Ma [e] X.env=[(false,L6 e X.env)]) L'._auto_1):PI X tg (.Call (.Name "reversed" p) [e] [] pos) (Wz X.K ta):=by
 intro pins s σ H R I h;refine Call_ (oC I hg hm Ls (PyProof.Rows.callWith_type1 (aV (ha pos pins s σ H _ I h) λus s1 ⟨vs,H1,I1,r1,q1⟩=>?_) hs U));obtain⟨a,xs,e,hq,q⟩:=q1;subst e;cases r1 with
 |cons r rr=>
  cases rr;cases r;obtain⟨ai,rv,p',hz⟩:=I1.list hq;have hl:=rv.length;have e1:((ai.toArray.size:Nat):Int)-1=(xs.length:Int)-1-((0:Nat):Int):=by simp only[eM];lia
  refine call_reversed_list p'.isList (adM (l:=a) (i:=((ai.toArray.size:Nat):Int)-1) ⟨_,Heap.get?_push_size _ U,U,U⟩ ?_);refine zG (tk:=s1.toks) I1 _ (Wy a _ xs.length) ⟨bL _,?_⟩ q;rw[<-e1];exact⟨_,Heap.get?_push_size _ U,U,U⟩
end
noncomputable def Lv(x:Str):It:=⟨λi _=>i<x.cps.size,λi H v H'=>H'=H/\ ∃c,x.cps[i]? =some c/\ v= .str ⟨#[c]⟩,λi _=>x.cps.size<=i⟩
theorem Lw{P:Mb}{w:L9}{K:FU}{tg:Lj}(it:Addr)(x:Str)(t:Tok)(ty:String)(p6:ty="str_ascii_iterator"\/ty="str_iterator"):
  Turn P w K tg (Lv x) [it] it (λi h=>h.IsStrIter it ty x t i) where
 mem:=by simp
 obj:=λi h st b hb=>by
  have e:b=it:=by simpa using hb
  subst e;obtain⟨o,e,c,d⟩:=st;exact⟨o,e,λv z=>by rw[d]at z;cases z⟩
 keep:=λi h h' st k=>let⟨o,ho,r⟩:=st;⟨o,k it (by simp) o ho,r⟩
 item:=by
  intro X hP hw hK hc i pins s σ H E I hf st hg;subst hP hw hK;obtain⟨f0,f1,f2,f3,f4,f5⟩:=hf it (by simp);have W:Walks X.prog X.w X.A it [it] [it] x.cps.size (SignAt x) (λi h=>h.IsStrIter it ty x t i):=by
   rcases p6 with e|e
   .rw[e];exact Walks.strAscii (I.ok.hd hc) it x t
   .rw[e];exact Walks.strWide (I.ok.hd hc) it x t
  have CC:["enumerate","zip","dict_itemiterator","dict_reverseitemiterator","odict_iterator","itertools.zip_longest","itertools.pairwise"].contains ty=false:=by
   rcases p6 with e|e
   .rw[e];decide
   .rw[e];decide
  refine W.item i s _ _ hg st λv h' tk hv jb kk=>?_;obtain⟨c,u,WA,rfl⟩:=hv;have I1:Inv X pins σ H {s with heap:=h',toks:=tk}:=I.turned (λb o hb e=>kk b o (by simpa using hb) e) f0 f1 f3 f4 f5;obtain⟨oi,e,cc,dd⟩:=id jb;exact⟨_,U,vU (s:={s with heap:=h',toks:=tk}) e cc dd CC ⟨.str ⟨#[c]⟩,H,I1,⟨u,U⟩,⟨U,c,WA,U⟩,jb,λb hb=>(hf b hb).1⟩⟩
 done:=by
  intro X hP hw hK hc i pins s σ H E I hf st hg;subst hP hw hK;obtain⟨f0,f1,f2,f3,f4,f5⟩:=hf it (by simp);have hx:x.cps[i]? =none:=Array.getElem?_eq_none hg;rcases p6 with e|e
  .rw[e]at st
   exact wpAny_pyNext_ascii_end (I.ok.hd hc) st hx λh' eb=>⟨U,I.turned (t':=s.toks) (λb o hb e=>eb b o hb e) f0 f1 f3 f4 f5⟩
  .rw[e]at st
   exact wpAny_pyNext_wide_end (I.ok.hd hc) st hx λh' eb=>⟨U,I.turned (t':=s.toks) (λb o hb e=>eb b o hb e) f0 f1 f3 f4 f5⟩
 self:=λA i s Q E st h=>by
  rcases p6 with e|e
  .rw[e]at st;exact wpAny_pyIter_striter_ascii st h
  .rw[e]at st;exact wpAny_pyIter_striter_wide st h
def WB(te:TE):TI:=λσ H R=>te σ H λv H1=>∃x,v= .str x/\ R (Lv x) H1
theorem WC{X:Cx}{tg e:Lj}{te:TE}(he:PE X e te):PI X tg e (WB te):=by
 intro pins s σ H R I h;refine aV (he pins s σ H _ I h) λv s1 ⟨y,H1,I1,r1,x,ex,q⟩=>?_;subst ex;obtain⟨t,rfl⟩:=r1;cases ha:x.cps.all (·<128)
 .exact wpAny_pyIter_wide ha (zG (tk:=s1.toks) I1 _ (Lw _ x t "str_iterator" (.inr U)) ⟨_,Heap.get?_push_size _ U,U,U⟩ q)
 .exact wpAny_pyIter_ascii ha (zG (tk:=s1.toks) I1 _ (Lw _ x t "str_ascii_iterator" (.inl U)) ⟨_,Heap.get?_push_size _ U,U,U⟩ q)
section
variable{prog:Mb}{w:L9}{A:Mf}{E:cp->me->Prop}{s:me}
end
section
variable{X:Cx}{pins:List (Addr×Obj)}{σ:St}{H:Hp}{s:me}{d:Addr}{o:Obj}
end
section
variable{P:Mb}{w:L9}{K:FU}{tg:Lj}{d:Addr}{o:Obj}{es:Array DictEntry}{ep:Nat}
end
section
variable{X:Cx}{tg e:Lj}{td:TE}{apos cpos:Pos}
end
noncomputable def qa(K:FU)(a:Addr):It:=⟨λi H=>∃(xs:List V) (x:V),ab K H a xs/\ xs[i]? =some x,λi H v H'=>∃T x,v= .ref T/\ H T=none/\ H'=upd H T (.tup [.int (i:Nat),x])/\ ∀xs,ab K H a xs->xs[i]? =some x,λi H=>∃xs:List V,ab K H a xs/\ xs.length<=i⟩
theorem WD{P:Mb}{w:L9}{K:FU}{elts:List Lj}{kk:Nat}{tpos:Pos}(a e it:Addr):
  Turn P w K (.Tuple elts kk tpos) (qa K a) [e,it] e (λi h=>(∃old,IsEnum h e it ((i:Nat):Int) old)/\ h.IsListIter it a i/\ e≠it) where
 mem:=by simp
 obj:=λi h st b hb=>by
  obtain⟨⟨old,he⟩,⟨o,ho,hc,hd⟩,_⟩:=st;have e':b=e\/b=it:=by simpa using hb
  rcases e' with z|z
  .rw[z];exact⟨_,he,λv q=>nomatch q⟩
  .rw[z];exact⟨o,ho,λv q=>by rw[hd]at q;cases q⟩
 keep:=λi h h' st k=>let⟨⟨old,he⟩,hi,b8⟩:=st;⟨⟨old,k e (by simp) _ he⟩,hi.at λo q=>k it (by simp) o q,b8⟩
 item:=by
  intro X hP hw hK hc i pins s σ H E I hf st hg;subst hP hw hK;obtain⟨⟨old,he⟩,hit,b8⟩:=st;obtain⟨xs,x,hq,hx⟩:=hg;obtain⟨ai,rv,p,hz⟩:=I.list hq;obtain⟨u,hu,ru⟩:=rv.get hx;have oS:e<s.heap.objs.size:=Heap.lt_size he;have Ca:it<s.heap.objs.size:=by obtain⟨_,q,_⟩:=hit;exact Heap.lt_size q
  refine wpAny_pyNext_enum_item he hit p.isList (x:=u) (by simpa using hu) b8 λh' ho WE hT hsz hk=>?_;refine⟨_,U,wpAny_letOwnedTupleGo_enum (s:={s with heap:=h',toks:=s.toks+1}) ho λp8 WG sb=>?_⟩;have DS:p8.get? s.heap.objs.size=some {cls:= .type "tuple",data:= .seq #[.int i s.toks,u]}:=(sb.2 _ (ada oS)).trans hT;have new:dU X.prog X.w (upd H s.heap.objs.size (.tup [.int (i:Nat),x])) p8 s.heap.objs.size (.tup [.int (i:Nat),x]):=⟨by show 2<=sizeLine;decide,[.int i s.toks,u], .cons ⟨_,U⟩ (.cons ru .nil),⟨_,DS,U,_,U⟩⟩
  have I1:Inv X pins σ (upd H s.heap.objs.size (.tup [.int (i:Nat),x])) {s with heap:=p8,toks:=s.toks+1}:=I.DR (ch:=[e,it]) (λb ob hb q=>(sb.2 b (λz=>hb (by simp[z]))).trans (hk b ob (λz=>hb (by simp[z])) (λz=>hb (by simp[z])) q)) hf (a_ _) new
  refine⟨.ref s.heap.objs.size,_,I1,U,⟨_,x,U,I.aK.fresh (a_ _),U,λys hy=>by rw[I.vR hy hq];exact hx⟩,⟨⟨u,?_⟩,WE.at λo q=>(sb.2 it (Ne.symm b8)).trans q,b8⟩,λb hb=>?_⟩
  .have e1:((i+1:Nat):Int)=(i:Int)+1:=by lia
   rw[e1];exact WG
  .have wu:b<s.heap.objs.size:=by
    have e':b=e\/b=it:=by simpa using hb
    rcases e' with z|z
    .rw[z];exact oS
    .rw[z];exact Ca
   rw[aD (gE wu)];exact(hf b hb).1
 done:=by intro X hP hw hK hc i pins s σ H E I hf st hg;subst hP hw hK;obtain⟨⟨old,he⟩,hit,b8⟩:=st;obtain⟨xs,hq,hx⟩:=hg;obtain⟨ai,rv,p,hz⟩:=I.list hq;obtain⟨f0,f1,f2,f3,f4,f5⟩:=hf it (by simp);have hl:=rv.length;exact wpAny_pyNext_enum_end (I.ok.hd hc) he hit p.isList (by simp;lia) λh' eb=>⟨U,I.turned (t':=s.toks) (λb o hb q=>eb b o hb q) f0 f1 f3 f4 f5⟩
 self:=λA i s Q E st h=>let⟨⟨_,he⟩,_⟩:=st;wpAny_pyIter_enum he h
def WH(K:FU)(ta:TA):TI:=λσ H R=>ta σ H λvs H1=>∃a xs,vs=[.ref a]/\ ab K H1 a xs/\ R (qa K a) H1
theorem zI{X:Cx}{e:Lj}{ta:TA}{p pos tpos:Pos}{elts:List Lj}{kk:Nat}(hg:Gl X "enumerate")(hm:X.mg "enumerate"=none)(ha:PA X [e] ta)(hs:autoParam (Ma [e] X.env=[(false,L6 e X.env)]) L'._auto_1):
  PI X (.Tuple elts kk tpos) (.Call (.Name "enumerate" p) [e] [] pos) (WH X.K ta):=by
 intro pins s σ H R I h;refine Call_ (oC I hg hm boot_enumerate (PyProof.Rows.callWith_type1 (aV (ha pos pins s σ H _ I h) λus s1 ⟨vs,H1,I1,r1,q1⟩=>?_) hs U));obtain⟨a,xs,ex,hq,q⟩:=q1;subst ex;cases r1 with
 |cons r rr=>
  cases rr;cases r;obtain⟨ai,rv,p',hz⟩:=I1.list hq;refine call_enumerate_list p'.isList λh' he hit hsz hk=>wpAny_pyIter_enum he ?_;have I2:Inv X pins σ H1 {s1 with heap:=h'}:=I1.kept (t':=s1.toks) hk;refine⟨s1.heap.objs.size+1,[s1.heap.objs.size+1,s1.heap.objs.size],_,_,H1,U,I2,WD a (s1.heap.objs.size+1) s1.heap.objs.size,⟨⟨.none,he⟩,hit,Nat.succ_ne_self _⟩,λb hb=>?_,q⟩;have e':b=s1.heap.objs.size+1\/b=s1.heap.objs.size:=by simpa using hb
  have hle:s1.heap.objs.size<=b:=by
   rcases e' with z|z
   .rw[z];exact xU _ _
   .rw[z];exact a_ _
  exact I1.rH hle (I1.aK.fresh hle)
theorem WI:MI "zip"=some (.type "zip"):=by decide+kernel
noncomputable def wy(K:FU)(a b:Addr):It:=
 ⟨λi H=>∃(xs ys:List V) (x y:V),ab K H a xs/\ ab K H b ys/\ xs[i]? =some x/\ ys[i]? =some y,
  λi H v H'=>∃T x y,v= .ref T/\ H T=none/\ H'=upd H T (.tup [x,y])/\ (∀xs,ab K H a xs->xs[i]? =some x)/\ ∀ys,ab K H b ys->ys[i]? =some y,
  λi H=>∃xs ys:List V,ab K H a xs/\ ab K H b ys/\ (xs.length<=i\/ys.length<=i)⟩
theorem WJ{P:Mb}{w:L9}{K:FU}{elts:List Lj}{kk:Nat}{tpos:Pos}{a b z TI TO i1 i2:Addr}(D:ZipApart z TI TO i1 i2 a b):
  Turn P w K (.Tuple elts kk tpos) (wy K a b) [z,TI,TO,i1,i2] z (λi h=>IsZip h z TI TO .none/\ IsPair h TI (.ref i1) (.ref i2)/\ (∃x y,IsPair h TO x y)/\ h.IsListIter i1 a i/\ h.IsListIter i2 b i) where
 mem:=by simp
 obj:=λi h st c hc=>by
  obtain⟨hz,hTI,⟨x,y,hTO⟩,⟨o1,e1,_,d1⟩,⟨o2,e2,_,d2⟩⟩:=st;have e':c=z\/c=TI\/c=TO\/c=i1\/c=i2:=by simpa using hc
  rcases e' with q|q|q|q|q
  .rw[q];exact⟨_,hz,λv q=>nomatch q⟩
  .rw[q];exact⟨_,hTI,λv q=>nomatch q⟩
  .rw[q];exact⟨_,hTO,λv q=>nomatch q⟩
  .rw[q];exact⟨o1,e1,λv q=>by rw[d1]at q;cases q⟩
  .rw[q];exact⟨o2,e2,λv q=>by rw[d2]at q;cases q⟩
 keep:=λi h h' st k=>by obtain⟨hz,hTI,⟨x,y,hTO⟩,h1,h2⟩:=st;exact⟨k z (by simp) _ hz,k TI (by simp) _ hTI,⟨x,y,k TO (by simp) _ hTO⟩,h1.at λo q=>k i1 (by simp) o q,h2.at λo q=>k i2 (by simp) o q⟩
 item:=by
  intro X hP hw hK hc i pins s σ H E I hf st hg;subst hP hw hK;obtain⟨hz,hTI,⟨x0,y0,hTO⟩,h1,h2⟩:=st;obtain⟨xs,ys,x,y,uf,ug,hx,hy⟩:=hg;obtain⟨ai,rv,p,_⟩:=I.list uf;obtain⟨its2,zJ,p2,_⟩:=I.list ug;obtain⟨u,hu,ru⟩:=rv.get hx;obtain⟨u2,WK,WL⟩:=zJ.get hy;have nE:z<s.heap.objs.size:=Heap.lt_size hz;refine wpAny_pyNext_zip_item D hz hTI hTO h1 h2 p.isList p2.isList (x:=u) (y:=u2) (by simpa using hu) (by simpa using WK) λh' z' WM wz pK hT hsz hk=>?_;refine⟨_,U,wpAny_letOwnedTupleGo_zip (s:={s with heap:=h'}) z' λp8 z'' sb=>?_⟩;have DS:p8.get? s.heap.objs.size=some {cls:= .type "tuple",data:= .seq #[u,u2]}:=(sb.2 _ (ada nE)).trans hT;have new:dU X.prog X.w (upd H s.heap.objs.size (.tup [x,y])) p8 s.heap.objs.size (.tup [x,y]):=⟨by show 2<=sizeLine;decide,[u,u2], .cons ru (.cons WL .nil),⟨_,DS,U,_,U⟩⟩
  have I1:Inv X pins σ (upd H s.heap.objs.size (.tup [x,y])) {s with heap:=p8}:=I.DR (t':=s.toks) (ch:=[z,TI,TO,i1,i2]) (λc o hb q=>(sb.2 c (λq'=>hb (by simp[q']))).trans (hk c o (λq'=>hb (by simp[q'])) (λq'=>hb (by simp[q'])) (λq'=>hb (by simp[q'])) (λq'=>hb (by simp[q'])) q)) hf (a_ _) new
  refine⟨.ref s.heap.objs.size,_,I1,U,⟨_,x,y,U,I.aK.fresh (a_ _),U,λl hl=>by rw[I.vR hl uf];exact hx,λl hl=>by rw[I.vR hl ug];exact hy⟩,⟨z'',?_,⟨u,u2,?_⟩,?_,?_⟩,λc zK=>?_⟩
  .exact(sb.2 _ D.TIz).trans (hk _ _ D.TIz D.TITO D.TIi1 D.TIi2 hTI)
  .exact(sb.2 _ D.TOz).trans WM
  .exact wz.at λo q=>(sb.2 _ D.i1z).trans q
  .exact pK.at λo q=>(sb.2 _ D.i2z).trans q
  .have aU:c<s.heap.objs.size:=by
    have e':c=z\/c=TI\/c=TO\/c=i1\/c=i2:=by simpa using zK
    rcases e' with q|q|q|q|q
    .rw[q];exact nE
    .rw[q];exact Heap.lt_size hTI
    .rw[q];exact Heap.lt_size hTO
    .rw[q];obtain⟨_,e1,_⟩:=h1;exact Heap.lt_size e1
    .rw[q];obtain⟨_,e2,_⟩:=h2;exact Heap.lt_size e2
   rw[aD (gE aU)];exact(hf c zK).1
 done:=by
  intro X hP hw hK hc i pins s σ H E I hf st hg;subst hP hw hK;obtain⟨hz,hTI,⟨x0,y0,hTO⟩,h1,h2⟩:=st;obtain⟨xs,ys,uf,ug,DT⟩:=hg;obtain⟨ai,rv,p,_⟩:=I.list uf;obtain⟨its2,zJ,p2,_⟩:=I.list ug;have l1:=rv.length;have l2:=zJ.length;have he:ai.toArray[i]? =none\/its2.toArray[i]? =none:=by
   rcases DT with q|q
   .exact .inl (by simp;lia)
   .exact .inr (by simp;lia)
  exact wpAny_pyNext_zip_end (I.ok.hd hc) D hz hTI hTO h1 h2 p.isList p2.isList he λh' hk=>⟨U,I.Wt (t':=s.toks) (ch:=[z,TI,TO,i1,i2]) (λc o hb q=>hk c o (λq'=>hb (by simp[q'])) (λq'=>hb (by simp[q'])) (λq'=>hb (by simp[q'])) (λq'=>hb (by simp[q'])) q) hf⟩
 self:=λA i s Q E st h=>wpAny_pyIter_zip st.1 h
def WN(K:FU)(ta:TA):TI:=λσ H R=>ta σ H λvs H1=>∃a b xs ys,vs=[.ref a, .ref b]/\ ab K H1 a xs/\ ab K H1 b ys/\ R (wy K a b) H1
theorem Lx{X:Cx}{e e2:Lj}{ta:TA}{p pos tpos:Pos}{elts:List Lj}{kk:Nat}(hg:Gl X "zip")(hm:X.mg "zip"=none)(ha:PA X [e,e2] ta)
  (hs:autoParam (Ma [e,e2] X.env=(false,L6 e X.env)::Ma [e2] X.env) L'._auto_1) (bK:autoParam ((Mw pos (Ma [e2] X.env)).any (·.1)=false) L'._auto_1):
  PI X (.Tuple elts kk tpos) (.Call (.Name "zip" p) [e,e2] [] pos) (WN X.K ta):=by
 intro pins s σ H R I h;refine Call_ (oC I hg hm WI (PyProof.Rows.callWith_type1 (aV (ha pos pins s σ H _ I h) λus s1 ⟨vs,H1,I1,r1,q1⟩=>?_) hs bK));obtain⟨a,b,xs,ys,ex,uf,ug,q⟩:=q1;subst ex;cases r1 with
 |cons r rr=>
  cases rr with
  |cons r' rr=>
   cases rr;cases r;cases r';obtain⟨ai,rv,p1,_⟩:=I1.list uf;obtain⟨its2,zJ,p2,_⟩:=I1.list ug;have la:a<s1.heap.objs.size:=p1.lt;have lb:b<s1.heap.objs.size:=p2.lt;refine call_zip_2 p1.isList p2.isList λh' hz hTI hTO h1 h2 hsz hk=>wpAny_pyIter_zip hz ?_;have I2:Inv X pins σ H1 {s1 with heap:=h'}:=I1.kept (t':=s1.toks) hk;refine⟨s1.heap.objs.size+4,[s1.heap.objs.size+4,s1.heap.objs.size+2,s1.heap.objs.size+3,s1.heap.objs.size,s1.heap.objs.size+1],_,_,H1,U,I2,WJ (PySem.W.ktu_apart s1.heap.objs.size a b la lb),⟨hz,hTI,⟨_,_,hTO⟩,h1,h2⟩,λc zK=>?_,q⟩;have e':c=s1.heap.objs.size+4\/c=s1.heap.objs.size+2\/c=s1.heap.objs.size+3\/c=s1.heap.objs.size\/c=s1.heap.objs.size+1:=by simpa using zK
   have hle:s1.heap.objs.size<=c:=by
    rcases e' with z|z|z|z|z
    .rw[z];exact xU _ _
    .rw[z];exact xU _ _
    .rw[z];exact xU _ _
    .rw[z];exact a_ _
    .rw[z];exact xU _ _
   exact I1.rH hle (I1.aK.fresh hle)
end L2
section
namespace Bits
open PySem PyProof.Rows
end Bits
end
section
namespace TL
open PySem PySem.Builtin PySem.Builtin.Str PySem.StrLaws
noncomputable abbrev tl(x:Str):List Nat:=x.cps.toList
noncomputable def pre(S l:List Nat):Bool:=l.take S.length==S
noncomputable def par(S:List Nat):List Nat->List Nat->Option (List Nat×List Nat)
 |_,[]=>none
 |acc,c::r=>if pre S (c::r)=true then some (acc,(c::r).drop S.length)else par S (acc++[c]) r
end TL
end
namespace L2
open PySem PySem.Spec PyProof.Rows
section
variable{X:Cx}{pins:List (Addr×Obj)}{σ:St}{H:Hp}{s:me}{Q:VK}
end
section
variable{X:Cx}
end
section
variable{X:Cx}{o e:Lj}{to te:TE}
def WO(r:V->List V->Hp->VK->Prop)(to:TE):TE:=λσ H Q=>to σ H λx H1=>(∃a,x= .str a)/\ r x [] H1 Q
theorem dO{id:String}{name:Str}{apos pos:Pos}{r:V->List V->Hp->VK->Prop}(slot:Slot "str" name id)(ty:typeOf (.builtin id)=pure (.type "method_descriptor"))(rule:Dl X id r)(ho:PE X o to)
  (hbase:autoParam (Nc o name X.env (L6 o X.env)=L6 o X.env) L'._auto_1) (hline:autoParam ((apos.endLine==pos.line)=true) L'._auto_1):PE X (.Call (.Attribute o name apos) [] [] pos) (WO r to):=by
 intro pins s σ H Q I h;refine PySem.Call_method0 hbase hline (aV (ho pins s σ H _ I h) λv s1 ⟨x,H1,I1,r1,q1⟩=>?_);obtain⟨⟨a,rfl⟩,q1⟩:=q1;obtain⟨t,rfl⟩:=_root_.id r1;exact⟨"str",_,F.plainAttrs_str,slot,ty,typeIs_str _ _ _,(λ_ e=>nomatch e),Calls.callWith_builtin U (afP (rule pins s1 σ H1 _ [] _ [] Q I1 r1 .nil q1))⟩
end
end L2
namespace L2
open PySem PySem.Spec PyProof.Rows
section
variable{X:Cx}
end
end L2
namespace Att
open PySem PySem.W PySem.Calls PyProof.Rows
section
variable{prog:Mb}{w:L9}{A:Mf}{E:cp->me->Prop}{s:me}{K:Frag}
end
end Att
namespace L2
open PySem PySem.Spec PyProof.Rows
end L2
namespace L2
open PySem PySem.Spec PyProof.Rows
end L2
namespace L2
open PySem PySem.Spec PyProof.Rows
noncomputable def inClass(s:Stmt)(j:Nat):Stmt:=match s with
 | .ClassDef _ _ _ body _ _ _ _ _ _ _=>body.getD j (.Pass ⟨0,0,0,0⟩)
 |_=> .Pass ⟨0,0,0,0⟩
noncomputable def wA(s:Stmt):Arguments:=match s with
 | .FunctionDef _ a _ _ _ _ _ _ _ _=>a
 |_=>{posonlyargs:=[],args:=[],vararg:=none,kwonlyargs:=[],kw_defaults:=[],kwarg:=none,defaults:=[]}
noncomputable def rR(s:Stmt):List Stmt:=match s with
 | .FunctionDef _ _ b _ _ _ _ _ _ _=>b
 |_=>[]
noncomputable def d5(s:Stmt):Scope:=match s with
 | .FunctionDef _ _ _ _ _ _ sc _ _ _=>sc
 |_=>{kind:= .function,names:=[],isGenerator:=false,isCoroutine:=false}
abbrev rS:j8:=λ_ _ _ _ _ _=>False
abbrev E0:XK:=λ_ _ _=>False
theorem wB{X:Cx}:Passes rS X E0:=λ_ _ _ _ _ _ _ h=>h.elim
structure aG(K:FU)(x qual:Str)(st:Stmt)(f:Addr)(fd:MG):Prop where
 ex:∃(oc:cp) (od:Option Addr) (kV doc pm:cp) (an:Option Addr) (aC ct:cp) (osl:Array (Option cp)),
  fd=NB x qual (wA st) (rR st) (d5 st) .none kV doc pm an aC ct/\ K.lookup f=some ⟨oc,od, .func fd,osl⟩/\ aed K aC qual=true
 kp:NL K (.ref f)=true
section
variable{P:Mb}{w:L9}{K:FU}{mg:Str->Option cp}{base:Heap}
theorem aG.ok{x qual:Str}{st:Stmt}{f:Addr}{fd:MG}{N ps:List Str}{k:Nat}{sp:Sp}(F:aG K x qual st f fd)(S:Dh N ps (d5 st))(len:∀vs H Q E,sp vs H Q E->vs.length=ps.length)
  (hbody:∀(aC:cp) (A:Mf) (outer:List Env) (s:me) (H:Hp) (vs:List V) (Q:VK) (E:XK),di k (A.deeper (M5 qual (d5 st) s.heap.objs.size f aC))->sp vs H Q E->
   ∃t,jB (rQ rS P w K mg base N qual (d5 st) f aC A outer s H E).oF (rR st) t/\ t {nx:=λ_ H'=>Q .aO H',rt:=Q} (start N vs) H):iu P w K mg base rS (k+1) f fd ps sp:=by
 obtain⟨oc,od,kV,doc,pm,an,aC,ct,osl,rfl,lk,kU⟩:=F.ex;refine VE lk kU S len λA outer s H vs Q E hr nD=>?_;obtain⟨t,h,q⟩:=hbody aC A outer s H vs Q E hr nD;exact⟨t,h.oF,q⟩
theorem aG.binds{x qual:Str}{st:Stmt}{f:Addr}{fd:MG}{ps:List Str}(F:aG K x qual st f fd)
  (h:∀(kV doc pm:cp) (an:Option Addr) (aC ct:cp) (us:List cp),us.length=ps.length->bindArgs (NB x qual (wA st) (rR st) (d5 st) .none kV doc pm an aC ct) ⟨us,[]⟩=pure (ps.zip us)):Binds K fd ps []:=by
 obtain⟨oc,od,kV,doc,pm,an,aC,ct,osl,rfl,lk,kU⟩:=F.ex;exact .all (h kV doc pm an aC ct)
theorem WQ{x qual:Str}{st:Stmt}{f:Addr}{oc:cp}{od an:Option Addr}{osl:Array (Option cp)}{kV doc pm aC ct:cp}(l:K.lookup f=some ⟨oc,od, .func (NB x qual (wA st) (rR st) (d5 st) .none kV doc pm an aC ct),osl⟩)
  (c:aed K aC qual=true) (k:NL K (.ref f)=true):aG K x qual st f (NB x qual (wA st) (rR st) (d5 st) .none kV doc pm an aC ct):=⟨⟨oc,od,kV,doc,pm,an,aC,ct,osl,U,l,c⟩,k⟩
end
theorem zL{A:Mf}{k:Nat}(hr:di k A):A.units+1<cLine:=By (Nat.add_le_add_left (by decide:1<=64) _) hr.units
theorem WR{n:Nat}(h:n<=1000):n<sizeLine:=By h (by decide)
section
variable{X:Cx}
theorem pv(i:Nat){x:Str}{pos:Pos}(hN:autoParam (X.N[i]? =some x) L'._auto_1)(hv:autoParam (tS X.env.scope x) af7._auto_1)(hd:autoParam ((x==("__debug__":Str))=false) Mp._auto_1)
  (kU:autoParam ((x==("__classdict__":Str))=false) Mp._auto_1):PE X (.Name x pos) (aY i):=UQ hN hv hd kU
theorem WS:jD X (.builtin "len") (λxs H Q=>∃a ax,xs=[V.ref a]/\ H a=some (.dK ax)/\ Q (.int ax.length) H):=by intro pins s σ H xs us Q I r h;obtain⟨a,ax,rfl,ha,q⟩:=h;obtain⟨u,rfl,ru⟩:=vals1 r;cases ru;exact Wj I (.inl ha) λt s' I'=>⟨.int ax.length,H,I',⟨t,U⟩,q⟩
end
theorem aA{A B:Prop}(h:B):if false=true then A else B:=by rw[ay gn];exact h
theorem aJ{A B:Prop}(h:A):if true=true then A else B:=by rw[aI U];exact h
theorem b9{c A B:Prop}[Decidable c](h1:c->A)(h2:¬c->B):if c then A else B:=by
 by_cases h:c
 .rw[aI h]
  exact h1 h
 .rw[ay h]
  exact h2 h
def aa(H H':Hp):Prop:=∀b o,H b=some o->H' b=some o
theorem aa.refl(H:Hp):aa H H:=λ_ _ h=>h
theorem aa.trans{H H1 H2:Hp}(a:aa H H1)(b:aa H1 H2):aa H H2:=λc o h=>b c o (a c o h)
theorem aa.free{H H':Hp}(e:aa H H'){l:Addr}(h:H' l=Option.none):H l=Option.none:=by
 cases q:H l with
 |none=>rfl
 |some o=>rw[e l o q]at h;cases h
theorem aa.seq{K:FU}{H H':Hp}{a:Addr}{xs:List V}(e:aa H H')(h:ab K H a xs):ab K H' a xs:=by
 rcases h with(h|⟨o,h⟩)|h
 .exact .inl (.inl (e _ _ h))
 .exact .inl (.inr ⟨o,e _ _ h⟩)
 .exact .inr h
section
variable{κ:Type}[DecidableEq κ]
theorem WT{ax:List (κ×V)}{k:κ}(h:gA ax k=none):¬k∈ax.map (·.1):=by intro m;obtain⟨p,hp,e⟩:=eu.mp m;have q:(ax.any λkv=>decide (kv.1=k))=true:=afd.mpr ⟨p,hp,bb e⟩;rw[wq,h]at q;exact absurd q (by simp)
theorem WU{ax:List (κ×V)}{k:κ}{v:V}(h:gA ax k=some v):k∈ax.map (·.1):=by
 have q:(ax.any λkv=>decide (kv.1=k))=true:=by
  rw[wq,h]
  all_goals rfl
 obtain⟨p,hp,e⟩:=afd.mp q;exact eu.mpr ⟨p,hp,dJ e⟩
theorem Ly:∀{l:List κ} {k:κ},l.Nodup->¬k∈l->(l++[k]).Nodup
 |[],k,_,_=>by simp
 |a::r,k,h,hk=>by
  obtain⟨h1,h2⟩:=fZ.mp h;show(a::(r++[k])).Nodup;refine fZ.mpr ⟨λm=>?_,Ly h2 λm=>hk (br.mpr (Or.inr m))⟩;rcases c9.mp m with q|q
  .exact h1 q
  .exact hk (br.mpr (Or.inl (aeq.mp q).symm))
end
theorem at_of{xs:List V}{z:Int}{j:Nat}{v:V}(e:z=(j:Int))(h:xs[j]? =some v):gi xs z=some v:=by rw[e];exact bH h
theorem WV{α:Type}{l:List α}(hN:l.Nodup){i j:Nat}{x:α}(a:l[i]? =some x)(b:l[j]? =some x):i=j:=by obtain⟨h1,e1⟩:=da.mp a;obtain⟨h2,e2⟩:=da.mp b;exact(x9 hN).mp (e1.trans e2.symm)
end L2
end
section
set_option maxHeartbeats 2000000
namespace L2
open PySem PySem.Spec PyProof.Rows
open PySem.W (WData Codec OpenSpec Well WellAll ReadsW ReadsAllW)
mutual
inductive Dw(K:FU)(H:Hp):V->Mv->Prop
 |aO:Dw K H .aO .none
 |bl (b:Bool):Dw K H (.bl b) (.bool b)
 |int (i:Int):Dw K H (.int i) (.int i)
 |str (x:Str):Dw K H (.str x) (.str x)
 |iN (b:Array UInt8):Dw K H (.iN b) (.bytes b.toList)
 |lst {a:Addr} {xs:List V} {ds:List Mv}:ab K H a xs->k_ K H xs ds->Dw K H (.ref a) (.list ds)
 |tup {a:Addr} {xs:List V} {ds:List Mv}:bx K H a xs->k_ K H xs ds->Dw K H (.ref a) (.tuple ds)
inductive k_(K:FU)(H:Hp):List V->List Mv->Prop
 |nil:k_ K H [] []
 |cons {v:V} {vs:List V} {d:Mv} {ds:List Mv}:Dw K H v d->k_ K H vs ds->k_ K H (v::vs) (d::ds)
end
theorem Lz{K:FU}{H:Hp}:∀ns:List Int,k_ K H (ns.map V.int) (ns.map WData.int)
 |[]=> .nil
 |n::r=> .cons (.int n) (Lz r)
theorem LB{K:FU}{H:Hp}:∀(ns:List Int) (xs:List V),k_ K H xs (ns.map WData.int)->xs=ns.map V.int
 |[],xs,h=>by
  cases h;rfl
 |n::r,xs,h=>by
  cases h with
  |cons h1 h2=>
   cases h1;rw[LB r _ h2]<;>rfl
section
variable{P:Mb}{w:L9}{K:FU}{H:Hp}{h:Heap}{R:PySem.W.WRecords}{cl:Str->Option Addr}
theorem WW{a:Addr}{xs:List V}(aK:du P w H h)(KX:K.In h)(q:ab K H a xs):∃(ai:List cp) (o:Obj) (n:Nat),Vals xs ai/\ h.get? a=some o/\ o.cls= .type "list"/\ o.data= .seq ai.toArray n:=by
 rcases q with q|⟨o,ai,n,e,hc,_,hd,_,hv⟩
 .obtain⟨_,ai,n,hv,e⟩:=(show dU P w H h a (.lst xs)from q.ok aK)
  exact⟨ai,_,n,hv,e,U,U⟩
 .exact⟨ai.toList,o,n,hv,KX _ _ e,hc,by simp[hd]⟩
theorem WX{a:Addr}{xs:List V}(aK:du P w H h)(KX:K.In h)(q:bx K H a xs):∃(ai:List cp) (o:Obj) (n:Nat),Vals xs ai/\ h.get? a=some o/\ o.cls= .type "tuple"/\ o.data= .seq ai.toArray n:=by
 rcases q with q|⟨o,ai,n,e,hc,hd,_,hv⟩
 .obtain⟨_,ai,hv,o,e,hc,n,hd⟩:=(show dU P w H h a (.tup xs)from q.ok aK)
  exact⟨ai,o,n,hv,e,hc,hd⟩
 .exact⟨ai.toList,o,n,hv,KX _ _ e,hc,by simp[hd]⟩
mutual
theorem Dw.reads(aK:du P w H h)(KX:K.In h):∀(d:Mv) (v:V) (u:cp),Dw K H v d->RelV v u->∃as,ReadsW R cl h u d as
 | .none,_,_,x,r=>by
  cases x;cases r;exact⟨_,ReadsW.none⟩
 | .bool b,_,_,x,r=>by
  cases x;cases r;exact⟨_,ReadsW.bool b⟩
 | .int i,_,_,x,r=>by
  cases x;obtain⟨t,rfl⟩:=r;exact⟨_,ReadsW.int i t⟩
 | .str s,_,_,x,r=>by
  cases x;obtain⟨t,rfl⟩:=r;exact⟨_,ReadsW.str s t⟩
 | .bytes b,_,_,x,r=>by
  cases x;obtain⟨t,rfl⟩:=r;exact⟨_,ReadsW.bytes _ t⟩
 | .list ds,_,_,x,r=>by
  cases x with
  |lst hs ha=>
   cases r;obtain⟨ai,o,n,rv,ho,hc,hd⟩:=WW aK KX hs;obtain⟨as,hr⟩:=Dw.readsAll aK KX ds _ ai ha rv;exact⟨_,ReadsW.list ho hc hd hr⟩
 | .tuple ds,_,_,x,r=>by
  cases x with
  |tup hs ha=>
   cases r;obtain⟨ai,o,n,rv,ho,hc,hd⟩:=WX aK KX hs;obtain⟨as,hr⟩:=Dw.readsAll aK KX ds _ ai ha rv;exact⟨_,ReadsW.tuple ho hc hd hr⟩
 | .float _,_,_,x,_| .dict _,_,_,x,_| .bytearray _,_,_,x,_| .set _,_,_,x,_| .frozenset _,_,_,x,_| .obj _ _,_,_,x,_=>by cases x
theorem Dw.readsAll(aK:du P w H h)(KX:K.In h):∀(ds:List Mv) (vs:List V) (us:List cp),k_ K H vs ds->Vals vs us->∃as,ReadsAllW R cl h us ds as
 |[],_,_,x,r=>by
  cases x;cases r;exact⟨_,ReadsAllW.nil⟩
 |d::ds,_,_,x,r=>by
  cases x with
  |cons h1 h2=>
   cases r with
   |cons r1 r2=>obtain⟨as,q1⟩:=Dw.reads aK KX d _ _ h1 r1;obtain⟨bs,q2⟩:=Dw.readsAll aK KX ds _ _ h2 r2;exact⟨_,ReadsAllW.cons q1 q2⟩
end
end
mutual
noncomputable def jG:Mv->Bool
 | .none| .bool _| .int _| .str _| .bytes _=>true
 | .list xs| .tuple xs=>mn xs
 |_=>false
noncomputable def mn:List Mv->Bool
 |[]=>true
 |x::r=>jG x&&mn r
end
theorem LC{α:Type}{f:α->Mv}(h:∀a,jG (f a)=true):∀l:List α,mn (l.map f)=true
 |[]=>rfl
 |x::r=>by show(jG (f x)&&mn (r.map f))=true;rw[h x,LC h r]<;>rfl
theorem qb:∀(c:Codec) (a:c.denote),jG (c.enc a)=true
 | .unit,_| .bool,_| .int _ _,_| .nat _ _,_| .u8,_| .bytes _ _,_| .text _ _ _ _,_=>rfl
 | .list _ _ c,a=>LC (λx=>qb c x) a
 | .pair c d,a=>by show(jG (c.enc a.1)&&(jG (d.enc a.2)&&true))=true;rw[qb c a.1,qb d a.2]<;>rfl
 | .triple c d e,a=>by show(jG (c.enc a.1)&&(jG (d.enc a.2.1)&&(jG (e.enc a.2.2)&&true)))=true;rw[qb c a.1,qb d a.2.1,qb e a.2.2]<;>rfl
 | .option c,none=>rfl
 | .option c,some x=>qb c x
theorem LD:∀(cs:List Codec) (a:Codec.denoteAll cs),mn (Codec.encAll cs a)=true
 |[],_=>rfl
 |c::cs,a=>by show(jG (c.enc a.1)&&mn (Codec.encAll cs a.2))=true;rw[qb c a.1,LD cs a.2]<;>rfl
theorem DU:∀{xs:List Mv} {d:Mv},d∈xs->d.weight<=WData.weightAll xs
 |[],d,h=>absurd h (by simp)
 |x::r,d,h=>by
  show d.weight<=x.weight+1+WData.weightAll r;rcases br.mp h with e|m
  .rw[e]
   lia
  .have z:=DU m
   lia
noncomputable def toV:cp->V
 | .none=> .aO
 | .bool b=> .bl b
 | .int i _=> .int i
 | .str x _=> .str x
 | .bytes b _=> .iN b
 | .ref a=> .ref a
 |_=> .aO
def j9(A:List Addr):cp->Prop
 | .none| .bool _| .int _ _| .str _ _| .bytes _ _=>True
 | .ref a=>a∈A
 |_=>False
theorem j9.mono{A B:List Addr}(h:∀a∈A,a∈B):∀{u:cp},j9 A u->j9 B u:=λ{u} x=>by
 cases u with
 |ref a=>exact h a x
 |none|bool b|int i t|str s t|bytes b t=>trivial
 |_=>exact False.elim x
theorem WY{A:List Addr}{u:cp}(x:j9 A u):RelV (toV u) u:=by
 cases u with
 |ref a|none|bool b=>rfl
 |int i t|str s t|bytes b t=>exact⟨t,U⟩
 |_=>exact False.elim x
theorem uh{A:List Addr}:∀{vs:List cp},(∀u∈vs,j9 A u)->Vals (vs.map toV) vs
 |[],_=> .nil
 |u::r,h=> .cons (WY (h u (iC ..))) (uh λx hx=>h x (fL _ hx))
def lh(h:Heap)(A:List Addr)(a:Addr):Prop:=∃vs:List cp,vs.length<=sizeLine/\ (∀u∈vs,j9 A u)/\
 (h.get? a=some {cls:= .type "list",data:= .seq vs.toArray}\/h.get? a=some {cls:= .type "tuple",data:= .seq vs.toArray})
theorem lh.mono{h:Heap}{A B:List Addr}{a:Addr}(k:∀a∈A,a∈B)(x:lh h A a):lh h B a:=by obtain⟨vs,h1,h2,h3⟩:=x;exact⟨vs,h1,λu hu=>(h2 u hu).mono k,h3⟩
theorem zM{P:Nd}{h:Heap}:∀{vs:List cp} {ds:List Mv},Nq P h vs ds->vs.length=ds.length
 |_,_, .nil=>rfl
 |_,_, .cons _ b=>by show _+1=_+1;rw[zM b]
theorem LF{P:Nd}{h:Heap}{v:cp}{ds:List Mv}(x:Well P h v (.list ds)):∃(a:Addr) (vs:List cp),v= .ref a/\ h.get? a=some {cls:= .type "list",data:= .seq vs.toArray}/\ Nq P h vs ds:=by
 cases x with
 |list ho fw=>exact⟨_,_,U,ho,fw⟩
theorem LG{P:Nd}{h:Heap}{v:cp}{ds:List Mv}(x:Well P h v (.tuple ds)):∃(a:Addr) (vs:List cp),v= .ref a/\ h.get? a=some {cls:= .type "tuple",data:= .seq vs.toArray}/\ Nq P h vs ds:=by
 cases x with
 |tuple ho fw=>exact⟨_,_,U,ho,fw⟩
theorem LH{P:Nd}{h:Heap}{us:List cp}{d:Mv}{ds:List Mv}(x:Nq P h us (d::ds)):∃(v:cp) (vs:List cp),us=v::vs/\ Well P h v d/\ Nq P h vs ds:=by
 cases x with
 |cons a b=>exact⟨_,_,U,a,b⟩
theorem LI{n:Nat}(h:n<=1048576):n<=sizeLine:=c_ h (by decide)
section
variable{P:Nd}{h:Heap}
mutual
theorem WZ:∀(d:Mv) (v:cp),Well P h v d->jG d=true->d.weight<=1048576->∃A:List Addr,j9 A v/\ ∀a∈A,lh h A a
 | .none,_,x,_,_| .bool b,_,x,_,_| .int i,_,x,_,_| .str s,_,x,_,_| .bytes b,_,x,_,_=>by
  cases x;exact⟨[],trivial,λa m=>absurd m (by simp)⟩
 | .list ds,_,x,p,z=>by
  obtain⟨a,vs,rfl,ho,fw⟩:=LF x;have z2:WData.weightAll ds<=1048576:=z;obtain⟨A,h1,h2⟩:=zN ds _ fw p λd hd=>c_ (DU hd) z2;have k:∀b∈A,b∈a::A:=λb hb=>fL _ hb;refine⟨a::A,iC ..,λb hb=>?_⟩;rcases br.mp hb with e|m
  .rw[e]
   exact⟨vs,LI (by rw[zM fw];exact c_ (afU ds) z2),λu hu=>(h1 u hu).mono k, .inl ho⟩
  .exact(h2 b m).mono k
 | .tuple ds,_,x,p,z=>by
  obtain⟨a,vs,rfl,ho,fw⟩:=LG x;have z2:WData.weightAll ds<=1048576:=z;obtain⟨A,h1,h2⟩:=zN ds _ fw p λd hd=>c_ (DU hd) z2;have k:∀b∈A,b∈a::A:=λb hb=>fL _ hb;refine⟨a::A,iC ..,λb hb=>?_⟩;rcases br.mp hb with e|m
  .rw[e]
   exact⟨vs,LI (by rw[zM fw];exact c_ (afU ds) z2),λu hu=>(h1 u hu).mono k, .inr ho⟩
  .exact(h2 b m).mono k
 | .float _,_,_,p,_| .dict _,_,_,p,_| .bytearray _,_,_,p,_| .set _,_,_,p,_| .frozenset _,_,_,p,_| .obj _ _,_,_,p,_=>Bool.noConfusion (show false=true from p)
theorem zN:∀(ds:List Mv) (vs:List cp),Nq P h vs ds->mn ds=true->(∀d∈ds,d.weight<=1048576)->∃A:List Addr,(∀u∈vs,j9 A u)/\ ∀a∈A,lh h A a
 |[],_,x,_,_=>by
  cases x;exact⟨[],λu m=>absurd m (by simp),λa m=>absurd m (by simp)⟩
 |d::ds,_,x,p,z=>by
  obtain⟨v,vs,rfl,x1,x2⟩:=LH x;have q:jG d=true/\ mn ds=true:=afv.mp p;obtain⟨A,a1,a2⟩:=WZ d v x1 q.1 (z d (iC ..));obtain⟨B,b1,b2⟩:=zN ds vs x2 q.2 λe he=>z e (fL _ he);have kA:∀b∈A,b∈A++B:=λb hb=>c9.mpr (.inl hb);have kB:∀b∈B,b∈A++B:=λb hb=>c9.mpr (.inr hb);refine⟨A++B,λu hu=>?_,λb hb=>?_⟩
  .rcases br.mp hu with e|m
   .rw[e]
    exact a1.mono kA
   .exact(b1 u m).mono kB
  .rcases c9.mp hb with m|m
   .exact(a2 b m).mono kA
   .exact(b2 b m).mono kB
end
end
noncomputable def zO(o:Obj):Option HO:=match o.data with
 | .seq vs _=>if(o.cls==Value.type "list")=true then some (.fT o (.lst (vs.toList.map toV)))else some (.fT o (.tup (vs.toList.map toV)))
 |_=>none
noncomputable def gB(K:FU)(h:Heap)(A:List Addr):Hp:=λb=>if b∈A then(if(K.lookup b).isNone=true then(h.get? b).bind zO else none)else none
def wC(H:Hp):Prop:=∀b,H b=none\/∃o u,H b=some (.fT o u)
theorem LJ(vs:List cp):zO {cls:= .type "list",data:= .seq vs.toArray}=some (.fT {cls:= .type "list",data:= .seq vs.toArray} (.lst (vs.map toV))):=by show(if(Value.type "list"==Value.type "list")=true then some (HO.fT {cls:= .type "list",data:= .seq vs.toArray} (.lst (vs.toArray.toList.map toV)))else some (HO.fT {cls:= .type "list",data:= .seq vs.toArray} (.tup (vs.toArray.toList.map toV))))=_;rw[aI (beq_self_eq_true _)]
theorem LK(vs:List cp):zO {cls:= .type "tuple",data:= .seq vs.toArray}=some (.fT {cls:= .type "tuple",data:= .seq vs.toArray} (.tup (vs.map toV))):=by show(if(Value.type "tuple"==Value.type "list")=true then some (HO.fT {cls:= .type "tuple",data:= .seq vs.toArray} (.lst (vs.toArray.toList.map toV)))else some (HO.fT {cls:= .type "tuple",data:= .seq vs.toArray} (.tup (vs.toArray.toList.map toV))))=_;rw[ay (by decide)]
section
variable{P:Mb}{w:L9}{K:FU}{h:Heap}{A:List Addr}
theorem zP{b:Addr}{o:Obj}(hb:b∈A)(hk:K.lookup b=none)(e:h.get? b=some o):gB K h A b=zO o:=by unfold gB;rw[aI hb,hk,aI (show(none:Option Obj).isNone=true from rfl),e]<;>rfl
theorem W0{b:Addr}{u:HO}(q:gB K h A b=some u):b∈A/\ K.lookup b=none:=by
 unfold gB at q;by_cases hb:b∈A
 .rw[aI hb]at q
  cases hk:K.lookup b with
  |none=>exact⟨hb,U⟩
  |some o=>rw[hk,ay (by simp)]at q;cases q
 .rw[ay hb]at q
  cases q
theorem zQ(ar:∀a∈A,lh h A a){b:Addr}{u:HO}(q:gB K h A b=some u):K.lookup b=none/\ ∃vs:List cp,vs.length<=sizeLine/\ (∀u∈vs,j9 A u)/\
  ((h.get? b=some {cls:= .type "list",data:= .seq vs.toArray}/\ u= .fT {cls:= .type "list",data:= .seq vs.toArray} (.lst (vs.map toV)))\/
   (h.get? b=some {cls:= .type "tuple",data:= .seq vs.toArray}/\ u= .fT {cls:= .type "tuple",data:= .seq vs.toArray} (.tup (vs.map toV)))):=by
 obtain⟨hb,hk⟩:=W0 q;obtain⟨vs,h1,h2,h3⟩:=ar b hb;refine⟨hk,vs,h1,h2,?_⟩;rcases h3 with e|e
 .rw[zP hb hk e,LJ]at q
  exact .inl ⟨e,(aM q).symm⟩
 .rw[zP hb hk e,LK]at q
  exact .inr ⟨e,(aM q).symm⟩
theorem W2(ar:∀a∈A,lh h A a):wC (gB K h A):=λb=>by
 cases q:gB K h A b with
 |none=>exact .inl U
 |some u=>
  obtain⟨_,vs,_,_,⟨_,e⟩|⟨_,e⟩⟩:=zQ ar q
  .exact .inr ⟨_,_,by rw[e]⟩
  .exact .inr ⟨_,_,by rw[e]⟩
theorem W3(ar:∀a∈A,lh h A a):du P w (gB K h A) h:=λb u q=>by
 obtain⟨_,vs,h1,h2,⟨e,rfl⟩|⟨e,rfl⟩⟩:=zQ ar q
 .exact⟨e,by rw[aX];exact h1,vs,_,uh h2,e⟩
 .exact⟨e,by rw[aX];exact h1,vs,uh h2,_,e,U,_,U⟩
theorem zR{c c':cp}{vs us:List cp}(e:(some {cls:=c,data:= .seq vs.toArray}:Option Obj)=some {cls:=c',data:= .seq us.toArray}):c=c'/\ vs=us:=by have e1:=aM e;have e2:c=c':=congrArg Obj.cls e1;have e3:Data.seq vs.toArray=Data.seq us.toArray:=congrArg Obj.data e1;injection e3 with e4;refine⟨e2,?_⟩;have e5:=congrArg Array.toList e4;simpa using e5
theorem W4(KX:K.In h)(ar:∀a∈A,lh h A a){a:Addr}{vs:List cp}(ha:a∈A)(e:h.get? a=some {cls:= .type "list",data:= .seq vs.toArray}):(∀u∈vs,j9 A u)/\ ab K (gB K h A) a (vs.map toV):=by
 obtain⟨us,h1,h2,h3⟩:=ar a ha;have hu:us=vs:=by
  rcases h3 with q|q
  .rw[e]at q
   exact(zR q).2.symm
  .rw[e]at q
   exact absurd (Value.type.inj (zR q).1) (by decide)
 subst hu;refine⟨h2,?_⟩;cases hk:K.lookup a with
 |none=>exact .inl (.inr ⟨_,by rw[zP ha hk e,LJ]⟩)
 |some o=>have e2:=KX a o hk;rw[e]at e2;obtain rfl:=aM e2;exact .inr ⟨_,us.toArray,_,hk,U,U,U,by rw[eM];exact h1,by simpa using uh h2⟩
theorem W5(KX:K.In h)(ar:∀a∈A,lh h A a){a:Addr}{vs:List cp}(ha:a∈A)(e:h.get? a=some {cls:= .type "tuple",data:= .seq vs.toArray}):(∀u∈vs,j9 A u)/\ bx K (gB K h A) a (vs.map toV):=by
 obtain⟨us,h1,h2,h3⟩:=ar a ha;have hu:us=vs:=by
  rcases h3 with q|q
  .rw[e]at q
   exact absurd (Value.type.inj (zR q).1) (by decide)
  .rw[e]at q
   exact(zR q).2.symm
 subst hu;refine⟨h2,?_⟩;cases hk:K.lookup a with
 |none=>exact .inl (.inr ⟨_,by rw[zP ha hk e,LK]⟩)
 |some o=>have e2:=KX a o hk;rw[e]at e2;obtain rfl:=aM e2;exact .inr ⟨_,us.toArray,_,hk,U,U,by rw[eM];exact h1,by simpa using uh h2⟩
mutual
theorem W6{Pm:Nd}(KX:K.In h)(ar:∀a∈A,lh h A a):∀(d:Mv) (v:cp),Well Pm h v d->jG d=true->j9 A v->Dw K (gB K h A) (toV v) d
 | .none,_,x,_,_=>by
  cases x;exact .aO
 | .bool b,_,x,_,_=>by
  cases x;exact .bl b
 | .int i,_,x,_,_=>by
  cases x;exact .int i
 | .str s,_,x,_,_=>by
  cases x;exact .str s
 | .bytes b,_,x,_,_=>by
  cases x;have z:=Dw.iN (K:=K) (H:=gB K h A) b.toArray;exact z
 | .list ds,_,x,p,hu=>by obtain⟨a,vs,rfl,ho,fw⟩:=LF x;obtain⟨h2,hs⟩:=W4 KX ar hu ho;exact .lst hs (pJ KX ar ds _ fw p h2)
 | .tuple ds,_,x,p,hu=>by obtain⟨a,vs,rfl,ho,fw⟩:=LG x;obtain⟨h2,hs⟩:=W5 KX ar hu ho;exact .tup hs (pJ KX ar ds _ fw p h2)
 | .float _,_,_,p,_| .dict _,_,_,p,_| .bytearray _,_,_,p,_| .set _,_,_,p,_| .frozenset _,_,_,p,_| .obj _ _,_,_,p,_=>Bool.noConfusion (show false=true from p)
theorem pJ{Pm:Nd}(KX:K.In h)(ar:∀a∈A,lh h A a):∀(ds:List Mv) (vs:List cp),Nq Pm h vs ds->mn ds=true->(∀u∈vs,j9 A u)->k_ K (gB K h A) (vs.map toV) ds
 |[],_,x,_,_=>by
  cases x;exact .nil
 |d::ds,_,x,p,hu=>by obtain⟨v,vs,rfl,x1,x2⟩:=LH x;have q:jG d=true/\ mn ds=true:=afv.mp p;exact .cons (W6 KX ar d v x1 q.1 (hu _ (iC ..))) (pJ KX ar ds vs x2 q.2 λu m=>hu u (fL _ m))
end
end
theorem W7{P:Mb}{w:L9}{K:FU}{mg mb:Str->Option cp}{CX:j8}{k:Nat}{fa:Addr}{fd:MG}{ps:List Str}{sp:Sp}{s₁:me}{vals:List cp}{ds:List Mv}{R:PySem.W.WRecords}{cl:Str->Option Addr}{d0:Mv}
  (KX:K.In s₁.heap) (j_:s₁.heap.Ns ML mg) (hb:s₁.heap.Ns builtinsNs mb) (W8:∀x:Str,x≠"__name__"->mb x=MI x) (W9:s₁.heap.NoLimit) (hg:s₁.gens= #[])
  (ke:Nq w.params s₁.heap vals ds) (bK:mn ds=true) (W_:∀d∈ds,d.weight<=1048576) (hr:di k callerA)
  (F:∀base:Heap,K.In base->base.Ns ML mg->iu P w K mg base CX k fa fd ps sp) (hbind:∀(s:me) (us:List cp),us.length=ps.length->BindsTo s fd ⟨us,[]⟩ (ps.zip us)) (hlen:ds.length=ps.length)
  (nD:∀(H:Hp) (xs:List V),wC H->k_ K H xs ds->sp xs H (λv H'=>Dw K H' v d0) λ_ _ _=>False)
  (hCX:∀H e s',CX [] H s₁ (λ_ _ _=>False) e s'->False):
  Nb (L1 P w) callerA (.call (.ref fa) ⟨vals,[]⟩) (λr s'=>∃u as,r= .ok (.ret u)/\ ReadsW R cl s'.heap u d0 as/\ OldK s₁.heap s'.heap/\ s'.os=s₁.os/\ ND s'.gens) s₁:=by
 obtain⟨A,ho,ar⟩:=zN ds vals ke bK W_;have hO:wC (gB K s₁.heap A):=W2 ar;have aK:du P w (gB K s₁.heap A) s₁.heap:=W3 ar;have hS:=pJ KX ar ds vals ke bK ho;have hV:=uh ho;have hK:∀b u,gB K s₁.heap A b=some u->K.lookup b=none:=λb u q=>(zQ ar q).1;have noA:∀{b:Addr} {o:Obj} {es:Array DictEntry} {ep:Nat},s₁.heap.get? b=some o->o.data= .dict es ep->gB K s₁.heap A b=none:=λ{b o es ep} e d=>by
  cases q:gB K s₁.heap A b with
  |none=>rfl
  |some u=>
   obtain⟨_,vs,_,_,⟨e2,_⟩|⟨e2,_⟩⟩:=zQ ar q
   .rw[e2]at e
    cases e;have d':Data.seq vs.toArray _=Data.dict es ep:=d;cases d'
   .rw[e2]at e
    cases e;have d':Data.seq vs.toArray _=Data.dict es ep:=d;cases d'
 generalize gB K s₁.heap A=H at hO aK hS hK noA;have base_of:∀{b:Addr} {o:Obj},s₁.heap.get? b=some o->H b=none->(oB s₁.heap H).get? b=some o:=λe n=>UI e n;have nsK:∀{b:Addr} {m:Str->Option cp},s₁.heap.Ns b m->(oB s₁.heap H).Ns b m:=λ{b m} ⟨o,es,ep,e,d,r⟩=>⟨o,es,ep,base_of e (noA e d),d,r⟩
 have nK:∀b o,K.lookup b=some o->H b=none:=λb o e=>by
  cases q:H b with
  |none=>rfl
  |some u=>rw[hK b u q]at e;cases e
 have hKb:K.In (oB s₁.heap H):=λb o e=>base_of (KX b o e) (nK b o e);have hM:Mod K mg (oB s₁.heap H):=⟨hKb,nsK j_,⟨mb,nsK hb,W8⟩,let⟨mc,h1,h2⟩:=W9;⟨mc,nsK h1,h2⟩⟩
 have e0:nz P w K mg (oB s₁.heap H) callerA [] s₁ H:=⟨U,hM,λb o e=>UJ e,Bw (UH _ _),trivial,λb hb=>absurd (show b∈([]:List Addr)from hb) (by simp),aK, .of_eq hg⟩
 have hl:vals.length=ps.length:=by rw[zM ke];exact hlen
 refine acg ((F _ hKb (nsK j_)).run callerA [] s₁ H ⟨vals,[]⟩ vals (vals.map toV) _ _ hr e0 (hbind s₁ vals hl) hV (nD H _ hO hS)) λr s' x=>?_;cases r with
 |error e=>exact(hCX H e s' x).elim
 |ok fl=>
  cases fl with
  |next|brk|cont=>exact False.elim x
  |ret u=>
   obtain⟨v,H',os,bare,un,LL,r',q⟩:=x;have kept:∀b o,s₁.heap.get? b=some o->s'.heap.get? b=some o:=λb o e=>by
    cases q2:H b with
    |none=>exact un.keep b o e q2 (by intro z;exact absurd (show b∈([]:List Addr)from z) (by simp)) (by simp)
    |some u2=>
     rcases hO b with z|⟨ob,u3,z⟩
     .rw[q2]at z
      cases z
     .have z2:=un.jZ b ob _ z
      obtain⟨e1,_⟩:=aK b _ z;obtain⟨e2,_⟩:=LL b _ z2;rw[e]at e1;cases e1;exact e2
   have W':K.In s'.heap:=λb o e=>kept b o (KX b o e);obtain⟨as,pP⟩:=Dw.reads (R:=R) (cl:=cl) LL W' d0 v u q r';exact⟨u,as,U,pP,OldK.of_keep kept,os,bare⟩
theorem Xa{ds:List Mv}(h:WData.layableAll ds=true):∀d∈ds,d.weight<=1048576:=λd hd=>(PySem.W.layableW_iff.mp (iZ.mp h d hd)).2.2
theorem ng:∀(cs:List Codec) (a:Codec.denoteAll cs),(Codec.encAll cs a).length=cs.length
 |[],_=>rfl
 |c::cs,a=>by show(Codec.encAll cs a.2).length+1=cs.length+1;rw[ng cs a.2]
theorem Xb{r:OpenSpec}{k:Nat}{q:Mb}{loose:List Str}{XP:(Str->Option cp)->Heap->Prop}{YP:L9->Heap->Prop}{d:DefRec}{K:Nd->FU}{CX:L9->j8}{ps:List Str}{sp:L9->Sp}
  (hwell:r.wellSaid=true) (LM:d.params.defaults=[]) (hlen:r.args.length=ps.length) (hr:di k callerA)
  (hY:∀(w:L9) (h:Heap),YP w h->(K w.params).In h)
  (F:∀(w:L9) (mg:Str->Option cp) (fa:Addr) (h:Heap),YP w h->(K w.params).In h->h.Ns ML mg->mg d.name=some (.ref fa)->
   ∃fd:MG,(∀(s:me) (us:List cp),us.length=ps.length->BindsTo s fd ⟨us,[]⟩ (ps.zip us))/\
    ∀base:Heap,(K w.params).In base->base.Ns ML mg->iu r.prog w (K w.params) mg base (CX w) k fa fd ps (sp w))
  (nD:∀(w:L9) (H:Hp) (xs:List V) (a:Codec.denoteAll r.args),wC H->Codec.withinAll r.args a=true->Codec.app r.args r.asked a=true->k_ (K w.params) H xs (Codec.encAll r.args a)->
   sp w xs H (λv H'=>Dw (K w.params) H' v (r.ret.enc (Codec.app r.args r.f a))) λ_ _ _=>False)
  (hCX:∀(w:L9) (H:Hp) (s:me) (e:cp) (s':me),CX w [] H s (λ_ _ _=>False) e s'->False):
  PySem.W.WalkOS q loose XP YP r d [] (λf vs=>PySem.call f vs):=by
 intro w gd s₁ mg mb G Y fa o pm cd doc dV kV ho hd kU hD DV hg args vals as Xc Xd pP ke hlo;obtain⟨a,e1,e2⟩:=PySem.W.os_pre_some Xc;obtain⟨e3,zS⟩:=Codec.encAll_of_decAll r.args args a e1;subst e3;have KX:=hY w _ Y;obtain⟨fd,hb,hF⟩:=F w mg fa _ Y KX G.T.g DV;refine PySem.W.enter_call (acg (W7 (R:=[]) (cl:=classAt gd.heap) (d0:=r.ret.enc (Codec.app r.args r.f a)) KX G.T.g G.T.b G.T.builtins G.T.nolimit hg ke (LD _ _) (Xa Xd) hr hF hb (by rw[ng];exact hlen)
  (λH xs hO hS=>nD w H xs a hO zS e2 hS) λH e s'=>hCX w H s₁ e s') λr' s' hq=>?_)
 obtain⟨u,Xe,rfl,h1,h2,h3,h4⟩:=hq;exact⟨.inl ⟨u,_,Xe,U,λ_=>rfl,h1,(OpenSpec.post_iff hwell zS _ _).mpr U,λz=>Bool.noConfusion (show false=true from z)⟩,h2,h3,h4⟩
theorem Xf{r:OpenSpec}{k:Nat}{q:Mb}{loose:List Str}{XP:(Str->Option cp)->Heap->Prop}{YP:L9->Heap->Prop}{d:DefRec}{K:Nd->FU}{CX:j8}{ps:List Str}{sp:FU->Sp}
  (hwell:r.wellSaid=true) (LM:d.params.defaults=[]) (hlen:r.args.length=ps.length) (hr:di k callerA)
  (hY:∀(w:L9) (h:Heap),YP w h->(K w.params).In h)
  (F:∀(w:L9) (mg:Str->Option cp) (fa:Addr) (h:Heap),YP w h->(K w.params).In h->h.Ns ML mg->mg d.name=some (.ref fa)->
   ∃fd:MG,(∀(s:me) (us:List cp),us.length=ps.length->BindsTo s fd ⟨us,[]⟩ (ps.zip us))/\
    ∀base:Heap,(K w.params).In base->base.Ns ML mg->iu r.prog w (K w.params) mg base CX k fa fd ps (sp (K w.params)))
  (nD:∀(K:FU) (H:Hp) (xs:List V) (a:Codec.denoteAll r.args),wC H->Codec.withinAll r.args a=true->Codec.app r.args r.asked a=true->k_ K H xs (Codec.encAll r.args a)->
   sp K xs H (λv H'=>Dw K H' v (r.ret.enc (Codec.app r.args r.f a))) λ_ _ _=>False)
  (hCX:∀(H:Hp) (s:me) (e:cp) (s':me),CX [] H s (λ_ _ _=>False) e s'->False):
  PySem.W.WalkOS q loose XP YP r d [] (λf vs=>PySem.call f vs):=
 Xb (K:=K) (CX:=λ_=>CX) (sp:=λw=>sp (K w.params)) hwell LM hlen hr hY F (λw H xs a h1 h2 h3 h4=>nD (K w.params) H xs a h1 h2 h3 h4) λ_ H s e s'=>hCX H s e s'
end L2
end
namespace PP
open PySem PySem.Spec PyProof.Rows L2 PM
open Vaneta (Formula Text Name isSmall isWord isName cutAt multiplicative nodes form deep paren Token dual inBounds)
open Vanetc (isDigit formulas partsOf together switchings pars rootsFrom decimal countParts)
open Vanetg (below junctions comesOut tellLeaf passages theLeaf withSwitches toldPlace placesOf does allLong switchAt behindUp given)
section
variable{α β γ:Type}{R S:α->β->Prop}
theorem qc:∀{a c:List α} {b d:List β},Paired R a b->Paired R c d->Paired R (a++c) (b++d)
 |_,_,_,_, .nil,h=>h
 |_,_,_,_, .cons x t,h=> .cons x (qc t h)
theorem qd{x:α}{y:β}(h:R x y):Paired R [x] [y]:= .cons h .nil
theorem kf{a:List α}{b:List β}{x:α}{y:β}(h:Paired R a b)(hx:R x y):Paired R (a++[x]) (b++[y]):=qc h (qd hx)
theorem bO:∀{a:List α} {b:List β},(∀x y,R x y->S x y)->Paired R a b->Paired S a b
 |_,_,_, .nil=> .nil
 |_,_,f, .cons x t=> .cons (f _ _ x) (bO f t)
theorem ck:∀{a:List α} {b:List β},Paired R a b->a.length=b.length
 |_,_, .nil=>rfl
 |_,_, .cons _ t=>by simp[ck t]
theorem fB:∀{a:List α} {b:List β} {i:Nat} {x:α},Paired R a b->a[i]? =some x->∃y,b[i]? =some y/\ R x y
 |_,_,_,_, .nil,e=>by simp at e
 |_,_,0,_, .cons r _,e=>by have e:=aM e;subst e;exact⟨_,U,r⟩
 |_,_,i+1,x, .cons _ t,e=>fB (i:=i) t e
theorem oT:∀{a:List α} {b:List β} {i:Nat} {y:β},Paired R a b->b[i]? =some y->∃x,a[i]? =some x/\ R x y
 |_,_,_,_, .nil,e=>by simp at e
 |_,_,0,_, .cons r _,e=>by have e:=aM e;subst e;exact⟨_,U,r⟩
 |_,_,i+1,x, .cons _ t,e=>oT (i:=i) t e
theorem DW{a:List α}{b:List β}(h:Paired R a b):Paired R a.reverse b.reverse:=by
 induction h with
 |nil=>exact .nil
 |cons r t ih=>simp only[xV];exact kf ih r
theorem ui:∀{a:List α} {b:List β} {y:β},Paired R a (b++[y])->∃c x,a=c++[x]/\ Paired R c b/\ R x y
 |_,[],_, .cons r .nil=>⟨[],_,U, .nil,r⟩
 |_,z::b,y, .cons r t=>by obtain⟨c,x,e,h1,h2⟩:=ui (b:=b) t;exact⟨_::c,x,by rw[e];rfl, .cons r h1,h2⟩
end
theorem aa.new{H:Hp}{p:Addr}{o:HO}(h:H p=none):aa H (upd H p o):=λb q e=>by rw[aD (bS e h)];exact e
noncomputable def Wo (P:Addr->Prop) (H:Hp):Hp:=λb=>open Classical in if P b then none else H b
theorem cR{P:Addr->Prop}{H:Hp}{b:Addr}(h:¬P b):Wo P H b=H b:=by unfold Wo;rw[ay h]
theorem LO{P:Addr->Prop}{H:Hp}{b:Addr}(h:P b):Wo P H b=none:=by unfold Wo;rw[aI h]
theorem iU{P:Addr->Prop}{H:Hp}{b:Addr}{o:HO}(h:Wo P H b=some o):¬P b/\ H b=some o:=by
 unfold Wo at h;split at h
 .cases h
 .exact⟨by assumption,h⟩
theorem bB(P:Addr->Prop)(H:Hp):aa (Wo P H) H:=λb o e=>(iU e).2
theorem qe{P:Addr->Prop}{H H':Hp}(s:∀b o,H b=some o->¬P b->H' b=some o):aa (Wo P H) (Wo P H'):=λb o e=>by obtain⟨h1,h2⟩:=iU e;rw[cR h1];exact s b o h2 h1
theorem bV{P:Addr->Prop}{H H':Hp}(s:aa H H'):aa (Wo P H) (Wo P H'):=qe λb o e _=>s b o e
theorem zT{P P':Addr->Prop}{H:Hp}(h:∀b,P b->P' b):aa (Wo P' H) (Wo P H):=λb o e=>by obtain⟨h1,h2⟩:=iU e;rw[cR λc=>h1 (h b c)];exact h2
theorem dP{P:Addr->Prop}{H:Hp}{l:Addr}{o:HO}(h:P l):Wo P (upd H l o)=Wo P H:=by
 funext b;by_cases hb:P b
 .rw[LO hb,LO hb]
 .rw[cR hb,cR hb,aD]
  intro e;subst e;exact hb h
def Hid(P:Addr->Prop)(H:Hp):Prop:=∀b,P b->H b≠none
theorem Hid.mono{P:Addr->Prop}{H H':Hp}(h:Hid P H)(s:aa H H'):Hid P H':=λb hb e=>by
 cases q:H b with
 |none=>exact h b hb q
 |some o=>rw[s b o q]at e;cases e
theorem Hid.upd{P:Addr->Prop}{H:Hp}{p:Addr}{o:HO}(h:Hid P H):Hid P (upd H p o):=λb hb e=>by
 by_cases c:b=p
 .subst c;rw[ae]at e;cases e
 .rw[aD c]at e;exact h b hb e
theorem Hid.not{P:Addr->Prop}{H:Hp}{p:Addr}(h:Hid P H)(e:H p=none):¬P p:=λc=>h p c e
theorem Hid.none(H:Hp):Hid (λ_=>False) H:=λ_ h=>h.elim
def aL(P:Addr->Prop)(l:Addr):Addr->Prop:=λb=>P b\/b=l
theorem Hid.lq{P:Addr->Prop}{H:Hp}{l:Addr}{o:HO}(h:Hid P H)(e:H l=some o):Hid (aL P l) H:=λb hb=>by
 rcases hb with hb|rfl
 .exact h b hb
 .rw[e];intro z;cases z
theorem mq(H:Hp):Wo (λ_=>False) H=H:=by funext b;exact cR (λh=>h)
noncomputable def bI(b:UInt8):V:= .int (b.toNat:Int)
inductive bG(H:Hp)(v:V)(t:Text):Prop
 |mk (a:Addr):v= .ref a->H a=some (.lst (t.map bI))->bG H v t
inductive zU(H:Hp)(v:V)(t:Name):Prop
 |mk (a:Addr):v= .ref a->H a=some (.tup (t.map bI))->zU H v t
inductive bZ(H:Hp)(v:V)(x:Node):Prop
 |mk (a:Addr) (u:V):v= .ref a->H a=some (.tup [.int (x.1:Int),u])->zU H u x.2->bZ H v x
inductive cS{α:Type}(R:Hp->V->α->Prop)(H:Hp)(v:V)(l:List α):Prop
 |mk (a:Addr) (vs:List V):v= .ref a->H a=some (.lst vs)->Paired (R H) vs l->cS R H v l
abbrev cT:=cS bZ
def dj(H:Hp)(v:V)(A:Formula):Prop:=Vaneta.multiplicative A=true/\ cT H v (enc A)
inductive d6(H:Hp)(v:V)(x:Nat×Nat):Prop
 |mk (a:Addr):v= .ref a->H a=some (.tup [.int (x.1:Int), .int (x.2:Int)])->d6 H v x
abbrev eP{α:Type}(R:Hp->V->α->Prop):Prop:=∀(H H':Hp) (v:V) (x:α),aa H H'->R H v x->R H' v x
theorem bG.mono:eP bG:=λ_ _ _ _ s ⟨a,e,h⟩=>⟨a,e,s _ _ h⟩
theorem zU.mono:eP zU:=λ_ _ _ _ s ⟨a,e,h⟩=>⟨a,e,s _ _ h⟩
theorem bZ.mono:eP bZ:=λ_ _ _ _ s ⟨a,u,e,h,n⟩=>⟨a,u,e,s _ _ h,zU.mono _ _ _ _ s n⟩
theorem cS.mono{α:Type}{R:Hp->V->α->Prop}(m:eP R):eP (cS R):=λ_ _ _ _ s ⟨a,vs,e,h,p⟩=>⟨a,vs,e,s _ _ h,bO (λ_ _ r=>m _ _ _ _ s r) p⟩
theorem dj.mono:eP dj:=λ_ _ _ _ s ⟨h,n⟩=>⟨h,cS.mono bZ.mono _ _ _ _ s n⟩
theorem d6.mono:eP d6:=λ_ _ _ _ s ⟨a,e,h⟩=>⟨a,e,s _ _ h⟩
section
variable{X:Cx}{x:Str}{pos:Pos}
theorem Xg{i:Int}(hg:Gl X x)(hm:∃t,X.mg x=some (Value.int i t))(hd:autoParam ((x==("__debug__":Str))=false) Mp._auto_1):PE X (.Name x pos) (tC (.int i)):=by obtain⟨t,h⟩:=hm;exact C1 hg h ⟨t,U⟩ hd
theorem Xh{i:Str}(hg:Gl X x)(hm:∃t,X.mg x=some (Value.str i t))(hd:autoParam ((x==("__debug__":Str))=false) Mp._auto_1):PE X (.Name x pos) (tC (.str i)):=by obtain⟨t,h⟩:=hm;exact C1 hg h ⟨t,U⟩ hd
theorem Xi{a:Addr}(hg:Gl X x)(hm:X.mg x=some (.ref a))(hd:autoParam ((x==("__debug__":Str))=false) Mp._auto_1):PE X (.Name x pos) (tC (.ref a)):=C1 hg hm U hd
end
theorem Xj:MI "ord"=some (.builtin "ord"):=by first|rfl|decide+kernel
theorem Xk:MI "max"=some (.builtin "max"):=by first|rfl|decide+kernel
theorem DX:MI "all"=some (.builtin "all"):=by first|rfl|decide+kernel
theorem Xl:MI "tuple"=some (.type "tuple"):=by first|rfl|decide+kernel
theorem DY:MI "list"=some (.type "list"):=by first|rfl|decide+kernel
theorem LP:MI "str"=some (.type "str"):=by first|rfl|decide+kernel
theorem dk{n:Nat}(h:n<=100000):n<sizeLine:=By h (by decide)
theorem fC{n:Nat}(h:n<=1000000):n<=sizeLine:=c_ h (by decide)
theorem e9{P:Addr->Prop}{H:Hp}{p:Addr}{o:HO}(hP:Hid P H)(hp:H p=none):Wo P (upd H p o) p=some o:=by rw[cR (hP.not hp),ae]
theorem qg{P:Addr->Prop}{H H':Hp}{D:Addr}(hD:H D=none)(s:aa H H'):aa (Wo P H) (Wo (aL P D) H'):=λb o e=>by obtain⟨h1,h2⟩:=iU e;rw[cR (by rintro(c|c);exact h1 c;exact bS h2 hD c)];exact s _ _ h2
theorem qh{P:Addr->Prop}{H:Hp}{D:Addr}:aa (Wo (aL P D) H) (Wo P H):=zT λb hb=> .inl hb
section
variable{X:Cx}{K:FU}{e:Lj}{f:Str}{pos:Pos}{ta:TE}
theorem Xm(hK:X.K=K):v8 X (ub K):=by subst hK;exact K5
theorem Xn(hK:X.K=K):v8 X (fO K):=by subst hK;exact K4
theorem Xo(hK:X.K=K):dN X (MA .In) (zu K false):=by subst hK;exact zw
theorem zV{es:List Lj}{k:Nat}{t:rE}{n:Nat}(hK:X.K=K)(hc:X.calm=true)(h:vS X es t)(hn:autoParam ((Nm es X.env).length=n) L'._auto_1)(cD:autoParam ((Nm es X.env).findIdx? (·.1)=none) L'._auto_1):PG X (.Tuple es k pos) (tX K n t):=by subst hK;exact C4 hc h hn cD
theorem Xp(hK:X.K=K)(he:PE X e ta)(hb:Nc e f X.env (L6 e X.env)=L6 e X.env):PE X (.Attribute e f pos) (ir K ta f):=by subst hK;exact KL he hb
end
theorem LQ{c A:Prop}[Decidable c]{k:L2.St->Hp->Prop}{σ:L2.St}{H:Hp}(good:L2.St->Hp->Prop)(hk:∀σ' H',good σ' H'->k σ' H')(h1:c->(∀σ' H',good σ' H'->k σ' H')->A)(h2:¬c->good σ H):if c then A else k σ H:=by
 by_cases h:c
 .rw[aI h];exact h1 h hk
 .rw[ay h];exact hk _ _ (h2 h)
theorem bT{x:V}{r:List V}:gi (x::r) 0=some x:=bH (j:=0) U
theorem fP{x y:V}{r:List V}:gi (x::y::r) 1=some y:=bH (j:=1) U
theorem at2{x y z:V}{r:List V}:gi (x::y::z::r) 2=some z:=bH (j:=2) U
theorem c5{H H':Hp}{p:Addr}{o:HO}(s:aa H H')(h:H p=none):aa H (upd H' p o):=λb q e=>by rw[aD (bS e h)];exact s b q e
theorem LR{α β:Type}(g:α->Option β):∀(l:List α) (k:Nat) (m:List α),m.drop k=l->(List.range' k l.length).filterMap (λi=>m[i]?.bind g)=l.filterMap g
 |[],_,_,_=>rfl
 |a::r,k,m,h=>by
  have h0:m[k]? =some a:=by
   have e:(m.drop k)[0]? =some a:=by rw[h];rfl
   rw[oa]at e;exact e
  have h1:m.drop (k+1)=r:=by rw[<-sW,h];rfl
  rw[bj,sQ,jr,jr,h0,LR g r (k+1) m h1];rfl
theorem Xq{α β:Type}(g:α->Option β)(l:List α):(List.range l.length).filterMap (λi=>l[i]?.bind g)=l.filterMap g:=by rw[pF];exact LR g l 0 l U
theorem DZ{β:Type}{J:It}{n:Nat}{g:TG}{tt:TT}{te:TE}{vs:List Nat}{σ:L2.St}{H1:Hp}{D:Addr}{Qd:Hp->Prop}(P:Addr->Prop)(R:Hp->V->β->Prop)(mR:eP R)(f:Nat->Option β)(hD:H1 D=none)(hP:Hid P H1)(hn:n<=100000)
  (iV:∀i H,aa H1 H->i<n->J.go i H) (hstop:∀H,aa H1 H->J.stop n H)
  (hs:∀i H x H',i<n->aa H1 H->Hid (aL P D) H->J.j5 i H x H'->∀(Ky:V->Hp->Prop) (Kn:Hp->Prop),(∀z v H4,f i=some z->aa H H4->R (Wo (aL P D) H4) v z->Ky v H4)->(∀H4,f i=none->aa H H4->Kn H4)->
   g x (wipe σ vs) H' λσ2 H2=>wipe σ2 vs=wipe σ vs/\ tt σ2 H2 λb H3=>if b=true then te σ2 H3 Ky else Kn H3)
  (hd:∀H acc,aa H1 H->H D=some (.lst acc)->Hid (aL P D) H->Paired (R (Wo (aL P D) H)) acc ((List.range n).filterMap f)->Qd H):
  ∃W:Nat->Nat->Hp->Prop,(∃m,W 0 m (upd H1 D (.lst [])))/\ ∀i m H,W i m H->
   (J.stop i H/\ Qd H)\/(J.go i H/\ ∃Nx:Hp->Prop,(∀H',Nx H'->∃m',m'<m/\ W (i+1) m' H')/\ ∀x H',J.j5 i H x H'->g x (wipe σ vs) H' λσ2 H2=>wipe σ2 vs=wipe σ vs/\ tt σ2 H2 λb H3=>if b=true then te σ2 H3 λy H4=>∃acc,H4 D=some (.lst acc)/\ acc.length<sizeLine/\ Nx (upd H4 D (.lst (acc++[y])))else Nx H3):=by
 have Xr:(aL P D) D:= .inr U;refine⟨λi m H=>m=n-i/\ i<=n/\ aa H1 H/\ Hid (aL P D) H/\ ∃acc,H D=some (.lst acc)/\ acc.length<=i/\ Paired (R (Wo (aL P D) H)) acc ((List.range i).filterMap f),⟨n,by simp,bL _,aa.new hD,(hP.mono (aa.new hD)).lq ae,[],ae,a_ _, .nil⟩,?_⟩;rintro i m H ⟨rfl,hi,sm,aH,acc,cH,hlen,bh⟩;by_cases aU:i<n
 .refine .inr ⟨iV i H sm aU,λH'=>aa H1 H'/\ Hid (aL P D) H'/\ ∃acc,H' D=some (.lst acc)/\ acc.length<=i+1/\ Paired (R (Wo (aL P D) H')) acc ((List.range (i+1)).filterMap f),λH' p'=>⟨n-(i+1),by lia,U,aU,p'⟩,λx H' y=>?_⟩
  refine hs i H x H' aU sm aH y _ _ (λz v H4 hz s4 r4=>?_) λH4 hz s4=>?_
  .refine⟨acc,s4 _ _ cH,dk (by lia),c5 (sm.trans s4) hD,(aH.mono s4).upd,acc++[v],ae,by simp;lia,?_⟩
   rw[s_,xS,dP Xr];refine qc (bO (λ_ _ r=>mR _ _ _ _ (bV s4) r) bh) ?_;rw[jr,hz];exact qd r4
  .refine⟨sm.trans s4,aH.mono s4,acc,s4 _ _ cH,by lia,?_⟩
   rw[s_,xS,jr,hz];rw[List.filterMap_nil,i5];exact bO (λ_ _ r=>mR _ _ _ _ (bV s4) r) bh
 .have e:i=n:=by lia
  subst e;exact .inl ⟨hstop H sm,hd H acc sm cH aH bh⟩
theorem LS{K:FU}{a:Addr}{xs:List V}{tb:TS}{D:Ends}{σ:L2.St}{H:Hp}(i j:Nat)(Pv:Nat->L2.St->Hp->Prop)(h0:Pv 0 σ H)(hl:∀k σ H,k<=xs.length->Pv k σ H->ab K H a xs)
  (hs:∀(k:Nat) x σ H T,xs[k]? =some x->Pv k σ H->H T=none->tb (MV D (Pv (k+1))) ((σ.set i (some (.int (k:Int)))).set j (some x)) (upd H T (.tup [.int (k:Int),x]))) (hd:∀σ H,Pv xs.length σ H->D.nx σ H):
  af2 (qa K a) (tX K 2 (pW (ik i) (pW (ik j) zb))) tb D σ H:=by
 refine⟨λk m σ H=>m=xs.length-k/\ k<=xs.length/\ Pv k σ H,⟨xs.length,by simp,bL _,h0⟩,?_⟩;rintro k m σ H ⟨rfl,hk,p⟩;have q:=hl k σ H hk p;by_cases aU:k<xs.length
 .refine .inr ⟨⟨xs,xs[k],q,by simp[aU]⟩,Pv (k+1),λσ' H' p'=>⟨xs.length-(k+1),by lia,U,aU,p'⟩,λx H' y=>?_⟩
  obtain⟨T,z,rfl,hT,rfl,y⟩:=y;exact⟨T,_,U,bx.of ae,U,_,_,U,_,_,U,U,hs k z σ H T (y xs q) p hT⟩
 .have e:k=xs.length:=by lia
  subst e;exact .inl ⟨⟨xs,q,a_ _⟩,hd σ H p⟩
theorem LU{K:FU}{a:Addr}{xs:List V}{g:TG}{tb:TS}{D:Ends}{σ:L2.St}{H:Hp}(Pv:Nat->L2.St->Hp->Prop)(h0:Pv 0 σ H)(hl:∀i σ H,i<=xs.length->Pv i σ H->ab K H a xs)
  (hs:∀i x σ H,xs.reverse[i]? =some x->Pv i σ H->g x σ H λσ2 H2=>tb (MV D (Pv (i+1))) σ2 H2) (hd:∀σ H,Pv xs.length σ H->D.nx σ H):
  af2 (wx K a xs.length) g tb D σ H:=by
 refine⟨λi m σ H=>m=xs.length-i/\ i<=xs.length/\ Pv i σ H,⟨xs.length,by simp,bL _,h0⟩,?_⟩;rintro i m σ H ⟨rfl,hi,p⟩;have q:=hl i σ H hi p;by_cases aU:i<xs.length
 .have hr:∀x,xs[xs.length-1-i]? =some x->xs.reverse[i]? =some x:=λx hx=>by rw[x4 aU];exact hx
  refine .inr ⟨⟨aU,xs,xs[xs.length-1-i],q,by rw[cC (by lia)]⟩,Pv (i+1),λσ' H' p'=>⟨xs.length-(i+1),by lia,U,aU,p'⟩,λx H' y=>?_⟩;obtain⟨e,y⟩:=y;subst e;exact hs i x σ _ (hr x (y xs q)) p
 .have e:i=xs.length:=by lia
  subst e;exact .inl ⟨a_ _,hd σ H p⟩
theorem oU{α β:Type}{K:FU}{a:Addr}{xs:List V}{g:TG}{tt:TT}{te:TE}{vs:List Nat}{σ:L2.St}{H1:Hp}{D:Addr}{Qd:Hp->Prop}(P:Addr->Prop)(R:Hp->V->β->Prop)(mR:eP R)(data:List α)(f:α->Option β)(hD:H1 D=none)(hP:Hid P H1)(hn:xs.length<=100000)
  (hl:ab K H1 a xs) (hlen:xs.length=data.length)
  (hs:∀(i:Nat) H x y,xs[i]? =some x->data[i]? =some y->aa H1 H->Hid (aL P D) H->∀(Ky:V->Hp->Prop) (Kn:Hp->Prop),(∀z v H4,f y=some z->aa H H4->R (Wo (aL P D) H4) v z->Ky v H4)->(∀H4,f y=none->aa H H4->Kn H4)->
   g x (wipe σ vs) H λσ2 H2=>wipe σ2 vs=wipe σ vs/\ tt σ2 H2 λb H3=>if b=true then te σ2 H3 Ky else Kn H3)
  (hd:∀H acc,aa H1 H->H D=some (.lst acc)->Hid (aL P D) H->Paired (R (Wo (aL P D) H)) acc (data.filterMap f)->Qd H):
  ∃W:Nat->Nat->Hp->Prop,(∃m,W 0 m (upd H1 D (.lst [])))/\ ∀i m H,W i m H->
   ((pX K a).stop i H/\ Qd H)\/((pX K a).go i H/\ ∃Nx:Hp->Prop,(∀H',Nx H'->∃m',m'<m/\ W (i+1) m' H')/\ ∀x H',(pX K a).j5 i H x H'->g x (wipe σ vs) H' λσ2 H2=>wipe σ2 vs=wipe σ vs/\ tt σ2 H2 λb H3=>if b=true then te σ2 H3 λy H4=>∃acc,H4 D=some (.lst acc)/\ acc.length<sizeLine/\ Nx (upd H4 D (.lst (acc++[y])))else Nx H3):=by
 refine DZ (n:=xs.length) P R mR (λi=>data[i]?.bind f) hD hP hn (λi H s hi=>⟨xs,xs[i],s.seq hl,by simp[hi]⟩) (λH s=>⟨xs,s.seq hl,a_ _⟩) ?_ ?_
 .rintro i H x H' hi s aH ⟨rfl,y⟩ Ky Kn h1 h2
  have hy:data[i]? =some (data[i]'(by lia)):=cC (by lia);refine hs i _ x _ (y xs (s.seq hl)) hy s aH Ky Kn (λz v H4 e=>h1 z v H4 (by rw[hy];exact e)) λH4 e=>h2 H4 (by rw[hy];exact e)
 .intro H acc s h aH hp
  rw[hlen,Xq]at hp;exact hd H acc s h aH hp
theorem LV{α β:Type}{K:FU}{a:Addr}{xs:List V}{tt:TT}{te:TE}{vs:List Nat}{σ:L2.St}{H1:Hp}{D:Addr}{Qd:Hp->Prop}{i j:Nat}(P:Addr->Prop)(R:Hp->V->β->Prop)(mR:eP R)(data:List α)(f:Nat->α->Option β)(hD:H1 D=none)(hP:Hid P H1)(hn:xs.length<=100000)
  (hl:ab K H1 a xs) (hlen:xs.length=data.length) (hw:∀u v,wipe (((wipe σ vs).set i u).set j v) vs=wipe σ vs)
  (hs:∀(k:Nat) H x y,xs[k]? =some x->data[k]? =some y->aa H1 H->Hid (aL P D) H->∀(Ky:V->Hp->Prop) (Kn:Hp->Prop),(∀z v H4,f k y=some z->aa H H4->R (Wo (aL P D) H4) v z->Ky v H4)->(∀H4,f k y=none->aa H H4->Kn H4)->
   tt (((wipe σ vs).set i (some (.int (k:Int)))).set j (some x)) H λb H3=>if b=true then te (((wipe σ vs).set i (some (.int (k:Int)))).set j (some x)) H3 Ky else Kn H3)
  (hd:∀H acc,aa H1 H->H D=some (.lst acc)->Hid (aL P D) H->Paired (R (Wo (aL P D) H)) acc ((List.range data.length).filterMap λk=>data[k]?.bind (f k))->Qd H):
  ∃W:Nat->Nat->Hp->Prop,(∃m,W 0 m (upd H1 D (.lst [])))/\ ∀k m H,W k m H->
   ((qa K a).stop k H/\ Qd H)\/((qa K a).go k H/\ ∃Nx:Hp->Prop,(∀H',Nx H'->∃m',m'<m/\ W (k+1) m' H')/\ ∀x H',(qa K a).j5 k H x H'->tX K 2 (pW (ik i) (pW (ik j) zb)) x (wipe σ vs) H' λσ2 H2=>wipe σ2 vs=wipe σ vs/\ tt σ2 H2 λb H3=>if b=true then te σ2 H3 λy H4=>∃acc,H4 D=some (.lst acc)/\ acc.length<sizeLine/\ Nx (upd H4 D (.lst (acc++[y])))else Nx H3):=by
 refine DZ (n:=xs.length) P R mR (λk=>data[k]?.bind (f k)) hD hP hn (λi H s hi=>⟨xs,xs[i],s.seq hl,by simp[hi]⟩) (λH s=>⟨xs,s.seq hl,a_ _⟩) ?_ ?_
 .rintro k H x H' hk s aH ⟨T,z,rfl,hT,rfl,y⟩ Ky Kn h1 h2
  have hy:data[k]? =some (data[k]'(by lia)):=cC (by lia);have s':aa H (upd H T (.tup [.int (k:Int),z])):=aa.new hT;refine⟨T,_,U,bx.of ae,U,_,_,U,_,_,U,U,hw _ _,?_⟩;exact hs k _ z _ (y xs (s.seq hl)) hy (s.trans s') aH.upd Ky Kn (λz v H4 e s4 r=>h1 z v H4 (by rw[hy];exact e) (s'.trans s4) r) λH4 e s4=>h2 H4 (by rw[hy];exact e) (s'.trans s4)
 .intro H acc s h aH hp
  rw[hlen]at hp;exact hd H acc s h aH hp
theorem LW{α γ β:Type}{K:FU}{a b:Addr}{xs ys:List V}{tt:TT}{te:TE}{vs:List Nat}{σ:L2.St}{H1:Hp}{D:Addr}{Qd:Hp->Prop}{i j:Nat}(P:Addr->Prop)(R:Hp->V->β->Prop)(mR:eP R)(f:Nat->Option β)(hD:H1 D=none)(hP:Hid P H1)(hn:xs.length<=100000)
  (hl:ab K H1 a xs) (fh:ab K H1 b ys) (hlen:xs.length=ys.length) (hw:∀u v,wipe (((wipe σ vs).set i u).set j v) vs=wipe σ vs)
  (hs:∀(k:Nat) H x y,xs[k]? =some x->ys[k]? =some y->aa H1 H->Hid (aL P D) H->∀(Ky:V->Hp->Prop) (Kn:Hp->Prop),(∀z v H4,f k=some z->aa H H4->R (Wo (aL P D) H4) v z->Ky v H4)->(∀H4,f k=none->aa H H4->Kn H4)->
   tt (((wipe σ vs).set i (some x)).set j (some y)) H λb H3=>if b=true then te (((wipe σ vs).set i (some x)).set j (some y)) H3 Ky else Kn H3)
  (hd:∀H acc,aa H1 H->H D=some (.lst acc)->Hid (aL P D) H->Paired (R (Wo (aL P D) H)) acc ((List.range xs.length).filterMap f)->Qd H):
  ∃W:Nat->Nat->Hp->Prop,(∃m,W 0 m (upd H1 D (.lst [])))/\ ∀k m H,W k m H->
   ((wy K a b).stop k H/\ Qd H)\/((wy K a b).go k H/\ ∃Nx:Hp->Prop,(∀H',Nx H'->∃m',m'<m/\ W (k+1) m' H')/\ ∀x H',(wy K a b).j5 k H x H'->tX K 2 (pW (ik i) (pW (ik j) zb)) x (wipe σ vs) H' λσ2 H2=>wipe σ2 vs=wipe σ vs/\ tt σ2 H2 λb H3=>if b=true then te σ2 H3 λy H4=>∃acc,H4 D=some (.lst acc)/\ acc.length<sizeLine/\ Nx (upd H4 D (.lst (acc++[y])))else Nx H3):=by
 refine DZ (n:=xs.length) P R mR f hD hP hn (λi H s hi=>⟨xs,ys,xs[i],ys[i]'(by lia),s.seq hl,s.seq fh,by simp[hi],by simp[show i<ys.length by lia]⟩) (λH s=>⟨xs,ys,s.seq hl,s.seq fh, .inl (a_ _)⟩) ?_ hd;rintro k H x H' hk s aH ⟨T,z,z',rfl,hT,rfl,y,y'⟩ Ky Kn h1 h2;have s':aa H (upd H T (.tup [z,z'])):=aa.new hT;refine⟨T,_,U,bx.of ae,U,_,_,U,_,_,U,U,hw _ _,?_⟩;exact hs k _ z z' (y xs (s.seq hl)) (y' ys (s.seq fh)) (s.trans s') aH.upd Ky Kn (λz v H4 e s4 r=>h1 z v H4 e (s'.trans s4) r) λH4 e s4=>h2 H4 e (s'.trans s4)
theorem uj(xs:List V){i j:Nat}(h:i<=j)(hj:j<=xs.length):fU xs (some (i:Int)) (some (j:Int))=(xs.drop i).take (j-i):=by unfold fU;rw[HT.vX,HT.vX,xW hj,xW (c_ h hj)]
theorem LX(xs:List V){i:Nat}(h:i<=xs.length):fU xs (some (i:Int)) none=xs.drop i:=by unfold fU;rw[HT.vX,HT.VF,xW h,qM (by simp)]
inductive E1{t0:Type}(p:t0->Prop):Prop
 |mk (a:t0):p a->E1 p
inductive E2{t0 t1:Type}(p:t0->t1->Prop):Prop
 |mk (a:t0) (b:t1):p a b->E2 p
inductive E3{t0 t1 t2:Type}(p:t0->t1->t2->Prop):Prop
 |mk (a:t0) (b:t1) (c:t2):p a b c->E3 p
inductive E4{t0 t1 t2 t3:Type}(p:t0->t1->t2->t3->Prop):Prop
 |mk (a:t0) (b:t1) (c:t2) (d:t3):p a b c d->E4 p
inductive E5{t0 t1 t2 t3 t4:Type}(p:t0->t1->t2->t3->t4->Prop):Prop
 |mk (a:t0) (b:t1) (c:t2) (d:t3) (e:t4):p a b c d e->E5 p
inductive E6{t0 t1 t2 t3 t4 t5:Type}(p:t0->t1->t2->t3->t4->t5->Prop):Prop
 |mk (a:t0) (b:t1) (c:t2) (d:t3) (e:t4) (f:t5):p a b c d e f->E6 p
inductive A3(a b c:Prop):Prop
 |mk:a->b->c->A3 a b c
inductive A4(a b c d:Prop):Prop
 |mk:a->b->c->d->A4 a b c d
inductive A5(a b c d e:Prop):Prop
 |mk:a->b->c->d->e->A5 a b c d e
inductive A6(a b c d e f:Prop):Prop
 |mk:a->b->c->d->e->f->A6 a b c d e f
inductive A7(a b c d e f g:Prop):Prop
 |mk:a->b->c->d->e->f->g->A7 a b c d e f g
inductive A8(a b c d e f g h:Prop):Prop
 |mk:a->b->c->d->e->f->g->h->A8 a b c d e f g h
inductive LY(a b c d e f g h i j:Prop):Prop
 |mk:a->b->c->d->e->f->g->h->i->j->LY a b c d e f g h i j
inductive D2(a b c d e f g h i j k:Prop):Prop
 |mk:a->b->c->d->e->f->g->h->i->j->k->D2 a b c d e f g h i j k
structure Gd(P:Mb)(w:L9)(K:FU)(mg:Str->Option cp)(base:Heap)(k:Nat)(f:Addr)(fd:MG)(ps:List Str)(sp:Sp):Prop where
 ok:iu P w K mg base rS k f fd ps sp
 bd:Binds K fd ps []
 kp:NL K (.ref f)=true
theorem A9{P:Mb}{w:L9}{K:FU}{mg:Str->Option cp}{base:Heap}{N:List Str}{q:Str}{sc:Scope}{f:Addr}{aC:cp}{A:Mf}{outer:List Env}{s:me}{H:Hp}{E:XK}:(rQ rS P w K mg base N q sc f aC A outer s H E).oF.K=K:=rfl
noncomputable abbrev fnE(Q:VK):Ends:={nx:=λ_ H'=>Q .aO H',rt:=Q}
inductive Bdy(P:Mb)(w:L9)(K:FU)(mg:Str->Option cp)(base:Heap)(N:List Str)(qual:Str)(st:Stmt)(f:Addr)(aC:cp)(A:Mf)(outer:List Env)(s:me)(H:Hp)(E:XK)(vs:List V)(Q:VK):Prop
 |mk (t:TS):jB (rQ rS P w K mg base N qual (d5 st) f aC A outer s H E).oF (rR st) t->t (fnE Q) (start N vs) H->Bdy P w K mg base N qual st f aC A outer s H E vs Q
theorem us1{p:List cp->Prop}(h:∀a,p [a])(us)(e:us.length=1):p us:=by
 cases us with
 |nil=>cases e
 |cons a t=>exact uW.mp (Bz e)▸h a
theorem us2{p:List cp->Prop}(h:∀a b,p [a,b])(us)(e:us.length=2):p us:=by
 cases us with
 |nil=>cases e
 |cons a t=>exact us1 (p:=λt=>p (a::t)) (h a) t (Bz e)
theorem us3{p:List cp->Prop}(h:∀a b c,p [a,b,c])(us)(e:us.length=3):p us:=by
 cases us with
 |nil=>cases e
 |cons a t=>exact us2 (p:=λt=>p (a::t)) (h a) t (Bz e)
theorem us4{p:List cp->Prop}(h:∀a b c d,p [a,b,c,d])(us)(e:us.length=4):p us:=by
 cases us with
 |nil=>cases e
 |cons a t=>exact us3 (p:=λt=>p (a::t)) (h a) t (Bz e)
section
variable{P:Mb}{w:L9}{K:FU}{mg:Str->Option cp}{base:Heap}
theorem _root_.L2.aG.go{x qual:Str}{st:Stmt}{f:Addr}{fd:MG}{N ps:List Str}{k:Nat}{sp:Sp}(F:aG K x qual st f fd)
  (hbody:∀(aC:cp) (A:Mf) (outer:List Env) (s:me) (H:Hp) (vs:List V) (Q:VK) (E:XK),di k (A.deeper (M5 qual (d5 st) s.heap.objs.size f aC))->N.Nodup->sp vs H Q E->
   Bdy P w K mg base N qual st f aC A outer s H E vs Q)
  (pre:autoParam (N.take ps.length=ps) MN._auto_1) (len:autoParam (∀vs H Q E,sp vs H Q E->vs.length=ps.length) af8._auto_1)
  (hb:∀(kV doc pm:cp) (an:Option Addr) (aC ct:cp) (us:List cp),us.length=ps.length->bindArgs (NB x qual (wA st) (rR st) (d5 st) .none kV doc pm an aC ct) ⟨us,[]⟩=pure (ps.zip us):=by
   first
   |exact λ_ _ _ _ _ _=>us1 λ_=>rfl
   |exact λ_ _ _ _ _ _=>us2 λ_ _=>rfl
   |exact λ_ _ _ _ _ _=>us3 λ_ _ _=>rfl
   |exact λ_ _ _ _ _ _=>us4 λ_ _ _ _=>rfl)
  (kind:autoParam ((d5 st).kind= .function) MN._auto_1) (co:autoParam ((d5 st).isCoroutine=false) MN._auto_1) (gen:autoParam ((d5 st).isGenerator=false) MN._auto_1) (nd:autoParam (N.Nodup) aee._auto_1)
  (par:autoParam (∀x∈ps,(d5 st).names.lookup x=some .local\/(d5 st).names.lookup x=some .cell) aee._auto_1) (Di:autoParam (∀y∈(d5 st).names,y.2≠ .free) aee._auto_1):Gd P w K mg base (k+1) f fd ps sp:=
 ⟨F.ok ⟨kind,co,gen,nd,pre,par,Di⟩ len λaC A outer s H vs Q E hr h=>match hbody aC A outer s H vs Q E hr nd h with|⟨t,a,b⟩=>⟨t,a,b⟩,F.binds hb,F.kp⟩
end
section
variable{X:Cx}{a b e o:Lj}{ta tb te to:TE}{p pos apos:Pos}{es:List Lj}{t:TA}{x m:Str}{j k:Nat}{f C:Addr}{fd:MG}{ps:List Str}{sp:Sp}{K:FU}
noncomputable def aT(ha:PE X a ta)(hb:PE X b tb)(hs:autoParam (vZ b) acY._auto_1):=zr (pos:=pos) K4 ha hb hs
noncomputable def cW(ha:PE X a ta)(hb:PE X b tb)(hs:autoParam (vZ b) acY._auto_1):=zr (pos:=pos) K5 ha hb hs
noncomputable def Xs(hK:X.K=K)(ha:PE X a ta)(hb:PE X b tb)(hs:autoParam (vZ b) acY._auto_1):=zr (pos:=pos) (Xn hK) ha hb hs
noncomputable def uk(hK:X.K=K)(ha:PE X a ta)(hb:PE X b tb)(hs:autoParam (vZ b) acY._auto_1):=zr (pos:=pos) (Xm hK) ha hb hs
noncomputable def aR{op:CmpOp}{r:R2}(ho:dN X (MA op) r)(ha:PE X a ta)(hb:PE X b tb)(hm:autoParam (M_ op b=false) afW._auto_1):=Vd (pos:=pos) ho ha hb hm
noncomputable def lu{op:CmpOp}{r:R2}(ho:dN X (MA op) r)(ha:PE X a ta)(hb:PE X b tb)(hm:autoParam (M_ op b=false) afW._auto_1):=Vc (pos:=pos) ho ha hb hm
noncomputable def ao(he:PE X e ta)(hb:autoParam (Nc e m X.env (L6 e X.env)=L6 e X.env) MN._auto_1):=KL (pos:=pos) he hb
noncomputable def Xt(hK:X.K=K)(he:PE X e ta)(hb:autoParam (Nc e m X.env (L6 e X.env)=L6 e X.env) MN._auto_1):=Xp (pos:=pos) hK he hb
noncomputable def cn(ha:PE X o ta)(hv:PE X e te)(hs:autoParam (Na e (some (.Attribute o m p)) pos.line X.env=pure false) MN._auto_1):=Vq ha hv hs
noncomputable def aj(h:PE X e te)(hs:autoParam (Ma [e] X.env=(false,L6 e X.env)::Ma [] X.env) L'._auto_1):=fM h bY hs
noncomputable def aZ(h:PE X e te)(g:PE X a ta)(hs:autoParam (Ma [e,a] X.env=(false,L6 e X.env)::Ma [a] X.env) L'._auto_1)(gs:autoParam (Ma [a] X.env=(false,L6 a X.env)::Ma [] X.env) L'._auto_1):=fM h (aj g gs) hs
noncomputable def aW{i:Int}(hm:∃t,X.mg x=some (Value.int i t))(hg:autoParam (Gl X x) MN._auto_1)(hd:autoParam ((x==("__debug__":Str))=false) Mp._auto_1):=Xg (pos:=pos) hg hm hd
noncomputable def Xu{i:Str}(hm:∃t,X.mg x=some (Value.str i t))(hg:autoParam (Gl X x) MN._auto_1)(hd:autoParam ((x==("__debug__":Str))=false) Mp._auto_1):=Xh (pos:=pos) hg hm hd
noncomputable def D3{i:Addr}(hm:X.mg x=some (.ref i))(hg:autoParam (Gl X x) MN._auto_1)(hd:autoParam ((x==("__debug__":Str))=false) Mp._auto_1):=Xi (pos:=pos) hg hm hd
noncomputable def aN(i:Nat)(nd:X.N.Nodup)(he:PE X e te)(hi:autoParam (X.N[i]? =some x) L'._auto_1)(hx:autoParam (Loc X.env.scope x) afX._auto_1)(hs:autoParam (Na e (some (.Name x p)) pos.line X.env=pure false) L'._auto_1)(hf:autoParam (X.fn x=true\/X.env.scope.names.lookup x=some .local) NF._auto_1):=U1 nd hi hx he hs hf
noncomputable def cx(i:Nat)(nd:X.N.Nodup)(hi:autoParam (X.N[i]? =some x) L'._auto_1)(hx:autoParam (Loc X.env.scope x) afX._auto_1)(hf:autoParam (X.fn x=true\/X.env.scope.names.lookup x=some .local) NF._auto_1):=UZ (pos:=pos) nd hi hx hf
noncomputable def dw(hm:X.mg "len"=none)(h:PE X e te)(hs:autoParam (Ma [e] X.env=(false,L6 e X.env)::Ma [] X.env) L'._auto_1)(hg:autoParam (Gl X "len") MN._auto_1)(bK:autoParam ((Mw pos (Ma [] X.env)).any (·.1)=false) L'._auto_1):=pY (p:=p) VQ hg hm adN (aj h hs) (by decide) (by decide) hs bK
noncomputable def dD(ho:PE X o to)(h:PE X e te)(hbase:autoParam (Nc o "append" X.env (L6 o X.env)=L6 o X.env) L'._auto_1)
  (Dr:autoParam (((Mw pos (Ma [e] X.env)).all (λx=> !x.1)&&(NJ pos (NK [] X.env)).all (λx=>x.1.isSome)&&decide ([e].length+([]:List Keyword).length+(if([]:List Keyword).isEmpty then 0 else 1)<30))=true) L'._auto_1)
  (hline:autoParam ((apos.endLine==pos.line)=true) L'._auto_1) (hs:autoParam (Ma [e] X.env=(false,L6 e X.env)::Ma [] X.env) L'._auto_1) (bK:autoParam ((Mw pos (Ma [] X.env)).any (·.1)=false) L'._auto_1):=
 wc MM PySem.F.slot_list_append PySem.F.type_list_append VX ho (aj h hs) hbase Dr hline hs bK
noncomputable def aP(hr:di j X.A)(G:Gd X.prog X.w X.K X.mg X.base k f fd ps sp)(hm:X.mg x=some (.ref f))(ha:PA X (e::es) t)(hk:autoParam (k<=j) Mp._auto_1)(hg:autoParam (Gl X x) MN._auto_1)(fN:autoParam ((x==("__debug__":Str))=false) Mp._auto_1)
  (he:autoParam (Ma (e::es) X.env=(false,L6 e X.env)::Ma es X.env) L'._auto_1) (bK:autoParam ((Mw pos (Ma es X.env)).any (·.1)=false) L'._auto_1):=
 Vy (p:=p) G.ok (hr.mono hk) hg hm G.kp G.bd .nil wB ha fN he bK
noncomputable def qi(hr:di j X.A)(G:Gd X.prog X.w X.K X.mg X.base k f fd ps sp)(M:Mk X.K C f)(hm:X.mg x=some (.ref C))(ha:PA X (e::es) t)(hk:autoParam (k+1<=j) Mp._auto_1)(hg:autoParam (Gl X x) MN._auto_1)(fN:autoParam ((x==("__debug__":Str))=false) Mp._auto_1)
  (he:autoParam (Ma (e::es) X.env=(false,L6 e X.env)::Ma es X.env) L'._auto_1) (bK:autoParam ((Mw pos (Ma es X.env)).any (·.1)=false) L'._auto_1):=
 VB (p:=p) M G.ok (hr.mono hk) hg hm G.bd .nil wB ha fN he bK
noncomputable def LZ(hr:di j X.A)(G:Gd X.prog X.w X.K X.mg X.base k f fd ps sp)(M:Mk X.K C f)(hm:X.mg x=some (.ref C))(hk:autoParam (k+1<=j) Mp._auto_1)(hg:autoParam (Gl X x) MN._auto_1)(fN:autoParam ((x==("__debug__":Str))=false) Mp._auto_1):=VC (p:=p) (pos:=pos) M G.ok (hr.mono hk) hg hm G.bd .nil wB fN
noncomputable def bN{pl:Sem Bool}(hr:di j X.A)(G:Gd X.prog X.w X.K X.mg X.base k f fd ps sp)(c:gf X.K C)(hm:Meth X.K C m f)(ho:PE X o to)(ha:PA X (e::es) t)(hk:autoParam (k<=j) Mp._auto_1)
  (cD:autoParam (Ma (e::es) X.env=(false,L6 e X.env)::Ma es X.env) L'._auto_1) (bK:autoParam ((Mw pos (Ma es X.env)).any (·.1)=false) L'._auto_1)
  (ht:autoParam (L6 (.Call (.Attribute o m apos) (e::es) [] pos) X.env=(do
   let ov<-L6 o X.env
   standAt apos.atName
   let(f,first)<-Nl [ov] (NI ov m pl)
   callWith pos f first (Mw pos (Ma (e::es) X.env)) (NJ pos (NK [] X.env)))) L'._auto_1):=
 Vz ho c hm G.ok (hr.mono hk) G.bd .nil wB ha cD bK ht
noncomputable def dO{pl:Sem Bool}(hr:di j X.A)(G:Gd X.prog X.w X.K X.mg X.base k f fd ps sp)(c:gf X.K C)(hm:Meth X.K C m f)(ho:PE X o to)(hk:autoParam (k<=j) Mp._auto_1)
  (ht:autoParam (L6 (.Call (.Attribute o m apos) [] [] pos) X.env=(do
   let ov<-L6 o X.env
   standAt apos.atName
   let(f,first)<-Nl [ov] (NI ov m pl)
   callWith pos f first (Mw pos (Ma [] X.env)) (NJ pos (NK [] X.env)))) L'._auto_1):=
 VA ho c hm G.ok (hr.mono hk) G.bd .nil wB ht
end
noncomputable def top(i:Nat):Stmt:=PySem.Challenge.pw_proofpaths_s01_answers.main.body.getD i (.Pass ⟨0,0,0,0⟩)
set_option genInjectivity false in
set_option genSizeOfSpec false in
structure aF where
 {kg cq jg bM eQ cX ef D4 D5 D6 D7 D8 D9 D_ Ea Eb Ec Ed Ee Ef Eg Eh Ei zW Ej Ek El Em Eo Ep Er Es Et Eu Ew Ex Ey zX Ez EA EB EC ED EE EF EG EH EI EJ zY EK EL EM EN EO ER ES ET EU EV EW EX EY EZ E7 E8 E9 zZ E_ E' Fb Fc Fd Fe Ff Fg Fh Fi Fj Fl Fm Fn Fo Fp Fq Fs z0 Ft Fu Fv Fw Fx Fy Fz z5 z6 z7 FA FC FD FE FF FG FH FI FJ FK FL FN FO FP FQ L0 FR FT:Addr}
 {d_is_letter d_is_digit d_as_bytes d_split_at d_join_with d_is_junction d_plain_atom d_compound d_dual d_atoms d_depth d_in_bounds d_formula_form d_atom_form d_junction_form d_in_brackets d_Clusters_init d_Clusters_are_one d_Clusters_unite d_Clusters_cluster_count d_draws_together d_edges d_takes_all_pars d_is_ready d_read_formula d_cut_into_tokens d_token_at d_is_name_byte d_stretch_end d_is_name d_Reading_init d_Reading_take d_Reading_take_for_part d_Reading_take_behind_part d_Reading_take_chain_sign d_Reading_take_right d_Reading_begin d_Reading_innermost d_Reading_end_part d_Reading_end_chain d_Reading_end_formula d_Reading_whole d_Parts_init d_Parts_formulas d_Parts_leaves d_read_parts d_read_sequent d_read_links d_read_pair d_read_number d_without_outer_blanks d_parts_refusal d_are_paired d_parts_form d_sequent_form d_links_form d_atom_at d_conclusion_atom_at d_place_of d_spot_of d_Points_init d_Points_lay d_Points_add_point d_Points_join_cuts d_Points_join_leaves d_Points_leaf_points d_Points_junction_points d_Points_has_conclusion d_Points_has_passage d_Points_passage_count d_Points_is_switching d_Points_behind d_Points_behind_up d_Points_behind_down d_Points_part d_Points_beside d_Points_trip d_up d_down d_Token_init d_Token_go_through d_Token_cross d_over_cut d_play d_all_switchings d_first_bad_switching d_is_net d_answers d_Call_init d_Holder_init d_Holder_answer d_Holder_answer_set d_Holder_answer_form d_Holder_answer_size d_Holder_answer_next d_Holder_answer_trip d_Holder_answer_path d_Holder_travel_refusal d_Holder_answer_test d_Holder_answer_bad d_Holder_answer_token d_Holder_answer_play d_Holder_answer_place d_Holder_answer_draw d_all_there:MG}
structure Txt(K:FU)(mg:Str->Option cp)(A:aF):Prop where
 FV:mg "all"=none
 z8:mg "enumerate"=none
 c6:mg "len"=none
 wD:mg "list"=none
 Xv:mg "max"=none
 Xw:mg "ord"=none
 z9:mg "range"=none
 FW:mg "reversed"=none
 Xx:mg "set"=none
 NQ:mg "str"=none
 Xy:mg "tuple"=none
 NR:mg "zip"=none
 wF:∃t,mg "BLANK"=some (.int (32) t)
 z_:∃t,mg "LEFT"=some (.int (40) t)
 FX:∃t,mg "RIGHT"=some (.int (41) t)
 um:∃t,mg "STAR"=some (.int (42) t)
 Xz:∃t,mg "COMMA"=some (.int (44) t)
 rT:∃t,mg "DASH"=some (.int (45) t)
 FY:∃t,mg "ZERO"=some (.int (48) t)
 XA:∃t,mg "NINE"=some (.int (57) t)
 XB:∃t,mg "SEMICOLON"=some (.int (59) t)
 XC:∃t,mg "SMALL_A"=some (.int (97) t)
 NS:∃t,mg "SMALL_O"=some (.int (111) t)
 XD:∃t,mg "SMALL_Z"=some (.int (122) t)
 wG:∃t,mg "BAR"=some (.int (124) t)
 Aa:∃t,mg "TILDE"=some (.int (126) t)
 XE:∃t,mg "PLAIN"=some (.int (0) t)
 XF:∃t,mg "TURNED"=some (.int (1) t)
 wI:∃t,mg "TENSOR"=some (.int (2) t)
 Ab:∃t,mg "PAR"=some (.int (3) t)
 XG:mg "DUAL_KINDS"=some (.ref A.L0)
 XH:∀H:Hp,bx K H A.L0 [.int (1), .int (0), .int (3), .int (2)]
 XI:∃t,mg "MOST_ATOMS"=some (.int (60) t)
 XJ:∃t,mg "MOST_DEPTH"=some (.int (40) t)
 XM:∃t,mg "MOST_BYTES"=some (.int (2000) t)
 XN:∃t,mg "MOST_NAME_BYTES"=some (.int (12) t)
 XO:∃t,mg "MOST_PENDING"=some (.int (100) t)
 XQ:∃t,mg "MOST_FORMULAS"=some (.int (20) t)
 XR:∃t,mg "MOST_LEAVES"=some (.int (120) t)
 XS:∃t,mg "NO_TEXT"=some (.int (-1) t)
 XT:∃t,mg "NO_PAIRS"=some (.int (-3) t)
 XU:∃t,mg "TOO_MANY_LEAVES"=some (.int (-5) t)
 XW:∃t,mg "OUT_OF_BOUNDS"=some (.int (-6) t)
 NT:∃t,mg "MOST_JUNCTIONS"=some (.int (8) t)
 XX:∃t,mg "FIRST_TEXT"=some (.str "a, ~a ; ; 0-1" t)
 XY:∃t,mg "SET"=some (.int (0) t)
 XZ:∃t,mg "FORM"=some (.int (1) t)
 X0:∃t,mg "SIZE"=some (.int (2) t)
 X1:∃t,mg "NEXT"=some (.int (3) t)
 X2:∃t,mg "TRIP"=some (.int (4) t)
 X3:∃t,mg "PATH"=some (.int (5) t)
 X4:∃t,mg "TEST"=some (.int (6) t)
 X5:∃t,mg "BAD"=some (.int (7) t)
 X6:∃t,mg "TOKEN"=some (.int (8) t)
 X7:∃t,mg "PLAY"=some (.int (9) t)
 X8:∃t,mg "PLACE"=some (.int (10) t)
 X9:mg "NUMBER_COUNTS"=some (.ref A.FR)
 X_:∀H:Hp,bx K H A.FR [.int (0), .int (0), .int (0), .int (1), .int (1), .int (0), .int (0), .int (0), .int (1), .int (3), .int (1), .int (0)]
 X':mg "ROW_COUNTS"=some (.ref A.FT)
 Ya:∀H:Hp,bx K H A.FT [.int (1), .int (0), .int (0), .int (1), .int (1), .int (1), .int (0), .int (0), .int (1), .int (2), .int (0), .int (0)]
 Yb:∃t,mg "NO_SWITCHING"=some (.int (-1) t)
 uo:∃t,mg "NOT_THERE"=some (.int (-4) t)
 NU:∃t,mg "TOO_MANY_JUNCTIONS"=some (.int (-7) t)
 Yc:∃t,mg "NOT_DUAL"=some (.int (-8) t)
 Yd:mg "Clusters"=some (.ref A.kg)
 Ye:mg "Reading"=some (.ref A.cq)
 Yf:mg "Parts"=some (.ref A.jg)
 FZ:mg "Points"=some (.ref A.bM)
 NV:mg "Token"=some (.ref A.eQ)
 Yg:mg "Call"=some (.ref A.cX)
 Yh:mg "Holder"=some (.ref A.ef)
 F0:mg "is_letter"=some (.ref A.D4)
 NW:mg "is_digit"=some (.ref A.D5)
 wJ:mg "as_bytes"=some (.ref A.D6)
 Ac:mg "split_at"=some (.ref A.D7)
 F2:mg "join_with"=some (.ref A.D8)
 mr:mg "is_junction"=some (.ref A.D9)
 Yi:mg "plain_atom"=some (.ref A.D_)
 NX:mg "compound"=some (.ref A.Ea)
 wK:mg "dual"=some (.ref A.Eb)
 NY:mg "atoms"=some (.ref A.Ec)
 Yj:mg "depth"=some (.ref A.Ed)
 Yk:mg "in_bounds"=some (.ref A.Ee)
 Yl:mg "formula_form"=some (.ref A.Ef)
 Ym:mg "atom_form"=some (.ref A.Eg)
 Yn:mg "junction_form"=some (.ref A.Eh)
 NZ:mg "in_brackets"=some (.ref A.Ei)
 afi:Meth K A.kg "__init__" A.zW
 N0:Meth K A.kg "are_one" A.Ej
 N1:Meth K A.kg "unite" A.Ek
 Yo:Meth K A.kg "cluster_count" A.El
 Yp:mg "draws_together"=some (.ref A.Em)
 Yq:mg "edges"=some (.ref A.Eo)
 Yr:mg "takes_all_pars"=some (.ref A.Ep)
 N2:mg "is_ready"=some (.ref A.Er)
 Ys:mg "read_formula"=some (.ref A.Es)
 Yt:mg "cut_into_tokens"=some (.ref A.Et)
 Yu:mg "token_at"=some (.ref A.Eu)
 N3:mg "is_name_byte"=some (.ref A.Ew)
 Yv:mg "stretch_end"=some (.ref A.Ex)
 Yw:mg "is_name"=some (.ref A.Ey)
 afj:Meth K A.cq "__init__" A.zX
 Yx:Meth K A.cq "take" A.Ez
 Yy:Meth K A.cq "take_for_part" A.EA
 Yz:Meth K A.cq "take_behind_part" A.EB
 YA:Meth K A.cq "take_chain_sign" A.EC
 YB:Meth K A.cq "take_right" A.ED
 F3:Meth K A.cq "begin" A.EE
 uq:Meth K A.cq "innermost" A.EF
 N4:Meth K A.cq "end_part" A.EG
 N5:Meth K A.cq "end_chain" A.EH
 N6:Meth K A.cq "end_formula" A.EI
 YC:Meth K A.cq "whole" A.EJ
 afk:Meth K A.jg "__init__" A.zY
 F4:Meth K A.jg "formulas" A.EK
 N7:Meth K A.jg "leaves" A.EL
 F5:mg "read_parts"=some (.ref A.EM)
 N8:mg "read_sequent"=some (.ref A.EN)
 YD:mg "read_links"=some (.ref A.EO)
 YE:mg "read_pair"=some (.ref A.ER)
 N9:mg "read_number"=some (.ref A.ES)
 N_:mg "without_outer_blanks"=some (.ref A.ET)
 N':mg "parts_refusal"=some (.ref A.EU)
 YF:mg "are_paired"=some (.ref A.EV)
 YG:mg "parts_form"=some (.ref A.EW)
 Oa:mg "sequent_form"=some (.ref A.EX)
 YH:mg "links_form"=some (.ref A.EY)
 YI:mg "atom_at"=some (.ref A.EZ)
 Ob:mg "conclusion_atom_at"=some (.ref A.E7)
 YJ:mg "place_of"=some (.ref A.E8)
 F6:mg "spot_of"=some (.ref A.E9)
 afl:Meth K A.bM "__init__" A.zZ
 YK:Meth K A.bM "lay" A.E_
 YL:Meth K A.bM "add_point" A.E'
 YM:Meth K A.bM "join_cuts" A.Fb
 YN:Meth K A.bM "join_leaves" A.Fc
 F7:Meth K A.bM "leaf_points" A.Fd
 Oc:Meth K A.bM "junction_points" A.Fe
 F8:Meth K A.bM "has_conclusion" A.Ff
 F9:Meth K A.bM "has_passage" A.Fg
 F_:Meth K A.bM "passage_count" A.Fh
 YO:Meth K A.bM "is_switching" A.Fi
 Ga:Meth K A.bM "behind" A.Fj
 YQ:Meth K A.bM "behind_up" A.Fl
 YR:Meth K A.bM "behind_down" A.Fm
 qj:Meth K A.bM "part" A.Fn
 YS:Meth K A.bM "beside" A.Fo
 Ad:Meth K A.bM "trip" A.Fp
 Ae:mg "up"=some (.ref A.Fq)
 Gb:mg "down"=some (.ref A.Fs)
 afm:Meth K A.eQ "__init__" A.z0
 Ge:Meth K A.eQ "go_through" A.Ft
 YT:Meth K A.eQ "cross" A.Fu
 YU:mg "over_cut"=some (.ref A.Fv)
 YV:mg "play"=some (.ref A.Fw)
 YW:mg "all_switchings"=some (.ref A.Fx)
 Od:mg "first_bad_switching"=some (.ref A.Fy)
 YX:mg "is_net"=some (.ref A.Fz)
 YY:mg "answers"=some (.ref A.z5)
 afn:Meth K A.cX "__init__" A.z6
 afo:Meth K A.ef "__init__" A.z7
 YZ:Meth K A.ef "answer" A.FA
 Y0:Meth K A.ef "answer_set" A.FC
 Y1:Meth K A.ef "answer_form" A.FD
 Y2:Meth K A.ef "answer_size" A.FE
 Y3:Meth K A.ef "answer_next" A.FF
 Y4:Meth K A.ef "answer_trip" A.FG
 Y5:Meth K A.ef "answer_path" A.FH
 Gf:Meth K A.ef "travel_refusal" A.FI
 Y6:Meth K A.ef "answer_test" A.FJ
 Y7:Meth K A.ef "answer_bad" A.FK
 Y8:Meth K A.ef "answer_token" A.FL
 Y9:Meth K A.ef "answer_play" A.FN
 Y_:Meth K A.ef "answer_place" A.FO
 Y':Meth K A.ef "answer_draw" A.FP
 Za:mg "all_there"=some (.ref A.FQ)
 Zb:aG K "is_letter" "is_letter" (top 15) A.D4 A.d_is_letter
 Zc:aG K "is_digit" "is_digit" (top 16) A.D5 A.d_is_digit
 Zd:aG K "as_bytes" "as_bytes" (top 17) A.D6 A.d_as_bytes
 Ze:aG K "split_at" "split_at" (top 18) A.D7 A.d_split_at
 Zf:aG K "join_with" "join_with" (top 19) A.D8 A.d_join_with
 Zg:aG K "is_junction" "is_junction" (top 28) A.D9 A.d_is_junction
 Zh:aG K "plain_atom" "plain_atom" (top 29) A.D_ A.d_plain_atom
 Zi:aG K "compound" "compound" (top 30) A.Ea A.d_compound
 Zj:aG K "dual" "dual" (top 31) A.Eb A.d_dual
 Zk:aG K "atoms" "atoms" (top 32) A.Ec A.d_atoms
 Zl:aG K "depth" "depth" (top 33) A.Ed A.d_depth
 Zm:aG K "in_bounds" "in_bounds" (top 34) A.Ee A.d_in_bounds
 Zn:aG K "formula_form" "formula_form" (top 35) A.Ef A.d_formula_form
 Zo:aG K "atom_form" "atom_form" (top 36) A.Eg A.d_atom_form
 Zp:aG K "junction_form" "junction_form" (top 37) A.Eh A.d_junction_form
 Zq:aG K "in_brackets" "in_brackets" (top 38) A.Ei A.d_in_brackets
 Zr:aG K "__init__" "Clusters.__init__" (inClass (top 40) 0) A.zW A.d_Clusters_init
 Zs:aG K "are_one" "Clusters.are_one" (inClass (top 40) 1) A.Ej A.d_Clusters_are_one
 Zt:aG K "unite" "Clusters.unite" (inClass (top 40) 2) A.Ek A.d_Clusters_unite
 Zu:aG K "cluster_count" "Clusters.cluster_count" (inClass (top 40) 3) A.El A.d_Clusters_cluster_count
 Zv:aG K "draws_together" "draws_together" (top 41) A.Em A.d_draws_together
 Zw:aG K "edges" "edges" (top 42) A.Eo A.d_edges
 Zx:aG K "takes_all_pars" "takes_all_pars" (top 43) A.Ep A.d_takes_all_pars
 Zy:aG K "is_ready" "is_ready" (top 44) A.Er A.d_is_ready
 Zz:aG K "read_formula" "read_formula" (top 49) A.Es A.d_read_formula
 ZA:aG K "cut_into_tokens" "cut_into_tokens" (top 50) A.Et A.d_cut_into_tokens
 ZC:aG K "token_at" "token_at" (top 51) A.Eu A.d_token_at
 ZD:aG K "is_name_byte" "is_name_byte" (top 52) A.Ew A.d_is_name_byte
 ZE:aG K "stretch_end" "stretch_end" (top 53) A.Ex A.d_stretch_end
 ZF:aG K "is_name" "is_name" (top 54) A.Ey A.d_is_name
 ZG:aG K "__init__" "Reading.__init__" (inClass (top 55) 0) A.zX A.d_Reading_init
 ZH:aG K "take" "Reading.take" (inClass (top 55) 1) A.Ez A.d_Reading_take
 ZI:aG K "take_for_part" "Reading.take_for_part" (inClass (top 55) 2) A.EA A.d_Reading_take_for_part
 ZJ:aG K "take_behind_part" "Reading.take_behind_part" (inClass (top 55) 3) A.EB A.d_Reading_take_behind_part
 ZK:aG K "take_chain_sign" "Reading.take_chain_sign" (inClass (top 55) 4) A.EC A.d_Reading_take_chain_sign
 ZL:aG K "take_right" "Reading.take_right" (inClass (top 55) 5) A.ED A.d_Reading_take_right
 ZM:aG K "begin" "Reading.begin" (inClass (top 55) 6) A.EE A.d_Reading_begin
 ZN:aG K "innermost" "Reading.innermost" (inClass (top 55) 7) A.EF A.d_Reading_innermost
 ZO:aG K "end_part" "Reading.end_part" (inClass (top 55) 8) A.EG A.d_Reading_end_part
 ZP:aG K "end_chain" "Reading.end_chain" (inClass (top 55) 9) A.EH A.d_Reading_end_chain
 ZQ:aG K "end_formula" "Reading.end_formula" (inClass (top 55) 10) A.EI A.d_Reading_end_formula
 ZR:aG K "whole" "Reading.whole" (inClass (top 55) 11) A.EJ A.d_Reading_whole
 ZS:aG K "__init__" "Parts.__init__" (inClass (top 63) 0) A.zY A.d_Parts_init
 ZT:aG K "formulas" "Parts.formulas" (inClass (top 63) 1) A.EK A.d_Parts_formulas
 ZU:aG K "leaves" "Parts.leaves" (inClass (top 63) 2) A.EL A.d_Parts_leaves
 ZV:aG K "read_parts" "read_parts" (top 64) A.EM A.d_read_parts
 ZW:aG K "read_sequent" "read_sequent" (top 65) A.EN A.d_read_sequent
 ZX:aG K "read_links" "read_links" (top 66) A.EO A.d_read_links
 ZY:aG K "read_pair" "read_pair" (top 67) A.ER A.d_read_pair
 ZZ:aG K "read_number" "read_number" (top 68) A.ES A.d_read_number
 Z0:aG K "without_outer_blanks" "without_outer_blanks" (top 69) A.ET A.d_without_outer_blanks
 Z1:aG K "parts_refusal" "parts_refusal" (top 70) A.EU A.d_parts_refusal
 Z2:aG K "are_paired" "are_paired" (top 71) A.EV A.d_are_paired
 Z3:aG K "parts_form" "parts_form" (top 72) A.EW A.d_parts_form
 Z4:aG K "sequent_form" "sequent_form" (top 73) A.EX A.d_sequent_form
 Z5:aG K "links_form" "links_form" (top 74) A.EY A.d_links_form
 Z6:aG K "atom_at" "atom_at" (top 76) A.EZ A.d_atom_at
 Z7:aG K "conclusion_atom_at" "conclusion_atom_at" (top 77) A.E7 A.d_conclusion_atom_at
 Z8:aG K "place_of" "place_of" (top 78) A.E8 A.d_place_of
 Z9:aG K "spot_of" "spot_of" (top 79) A.E9 A.d_spot_of
 Z_:aG K "__init__" "Points.__init__" (inClass (top 81) 0) A.zZ A.d_Points_init
 Z':aG K "lay" "Points.lay" (inClass (top 81) 1) A.E_ A.d_Points_lay
 aaa:aG K "add_point" "Points.add_point" (inClass (top 81) 2) A.E' A.d_Points_add_point
 aab:aG K "join_cuts" "Points.join_cuts" (inClass (top 81) 3) A.Fb A.d_Points_join_cuts
 aac:aG K "join_leaves" "Points.join_leaves" (inClass (top 81) 4) A.Fc A.d_Points_join_leaves
 aad:aG K "leaf_points" "Points.leaf_points" (inClass (top 81) 5) A.Fd A.d_Points_leaf_points
 aae:aG K "junction_points" "Points.junction_points" (inClass (top 81) 6) A.Fe A.d_Points_junction_points
 aaf:aG K "has_conclusion" "Points.has_conclusion" (inClass (top 81) 7) A.Ff A.d_Points_has_conclusion
 aag:aG K "has_passage" "Points.has_passage" (inClass (top 81) 8) A.Fg A.d_Points_has_passage
 aah:aG K "passage_count" "Points.passage_count" (inClass (top 81) 9) A.Fh A.d_Points_passage_count
 aai:aG K "is_switching" "Points.is_switching" (inClass (top 81) 10) A.Fi A.d_Points_is_switching
 aaj:aG K "behind" "Points.behind" (inClass (top 81) 11) A.Fj A.d_Points_behind
 aak:aG K "behind_up" "Points.behind_up" (inClass (top 81) 12) A.Fl A.d_Points_behind_up
 aal:aG K "behind_down" "Points.behind_down" (inClass (top 81) 13) A.Fm A.d_Points_behind_down
 aam:aG K "part" "Points.part" (inClass (top 81) 14) A.Fn A.d_Points_part
 aan:aG K "beside" "Points.beside" (inClass (top 81) 15) A.Fo A.d_Points_beside
 aao:aG K "trip" "Points.trip" (inClass (top 81) 16) A.Fp A.d_Points_trip
 aap:aG K "up" "up" (top 82) A.Fq A.d_up
 aaq:aG K "down" "down" (top 83) A.Fs A.d_down
 aar:aG K "__init__" "Token.__init__" (inClass (top 85) 0) A.z0 A.d_Token_init
 aas:aG K "go_through" "Token.go_through" (inClass (top 85) 1) A.Ft A.d_Token_go_through
 aat:aG K "cross" "Token.cross" (inClass (top 85) 2) A.Fu A.d_Token_cross
 aau:aG K "over_cut" "over_cut" (top 86) A.Fv A.d_over_cut
 aav:aG K "play" "play" (top 87) A.Fw A.d_play
 aaw:aG K "all_switchings" "all_switchings" (top 90) A.Fx A.d_all_switchings
 aax:aG K "first_bad_switching" "first_bad_switching" (top 91) A.Fy A.d_first_bad_switching
 aay:aG K "is_net" "is_net" (top 92) A.Fz A.d_is_net
 Oe:aG K "answers" "answers" (top 112) A.z5 A.d_answers
 aaz:aG K "__init__" "Call.__init__" (inClass (top 113) 0) A.z6 A.d_Call_init
 aaA:aG K "__init__" "Holder.__init__" (inClass (top 114) 0) A.z7 A.d_Holder_init
 aaB:aG K "answer" "Holder.answer" (inClass (top 114) 1) A.FA A.d_Holder_answer
 aaC:aG K "answer_set" "Holder.answer_set" (inClass (top 114) 2) A.FC A.d_Holder_answer_set
 aaD:aG K "answer_form" "Holder.answer_form" (inClass (top 114) 3) A.FD A.d_Holder_answer_form
 aaE:aG K "answer_size" "Holder.answer_size" (inClass (top 114) 4) A.FE A.d_Holder_answer_size
 aaF:aG K "answer_next" "Holder.answer_next" (inClass (top 114) 5) A.FF A.d_Holder_answer_next
 aaG:aG K "answer_trip" "Holder.answer_trip" (inClass (top 114) 6) A.FG A.d_Holder_answer_trip
 aaH:aG K "answer_path" "Holder.answer_path" (inClass (top 114) 7) A.FH A.d_Holder_answer_path
 aaI:aG K "travel_refusal" "Holder.travel_refusal" (inClass (top 114) 8) A.FI A.d_Holder_travel_refusal
 aaJ:aG K "answer_test" "Holder.answer_test" (inClass (top 114) 9) A.FJ A.d_Holder_answer_test
 aaK:aG K "answer_bad" "Holder.answer_bad" (inClass (top 114) 10) A.FK A.d_Holder_answer_bad
 aaL:aG K "answer_token" "Holder.answer_token" (inClass (top 114) 11) A.FL A.d_Holder_answer_token
 aaM:aG K "answer_play" "Holder.answer_play" (inClass (top 114) 12) A.FN A.d_Holder_answer_play
 aaN:aG K "answer_place" "Holder.answer_place" (inClass (top 114) 13) A.FO A.d_Holder_answer_place
 aaO:aG K "answer_draw" "Holder.answer_draw" (inClass (top 114) 14) A.FP A.d_Holder_answer_draw
 aaP:aG K "all_there" "all_there" (top 115) A.FQ A.d_all_there
 kh:gf K A.kg
 aaQ:Mk K A.kg A.zW
 qk:dv K A.kg "labels"
 bW:gf K A.cq
 aaR:Mk K A.cq A.zX
 ki:dv K A.cq "formula"
 nF:dv K A.cq "pending"
 ql:dv K A.cq "failed"
 gN:gf K A.jg
 aaS:Mk K A.jg A.zY
 uu:dv K A.jg "conclusions"
 Gg:dv K A.jg "cuts"
 Af:dv K A.jg "links"
 aE:gf K A.bM
 Gh:Mk K A.bM A.zZ
 kj:dv K A.bM "nodes"
 uv:dv K A.bM "owners"
 qm:dv K A.bM "below"
 wL:dv K A.bM "sides"
 Ag:dv K A.bM "seconds"
 wM:dv K A.bM "switches"
 oV:dv K A.bM "partners"
 oW:dv K A.bM "turns"
 qo:dv K A.bM "junction_count"
 Gi:dv K A.bM "conclusion_count"
 oX:dv K A.bM "roots"
 dX:gf K A.eQ
 Of:Mk K A.eQ A.z0
 mv:dv K A.eQ "point"
 Gj:dv K A.eQ "cut_count"
 nG:dv K A.eQ "board"
 Gk:dv K A.eQ "crossing_count"
 e_:gf K A.cX
 aaT:Mk K A.cX A.z6
 Ah:dv K A.cX "kind"
 uw:dv K A.cX "end"
 ux:dv K A.cX "numbers"
 oY:dv K A.cX "rows"
 cy:gf K A.ef
 aaU:Mk K A.ef A.z7
 wN:dv K A.ef "parts"
 fk:dv K A.ef "points"
section
variable{P:Mb}{w:L9}{K:FU}{mg:Str->Option cp}{base:Heap}{A:aF}
theorem oZ{σ:L2.St}{H:Hp}{T F:Hp->Prop}(h:T H):Ld σ H (λb H3=>if b=true then T H3 else F H3):=by show(if true=true then T H else F H);rw[aI U];exact h
theorem Ai(a b:UInt8):decide (a<=b)=decide ((a.toNat:Int)<=(b.toNat:Int)):=by
 have:(a<=b)↔((a.toNat:Int)<=(b.toNat:Int)):=by rw[UInt8.le_iff_toNat_le];lia
 exact decide_eq_decide.mpr this
theorem Og(b:UInt8):MW b=(decide ((97:Int)<=(b.toNat:Int))&&decide ((b.toNat:Int)<=122)):=by unfold MW;rw[Ai,Ai];rfl
theorem digit_eq(b:UInt8):MX b=(decide ((48:Int)<=(b.toNat:Int))&&decide ((b.toNat:Int)<=57)):=by unfold MX;rw[Ai,Ai];rfl
theorem Oh{a b:UInt8}(h:bI a=bI b):a=b:=by
 have h:(a.toNat:Int)=(b.toNat:Int):=by injection h
 exact UInt8.toNat_inj.mp (by lia)
inductive Oi(vs:List V)(H:Hp)(Q:VK)(E:XK):Prop
 |mk (b:UInt8):vs=[bI b]->Q (.bl (MW b)) H->Oi vs H Q E
theorem Gm(T:Txt K mg A):Gd P w K mg base 1 A.D4 A.d_is_letter ["byte"] Oi:=by
 refine T.Zb.go (N:=["byte"]) ?_;rintro aC A' outer s H vs Q E hr nd ⟨b,rfl,k⟩;refine⟨_,(ag (aB (zl j7 j7 (aW T.XC) (pv 0) (aW T.XD)))),?_⟩
 try dsimp only[A9]
 refine⟨_,U,_,_,U,U,_,U,b9 (λh=>?_) (λh=>?_)⟩
 .refine⟨_,_,U,U,?_⟩
  rw[Og,h]at k;exact k
 .rw[Og,uV.mpr h]at k
  exact k
inductive Gn(vs:List V)(H:Hp)(Q:VK)(E:XK):Prop
 |mk (b:UInt8):vs=[bI b]->Q (.bl (MX b)) H->Gn vs H Q E
theorem Oj(T:Txt K mg A):Gd P w K mg base 1 A.D5 A.d_is_digit ["byte"] Gn:=by
 refine T.Zc.go (N:=["byte"]) ?_;rintro aC A' outer s H vs Q E hr nd ⟨b,rfl,k⟩;refine⟨_,(ag (aB (zl j7 j7 (aW T.FY) (pv 0) (aW T.XA)))),?_⟩
 try dsimp only[A9]
 refine⟨_,U,_,_,U,U,_,U,b9 (λh=>?_) (λh=>?_)⟩
 .refine⟨_,_,U,U,?_⟩
  rw[digit_eq,h]at k;exact k
 .rw[digit_eq,uV.mpr h]at k
  exact k
noncomputable def codes(x:Str):List V:=x.cps.toList.map λ(c:Nat)=>V.int (c:Int)
inductive Ol(vs:List V)(H:Hp)(Q:VK)(E:XK):Prop
 |mk (x:Str):vs=[.str x]->x.cps.size<=1000->(∀H' a,aa H H'->H a=none->H' a=some (.lst (codes x))->Q (.ref a) H')->Ol vs H Q E
theorem wO(T:Txt K mg A):Gd P w K mg base 1 A.D6 A.d_as_bytes ["text"] Ol:=by
 refine T.Zd.go (N:=["text","sign"]) ?_;rintro aC A' outer s H vs Q E hr nd ⟨x,rfl,hx,k⟩;refine⟨_,(ag (aB (ml U nd (WC (pv 0)) (jF (own:=[("sign",1)]) (by show iT ["text","sign"] (d5 (top 17)) _ _=true;decide+kernel)) (λ_ _ _ _ _=>(cx 1 nd)) (λ_ _ _ _ _=>oP) (λ_ _ _ _ _=>(pY Vg (by rfl) T.Xw Xj (aj (pv 1))))))),?_⟩
 try dsimp only[A9]
 refine⟨_,U,x,U,λD hD=>?_⟩;refine⟨λi m H'=>m=x.cps.size-i/\ i<=x.cps.size/\ H'=upd H D (.lst ((codes x).take i)),⟨_,U,bL _,by simp⟩,?_⟩;rintro i m H' ⟨rfl,hi,rfl⟩;have hlen:(codes x).length=x.cps.size:=by simp[codes]
 by_cases aU:i<x.cps.size
 .refine .inr ⟨aU,λH'=>H'=upd H D (.lst ((codes x).take (i+1))),?_,?_⟩
  .rintro H' rfl
   exact⟨x.cps.size-(i+1),by lia,U,aU,U⟩
  .rintro v H' ⟨rfl,c,hc,rfl⟩
   refine⟨U,oZ ?_⟩;refine⟨_,U,_,U,U,_,ae,?_,?_⟩
   .have:((codes x).take i).length<=1000:=by rw[n9];lia
    exact WR this
   .rw[jz]
    congr 2;have e:(codes x)[i]? =some (V.int (c:Int)):=by unfold codes;rw[ft,afN,hc];rfl
    rw[ac8,e];rfl
 .refine .inl ⟨by show x.cps.size<=i;lia,?_⟩
  refine k _ D (aa.new hD) hD ?_;rw[ae,qM (by lia)]
theorem lB{α β:Type}{f:α->β}{l:List α}{i:Nat}{y:β}(h:(l.map f)[i]? =some y):∃x,l[i]? =some x/\ y=f x:=by rw[ft]at h;obtain⟨x,h1,h2⟩:=fq.mp h;exact⟨x,h1,h2.symm⟩
theorem iy{α:Type}{l:List α}{i:Nat}{x:α}(h:l[i]? =some x):l.take (i+1)=l.take i++[x]:=by rw[ac8,h];rfl
theorem dm{α:Type}{l:List α}{i:Nat}{x:α}(h:l[i]? =some x):i<l.length:=(da.mp h).1
inductive Om(vs:List V)(H:Hp)(Q:VK)(E:XK):Prop
 |mk (P:Addr->Prop) (v:V) (t:Text) (b:UInt8):vs=[v,bI b]->bG H v t->t.length<=4000->Hid P H->(∀v' H',aa H H'->cS bG (Wo P H') v' (Mt b t)->Q v' H')->Om vs H Q E
theorem Aj(T:Txt K mg A):Gd P w K mg base 1 A.D7 A.d_split_at ["text","sign"] Om:=by
 refine T.Ze.go (N:=["text","sign","parts","begin","at","byte"]) ?_;rintro aC A' outer s H vs Q E hr nd ⟨P,v,t,b,rfl,⟨a,rfl,ha⟩,hlen,hP,k⟩;refine⟨_,(af (aN 2 nd (aS bY))
  (af (aN 3 nd ak)
  (af (eZ PassesOwn.never U (zI (by rfl) T.z8 (aj (pv 0))) (C4 U (kZ (cx 4 nd) (kZ (cx 5 nd) tW))) (ag (a9 (aR cj (pv 5) (pv 1)) (af (bF (dD (pv 2) (oJ oK (pv 0) (je (pv 3)) (je (pv 4)))))
  (ag (aN 3 nd (b_ jd (pv 4) ak)))) bt)))
  (af (bF (dD (pv 2) (oJ oK (pv 0) (je (pv 3)) Dj)))
  (ag (aB (pv 2))))))),?_⟩
 try dsimp only[A9]
 refine⟨bL _,λl hl=>?_⟩;have s0:aa H (upd H l (.lst [])):=aa.new hl;have Gp:¬P l:=hP.not hl;have nal:a≠l:=bS ha hl;refine⟨_,U,a,_,U,ab.of (s0 _ _ ha),LS 4 5 (λi σ H'=>E5 λ(bg:Nat) (u w:Option V) (ps:List Text) (vs:List V)=>A8 (σ=[some (.ref a),some (bI b),some (.ref l),some (.int (bg:Int)),u,w]) (aa H H') (Hid (aL P l) H') (H' l=some (.lst vs)) (Paired (bG (Wo (aL P l) H')) vs ps) (bg<=i) (vs.length<=i) (Mt b (t.take i)=ps++[(t.take i).drop bg]))
  ⟨0,none,none,[],[],U,s0,(hP.mono s0).lq ae,ae, .nil,a_ _,a_ _,U⟩ (λi σ H' _ ⟨_,_,_,_,_,_,sm,_,_,_,_,_,_⟩=>ab.of (sm _ _ ha)) ?_ ?_⟩
 .rintro i x σ H' T hx ⟨bg,u,w,ps,vs,rfl,sm,aH,hv,hp,hb,gk,hc⟩ hT
  obtain⟨c,mw,rfl⟩:=lB hx;have hi:=dm mw;have s1:aa H' (upd H' T (.tup [.int (i:Int),bI c])):=aa.new hT;refine⟨_,U,_,U,U,_,U,b9 (λh=>?_) (λh=>?_)⟩
  .have gY:c=b:=Oh (dJ h)
   subst gY;refine⟨_,U, .inl ⟨U,_,ab.of (s1 _ _ hv)⟩,_,U,_,U,_,U,_,U,_,U,a,_,U,ab.of (s1 _ _ (sm _ _ ha)),λp km=>⟨l,_,_,U,U,(aa.new km) _ _ (s1 _ _ hv),dk (by lia),?_⟩⟩;have s2:aa (upd H' T (.tup [.int (i:Int),bI c])) (upd (upd H' T (.tup [.int (i:Int),bI c])) p (.lst (fU (t.map bI) (some (bg:Int)) (some (i:Int))))):=aa.new km;have s3:=s1.trans s2;have bK:¬aL P l p:=(aH.mono s1).not km;refine⟨_,U,_,_,U,U,i+1,_,_,ps++[(t.take i).drop bg],vs++[.ref p],U,c5 (sm.trans s3) hl,(aH.mono s3).upd,ae,?_,a_ _,by simp;lia,?_⟩
   .rw[dP (.inr U)]
    refine kf (bO (λ_ _ r=>bG.mono _ _ _ _ (bV s3) r) hp) ⟨p,U,?_⟩;rw[cR bK,ae,uj _ hb (by simp;lia),<-pC,<-qO,List.drop_take]
   .rw[iy mw,vj c c _ _ _ hc,aI U]
    congr 2;rw[afe (by simp;lia)]
  .have gY:¬c=b:=λe=>h (bb (by rw[e]))
   refine⟨bg,_,_,ps,vs,U,sm.trans s1,aH.mono s1,s1 _ _ hv,bO (λ_ _ r=>bG.mono _ _ _ _ (bV s1) r) hp,by lia,by lia,?_⟩;rw[iy mw,vj b c _ _ _ hc,ay gY,List.drop_append_of_le_length (by simp;lia)]
 .rintro σ H' ⟨bg,u,w,ps,vs,rfl,sm,aH,hv,hp,hb,gk,hc⟩
  rw[aX]at hb gk hc;rw[lH]at hc;refine⟨_,U, .inl ⟨U,_,ab.of hv⟩,_,U,_,U,_,U,a,_,U,ab.of (sm _ _ ha),λp km=>⟨l,_,_,U,U,(aa.new km) _ _ hv,dk (by lia),?_⟩⟩;have s2:aa H' (upd H' p (.lst (fU (t.map bI) (some (bg:Int)) none))):=aa.new km;have bK:¬aL P l p:=aH.not km;refine⟨_,U,k _ _ (c5 (sm.trans s2) hl) ⟨l,vs++[.ref p],U,by rw[cR Gp];exact ae,?_⟩⟩;rw[hc];refine bO (λ_ _ r=>bG.mono _ _ _ _ ?_ r) (kf (bO (λ_ _ r=>bG.mono _ _ _ _ (bV (P:=aL P l) s2) r) hp) ⟨p,U,?_⟩)
  .rw[<-dP (P:=aL P l) (l:=l) (o:= .lst (vs++[.ref p])) (.inr U)]
   exact zT λb hb=> .inl hb
  .rw[cR bK,ae,LX _ (by simp;lia),pC]
inductive Oo(vs:List V)(H:Hp)(Q:VK)(E:XK):Prop
 |mk (u v:V) (sep:Text) (ts:List Text):vs=[u,v]->bG H u sep->cS bG H v ts->ts.length*(sep.length+1)+(ts.map List.length).sum<=1000000->(∀a H',aa H H'->H a=none->H' a=some (.lst ((df sep ts).map bI))->Q (.ref a) H')->Oo vs H Q E
theorem uy(sep:Text):∀ts:List Text,(df sep ts).length<=ts.length*(sep.length+1)+(ts.map List.length).sum
 |[]|[x]=>by simp[df]
 |x::y::r=>by
  have:=uy sep (y::r);simp only[df,cP,bj,ez,BA]at this⊢;have e:(r.length+1+1)*(sep.length+1)=(r.length+1)*(sep.length+1)+(sep.length+1):=by rw[adg];lia
  lia
theorem aaV{l:List Nat}(i:Nat):(l.take i).sum<=l.sum:=by
 conv=>rhs;rw[<-u5 i l,List.sum_append]
 lia
theorem Oq(sep:Text)(ts:List Text)(i:Nat)(h:ts.length*(sep.length+1)+(ts.map List.length).sum<=1000000):(df sep (ts.take i)).length<=1000000:=by have h1:=uy sep (ts.take i);have h2:=aaV (l:=ts.map List.length) i;rw[<-qO]at h2;have h3:(ts.take i).length*(sep.length+1)<=ts.length*(sep.length+1):=adh _ (by simp;lia);lia
theorem Gq(T:Txt K mg A):Gd P w K mg base 1 A.D8 A.d_join_with ["separator","texts"] Oo:=by
 refine T.Zf.go (N:=["separator","texts","joined","at","text"]) ?_;rintro aC A' outer s H vs Q E hr nd ⟨u,v,sep,ts,rfl,⟨a,rfl,ha⟩,⟨c,xs,rfl,hc,cg⟩,hlen,k⟩;refine⟨_,(af (aN 2 nd (aS bY))
  (af (eZ PassesOwn.never U (zI (by rfl) T.z8 (aj (pv 1))) (C4 U (kZ (cx 3 nd) (kZ (cx 4 nd) tW))) (af (a9 (aR rK (pv 3) ak) (ag (bF (wc MM acz acJ zx (pv 2) (aj (pv 0))))) bt)
  (ag (bF (wc MM acz acJ zx (pv 2) (aj (pv 4)))))))
  (ag (aB (pv 2))))),?_⟩
 try dsimp only[A9]
 refine⟨bL _,λl hl=>?_⟩;have s0:aa H (upd H l (.lst [])):=aa.new hl;have jh:=ck cg;refine⟨_,U,c,_,U,ab.of (s0 _ _ hc),LS 3 4 (λi σ H'=>E2 λ(u w:Option V)=>A3 (σ=[some (.ref a),some (.ref c),some (.ref l),u,w]) (aa H H') (H' l=some (.lst ((df sep (ts.take i)).map bI))))
  ⟨none,none,U,s0,by rw[afg];exact ae⟩ (λi σ H' _ ⟨_,_,_,sm,_⟩=>ab.of (sm _ _ hc)) ?_ ?_⟩
 .rintro i x σ H' T hx ⟨u,w,rfl,sm,hv⟩ hT
  obtain⟨y,hy,z,rfl,hz⟩:=fB cg hx;have s1:aa H' (upd H' T (.tup [.int (i:Int), .ref z])):=aa.new hT;have b0:=Oq sep ts i hlen;have b1:=Oq sep ts (i+1) hlen;have ej:df sep (ts.take (i+1))=if ts.take i=[]then y else df sep (ts.take i)++sep++y:=by rw[iy hy,Im]
  have hi:=dm hy;refine⟨_,U,_,_,U,U,_,U,b9 (λh=>?_) (λh=>?_)⟩
  .have hp:0<i:=by have:=dJ h;lia
   have ne:ts.take i≠ []:=by
    intro e;rcases List.take_eq_nil_iff.mp e with e|e
    .lia
    .rw[e]at hi;simp at hi
   rw[ay ne]at ej;rw[ej,cP,cP]at b1;refine⟨_,U, .inl ⟨U,_,ab.of (s1 _ _ hv)⟩,_,U,l,a,_,_,U,U,s1 _ _ hv,s1 _ _ (sm _ _ ha),fC (by simp;lia),?_⟩;have mj:=s1 _ _ (sm _ _ hz);rw[<-aD (H:=upd H' T _) (o:= .lst ((df sep (ts.take i)).map bI++sep.map bI)) (bS hz hl)]at mj;refine⟨_,U, .inl ⟨U,_,ab.of ae⟩,_,U,l,z,_,_,U,U,ae,mj,fC (by simp;lia),?_⟩;refine⟨_,_,U,c5 (c5 (sm.trans s1) hl) hl,?_⟩;rw[ae,ej];simp
  .have hp:i=0:=by
    have:¬(0:Int)<(i:Int):=λc=>h (bb c);lia
   subst hp;rw[aI (by simp)]at ej;rw[ej]at b1;refine⟨_,U, .inl ⟨U,_,ab.of (s1 _ _ hv)⟩,_,U,l,z,_,_,U,U,s1 _ _ hv,s1 _ _ (sm _ _ hz),fC (by simp[df];exact b1),?_⟩;refine⟨_,_,U,c5 (sm.trans s1) hl,?_⟩;rw[ae,ej];simp[df]
 .rintro σ H' ⟨u,w,rfl,sm,hv⟩
  refine⟨_,U,k l H' sm hl ?_⟩;rw[hv,qM (by lia)]
theorem gm:(2:Nat)<=sizeLine:=by decide
theorem cu:(1:Nat)<=sizeLine:=by decide
theorem wQ:(3:Nat)<=sizeLine:=by decide
theorem o5{a b:Int}(h:V.int a=V.int b):a=b:=by injection h
theorem uz(a b:Int):decide (V.int a=V.int b)=decide (a=b):=decide_eq_decide.mpr ⟨o5,λh=>h▸rfl⟩
theorem jH(a b:Nat):decide (V.int (a:Int)=V.int (b:Int))=decide (a=b):=by rw[uz];exact decide_eq_decide.mpr (by lia)
inductive Ot(vs:List V)(H:Hp)(Q:VK)(E:XK):Prop
 |mk (a:Addr) (k:Nat) (u:V):vs=[.ref a]->H a=some (.tup [.int (k:Int),u])->Q (.bl (decide (k=2)||decide (k=3))) H->Ot vs H Q E
theorem mx(T:Txt K mg A):Gd P w K mg base 1 A.D9 A.d_is_junction ["node"] Ot:=by
 refine T.Zg.go (N:=["node"]) ?_;rintro aC A' outer s H vs Q E hr nd ⟨a,k,u,rfl,ha,q⟩;refine⟨_,(ag (aB (Ke (lu cj (cW (pv 0) ak) (aW T.wI)) (rB (lu cj (cW (pv 0) ak) (aW T.Ab)))))),?_⟩
 try dsimp only[A9]
 refine⟨_,U,_,_,_,_,U,U,bx.of ha,bT,U,_,U,b9 (λh=>?_) (λh=>?_)⟩
 .have e:k=2:=by have:=o5 (dJ h);lia
  subst e;exact q
 .have e:¬k=2:=λc=>h (bb (by rw[c];rfl))
  refine⟨_,U,_,_,_,_,U,U,bx.of ha,bT,U,?_⟩;rw[cO e,xT]at q;rw[show(3:Int)=((3:Nat):Int)from rfl,jH];exact q
theorem nH{x:Node}(h:x.1<4):(decide (x.1=2)||decide (x.1=3))=bR x:=by
 unfold bR;by_cases c:2<=x.1
 .rw[bb c]
  by_cases d:x.1=2
  .simp[d]
  .have:x.1=3:=by lia
   simp[this]
 .rw[cO c,cO (by lia),cO (by lia)];rfl
inductive Ou(vs:List V)(H:Hp)(Q:VK)(E:XK):Prop
 |mk (P:Addr->Prop) (v:V) (t:Text):vs=[v]->bG H v t->Hid P H->(∀v' H',aa H H'->cT (Wo P H') v' [(0,t)]->Q v' H')->Ou vs H Q E
theorem aaW(T:Txt K mg A):Gd P w K mg base 1 A.D_ A.d_plain_atom ["name"] Ou:=by
 refine T.Zh.go (N:=["name"]) ?_;rintro aC A' outer s H vs Q E hr nd ⟨P,v,t,rfl,⟨a,rfl,ha⟩,hP,q⟩;refine⟨_,(ag (aB (aS (aj (gh (aZ (aW T.XE) (oI VR (by rfl) T.Xy Xl (aj (pv 0))))))))),?_⟩
 try dsimp only[A9]
 refine⟨_,U,a,_,U, .inl ⟨ab.of ha,λp hp=>⟨gm,λn hn=>⟨cu,λl hl=>?_⟩⟩⟩⟩;have s1:=aa.new (o:= .tup (t.map bI)) hp;have s2:=aa.new (o:= .tup [.int 0, .ref p]) hn;have s3:=aa.new (o:= .lst [.ref n]) hl;have P1:=hP.mono s1;have P2:=P1.mono s2;refine q _ _ ((s1.trans s2).trans s3) ⟨l,_,U,e9 P2 hl,qd ⟨n, .ref p,U,bV s3 _ _ (e9 P1 hn),p,U,bV (s2.trans s3) _ _ (e9 hP hp)⟩⟩
inductive Gr(vs:List V)(H:Hp)(Q:VK)(E:XK):Prop
 |mk (P:Addr->Prop) (k:Nat) (v w:V) (l m:List Node):vs=[.int (k:Int),v,w]->cT (Wo P H) v l->cT (Wo P H) w m->l.length+m.length<=100000->Hid P H->(∀v' H',aa H H'->cT (Wo P H') v' ((k,[])::(l++m))->Q v' H')->Gr vs H Q E
theorem Ov(T:Txt K mg A):Gd P w K mg base 1 A.Ea A.d_compound ["kind","first","second"] Gr:=by
 refine T.Zi.go (N:=["kind","first","second"]) ?_;rintro aC A' outer s H vs Q E hr nd ⟨P,k,v,w,l,m,rfl,⟨a,xs,rfl,ha,cg⟩,⟨b,ys,rfl,hb,lC⟩,hlen,hP,q⟩;refine⟨_,(ag (aB (b_ gz (b_ gz (aS (aj (gh (aZ (pv 0) (gh bY))))) (pv 1)) (pv 2)))),?_⟩
 try dsimp only[A9]
 have l1:=ck cg;have l2:=ck lC;refine⟨_,U,bL _,λe he=>⟨gm,λn hn=>⟨cu,λc hc=>?_⟩⟩⟩;have s1:=aa.new (o:= .tup []) he;have s2:=aa.new (o:= .tup [.int (k:Int), .ref e]) hn;have s3:=aa.new (o:= .lst [.ref n]) hc;have P1:=hP.mono s1;have P2:=P1.mono s2;have P3:=P2.mono s3;have cU:=(s1.trans s2).trans s3;refine⟨_,U,c,a,_,_,U,U,ae,cU _ _ (bB _ _ _ _ ha),fC (by simp;lia),λp hp=>?_⟩;have s4:=aa.new (o:= .lst ([.ref n]++xs)) hp;have P4:=P3.mono s4;refine⟨_,U,p,b,_,_,U,U,ae,(cU.trans s4) _ _ (bB _ _ _ _ hb),fC (by simp;lia),λr hr=>?_⟩;have s5:=aa.new (o:= .lst (([.ref n]++xs)++ys)) hr;have wR:=(cU.trans s4).trans s5;have up:∀(z:V) (x:Node),bZ (Wo P H) z x->bZ (Wo P (upd _ r (.lst (([.ref n]++xs)++ys)))) z x:=λz x h=>bZ.mono _ _ _ _ (bV wR) h;refine q _ _ wR ⟨r,_,U,e9 P4 hr,?_⟩;refine qc (a:=[.ref n]++xs) (b:=(k,[])::l) (.cons ⟨n, .ref e,U,bV ((s3.trans s4).trans s5) _ _ (e9 P1 hn),e,U,bV ((s2.trans s3).trans (s4.trans s5)) _ _ (e9 hP he)⟩ (bO up cg)) (bO up lC)
theorem aaX{k:Nat}(h:k<4):gi [V.int 1,V.int 0,V.int 3,V.int 2] (k:Int)=some (.int (yj k:Int)):=by
 match k,h with
 |0,_=>exact bH (j:=0) U
 |1,_=>exact bH (j:=1) U
 |2,_=>exact bH (j:=2) U
 |3,_=>exact bH (j:=3) U
inductive Ow(vs:List V)(H:Hp)(Q:VK)(E:XK):Prop
 |mk (P:Addr->Prop) (v:V) (l:List Node):vs=[v]->cT (Wo P H) v l->(∀x∈l,x.1<4)->l.length<=100000->Hid P H->(∀v' H',aa H H'->cT (Wo P H') v' (l.map qS)->Q v' H')->Ow vs H Q E
theorem wU(T:Txt K mg A):Gd P w K mg base 1 A.Eb A.d_dual ["formula"] Ow:=by
 refine T.Zj.go (N:=["formula","node"]) ?_;rintro aC A' outer s H vs Q E hr nd ⟨P,v,l,rfl,⟨a,xs,rfl,ha,cg⟩,hk,hlen,hP,q⟩;refine⟨_,(ag (aB (ml U nd (eE (pv 0)) (jF (own:=[("node",1)]) (by show iT ["formula","node"] (d5 (top 31)) _ _=true;decide+kernel)) (λ_ _ _ _ _=>(cx 1 nd)) (λ_ _ _ _ _=>oP) (λ_ _ _ _ _=>(gh (aZ (uk (K:=K) U (D3 T.XG) (uk (K:=K) U (pv 1) ak)) (uk (K:=K) U (pv 1) ak))))))),?_⟩
 try dsimp only[A9]
 have hl:=ck cg;have gM:=bB _ _ _ _ ha;refine⟨_,U,a,U,⟨_,ab.of gM⟩,λD hD=>oU P bZ bZ.mono l (λx=>some (qS x)) hD hP (by lia) (ab.of gM) hl ?_ ?_⟩
 .intro i H1 x y hx hy s aH Ky Kn my hn
  obtain⟨y',k9,r⟩:=fB cg hx;have e:y'=y:=aM (k9.symm.trans hy);subst e;obtain⟨n,u,rfl,nJ,m,rfl,hm⟩:=r;have rV:=s _ _ (bB _ _ _ _ nJ);refine⟨U,oZ ?_⟩;refine⟨_,U,_,_,_,_,U,U,bx.of rV,bT,_,_,_,_,U,U,T.XH _,aaX (hk _ (cN hy)),_,U,_,_,_,_,U,U,bx.of rV,fP,gm,λt ht=>?_⟩;have s1:=aa.new (o:= .tup [.int (yj y'.1:Int), .ref m]) ht;exact my _ _ _ U s1 ⟨t, .ref m,U,e9 aH ht,m,U,qg hD (s.trans s1) _ _ hm⟩
 .intro H1 acc s cH aH hp
  refine q _ _ s ⟨D,acc,U,?_,?_⟩
  .rw[cR (hP.not hD)];exact cH
  .rw[uY]at hp
   exact bO (λ_ _ r=>bZ.mono _ _ _ _ qh r) hp
inductive Ox(vs:List V)(H:Hp)(Q:VK)(E:XK):Prop
 |mk (P:Addr->Prop) (v:V) (l:List Node):vs=[v]->cT (Wo P H) v l->(∀x∈l,x.1<4)->l.length<=100000->Hid P H->(∀v' H',aa H H'->cT (Wo P H') v' (l.filter λx=> !bR x)->Q v' H')->Ox vs H Q E
theorem Oy(T:Txt K mg A):Gd P w K mg base 2 A.Ec A.d_atoms ["formula"] Ox:=by
 refine T.Zk.go (N:=["formula","node"]) ?_;rintro aC A' outer s H vs Q E hr nd ⟨P,v,l,rfl,⟨a,xs,rfl,ha,cg⟩,hk,hlen,hP,q⟩;refine⟨_,(ag (aB (ml U nd (eE (pv 0)) (jF (own:=[("node",1)]) (by show iT ["formula","node"] (d5 (top 32)) _ _=true;decide+kernel)) (λ_ _ _ _ _=>(cx 1 nd)) (λ_ _ _ _ _=>(wj (ij (dC (aP hr (mx T) T.mr (aj (pv 1))))))) (λ_ _ _ _ _=>(pv 1))))),?_⟩
 try dsimp only[A9]
 have hl:=ck cg;have gM:=bB _ _ _ _ ha;refine⟨_,U,a,U,⟨_,ab.of gM⟩,λD hD=>oU P bZ bZ.mono l (λx=>if !bR x then some x else none) hD hP (by lia) (ab.of gM) hl ?_ ?_⟩
 .intro i H1 x y hx hy s aH Ky Kn my hn
  obtain⟨y',k9,r⟩:=fB cg hx;have e:y'=y:=aM (k9.symm.trans hy);subst e;have gO:=hk _ (cN hy);have r2:=r;obtain⟨n,u,rfl,nJ,m,rfl,hm⟩:=r;refine⟨U,_,U,n,_,_,U,s _ _ (bB _ _ _ _ nJ),_,U,?_⟩;rw[nH gO];cases hj:bR y' with
  |true=>exact hn _ (by rw[hj];rfl) (aa.refl _)
  |false=>exact⟨_,U,my _ _ _ (by rw[hj];rfl) (aa.refl _) (bZ.mono _ _ _ _ (qg hD s) r2)⟩
 .intro H1 acc s cH aH hp
  refine q _ _ s ⟨D,acc,U,?_,?_⟩
  .rw[cR (hP.not hD)];exact cH
  .have e:l.filterMap (λx=>if !bR x then some x else none)=l.filter λx=> !bR x:=by
    rw[<-List.filterMap_eq_filter];rfl
   rw[e]at hp;exact bO (λ_ _ r=>bZ.mono _ _ _ _ qh r) hp
noncomputable def uA(l:List Nat):List V:=l.reverse.map λ(n:Nat)=>V.int (n:Int)
theorem o7{α:Type}(l:List α)(x:α):(l++[x])[(l++[x]).length-1]? =some x:=by simp
theorem Ak(a:Nat)(l:List Nat):uA (a::l)=uA l++[V.int (a:Int)]:=by unfold uA;simp
theorem aaY(a b:Nat):(if(b:Int)>(a:Int)then(b:Int)else(a:Int))=((max a b:Nat):Int):=by
 by_cases h:b>a
 .rw[aI (by lia)];lia
 .rw[ay (by lia)];lia
inductive Oz(vs:List V)(H:Hp)(Q:VK)(E:XK):Prop
 |mk (v:V) (F:Formula):vs=[v]->dj H v F->nodes F<=100000->(∀H',aa H H'->Q (.int (abC F:Int)) H')->Oz vs H Q E
theorem aaZ(T:Txt K mg A):Gd P w K mg base 2 A.Ed A.d_depth ["formula"] Oz:=by
 refine T.Zl.go (N:=["formula","depths","node","first","second"]) ?_;rintro aC A' outer s H vs Q E hr nd ⟨v,F,rfl,⟨hF,a,xs,rfl,ha,cg⟩,hlen,q⟩;refine⟨_,(af (aN 1 nd (aS bY))
  (af (eZ PassesOwn.never U (Lu (by rfl) T.FW (aj (pv 0))) (cx 2 nd) (ag (a9 (dC (aP hr (mx T) T.mr (aj (pv 2)))) (af (aN 3 nd (oM MM Ng Nh oN (pv 1)))
  (af (aN 4 nd (oM MM Ng Nh oN (pv 1)))
  (ag (bF (dD (pv 1) (b_ jd ak (pY (Vf U) (by rfl) T.Xv Xk (aZ (pv 3) (pv 4))))))))) (ag (bF (dD (pv 1) ak))))))
  (ag (aB (aT (pv 1) ak))))),?_⟩
 try dsimp only[A9]
 have hl:=ck cg;have hn:=bJ F;refine⟨bL _,λl dY=>?_⟩;have s0:aa H (upd H l (.lst [])):=aa.new dY;refine⟨_,U,a,xs,U,ab.of (s0 _ _ ha),LU (λi σ H'=>E3 λ(u v w:Option V)=>A3 (σ=[some (.ref a),some (.ref l),u,v,w]) (aa H H') (H' l=some (.lst (uA (((enc F).drop ((enc F).length-i)).foldr m4 [])))))
  ⟨none,none,none,U,s0,by rw[jQ,mY];exact ae⟩ (λi σ H' _ ⟨_,_,_,_,sm,_⟩=>ab.of (sm _ _ ha)) ?_ ?_⟩
 .rintro i x σ H' hx ⟨u,v,w,rfl,sm,hv⟩
  obtain⟨y,hy,r⟩:=fB (DW cg) hx;obtain⟨hd,k,hk,hj⟩:=JT hF hy;have cD:=JR _ _ hk;have gO:=jt F hF y (BF.mp (cN hy));have hi:i<nodes F:=by have:=dm hy;simpa [hn]using this
  have hkb:k<=nodes F:=by have:=CN _ _ hk;rw[jq]at this;lia
  obtain⟨n,u',rfl,nJ,_⟩:=r;refine⟨_,U,n,_,_,U,sm _ _ nJ,_,U,?_⟩;rw[nH gO,hd,n_];generalize ((enc F).drop ((enc F).length-i)).foldr m4 []=st at hv cD⊢;cases rW:bR y with
  |false=>refine aA ?_;refine⟨_,U, .inl ⟨U,_,ab.of hv⟩,l,_,_,U,U,hv,dk (by unfold uA;simp;lia),_,_,_,U,c5 sm dY,?_⟩;rw[ae,show m4 y st=1::st by unfold m4;rw[rW];rfl,Ak];rfl
  |true=>
   refine aJ ?_;have h2:=hj rW;match st,cD,hv with
   |a1::b1::q1,cD,hv=>rw[Ak,Ak]at hv;refine⟨_,U, .inl ⟨U,_,ab.of hv⟩,l,_,_,U,U,hv,o7 _ _,?_⟩;rw[pD];refine⟨_,U, .inl ⟨U,_,ab.of ae⟩,l,_,_,U,U,ae,o7 _ _,?_⟩;rw[pD,jz];refine⟨_,U, .inl ⟨U,_,ab.of ae⟩,_,U,_,U,_,_,U,_,_,U,U,l,_,_,U,U,ae,dk (by unfold uA;simp at cD⊢;lia),_,_,_,U,c5 (c5 sm dY) dY,?_⟩;rw[ae,show m4 y (a1::b1::q1)=(1+max a1 b1)::q1 by unfold m4;rw[rW];rfl,Ak,aaY];simp
   |[a1],cD,hv|[],cD,hv=>simp at cD;lia
 .rintro σ H' ⟨u,v,w,rfl,sm,hv⟩
  rw[hl,sS,mT,dfold F hF]at hv;exact⟨_,U,l,_,_,_,U,U,ab.of hv,bT,q _ sm⟩
inductive OA(vs:List V)(H:Hp)(Q:VK)(E:XK):Prop
 |mk (v:V) (F:Formula):vs=[v]->dj H v F->nodes F<=100000->(∀H',aa H H'->Q (.bl (inBounds F)) H')->OA vs H Q E
theorem aa1(T:Txt K mg A):Gd P w K mg base 3 A.Ee A.d_in_bounds ["formula"] OA:=by
 refine T.Zm.go (N:=["formula"]) ?_;rintro aC A' outer s H vs Q E hr nd ⟨v,F,rfl,hv,hlen,q⟩;refine⟨_,(ag (aB (vQ (lu j7 (dw T.c6 (aP hr (Oy T) T.NY (aj (pv 0)))) (aW T.XI)) (rB (lu j7 (aP hr (aaZ T) T.Yj (aj (pv 0))) (aW T.XJ)))))),?_⟩
 try dsimp only[A9]
 have hF:=hv.1;have hn:=bJ F;have hN:cT (Wo (λ_=>False) H) v (enc F):=by rw[mq];exact hv.2
 refine⟨_,U,(λ_=>False),v,enc F,U,hN,jt F hF,by lia,Hid.none _,λv' H1 s1 h1=>?_⟩;obtain⟨c,ys,rfl,hc,lC⟩:=h1;have hl:=ck lC;rw[vg,aX,qU]at hl;refine⟨c,ys,U, .inl (ab.of (bB _ _ _ _ hc)),_,_,U,U,_,U,b9 (λh=>?_) (λh=>?_)⟩
 .refine⟨_,U,v,F,U,dj.mono _ _ _ _ s1 hv,hlen,λH2 s2=>⟨_,_,U,U,?_⟩⟩
  have e:=dJ h;rw[hl]at e;have:=q H2 (s1.trans s2);rw[Ij hF,bb (by lia),n6]at this;show Q (.bl (decide ((abC F:Int)<=40))) H2;rw[show decide ((abC F:Int)<=40)=decide (abC F<=40)from decide_eq_decide.mpr (by lia)];exact this
 .have e:¬((ys.length:Int)<=60):=λc=>h (bb c)
  rw[hl]at e;have:=q H1 s1;rw[Ij hF,cO (by lia),om]at this;exact this
def iW(H:Hp)(Q:VK)(xs:List V):Prop:=∀a H',aa H H'->H a=none->H' a=some (.lst xs)->Q (.ref a) H'
inductive OB(vs:List V)(H:Hp)(Q:VK)(E:XK):Prop
 |mk (v:V) (t:Text):vs=[v]->bG H v t->t.length<=100000->iW H Q ((40::(t++[41])).map bI)->OB vs H Q E
theorem OC(T:Txt K mg A):Gd P w K mg base 1 A.Ei A.d_in_brackets ["text"] OB:=by
 refine T.Zq.go (N:=["text"]) ?_;rintro aC A' outer s H vs Q E hr nd ⟨v,t,rfl,⟨a,rfl,ha⟩,hlen,q⟩;refine⟨_,(ag (aB (b_ gz (b_ gz (aS (aj (aW T.z_))) (pv 0)) (aS (aj (aW T.FX)))))),?_⟩
 try dsimp only[A9]
 refine⟨cu,λl hl=>?_⟩;have s1:=aa.new (o:= .lst [V.int 40]) hl;refine⟨_,U,l,a,_,_,U,U,ae,s1 _ _ ha,fC (by simp;lia),λp hp=>?_⟩;have s2:=aa.new (o:= .lst ([V.int 40]++t.map bI)) hp;refine⟨cu,λr hr=>?_⟩;have s3:=aa.new (o:= .lst [V.int 41]) hr;refine⟨p,r,_,_,U,U,s3 _ _ ae,ae,fC (by simp;lia),λz hz=>?_⟩;have s4:=aa.new (o:= .lst (([V.int 40]++t.map bI)++[V.int 41])) hz;refine q z _ ((s1.trans s2).trans (s3.trans s4)) (((s1.trans s2).trans s3).free hz) ?_;rw[ae];simp[bI]
inductive rX(H:Hp)(v:V)(x:Wr):Prop
 |mk (a:Addr) (u:V):v= .ref a->H a=some (.tup [.int (x.1:Int),u])->bG H u x.2->rX H v x
theorem rX.mono:eP rX:=λ_ _ _ _ s ⟨a,u,e,h,n⟩=>⟨a,u,e,s _ _ h,bG.mono _ _ _ _ s n⟩
inductive OD(vs:List V)(H:Hp)(Q:VK)(E:XK):Prop
 |mk (v:V) (x:Node):vs=[v]->bZ H v x->x.2.length<=100000->iW H Q ((qW x).map bI)->OD vs H Q E
theorem aa2(T:Txt K mg A):Gd P w K mg base 1 A.Eg A.d_atom_form ["node"] OD:=by
 refine T.Zo.go (N:=["node"]) ?_;rintro aC A' outer s H vs Q E hr nd ⟨v,x,rfl,⟨a,u,rfl,ha,m,rfl,hm⟩,hlen,q⟩;refine⟨_,(af (a9 (aR cj (cW (pv 0) ak) (aW T.XF)) (ag (aB (b_ gz (aS (aj (aW T.Aa))) (oI Dn (by rfl) T.wD DY (aj (cW (pv 0) ak)))))) bt)
  (ag (aB (oI Dn (by rfl) T.wD DY (aj (cW (pv 0) ak)))))),?_⟩
 try dsimp only[A9]
 refine⟨_,U,_,_,_,_,U,U,bx.of ha,bT,U,_,U,b9 (λh=>?_) (λh=>?_)⟩
 .have e:x.1=1:=by have:=o5 (dJ h);lia
  refine⟨cu,λl hl=>?_⟩;have s1:=aa.new (o:= .lst [V.int 126]) hl;refine⟨_,U,_,_,_,_,U,U,bx.of (s1 _ _ ha),fP,m,_,U, .inr (bx.of (s1 _ _ hm)),λp hp=>?_⟩;have s2:=aa.new (o:= .lst (x.2.map bI)) hp;refine⟨l,p,_,_,U,U,s2 _ _ ae,ae,fC (by simp;lia),λz hz=>?_⟩;have s3:=aa.new (o:= .lst ([V.int 126]++x.2.map bI)) hz;refine q z _ ((s1.trans s2).trans s3) ((s1.trans s2).free hz) ?_;rw[ae];unfold qW;rw[aI e];rfl
 .have e:¬x.1=1:=λc=>h (bb (by rw[c];rfl))
  refine⟨_,U,_,_,_,_,U,U,bx.of ha,fP,m,_,U, .inr (bx.of hm),λp hp=>?_⟩;refine q p _ (aa.new hp) hp ?_;rw[ae];unfold qW;rw[ay e]
inductive OE(vs:List V)(H:Hp)(Q:VK)(E:XK):Prop
 |mk (k:Nat) (v w:V) (x y:Wr):vs=[.int (k:Int),v,w]->rX H v x->rX H w y->x.1<4->y.1<4->x.2.length+y.2.length<=100000->iW H Q ((oo k x y).map bI)->OE vs H Q E
theorem OF{n:Nat}(h:n<4):(decide (n=2)||decide (n=3))=decide (2<=n):=nH (x:=(n,[])) h
theorem aa3(T:Txt K mg A):Gd P w K mg base 2 A.Eh A.d_junction_form ["kind","first","second"] OE:=by
 refine T.Zp.go (N:=["kind","first","second","left","right"]) ?_;rintro aC A' outer s H vs Q E hr nd ⟨k,v,w,x,y,rfl,⟨a,u,rfl,ha,c,rfl,hc⟩,⟨b,u',rfl,hb,d,rfl,hd⟩,hx,hy,hlen,q⟩;refine⟨_,(af (aN 3 nd (cW (pv 1) ak))
  (af (a9 (dC (aP hr (mx T) T.mr (aj (pv 1)))) (ag (aN 3 nd (aP hr (OC T) T.NZ (aj (pv 3))))) bt)
  (af (aN 4 nd (cW (pv 2) ak))
  (af (a9 (PW.pt (tV (dC (aP hr (mx T) T.mr (aj (pv 2)))) (tU (aR t8 (cW (pv 2) ak) (pv 0))))) (ag (aN 4 nd (aP hr (OC T) T.NZ (aj (pv 4))))) bt)
  (ag (aB (b_ gz (b_ gz (pv 3) (aS (aj (kX (aR cj (pv 0) (aW T.wI)) (aW T.um) (aW T.wG))))) (pv 4)))))))),?_⟩
 try dsimp only[A9]
 have fin:∀(H1:Hp) (p r:Addr) (A B:Text),aa H H1->bG H1 (.ref p) A->bG H1 (.ref r) B->A.length+B.length<=100010->oo k x y=A++(if k=2 then 42 else 124)::B->
   (cw p7 (cw p7 (aY 3) (zq (d_ (rC (md (cw l_ (aY 0) (tC (.int 2)))) (tC (.int 42)) (tC (.int 124))) eI))) (aY 4)) [some (.int (k:Int)),some (.ref a),some (.ref b),some (.ref p),some (.ref r)] H1 Q:=by
  intro H1 p r A B s1 ⟨p',ep,hp⟩ ⟨r',er,hr⟩ hl ej;cases ep;cases er;refine⟨_,U,_,U,U,_,U,?_⟩;have key:∀z:UInt8,(if k=2 then(42:UInt8)else 124)=z->zq (λσ H Q=>Q [bI z] H) [some (.int (k:Int)),some (.ref a),some (.ref b),some (.ref p),some (.ref r)] H1 (λy H2=>p7 (.ref p) y H2 λx H3=>aY 4 [some (.int (k:Int)),some (.ref a),some (.ref b),some (.ref p),some (.ref r)] H3 λy H4=>p7 x y H4 Q):=by intro z hz;refine⟨cu,λl qp=>?_⟩;have s2:=aa.new (o:= .lst [bI z]) qp;refine⟨p,l,_,_,U,U,s2 _ _ hp,ae,fC (by simp;lia),λg hg=>?_⟩;have s3:=aa.new (o:= .lst (A.map bI++[bI z])) hg;refine⟨_,U,g,r,_,_,U,U,ae,(s2.trans s3) _ _ hr,fC (by simp;lia),λf hf=>?_⟩;have s4:=aa.new (o:= .lst ((A.map bI++[bI z])++B.map bI)) hf;refine q f _ ((s1.trans s2).trans (s3.trans s4)) (((s1.trans s2).trans s3).free hf) ?_;rw[ae,ej,hz];simp
  refine b9 (λh=>?_) (λh=>?_)
  .have e:k=2:=by have:=o5 (dJ h);lia
   exact key 42 (aI e)
  .have e:¬k=2:=λc=>h (bb (by rw[c];rfl))
   exact key 124 (ay e)
 refine⟨_,U,_,_,_,_,U,U,bx.of ha,fP,?_⟩;refine⟨_,U,a,x.1,_,U,ha,_,U,?_⟩;rw[OF hx];refine LQ (λσ' H'=>E2 λp A=>A5 (σ'=[some (.int (k:Int)),some (.ref a),some (.ref b),some (.ref p),none]) (aa H H') (bG H' (.ref p) A) (A.length<=x.2.length+2) (A=paren (decide (2<=x.1)) x.2)) ?_ ?_ ?_
 .rintro σ' H1 ⟨p,A,rfl,s1,hA,hl,eA⟩
  refine⟨_,U,_,_,_,_,U,U,bx.of (s1 _ _ hb),fP,?_⟩;refine⟨_,U,b,y.1,_,U,s1 _ _ hb,_,U,?_⟩;rw[OF hy];have last:∀(H2:Hp) (r:Addr) (B:Text),aa H1 H2->bG H2 (.ref r) B->B.length<=y.2.length+2->B=paren (decide (2<=y.1)&&y.1 !=k) y.2->
    (cw p7 (cw p7 (aY 3) (zq (d_ (rC (md (cw l_ (aY 0) (tC (.int 2)))) (tC (.int 42)) (tC (.int 124))) eI))) (aY 4)) [some (.int (k:Int)),some (.ref a),some (.ref b),some (.ref p),some (.ref r)] H2 Q:=λH2 r B s2 hB fh eB=>
   fin H2 p r A B (s1.trans s2) (bG.mono _ _ _ _ s2 hA) hB (by lia) (by rw[eA,eB];rfl)
  refine b9 (λh=>?_) (λh=>?_)
  .refine⟨_,U,_,_,_,_,U,U,bx.of (s1 _ _ hb),bT,_,U,U,_,U,?_⟩
   refine b9 (λh'=>?_) (λh'=>?_)
   .refine⟨_,U, .ref d,y.2,U,⟨d,U,s1 _ _ hd⟩,by lia,λr H2 s2 _ hr=>?_⟩
    refine last H2 r _ s2 ⟨r,U,hr⟩ (by simp) ?_;rw[h,show(y.1 !=k)=true by rw[jH]at h';simpa using h'];rfl
   .refine last H1 d _ (aa.refl _) ⟨d,U,s1 _ _ hd⟩ (by lia) ?_
    rw[show(y.1 !=k)=false by rw[jH]at h';simpa using h',pz];rfl
  .refine last H1 d _ (aa.refl _) ⟨d,U,s1 _ _ hd⟩ (by lia) ?_
   rw[uV.mpr h,om];rfl
 .intro h K
  refine⟨_,U, .ref c,x.2,U,⟨c,U,hc⟩,by lia,λp H1 s1 _ hp=>?_⟩;exact K _ _ ⟨p,_,U,s1,⟨p,U,hp⟩,by simp,by rw[h];rfl⟩
 .intro h
  exact⟨c,x.2,U,aa.refl _,⟨c,U,hc⟩,by lia,by rw[uV.mpr h];rfl⟩
theorem OG{A:Formula}(h:multiplicative A=true):∀(l:List Node),(∀x∈l,x.1<4)->∀x∈l.foldr gW [],x.1<4
 |[],_,x,hx=>by simp at hx
 |y::r,hk,x,hx=>by
  have ih:=OG h r λz hz=>hk z (by simp[hz]);rw[n_]at hx;generalize r.foldr gW []=st at ih hx;unfold gW at hx;split at hx
  .split at hx
   .rcases br.mp hx with rfl|hx
    .exact hk y (by simp)
    .exact ih x (by simp[hx])
   .exact ih x hx
  .rcases br.mp hx with rfl|hx
   .exact hk y (by simp)
   .exact ih x hx
inductive qr(H0 H:Hp)(v:V)(x:Wr):Prop
 |mk (a c:Addr):v= .ref a->H a=some (.tup [.int (x.1:Int), .ref c])->H c=some (.lst (x.2.map bI))->H0 c=none->qr H0 H v x
theorem qr.wr{H0 H:Hp}{v:V}{x:Wr}(h:qr H0 H v x):rX H v x:=by obtain⟨a,c,e,h1,h2,_⟩:=h;exact⟨a, .ref c,e,h1,c,U,h2⟩
theorem qr.kr{H0:Hp}:eP (qr H0):=λ_ _ _ _ s ⟨a,c,e,h,n,f⟩=>⟨a,c,e,s _ _ h,s _ _ n,f⟩
inductive OH(vs:List V)(H:Hp)(Q:VK)(E:XK):Prop
 |mk (v:V) (F:Formula):vs=[v]->dj H v F->nodes F<=2000->nm (enc F)->iW H Q ((form F).map bI)->OH vs H Q E
theorem aa4(T:Txt K mg A):Gd P w K mg base 3 A.Ef A.d_formula_form ["formula"] OH:=by
 refine T.Zn.go (N:=["formula","written","node","first","second"]) ?_;rintro aC A' outer s H vs Q E hr nd ⟨v,F,rfl,⟨hF,a,xs,rfl,ha,cg⟩,hlen,Al,q⟩;refine⟨_,(af (aN 1 nd (aS bY))
  (af (eZ PassesOwn.never U (Lu (by rfl) T.FW (aj (pv 0))) (cx 2 nd) (ag (a9 (dC (aP hr (mx T) T.mr (aj (pv 2)))) (af (aN 3 nd (oM MM Ng Nh oN (pv 1)))
  (af (aN 4 nd (oM MM Ng Nh oN (pv 1)))
  (ag (bF (dD (pv 1) (gh (aZ (cW (pv 2) ak) (aP hr (aa3 T) T.Yn (fM (cW (pv 2) ak) (aZ (pv 3) (pv 4))))))))))) (ag (bF (dD (pv 1) (gh (aZ (cW (pv 2) ak) (aP hr (aa2 T) T.Ym (aj (pv 2)))))))))))
  (ag (aB (cW (aT (pv 1) ak) ak))))),?_⟩
 try dsimp only[A9]
 have hl:=ck cg;have hn:=bJ F;refine⟨bL _,λl dY=>?_⟩;have s0:aa H (upd H l (.lst [])):=aa.new dY;refine⟨_,U,a,xs,U,ab.of (s0 _ _ ha),LU (λi σ H'=>E4 λ(u v w:Option V) (vs:List V)=>A4 (σ=[some (.ref a),some (.ref l),u,v,w]) (aa H H') (H' l=some (.lst vs)) (Paired (qr (upd H l (.lst [])) (Wo (λb=>b=l) H')) vs (((enc F).drop ((enc F).length-i)).foldr gW []).reverse))
  ⟨none,none,none,[],U,s0,ae,by rw[jQ,mY];exact .nil⟩ (λi σ H' _ ⟨_,_,_,_,_,sm,_,_⟩=>ab.of (sm _ _ ha)) ?_ ?_⟩
 .rintro i x σ H' hx ⟨u,v,w,vs,rfl,sm,hv,hp⟩
  obtain⟨y,hy,r⟩:=fB (DW cg) hx;obtain⟨hd,k,hk,hj⟩:=JT hF hy;have cD:=JS _ _ hk;have hyF:=BF.mp (cN hy);have gO:=jt F hF y hyF;have hi:i<nodes F:=by have:=dm hy;simpa [hn]using this
  have hkb:k<=nodes F:=by have:=CN _ _ hk;rw[jq]at this;lia
  have gk:=ck hp;rw[uZ,cD]at gk;have hw:wsum (((enc F).drop ((enc F).length-i)).foldr gW [])<=100000:=by refine c_ (CP _) (c_ (yZ λz hz=>Al z (x8 hz)) ?_);rw[jq];lia
  have o8:=OG hF ((enc F).drop ((enc F).length-i)) λz hz=>jt F hF z (x8 hz);have hlH:∀H2,aa H' H2->H2 l=some (.lst vs):=λH2 s=>s _ _ hv;have aH:Hid (λb=>b=l) H':=λb hb e=>by rw[hb,hv]at e;cases e
  have rN:=bZ.mono _ _ _ _ sm r;obtain⟨n,u',rfl,nJ,_⟩:=r;refine⟨_,U,n,_,_,U,sm _ _ nJ,_,U,?_⟩;rw[nH gO,hd,n_];generalize ((enc F).drop ((enc F).length-i)).foldr gW []=st at hp cD hw o8⊢;have fr:∀c,H' c=none->upd H l (.lst []) c=none:=λc hc=>by
   by_cases bD:c=l
   .subst bD;rw[hv]at hc;cases hc
   .rw[aD bD];exact sm.free hc
  cases rW:bR y with
  |false=>
   refine aA ?_;refine⟨_,U, .inl ⟨U,_,ab.of hv⟩,_,U,_,_,_,_,U,U,bx.of (sm _ _ nJ),bT,_,U, .ref n,y,U,rN,c_ (Al y hyF) (by decide),λc H2 s2 hc jI=>⟨gm,λp nM=>?_⟩⟩;have s3:=aa.new (o:= .tup [.int (y.1:Int), .ref c]) nM;have ji:=s2.trans s3;have OI:=aH.mono s2;refine⟨l,vs,_,U,U,ji _ _ hv,dk (by lia),_,_,_,vs++[.ref p],U,c5 (sm.trans ji) dY,ae,?_⟩;rw[dP (P:=λb=>b=l) U,show gW y st=(y.1,qW y)::st by unfold gW;rw[rW];rfl,xV];refine kf (bO (λ_ _ r=>qr.kr _ _ _ _ (bV ji) r) hp) ⟨p,c,U,e9 OI nM,?_,?_⟩
   .exact bV s3 _ _ (by rw[cR (P:=λb=>b=l) (aH.not hc)];exact jI)
   .exact fr c hc
  |true=>
   refine aJ ?_;have h2:=hj rW;match st,cD,hp,hw,o8 with
   |a1::b1::q1,cD,hp,hw,o8=>
    rw[xV,xV]at hp;obtain⟨ws,va,rfl,hp,ra⟩:=ui hp;obtain⟨ws,vb,rfl,hp,rb⟩:=ui hp;refine⟨_,U, .inl ⟨U,_,ab.of hv⟩,l,_,_,U,U,hv,o7 _ _,?_⟩;rw[pD];refine⟨_,U, .inl ⟨U,_,ab.of ae⟩,l,_,_,U,U,ae,o7 _ _,?_⟩;rw[pD,jz];have eW:Wo (λb=>b=l) (upd H' l (.lst ws))=Wo (λb=>b=l) H':=dP U;have up:∀z x,qr (upd H l (.lst [])) (Wo (λb=>b=l) H') z x->rX (upd H' l (.lst ws)) z x:=λz x h=>by have h2:=h.wr;rw[<-eW]at h2;exact rX.mono _ _ _ _ (bB _ _) h2
    have rA:upd H' l (.lst ws) n=some (.tup [.int (y.1:Int),u']):=by rw[aD (bS nJ dY)];exact sm _ _ nJ
    have OJ:Hid (λb=>b=l) (upd H' l (.lst ws)):=aH.upd;refine⟨_,U, .inl ⟨U,_,ab.of ae⟩,_,U,_,_,_,_,U,U,bx.of rA,bT,_,U,_,_,_,_,U,U,bx.of rA,bT,_,U,_,U,y.1,va,vb,a1,b1,U,up _ _ ra,up _ _ rb,o8 a1 (by simp),o8 b1 (by simp),by simp only[wsum]at hw;lia,λc H2 s2 hc jI=>⟨gm,λp nM=>?_⟩⟩;have s3:=aa.new (o:= .tup [.int (y.1:Int), .ref c]) nM;have ji:=s2.trans s3;refine⟨l,ws,_,U,U,ji _ _ ae,dk (by simp at gk;lia),_,_,_,ws++[.ref p],U,c5 ((c5 sm dY).trans ji) dY,ae,?_⟩;rw[dP (P:=λb=>b=l) U,show gW y (a1::b1::q1)=(y.1,oo y.1 a1 b1)::q1 by unfold gW;rw[rW];rfl,xV];refine kf (bO (λ_ _ r=>qr.kr _ _ _ _ ?_ r) hp) ⟨p,c,U,e9 (OJ.mono s2) nM,bV s3 _ _ (by rw[cR (P:=λb=>b=l) (OJ.not hc)];exact jI),?_⟩
    .rw[<-eW];exact bV ji
    .refine fr c ?_
     by_cases bD:c=l
     .subst bD;rw[ae]at hc;cases hc
     .rw[aD bD]at hc;exact hc
   |[a1],cD,hp,hw,o8|[],cD,hp,hw,o8=>simp at cD;lia
 .rintro σ H' ⟨u,v,w,vs,rfl,sm,hv,hp⟩
  rw[hl,sS,mT,tq F hF]at hp;cases hp with
  |cons r rest=>
   cases rest;obtain⟨p,c,rfl,h1,h2,h3⟩:=r;refine⟨_,U,l,_,_,_,U,U,ab.of hv,bT,_,_,_,_,U,U,bx.of (bB _ _ _ _ h1),fP,q c H' sm ?_ (bB _ _ _ _ h2)⟩;exact s0.free h3
noncomputable def dB(b:UInt8):PyData:= .int (b.toNat:Int)
noncomputable def mz(x:Node):PyData:= .tuple [.int (x.1:Int), .tuple (x.2.map dB)]
noncomputable def nN(l:List Node):PyData:= .list (l.map mz)
structure iz(d:PyData)(k:Nat):Prop where
 lay:d.canLay0=true
 dep:d.depth<=k
theorem Am(i:Int):iz (.int i) 0:=⟨U,a_ _⟩
theorem ju:∀{xs:List PyData} {k:Nat},(∀x∈xs,iz x k)->PyData.canLayAll0 xs=true/\ PyData.depthAll xs<=k
 |[],k,_=>⟨U,bL _⟩
 |x::r,k,h=>by
  obtain⟨h1,h2⟩:=ju (xs:=r) λy hy=>h y (by simp[hy]);obtain⟨h3,h4⟩:=h x (by simp);refine⟨?_,?_⟩
  .show(x.canLay0&&PyData.canLayAll0 r)=true
   rw[h3,h1];rfl
  .show max x.depth (PyData.depthAll r)<=k
   lia
theorem wV{xs:List PyData}{k:Nat}(h:∀x∈xs,iz x k):iz (.list xs) (k+1):=⟨(ju h).1,afr (ju h).2⟩
theorem Gs{xs:List PyData}{k:Nat}(h:∀x∈xs,iz x k):iz (.tuple xs) (k+1):=⟨(ju h).1,afr (ju h).2⟩
theorem iz.up{d:PyData}{j k:Nat}(h:iz d j)(l:j<=k):iz d k:=⟨h.lay,c_ h.dep l⟩
theorem iz.shaped{d:PyData}{k:Nat}(h:iz d k)(l:k<=64):SeqAt.shaped d=true:=by unfold SeqAt.shaped;rw[h.lay,bb (c_ h.dep l)];rfl
theorem OK(t:Text):∀x∈t.map dB,iz x 0:=λx hx=>by obtain⟨b,_,rfl⟩:=eu.mp hx;exact Am _
theorem okNode(x:Node):iz (mz x) 2:=Gs λy hy=>by
 simp at hy;rcases hy with rfl|rfl
 .exact(Am _).up (by decide)
 .exact Gs (OK _)
theorem qt(l:List Node):iz (nN l) 3:=wV λy hy=>by obtain⟨b,_,rfl⟩:=eu.mp hy;exact okNode _
theorem uB(t:Text):iz (.list (t.map dB)) 1:=wV (OK t)
theorem mB(xs:List PyData):PyData.eqv (.list xs) (.list [])=xs.isEmpty:=by cases xs<;>rfl
theorem Gu:∀(t u:List UInt8),PyData.eqvAll (t.map dB) (u.map dB)=decide (t=u)
 |[],[]|[],_::_|_::_,[]=>rfl
 |a::t,b::u=>by
  show(((a.toNat:Int)==(b.toNat:Int))&&PyData.eqvAll (t.map dB) (u.map dB))=_;rw[Gu t u];have e:((a.toNat:Int)==(b.toNat:Int))=decide (a=b):=by
   by_cases h:a=b
   .subst h;simp
   .rw[cO h,beq_eq_false_iff_ne]
    intro c;exact h (UInt8.toNat_inj.mp (by lia))
  rw[e,js];simp
theorem aa5(x y:Node):PyData.eqv (mz x) (mz y)=decide (x=y):=by
 obtain⟨k,a⟩:=x;obtain⟨m,b⟩:=y;show(((k:Int)==(m:Int))&&(PyData.eqvAll (a.map dB) (b.map dB)&&true))=_;rw[Gu];have e:((k:Int)==(m:Int))=decide (k=m):=by
  by_cases h:k=m
  .subst h;simp
  .rw[cO h,beq_eq_false_iff_ne];lia
 rw[e,js];simp
theorem Gv:∀(l m:List Node),PyData.eqvAll (l.map mz) (m.map mz)=decide (l=m)
 |[],[]|[],_::_|_::_,[]=>rfl
 |a::l,b::m=>by show(PyData.eqv (mz a) (mz b)&&PyData.eqvAll (l.map mz) (m.map mz))=_;rw[Gv l m,aa5,js];simp
section
variable{K:FU}{H:Hp}
theorem Gw:∀(t:Text),oO K H (t.map bI) (t.map dB)
 |[]=> .nil
 |b::t=> .cons (.int _) (Gw t)
theorem uC{v:V}{t:Text}(h:bG H v t):Dp K H v (.list (t.map dB)):=by obtain⟨a,rfl,h⟩:=h;exact .lst (ab.of h) (Gw t)
theorem aa6{v:V}{x:Node}(h:bZ H v x):Dp K H v (mz x):=by obtain⟨a,u,rfl,h,b,rfl,h2⟩:=h;exact .tup (bx.of h) (.cons (.int _) (.cons (.tup (bx.of h2) (Gw _)) .nil))
theorem An{α:Type}{R:V->α->Prop}{f:α->PyData}(k:∀v x,R v x->Dp K H v (f x)):∀{vs:List V} {l:List α},Paired R vs l->oO K H vs (l.map f)
 |_,_, .nil=> .nil
 |_,_, .cons r t=> .cons (k _ _ r) (An k t)
theorem qu{v:V}{l:List Node}(h:cT H v l):Dp K H v (nN l):=by obtain⟨a,vs,rfl,h,p⟩:=h;exact .lst (ab.of h) (An (λ_ _ r=>aa6 r) p)
theorem mC{p:Addr}(h:H p=some (.lst [])):Dp K H (.ref p) (.list []):= .lst (ab.of h) .nil
theorem mD:SeqAt.shaped (.list [])=true:=(wV (xs:=[]) (k:=0) λx hx=>by simp at hx).shaped (by decide)
theorem isEmpty_map{α β:Type}(f:α->β)(l:List α):(l.map f).isEmpty=l.isEmpty:=by cases l<;>rfl
end
theorem aa7(b:UInt8):isWord b=(MW b||MX b):=rfl
inductive OL(vs:List V)(H:Hp)(Q:VK)(E:XK):Prop
 |mk (b:UInt8):vs=[bI b]->Q (.bl (isWord b)) H->OL vs H Q E
theorem OM(T:Txt K mg A):Gd P w K mg base 2 A.Ew A.d_is_name_byte ["byte"] OL:=by
 refine T.ZD.go (N:=["byte"]) ?_;rintro aC A' outer s H vs Q E hr nd ⟨b,rfl,q⟩;refine⟨_,(ag (aB (Ke (aP hr (Gm T) T.F0 (aj (pv 0))) (rB (aP hr (Oj T) T.NW (aj (pv 0))))))),?_⟩
 try dsimp only[A9]
 refine⟨_,U,b,U,_,U,?_⟩;rw[aa7]at q;cases hs:MW b with
 |true=>rw[hs]at q;exact aJ q
 |false=>rw[hs]at q;exact aA ⟨_,U,b,U,q⟩
theorem ON{p:UInt8->Bool}:∀(l:Text) (j:Nat),(∀x∈l.take j,p x=true)->(∀x,l[j]? =some x->p x=false)->j<=l.length->l.takeWhile p=l.take j
 |[],j,_,_,h=>by simp at h;subst h;rfl
 |a::l,0,_,h,_=>by rw[yd,h a U];rfl
 |a::l,j+1,h1,h2,h3=>by rw[yd,h1 a (by simp),Ib];simp only[if_true];rw[ON l j (λx hx=>h1 x (by rw[Ib];simp[hx])) (λx hx=>h2 x hx) (by simpa using h3)]
inductive OO(vs:List V)(H:Hp)(Q:VK)(E:XK):Prop
 |mk (v:V) (t:Text) (at_:Nat):vs=[v, .int (at_:Int)]->bG H v t->at_<=t.length->Q (.int ((at_+((t.drop at_).takeWhile isWord).length:Nat):Int)) H->OO vs H Q E
theorem aa8(T:Txt K mg A):Gd P w K mg base 3 A.Ex A.d_stretch_end ["text","at"] OO:=by
 refine T.ZE.go (N:=["text","at","end"]) ?_;rintro aC A' outer s H vs Q E hr nd ⟨v,t,at_,rfl,⟨a,rfl,ha⟩,eD,q⟩;refine⟨_,(af (aN 2 nd (pv 1))
  (af (j4 PassesOwn.never (PW.pt (tV (aR iq (pv 2) (dw T.c6 (pv 0))) (tU (dC (aP hr (OM T) T.N3 (aj (aT (pv 0) (pv 2)))))))) (ag (vT (i:=2) nd U (Or.inl U) ak zk)))
  (ag (aB (pv 2))))),?_⟩
 try dsimp only[A9]
 refine⟨_,U,λm σ' H'=>∃e:Nat,σ'=[some (.ref a),some (.int (at_:Int)),some (.int (e:Int))]/\ H'=H/\ m=t.length-e/\ at_<=e/\ e<=t.length/\ ∀x∈(t.drop at_).take (e-at_),isWord x=true,⟨_,at_,U,U,U,a_ _,eD,by simp⟩,?_⟩;rintro m σ' H' ⟨e,rfl,rfl,rfl,h1,h2,h3⟩;have done:(∀x,(t.drop at_)[e-at_]? =some x->isWord x=false)->Q (.int (e:Int)) H':=λhx=>by rw[ON (t.drop at_) (e-at_) h3 hx (by simp;lia),n9,jq,xW (by lia),show at_+(e-at_)=e by lia]at q;exact q
 refine⟨_,U,_,U,a,_,U, .inl (ab.of ha),_,_,U,U,_,U,b9 (λh=>?_) (λh=>?_)⟩
 .have aU:e<t.length:=by have:=dJ h;simp at this;lia
  have hg:t[e]? =some t[e]:=cC aU;refine⟨_,U,_,U,_,_,_,_,U,U,ab.of ha,bH (j:=e) (by rw[ft,hg];rfl),t[e],U,_,U,?_⟩;cases hw:isWord t[e]with
  |true=>
   refine aJ ⟨_,U,_,_,U,U,t.length-(e+1),?_,e+1,U,U,U,by lia,by lia,λx hx=>?_⟩
   .lia
   .rw[show e+1-at_=(e-at_)+1 by lia,ac8,oa,show at_+(e-at_)=e by lia,hg]at hx
    rcases c9.mp hx with hx|hx
    .exact h3 x hx
    .simp at hx;subst hx;exact hw
  |false=>refine aA ⟨_,U,done λx hx=>?_⟩;rw[oa,show at_+(e-at_)=e by lia,hg]at hx;rw[<-aM hx];exact hw
 .have oR:t.length<=e:=by
   have:¬((e:Int)<((t.map bI).length:Int)):=λc=>h (bb c);simp at this;lia
  refine⟨_,U,done λx hx=>?_⟩;rw[oa,show at_+(e-at_)=e by lia,kN oR]at hx;cases hx
inductive OP(vs:List V)(H:Hp)(Q:VK)(E:XK):Prop
 |mk (v:V) (t:Text):vs=[v]->bG H v t->t≠ []->Q (.bl (PM.shortName t)) H->OP vs H Q E
theorem aa9(T:Txt K mg A):Gd P w K mg base 2 A.Ey A.d_is_name ["stretch"] OP:=by
 refine T.ZF.go (N:=["stretch"]) ?_;rintro aC A' outer s H vs Q E hr nd ⟨v,t,rfl,⟨a,rfl,ha⟩,b8,q⟩;refine⟨_,(ag (aB (vQ (aP hr (Gm T) T.F0 (aj (aT (pv 0) ak))) (rB (lu j7 (dw T.c6 (pv 0)) (aW T.XN)))))),?_⟩
 try dsimp only[A9]
 cases t with
 |nil=>exact absurd U b8
 |cons c r=>
  refine⟨_,U,_,_,_,_,U,U,ab.of ha,bT,c,U,_,U,?_⟩;unfold PM.shortName at q;rw[ac9,afC]at q;cases hs:MW c with
  |false=>rw[hs,om]at q;exact aA q
  |true=>rw[hs,n6]at q;refine aJ ⟨_,U,a,_,U, .inl (ab.of ha),_,_,U,U,?_⟩;show Q (.bl (decide ((((c::r).map bI).length:Int)<=12))) H;rw[show decide ((((c::r).map bI).length:Int)<=12)=decide ((c::r).length<=12)from decide_eq_decide.mpr (by rw[aX];lia)];exact q
theorem aa_(c:UInt8):gj (bI c) [.int 126, .int 42, .int 124, .int 40, .int 41]=nq c:=by
 unfold gj nq;have e:∀n:UInt8,mh (.int (n.toNat:Int)) (bI c)=(c==n):=λn=>by
  show((n.toNat:Int)==(c.toNat:Int))=(c==n);by_cases h:c=n
  .subst h;simp
  .rw[beq_eq_false_iff_ne.mpr h,beq_eq_false_iff_ne]
   intro z;exact h (UInt8.toNat_inj.mp (by lia))
 have h1:=e 126;have h2:=e 42;have h3:=e 124;have h4:=e 40;have h5:=e 41;simp only[px,BB,sT];rw[<-h1,<-h2,<-h3,<-h4,<-h5];rfl
inductive OQ(vs:List V)(H:Hp)(Q:VK)(E:XK):Prop
 |mk (P:Addr->Prop) (v:V) (t:Text) (at_:Nat) (c:UInt8) (r:Text):vs=[v, .int (at_:Int)]->bG H v t->t.drop at_=c::r->t.length<=4000->Hid P H->(∀v' H',aa H H'->bG (Wo P H') v' (yS c r)->Q v' H')->OQ vs H Q E
theorem aa'(T:Txt K mg A):Gd P w K mg base 4 A.Eu A.d_token_at ["text","at"] OQ:=by
 refine T.ZC.go (N:=["text","at","byte","stretch"]) ?_;rintro aC A' outer s H vs Q E hr nd ⟨P,v,t,at_,c,r,rfl,⟨a,rfl,ha⟩,hd,hlen,hP,q⟩;refine⟨_,(af (aN 2 nd (aT (pv 0) (pv 1)))
  (af (a9 (dC (aP hr (OM T) T.N3 (aj (pv 2)))) (af (aN 3 nd (oJ oK (pv 0) (je (pv 1)) (je (aP hr (aa8 T) T.Yv (aZ (pv 0) (pv 1))))))
  (ag (aB (kX (dC (aP hr (aa9 T) T.Yw (aj (pv 3)))) (pv 3) (aS bY))))) bt)
  (af (a9 (aR zw (pv 2) (gh (fM (aW T.Aa) (fM (aW T.um) (fM (aW T.wG) (aZ (aW T.z_) (aW T.FX))))))) (ag (aB (aS (aj (pv 2))))) bt)
  (af (a9 (aR (mi hr.units) (oJ oK (pv 0) (je (pv 1)) (je (b_ jd (pv 1) ak))) (aS (aZ (aW T.rT) (aW T.NS)))) (ag (aB (aS (aZ (aW T.rT) (aW T.NS))))) bt)
  (ag (aB (aS bY))))))),?_⟩
 try dsimp only[A9]
 have hc:t[at_]? =some c:=by
  have:(t.drop at_)[0]? =some c:=by rw[hd];rfl
  rw[oa]at this;exact this
 have eD:=dm hc;have mapc:(t.map bI)[at_]? =some (bI c):=by rw[ft,hc];rfl
 refine⟨_,U,_,U,_,_,_,_,U,U,ab.of ha,bH mapc,?_⟩;refine⟨_,U,c,U,_,U,?_⟩;unfold yS at q;cases hw:isWord c with
 |true=>
  rw[hw]at q;rw[aI U]at q;refine aJ ⟨_,U,_,U,_,U,_,U,_,U, .ref a,t,at_,U,⟨a,U,ha⟩,by lia,_,U,a,_,U,ab.of ha,λp hp=>?_⟩;have etw:(c::r).takeWhile isWord=c::r.takeWhile isWord:=by rw[yd,hw];rfl
  rw[hd,etw];have hl:at_+(c::r.takeWhile isWord).length<=t.length:=by
   have h1:(c::r.takeWhile isWord).length<=(c::r).length:=by simp;exact(List.takeWhile_sublist _).length_le
   have h2:=congrArg List.length hd;rw[jq]at h2;lia
  have ecut:fU (t.map bI) (some (at_:Int)) (some ((at_+(c::r.takeWhile isWord).length:Nat):Int))=(c::r.takeWhile isWord).map bI:=by rw[uj _ (by lia) (by rw[aX];exact hl),<-pC,<-qO,hd,show at_+(c::r.takeWhile isWord).length-at_=(c::r.takeWhile isWord).length by lia];congr 1;rw[<-etw];exact(List.prefix_iff_eq_take.mp (List.takeWhile_prefix isWord)).symm
  rw[ecut];have s1:=aa.new (o:= .lst ((c::r.takeWhile isWord).map bI)) hp;refine⟨_,U, .ref p,_,U,⟨p,U,ae⟩,by simp,_,U,?_⟩;cases hn:PM.shortName (c::r.takeWhile isWord)with
  |true=>rw[aI hn]at q;exact aJ ⟨_,U,q _ _ s1 ⟨p,U,e9 hP hp⟩⟩
  |false=>rw[ay (by rw[hn];simp)]at q;exact aA ⟨bL _,λz hz=>q _ _ (s1.trans (aa.new hz)) ⟨z,U,e9 (hP.mono s1) hz⟩⟩
 |false=>
  rw[hw]at q;rw[ay (by simp)]at q;refine aA ⟨_,U,(by show 5<=sizeLine;decide),λp hp=>?_⟩;have s1:=aa.new (o:= .tup [.int 126, .int 42, .int 124, .int 40, .int 41]) hp;have P1:=hP.mono s1;refine⟨p,_,U, .inr (bx.of ae),U,U,_,U,?_⟩;rw[show(if false=true then !gj (bI c) [.int 126, .int 42, .int 124, .int 40, .int 41]else gj (bI c) [.int 126, .int 42, .int 124, .int 40, .int 41])=nq c from aa_ c];cases hf:nq c with
  |true=>rw[aI hf]at q;exact aJ ⟨_,U,cu,λz hz=>q _ _ (s1.trans (aa.new hz)) ⟨z,U,e9 P1 hz⟩⟩
  |false=>
   rw[ay (by rw[hf];simp)]at q;refine aA ⟨_,U,_,U,_,U,_,U,_,_,U,U,_,U,a,_,U,ab.of (s1 _ _ ha),λx hx=>⟨(by show 2<=sizeLine;decide),λy hy=>?_⟩⟩;have ecut:fU (t.map bI) (some (at_:Int)) (some ((at_:Int)+2))=((c::r).take 2).map bI:=by
    by_cases h2:at_+2<=t.length
    .rw[show(at_:Int)+2=((at_+2:Nat):Int) by lia,uj _ (by lia) (by rw[aX];exact h2),<-pC,<-qO,hd,show at_+2-at_=2 by lia]
    .unfold fU
     rw[show(at_:Int)+2=((at_+2:Nat):Int) by lia,HT.vX,HT.vX,aX,xW (show at_<=t.length by lia),Nat.min_eq_right (show t.length<=at_+2 by lia),<-pC,<-qO,hd];congr 1;have h3:=congrArg List.length hd;rw[jq]at h3;rw[qM (by lia),qM (by lia)]
   have s2:=aa.new (o:= .lst (fU (t.map bI) (some (at_:Int)) (some ((at_:Int)+2)))) hx;have s3:=aa.new (o:= .lst [V.int 45,V.int 111]) hy;have P3:=(P1.mono s2).mono s3;have e2:([45,111]:Text).map bI=[V.int 45,V.int 111]:=rfl;have e3:PyData.eqv (.list (((c::r).take 2).map dB)) (.list (([45,111]:Text).map dB))=decide (c=45/\ r.head? =some 111):=by
    show PyData.eqvAll _ _=_;rw[Gu];cases r with
    |nil|cons d q=>simp
   refine⟨_,_,uC (t:=(c::r).take 2) ⟨x,U,by rw[<-ecut];exact s3 _ _ ae⟩,uC (t:=[45,111]) ⟨y,U,ae⟩,(uB _).shaped (by decide),(uB _).shaped (by decide),_,U,?_⟩;rw[e3];refine b9 (λh=>?_) (λh=>?_)
   .rw[aI (dJ h)]at q
    exact⟨(by show 2<=sizeLine;decide),λz hz=>q _ _ (((s1.trans s2).trans s3).trans (aa.new hz)) ⟨z,U,e9 P3 hz⟩⟩
   .rw[ay λc=>h (bb c)]at q
    exact⟨bL _,λz hz=>q _ _ (((s1.trans s2).trans s3).trans (aa.new hz)) ⟨z,U,e9 P3 hz⟩⟩
noncomputable def wW(t:Text):List Text:=match toks t with
 |some ts=>ts.map dM
 |none=>[]
inductive OR(vs:List V)(H:Hp)(Q:VK)(E:XK):Prop
 |mk (P:Addr->Prop) (v:V) (t:Text):vs=[v]->bG H v t->t.length<=4000->Hid P H->(∀v' H',aa H H'->cS bG (Wo P H') v' (wW t)->Q v' H')->OR vs H Q E
theorem aba(T:Txt K mg A):Gd P w K mg base 5 A.Et A.d_cut_into_tokens ["text"] OR:=by
 refine T.ZA.go (N:=["text","tokens","at","token"]) ?_;rintro aC A' outer s H vs Q E hr nd ⟨P,v,t,rfl,⟨a,rfl,ha⟩,hlen,hP,q⟩;refine⟨_,(af (aN 1 nd (aS bY))
  (af (aN 2 nd ak)
  (af (j4 PassesOwn.never (aR iq (pv 2) (dw T.c6 (pv 0))) (ag (a9 (aR cj (aT (pv 0) (pv 2)) (aW T.wF)) (ag (vT (i:=2) nd U (Or.inl U) ak zk)) (af (aN 3 nd (aP hr (aa' T) T.Yu (aZ (pv 0) (pv 2))))
  (af (a9 (aR (mi hr.units) (pv 3) (aS bY)) (ag (aB (aS bY))) bt)
  (af (bF (dD (pv 1) (pv 3)))
  (ag (vT (i:=2) nd U (Or.inl U) (dw T.c6 (pv 3)) zk))))))))
  (ag (aB (pv 1)))))),?_⟩
 try dsimp only[A9]
 refine⟨bL _,λl hl=>?_⟩;have s0:aa H (upd H l (.lst [])):=aa.new hl;refine⟨λm σ' H'=>∃(at_:Nat) (u:Option V) (ds:List Mc) (vs:List V),σ'=[some (.ref a),some (.ref l),some (.int (at_:Int)),u]/\ m=t.length-at_/\ at_<=t.length/\ aa H H'/\ Hid (aL P l) H'/\ H' l=some (.lst vs)/\ vs.length<=at_/\ Paired (bG (Wo (aL P l) H')) vs (ds.map dM)/\ toks t=(toks (t.drop at_)).map λr=>ds++r,
  ⟨_,0,none,[],[],U,U,bL _,s0,(hP.mono s0).lq ae,ae,a_ _, .nil,by rw[mT];cases toks t<;>rfl⟩,?_⟩
 rintro m σ' H' ⟨at_,u,ds,vs,rfl,rfl,eD,sm,aH,hv,gk,hp,ht⟩;have gM:=sm _ _ ha;refine⟨_,U,_,U,a,_,U, .inl (ab.of gM),_,_,U,U,_,U,b9 (λh=>?_) (λh=>?_)⟩
 .have aU:at_<t.length:=by have:=dJ h;simp at this;lia
  have hg:t[at_]? =some t[at_]:=cC aU;have hd:t.drop at_=t[at_]::t.drop (at_+1):=kM aU;generalize t[at_]=c at hg hd;rw[hd,BY]at ht;refine⟨_,U,_,U,_,_,_,_,U,U,ab.of gM,bH (j:=at_) (by rw[ft,hg];rfl),U,_,U,b9 (λh=>?_) (λh=>?_)⟩
  .have hc:c=32:=Oh (dJ h)
   rw[aI hc]at ht;exact⟨_,U,_,_,U,U,t.length-(at_+1),by lia,at_+1,u,ds,vs,U,U,by lia,sm,aH,hv,by lia,hp,ht⟩
  .have hc:¬c=32:=λe=>h (bb (by rw[e];rfl))
   rw[ay hc]at ht;refine⟨_,U,_,U,aL P l, .ref a,t,at_,c,_,U,⟨a,U,gM⟩,hd,hlen,aH,λv2 H2 s2 h2=>?_⟩;rw[Ut]at h2;refine⟨_,U,bL _,λz hz=>?_⟩;have s3:=aa.new (o:= .lst []) hz;refine⟨_,_,uC (bG.mono _ _ _ _ (aa.trans (bB _ _) s3) h2),mC ae,(uB _).shaped (by decide),mD,_,U,?_⟩;rw[mB,isEmpty_map];cases ho:lJ c (t.drop (at_+1))with
   |none=>rw[ho]at h2 ht;refine aJ ⟨bL _,λg hg=>q _ _ (((sm.trans s2).trans s3).trans (aa.new hg)) ⟨g,[],U,e9 ((hP.mono (((sm.trans s2).trans s3)))) hg,?_⟩⟩;unfold wW;rw[ht];exact .nil
   |some x=>
    rw[ho]at h2 ht;obtain⟨e1,e2,_⟩:=yT ho;simp only at h2⊢;have b8:(dM x.1).isEmpty=false:=by
     cases hk:dM x.1 with
     |nil=>exact absurd hk e2
     |cons _ _=>rfl
    rw[b8];have ji:=s2.trans s3;have h3:=bG.mono _ _ _ _ (bV (P:=aL P l) s3) h2;obtain⟨w,rfl,hw⟩:=h2;have gw:=congrArg List.length e1;rw[cP]at gw;have fh:=congrArg List.length hd;rw[jq,gw]at fh;refine aA ⟨_,U, .inl ⟨U,_,ab.of (ji _ _ hv)⟩,_,U,l,_,_,U,U,ji _ _ hv,dk (by lia),?_⟩;have wX:upd (upd H2 z (.lst [])) l (.lst (vs++[.ref w])) w=some (.lst ((dM x.1).map bI)):=by have ke:¬aL P l w:=(iU hw).1;rw[aD λc=>ke (.inr c)];exact s3 _ _ (iU hw).2
    refine⟨_,U,_,U,w,_,U, .inl (ab.of wX),_,_,U,U,t.length-(at_+(dM x.1).length),?_,at_+(dM x.1).length,_,ds++[x.1],vs++[.ref w],by rw[aX];rfl,U,by lia,c5 (sm.trans ji) hl,(aH.mono ji).upd,ae,?_,?_,?_⟩
    .have:0<(dM x.1).length:=sV.mpr e2
     lia
    .have:0<(dM x.1).length:=sV.mpr e2
     simp;lia
    .rw[dP (.inr U),iD]
     exact qc (bO (λ_ _ r=>bG.mono _ _ _ _ (bV ji) r) hp) (qd h3)
    .have e3:t.drop (at_+(dM x.1).length)=x.2:=by
      rw[<-sW,hd,e1,List.drop_left]
     rw[ht,e3];simp only[dQ,xX];congr 1;funext r;simp
 .have oR:t.length<=at_:=by
   have:¬((at_:Int)<((t.map bI).length:Int)):=λc=>h (bb c);simp at this;lia
  rw[afe oR,BX]at ht;refine⟨_,U,q _ _ sm ⟨l,vs,U,?_,?_⟩⟩
  .rw[cR (hP.not hl)];exact hv
  .unfold wW
   rw[ht];simp only[mW,i5];exact bO (λ_ _ r=>bG.mono _ _ _ _ qh r) hp
inductive jJ(H:Hp)(v:V)(e:Pd):Prop
 |mk (a:Addr) (u:V):v= .ref a->H a=some (.tup [.int (dA e:Int),u])->cT H u (gK e)->jJ H v e
theorem jJ.mono:eP jJ:=λ_ _ _ _ s ⟨a,u,e,h,n⟩=>⟨a,u,e,s _ _ h,cS.mono bZ.mono _ _ _ _ s n⟩
theorem cT.kr:eP cT:=cS.mono bZ.mono
noncomputable def ku(fv:V)(pl:Addr)(fl:Bool):List (Str×V):=[("formula",fv),("pending", .ref pl),("failed", .bl fl)]
def Md(P:Addr->Prop)(r pl:Addr):Addr->Prop:=λb=>P b\/b=r\/b=pl
def bz(r pl:Addr)(H H':Hp):Prop:=∀b o,H b=some o->b≠r->b≠pl->H' b=some o
section
variable{r pl:Addr}{H H1 H2:Hp}{P:Addr->Prop}
theorem bz.refl:bz r pl H H:=λ_ _ e _ _=>e
theorem bz.trans(a:bz r pl H H1)(b:bz r pl H1 H2):bz r pl H H2:=λc o e h1 h2=>b c o (a c o e h1 h2) h1 h2
theorem bz.same(a:bz r pl H H1)(s:aa H1 H2):bz r pl H H2:=λc o e h1 h2=>s _ _ (a c o e h1 h2)
theorem bz.of(s:aa H H1):bz r pl H H1:=λc o e h1 h2=>s _ _ e
theorem bz.ur{o:HO}(a:bz r pl H H1):bz r pl H (upd H1 r o):=λc q e h1 h2=>by rw[aD h1];exact a c q e h1 h2
theorem bz.up{o:HO}(a:bz r pl H H1):bz r pl H (upd H1 pl o):=λc q e h1 h2=>by rw[aD h2];exact a c q e h1 h2
theorem bz.wo(a:bz r pl H H1):aa (Wo (Md P r pl) H) (Wo (Md P r pl) H1):=qe λb o e h=>a b o e (λc=>h (.inr (.inl c))) (λc=>h (.inr (.inr c)))
theorem bz.aH(a:bz r pl H H1)(h:Hid P H)(hr:H1 r≠none)(bK:H1 pl≠none):Hid P H1:=λb hb e=>by
 by_cases h1:b=r
 .subst h1;exact hr e
 .by_cases h2:b=pl
  .subst h2;exact bK e
  .cases q:H b with
   |none=>exact h b hb q
   |some o=>rw[a b o q h1 h2]at e;cases e
end
inductive RdE(A:aF)(P:Addr->Prop)(H:Hp)(r pl:Addr)(s:MS)(fl:Bool):Prop
 |mk (dx:Addr) (fv:V) (vs:List V):H r=some (.ins A.cq dx (ku fv pl fl))->H pl=some (.lst vs)->Paired (jJ (Wo (Md P r pl) H)) vs s.pend.reverse->cT (Wo (Md P r pl) H) fv (ie s.form)->RdE A P H r pl s fl
structure cE(A:aF)(P:Addr->Prop)(H:Hp)(r pl:Addr)(s:MS)(fl:Bool):Prop where
 ex:RdE A P H r pl s fl
 aH:Hid P H
theorem cE.mono{A:aF}{P:Addr->Prop}{H H':Hp}{r pl:Addr}{s:MS}{fl:Bool}(h:cE A P H r pl s fl)(m:aa H H'):cE A P H' r pl s fl:=by obtain⟨dx,fv,vs,h1,h2,h3,h4⟩:=h.ex;exact⟨⟨dx,fv,vs,m _ _ h1,m _ _ h2,bO (λ_ _ q=>jJ.mono _ _ _ _ (bV m) q) h3,cT.kr _ _ _ _ (bV m) h4⟩,h.aH.mono m⟩
theorem uD{P:Addr->Prop}{H:Hp}{r pl:Addr}{o u:HO}(h:Hid P H)(hr:H r=some o)(hp:H pl=some u):Hid (Md P r pl) H:=λb hb e=>by
 rcases hb with hb|rfl|rfl
 .exact h b hb e
 .rw[hr]at e;cases e
 .rw[hp]at e;cases e
noncomputable def cI:List Pd->Nat
 |[]=>0
 |e::_=>dA e
noncomputable def OS(e:Pd):PyData:= .tuple [.int (dA e:Int),nN (gK e)]
theorem OT(l:List Pd):iz (.list (l.map OS)) 5:=wV λy hy=>by
 obtain⟨e,_,rfl⟩:=eu.mp hy;refine Gs λz hz=>?_;simp at hz;rcases hz with rfl|rfl
 .exact(Am _).up (by decide)
 .exact qt _
theorem OU{K:FU}{H:Hp}{v:V}{e:Pd}(h:jJ H v e):Dp K H v (OS e):=by obtain⟨a,u,rfl,h,h2⟩:=h;exact .tup (bx.of h) (.cons (.int _) (.cons (qu h2) .nil))
theorem rY{α:Type}(e:α)(p:List α):(e::p).reverse=p.reverse++[e]:=by simp
inductive OV(A:aF)(vs:List V)(H:Hp)(Q:VK)(E:XK):Prop
 |mk (P:Addr->Prop) (r dx:Addr):vs=[.ref r]->H r=some (.ins A.cq dx [])->Hid P H->(∀H' pl,bz r pl H H'->H pl=none->cE A P H' r pl ⟨none,[]⟩ false->Q .aO H')->OV A vs H Q E
theorem abb(T:Txt K mg A):Gd P w K mg base 1 A.zX A.d_Reading_init ["self"] (OV A):=by
 refine T.ZG.go (N:=["self"]) ?_;rintro aC A' outer s H vs Q E hr nd ⟨P,r,dx,rfl,d7,hP,q⟩;refine⟨_,(af (cn (pv 0) (aS bY))
  (af (cn (pv 0) (aS bY))
  (ag (cn (pv 0) iP)))),?_⟩
 try dsimp only[A9]
 refine⟨bL _,λf hf=>⟨_,U,r,_,dx,_,U,aa.new hf _ _ d7,T.bW,T.ki,(by show 0<1000;decide),?_⟩⟩;refine⟨bL _,λpl bK=>⟨_,U,r,_,dx,_,U,aa.new bK _ _ ae,T.bW,T.nF,(by show 1<1000;decide),?_⟩⟩;refine⟨_,U,r,_,dx,_,U,ae,T.bW,T.ql,(by show 2<1000;decide),?_⟩;have nrf:r≠f:=bS d7 hf;have nrp:r≠pl:=λc=>by subst c;rw[ae]at bK;cases bK
 have nfp:f≠pl:=λc=>by subst c;rw[aD (Ne.symm nrf),ae]at bK;cases bK
 have Gx:H pl=none:=by rw[aD (Ne.symm nrp)]at bK;exact(aa.new hf).free bK
 refine q _ pl ?_ Gx ?_
 .exact((bz.of (aa.new hf)).ur.same (aa.new bK)).ur.ur
 .have k:bz r pl H (upd (upd (upd (upd (upd H f (.lst [])) r (.ins A.cq dx (bA "formula" (.ref f) []))) pl (.lst [])) r (.ins A.cq dx (bA "pending" (.ref pl) (bA "formula" (.ref f) [])))) r (.ins A.cq dx (bA "failed" (.bl false) (bA "pending" (.ref pl) (bA "formula" (.ref f) []))))):=((bz.of (aa.new hf)).ur.same (aa.new bK)).ur.ur
  have hplF:∀o,upd (upd (upd (upd (upd H f (.lst [])) r (.ins A.cq dx (bA "formula" (.ref f) []))) pl (.lst [])) r (.ins A.cq dx (bA "pending" (.ref pl) (bA "formula" (.ref f) [])))) r o pl=some (.lst []):=λo=>by rw[aD (Ne.symm nrp),aD (Ne.symm nrp),ae]
  have hff:∀o,upd (upd (upd (upd (upd H f (.lst [])) r (.ins A.cq dx (bA "formula" (.ref f) []))) pl (.lst [])) r (.ins A.cq dx (bA "pending" (.ref pl) (bA "formula" (.ref f) [])))) r o f=some (.lst []):=λo=>by rw[aD (Ne.symm nrf),aD (Ne.symm nrf),aD nfp,aD (Ne.symm nrf),ae]
  refine⟨⟨dx, .ref f,[],ae,hplF _, .nil,f,[],U,?_, .nil⟩,k.aH hP (by rw[ae];intro z;cases z) (by rw[hplF];intro z;cases z)⟩;rw[cR (by
   rintro(c|c|c)
   .exact hP.not hf c
   .exact nrf c.symm
   .exact nfp c),hff]
inductive OW(A:aF)(vs:List V)(H:Hp)(Q:VK)(E:XK):Prop
 |mk (P:Addr->Prop) (r pl:Addr) (s:MS) (fl:Bool):vs=[.ref r]->cE A P H r pl s fl->(∀H',aa H H'->Q (.int (cI s.pend:Int)) H')->OW A vs H Q E
theorem uE(T:Txt K mg A):Gd P w K mg base 1 A.EF A.d_Reading_innermost ["self"] (OW A):=by
 refine T.ZN.go (N:=["self"]) ?_;rintro aC A' outer s H vs Q E hr nd ⟨P,r,pl,s,fl,rfl,hS,q⟩;refine⟨_,(af (a9 (aR (mi hr.units) (ao (pv 0)) (aS bY)) (ag (aB ak)) bt)
  (ag (aB (cW (aT (ao (pv 0)) (il ip ak)) ak)))),?_⟩
 try dsimp only[A9]
 obtain⟨dx,fv,vs,h1,h2,h3,h4⟩:=hS.ex;refine⟨_,U,_,_,_,_,_,U,h1,T.bW,T.nF,U,bL _,λz hz=>?_⟩;have s1:=aa.new (o:= .lst []) hz;have qw:=bO (λ_ _ q=>jJ.mono _ _ _ _ (aa.trans (bB (Md P r pl) H) s1) q) h3;refine⟨_,_, .lst (ab.of (s1 _ _ h2)) (An (λ_ _ r=>OU r) qw),mC ae,(OT _).shaped (by decide),mD,_,U,?_⟩;rw[mB,isEmpty_map];cases hp:s.pend with
 |nil=>rw[hp]at q;exact aJ (q _ s1)
 |cons e p=>
  rw[hp]at q qw;rw[rY]at qw⊢;obtain⟨ws,w,rfl,h5,a,u,rfl,h6,h7⟩:=ui qw;have b8:(p.reverse++[e]).isEmpty=false:=by cases p.reverse<;>rfl
  rw[b8];refine aA ⟨_,U,_,_,_,_,_,U,s1 _ _ h1,T.bW,T.nF,U,_,U,_,_,_,_,U,U,ab.of (s1 _ _ h2),VI _ _,_,_,_,_,U,U,bx.of h6,bT,q _ s1⟩
inductive Ao(A:aF)(vs:List V)(H:Hp)(Q:VK)(E:XK):Prop
 |mk (P:Addr->Prop) (r pl:Addr) (s:MS) (fl:Bool) (e:Pd):vs=[.ref r, .int (dA e:Int)]->cE A P H r pl s fl->gK e=ie s.form->s.pend.length<=10000->(∀H',bz r pl H H'->cE A P H' r pl ⟨none,e::s.pend⟩ (fl||decide (100<=s.pend.length))->Q .aO H')->Ao A vs H Q E
theorem Gy(T:Txt K mg A):Gd P w K mg base 1 A.EE A.d_Reading_begin ["self","sign"] (Ao A):=by
 refine T.ZM.go (N:=["self","sign"]) ?_;rintro aC A' outer s H vs Q E hr nd ⟨P,r,pl,s,fl,e,rfl,hS,he,hlen,q⟩;refine⟨_,(af (bF (dD (ao (pv 0)) (gh (aZ (pv 1) (ao (pv 0))))))
  (af (cn (pv 0) (aS bY))
  (ag (a9 (aR rK (dw T.c6 (ao (pv 0))) (aW T.XO)) (ag (cn (pv 0) iP)) bt)))),?_⟩
 try dsimp only[A9]
 obtain⟨dx,fv,vs,h1,h2,h3,h4⟩:=hS.ex;have nrp:r≠pl:=ig h1 h2 (by intro z;cases z);have gk:=ck h3;rw[uZ]at gk;refine⟨_,U,_,_,_,_,_,U,h1,T.bW,T.nF,U, .inl ⟨U,_,ab.of h2⟩,_,U,_,U,_,_,_,_,_,U,h1,T.bW,T.ki,U,gm,λt ht=>⟨pl,_,_,U,U,aa.new ht _ _ h2,dk (by lia),?_⟩⟩;have s1:=aa.new (o:= .tup [.int (dA e:Int),fv]) ht;have hM:=uD hS.aH h1 h2;have htM:¬Md P r pl t:=hM.not ht;refine⟨bL _,λz hz=>⟨_,U,r,_,_,_,U,aa.new hz _ _ (by rw[aD nrp];exact s1 _ _ h1),T.bW,T.ki,(by show 3<1000;decide),?_⟩⟩;have s2:=aa.new (o:= .lst []) hz;have OX:z≠r:=λc=>by subst c;rw[aD nrp,s1 _ _ h1]at hz;cases hz
 have Gz:z≠pl:=λc=>by subst c;rw[ae]at hz;cases hz
 have hzP:¬P z:=λc=>hS.aH z c (by
  rw[aD Gz]at hz;exact s1.free hz)
 have k3:bz r pl H (upd (upd (upd (upd H t (.tup [.int (dA e:Int),fv])) pl (.lst (vs++[.ref t]))) z (.lst [])) r (.ins A.cq dx (ku (.ref z) pl fl))):=((bz.of s1).up.same s2).ur;have GA:∀o,upd (upd (upd (upd H t (.tup [.int (dA e:Int),fv])) pl (.lst (vs++[.ref t]))) z (.lst [])) r o pl=some (.lst (vs++[.ref t])):=λo=>by rw[aD (Ne.symm nrp),aD (Ne.symm Gz),ae]
 have Ap:∀o,upd (upd (upd (upd H t (.tup [.int (dA e:Int),fv])) pl (.lst (vs++[.ref t]))) z (.lst [])) r o z=some (.lst []):=λo=>by rw[aD OX,ae]
 have Aq:∀o,upd (upd (upd (upd H t (.tup [.int (dA e:Int),fv])) pl (.lst (vs++[.ref t]))) z (.lst [])) r o t=some (.tup [.int (dA e:Int),fv]):=λo=>by
  have wz:t≠r:=λc=>htM (.inr (.inl c));have pK:t≠pl:=λc=>htM (.inr (.inr c));have qw:t≠z:=λc=>by subst c;rw[aD pK,ae]at hz;cases hz
  rw[aD wz,aD qw,aD pK,ae]
 have fin:∀(H':Hp) (GB:Bool),H' r=some (.ins A.cq dx (ku (.ref z) pl GB))->bz r pl H H'->H' pl=some (.lst (vs++[.ref t]))->H' z=some (.lst [])->H' t=some (.tup [.int (dA e:Int),fv])->cE A P H' r pl ⟨none,e::s.pend⟩ GB:=by
  intro H' GB a1 a2 a3 a4 a5;refine⟨⟨dx, .ref z,_,a1,a3,?_,z,[],U,?_, .nil⟩,a2.aH hS.aH (by rw[a1];intro c;cases c) (by rw[a3];intro c;cases c)⟩
  .rw[rY]
   refine kf (bO (λ_ _ q=>jJ.mono _ _ _ _ a2.wo q) h3) ⟨t,fv,U,?_,?_⟩
   .rw[cR htM];exact a5
   .rw[he];exact cT.kr _ _ _ _ a2.wo h4
  .rw[cR (by
    rintro(c|c|c)
    .exact hzP c
    .exact OX c
    .exact Gz c)]
   exact a4
 refine⟨_,U,_,_,_,_,_,U,ae,T.bW,T.nF,U,pl,_,U, .inl (ab.of (GA _)),_,_,U,U,_,U,b9 (λh=>?_) (λh=>?_)⟩
 .have oR:100<=s.pend.length:=by have:=dJ h;simp at this;lia
  rw[bb oR,aft]at q;refine⟨_,U,r,_,_,_,U,ae,T.bW,T.ql,(by show 3<1000;decide),?_⟩;rw[jz];have k4:bz r pl H (upd (upd (upd (upd H t (.tup [.int (dA e:Int),fv])) pl (.lst (vs++[.ref t]))) z (.lst [])) r (.ins A.cq dx (ku (.ref z) pl true))):=((bz.of s1).up.same s2).ur;exact q _ k4 (fin _ _ ae k4 (GA _) (Ap _) (Aq _))
 .have aU:¬100<=s.pend.length:=by
   intro c;refine h (bb ?_);simp;lia
  rw[cO aU,sT]at q;exact q _ k3 (fin _ _ ae k3 (GA _) (Ap _) (Aq _))
theorem cE.next{A:aF}{P:Addr->Prop}{H H2:Hp}{r pl dx:Addr}{fl:Bool}{fv v':V}{ws:List V}{p:List Pd}{f':Option Formula}(hP:Hid P H)(k:bz r pl H H2)(Ar:H2 r=some (.ins A.cq dx (ku fv pl fl)))(nM:H2 pl=some (.lst ws))
  (hpd:Paired (jJ (Wo (Md P r pl) H)) ws p.reverse) (hv:cT (Wo (Md P r pl) H2) v' (ie f')):
  cE A P (upd H2 r (.ins A.cq dx (ku v' pl fl))) r pl ⟨f',p⟩ fl/\ bz r pl H (upd H2 r (.ins A.cq dx (ku v' pl fl))):=by
 have nrp:r≠pl:=ig Ar nM (by intro z;cases z);have k':bz r pl H (upd H2 r (.ins A.cq dx (ku v' pl fl))):=k.ur;have bK:upd H2 r (.ins A.cq dx (ku v' pl fl)) pl=some (.lst ws):=by rw[aD (Ne.symm nrp)];exact nM
 refine⟨⟨⟨dx,v',ws,ae,bK,bO (λ_ _ q=>jJ.mono _ _ _ _ k'.wo q) hpd,?_⟩,k'.aH hP (by rw[ae];intro z;cases z) (by rw[bK];intro z;cases z)⟩,k'⟩;rw[dP (P:=Md P r pl) (l:=r) (.inr (.inl U))];exact hv
theorem cE.popped{A:aF}{P:Addr->Prop}{H:Hp}{r pl:Addr}{fl:Bool}{f:Option Formula}{e:Pd}{p:List Pd}(h:cE A P H r pl ⟨f,e::p⟩ fl):
  ∃dx fv ws w,H r=some (.ins A.cq dx (ku fv pl fl))/\ H pl=some (.lst (ws++[w]))/\ Paired (jJ (Wo (Md P r pl) H)) ws p.reverse/\ jJ (Wo (Md P r pl) H) w e/\ cT (Wo (Md P r pl) H) fv (ie f)/\ Hid (Md P r pl) (upd H pl (.lst ws))/\ upd H pl (.lst ws) r=some (.ins A.cq dx (ku fv pl fl))/\ Wo (Md P r pl) (upd H pl (.lst ws))=Wo (Md P r pl) H:=by
 obtain⟨dx,fv,vs,h1,h2,h3,h4⟩:=h.ex;have h3:Paired (jJ (Wo (Md P r pl) H)) vs (e::p).reverse:=h3;rw[rY]at h3;obtain⟨ws,w,rfl,h5,h6⟩:=ui h3;have nrp:r≠pl:=ig h1 h2 (by intro z;cases z);exact⟨dx,fv,ws,w,h1,h2,h5,h6,h4,(uD h.aH h1 h2).upd,by rw[aD nrp];exact h1,dP (.inr (.inr U))⟩
structure jK(F:Formula)(p:List Pd):Prop where
 mul:multiplicative F=true
 gy:jX p
 sz:(enc F).length+cV p<=10000
theorem wY:∀p:List Pd,p.length<=cV p
 |[]=>a_ _
 |e::p=>by have:=wY p;simp only[cV,bj];lia
inductive OY(A:aF)(vs:List V)(H:Hp)(Q:VK)(E:XK):Prop
 |mk (P:Addr->Prop) (r pl:Addr) (F:Formula) (p:List Pd) (fl:Bool):vs=[.ref r]->cE A P H r pl ⟨some F,p⟩ fl->jK F p->(∀H',bz r pl H H'->cE A P H' r pl ⟨some (eN F p).1,(eN F p).2⟩ fl->Q .aO H')->OY A vs H Q E
theorem OZ(T:Txt K mg A):Gd P w K mg base 2 A.EG A.d_Reading_end_part ["self"] (OY A):=by
 refine T.ZO.go (N:=["self"]) ?_;rintro aC A' outer s H vs Q E hr nd ⟨P,r,pl,F,p,fl,rfl,hS,hC,q⟩;refine⟨_,(ag (j4 PassesOwn.never (aR cj (dO hr (uE T) T.bW T.uq (pv 0)) (aW T.Aa)) (af (bF (oM MM Ng Nh oN (ao (pv 0))))
  (ag (cn (pv 0) (aP hr (wU T) T.wK (aj (ao (pv 0))))))))),?_⟩
 try dsimp only[A9]
 obtain⟨W,hW⟩:∃W:Nat->L2.St->Hp->Prop,W=λm σ' H'=>E2 λG g=>A6 (σ'=[some (.ref r)]) (m=g.length) (bz r pl H H') (cE A P H' r pl ⟨some G,g⟩ fl) (jK G g) (eN G g=eN F p):=⟨_,U⟩
 refine⟨W,⟨_,by rw[hW];exact⟨F,p,U,U,bz.refl,hS,hC,U⟩⟩,λm σ' H' w=>?_⟩;rw[hW]at w;obtain⟨G,g,rfl,rfl,k,hG,cG,eG⟩:=w;obtain⟨dx,fv,vs,h1,_⟩:=hG.ex;refine⟨_,U,r,dx,_,U,h1,U,P,r,pl,_,fl,U,hG,λH1 s1=>⟨U,_,U,b9 (λh=>?_) (λh=>?_)⟩⟩
 .have et:cI g=126:=by
   have:(cI g:Int)=126:=o5 (dJ h);lia
  match g,et with
  | .gp::g,_=>obtain⟨dx,fv,ws,w,a1,a2,a3,a4,a5,a6,a7,a8⟩:=(hG.mono s1).popped;refine⟨_,U,_,_,_,_,_,U,a1,T.bW,T.nF,U, .inl ⟨U,_,ab.of a2⟩,pl,_,_,U,U,a2,o7 _ _,?_⟩;rw[pD];have hsz:=cG.sz;simp only[cV,gK,lF]at hsz;refine⟨_,U,_,_,_,_,_,U,a7,T.bW,T.ki,U,Md P r pl,fv,enc G,U,by rw[a8];exact a5,jt G cG.mul,by lia,a6,λv' H2 s2 hv=>⟨_,U,r,_,_,_,U,s2 _ _ a7,T.bW,T.ki,(by show 3<1000;decide),?_⟩⟩;have nx:=cE.next (A:=A) (f':=some (L7 G)) (hG.mono s1).aH ((bz.refl (H:=H1)).up.same s2) (s2 _ _ a7) (s2 _ _ ae) a3 (v':=v') (by show cT _ _ (enc (L7 G));rw[jS];exact hv);refine⟨g.length,by simp,?_⟩;rw[hW];refine⟨L7 G,g,U,U,(k.same s1).trans nx.2,nx.1,⟨by rw[jT];exact cG.mul,λx hx=>cG.gy x (by simp[hx]),?_⟩,eG⟩;rw[jS,aX];lia
  | .gF::g,et=>exact absurd et (by simp[cI,dA])
  | .cf b B::g,et=>exact absurd et (by cases b<;>simp[cI,dA])
  | .arr B::g,et|[],et=>exact absurd et (by simp[cI,dA])
 .have et:¬cI g=126:=λc=>h (bb (by rw[c];rfl))
  have e1:eN G g=(G,g):=Ie G g (by
   cases g with
   |nil=>rfl
   |cons e g=>cases e<;>first|rfl|exact absurd U et)
  rw[<-eG,e1]at q;exact q _ (k.same s1) (hG.mono s1)
theorem O0(n:Nat):gj (.int (n:Int)) [.int 42, .int 124]=(n==42||n==124):=by
 unfold gj;simp only[px,BB,sT];have e:∀m:Nat,mh (.int (m:Int)) (.int (n:Int))=(n==m):=λm=>by
  show((m:Int)==(n:Int))=(n==m);by_cases h:n=m
  .subst h;simp
  .rw[beq_eq_false_iff_ne.mpr h,beq_eq_false_iff_ne];lia
 have h1:=e 42;have h2:=e 124;rw[<-h1,<-h2];rfl
inductive O1(A:aF)(vs:List V)(H:Hp)(Q:VK)(E:XK):Prop
 |mk (P:Addr->Prop) (r pl:Addr) (F:Formula) (p:List Pd) (fl:Bool):vs=[.ref r]->cE A P H r pl ⟨some F,p⟩ fl->jK F p->(∀H',bz r pl H H'->cE A P H' r pl ⟨some (de F p).1,(de F p).2⟩ fl->Q .aO H')->O1 A vs H Q E
theorem O2(T:Txt K mg A):Gd P w K mg base 2 A.EH A.d_Reading_end_chain ["self"] (O1 A):=by
 refine T.ZP.go (N:=["self","before","kind"]) ?_;rintro aC A' outer s H vs Q E hr nd ⟨P,r,pl,F,p,fl,rfl,hS,hC,q⟩;refine⟨_,(ag (j4 PassesOwn.never (aR zw (dO hr (uE T) T.bW T.uq (pv 0)) (gh (aZ (aW T.um) (aW T.wG)))) (af (aN 1 nd (oM MM Ng Nh oN (ao (pv 0))))
  (af (aN 2 nd (kX (aR cj (cW (pv 1) ak) (aW T.um)) (aW T.wI) (aW T.Ab)))
  (ag (cn (pv 0) (aP hr (Ov T) T.NX (fM (pv 2) (aZ (cW (pv 1) ak) (ao (pv 0))))))))))),?_⟩
 try dsimp only[A9]
 obtain⟨W,hW⟩:∃W:Nat->L2.St->Hp->Prop,W=λm σ' H'=>E4 λG g u v=>A6 (σ'=[some (.ref r),u,v]) (m=g.length) (bz r pl H H') (cE A P H' r pl ⟨some G,g⟩ fl) (jK G g) (de G g=de F p):=⟨_,U⟩
 refine⟨W,⟨_,by rw[hW];exact⟨F,p,none,none,U,U,bz.refl,hS,hC,U⟩⟩,λm σ' H' w=>?_⟩;rw[hW]at w;obtain⟨G,g,u,v,rfl,rfl,k,hG,cG,eG⟩:=w;obtain⟨dx,fv,vs,h1,_⟩:=hG.ex;refine⟨_,U,r,dx,_,U,h1,U,P,r,pl,_,fl,U,hG,λH0 s0=>⟨gm,λz hz=>⟨z,_,U, .inr (bx.of ae),U,U,_,U,?_⟩⟩⟩;have s1:aa H' (upd H0 z (.tup [.int 42, .int 124])):=s0.trans (aa.new hz);generalize upd H0 z (.tup [.int 42, .int 124])=H1 at s1⊢;rw[show(if false=true then !gj (.int (cI g:Int)) [.int 42, .int 124]else gj (.int (cI g:Int)) [.int 42, .int 124])=(cI g==42||cI g==124)from O0 _];refine b9 (λh=>?_) (λh=>?_)
 .have et:cI g=42\/cI g=124:=by simpa using h
  match g,et with
  | .cf b B::g,_=>
   obtain⟨dx,fv,ws,w,a1,a2,a3,a4,a5,a6,a7,a8⟩:=(hG.mono s1).popped;have hB:multiplicative B=true:=cG.gy (.cf b B) (by simp);refine⟨_,U,_,_,_,_,_,U,a1,T.bW,T.nF,U, .inl ⟨U,_,ab.of a2⟩,pl,_,_,U,U,a2,o7 _ _,?_⟩;rw[pD];rw[<-a8]at a4;obtain⟨c,u',rfl,h6,h7⟩:=a4;have As:=bB _ _ _ _ h6;have hsz:=cG.sz;simp only[cV,gK]at hsz;have go:∀kk:Nat,kk=(if b=true then 3 else 2)->(fA (KI K (aY 0) (iS Gr [] E0 (d_ (aY 2) (d_ (cw (ub K) (aY 1) (tC (.int 1))) (d_ (ir K (aY 0) "formula") eI)))) "formula") iQ) (MV (fnE Q) (MO W (Pd.cf b B::g).length)) [some (.ref r),some (.ref c),some (.int (kk:Int))] (upd H1 pl (.lst ws)):=by intro kk o8;refine⟨_,U,_,U,_,_,_,_,U,U,bx.of As,fP,_,U,_,_,_,_,_,U,a7,T.bW,T.ki,U,Md P r pl,kk,u',fv,enc B,enc G,U,h7,by rw[a8];exact a5,by lia,a6,λv' H2 s2 hv=>⟨_,U,r,_,_,_,U,s2 _ _ a7,T.bW,T.ki,(by show 3<1000;decide),?_⟩⟩;have nx:=cE.next (A:=A) (f':=some (kO b B G)) (hG.mono s1).aH ((bz.refl (H:=H1)).up.same s2) (s2 _ _ a7) (s2 _ _ ae) a3 (v':=v') (by show cT _ _ (enc (kO b B G));rw[yU,<-o8];exact hv);refine⟨g.length,by simp,?_⟩;rw[hW];refine⟨kO b B G,g,_,_,U,U,(k.same s1).trans nx.2,nx.1,⟨JO hB cG.mul,λx hx=>cG.gy x (by simp[hx]),?_⟩,eG⟩;rw[yU,bj,cP];lia
   refine⟨_,U,_,_,_,_,U,U,bx.of As,bT,U,_,U,b9 (λh=>?_) (λh=>?_)⟩
   .have e:dA (.cf b B)=42:=by have:=o5 (dJ h);lia
    exact go 2 (by cases b;rfl;exact absurd e (by simp[dA]))
   .have e:¬dA (.cf b B)=42:=λc=>h (bb (by rw[c];rfl))
    exact go 3 (by cases b;exact absurd U e;rfl)
  | .gp::g,et| .gF::g,et| .arr B::g,et|[],et=>exact absurd et (by simp[cI,dA])
 .have et:¬(cI g=42\/cI g=124):=λc=>h (by simpa using c)
  have e1:de G g=(G,g):=Ig G g (by
   cases g with
   |nil=>rfl
   |cons e g=>cases e with
    |cf b B=>cases b;exact absurd (.inl U) et;exact absurd (.inr U) et
    |_=>rfl)
  rw[<-eG,e1]at q;exact q _ (k.same s1) (hG.mono s1)
theorem O3{F:Formula}{p:List Pd}(c:jK F p):jK (de F p).1 (de F p).2:=by have h:=yW p F c.mul c.gy;exact⟨h.1,h.2.1,c_ h.2.2 c.sz⟩
theorem abf{F:Formula}{p:List Pd}(c:jK F p):jK (gq F p).1 (gq F p).2:=by have h:=CJ p F c.mul c.gy;exact⟨h.1,h.2.1,c_ h.2.2 c.sz⟩
theorem abg(G:Formula)(g:List Pd)(h:¬cI g=45):jR G g=(G,g):=by
 cases g with
 |nil=>rfl
 |cons e g=>cases e<;>first|rfl|exact absurd U h
inductive O4(A:aF)(vs:List V)(H:Hp)(Q:VK)(E:XK):Prop
 |mk (P:Addr->Prop) (r pl:Addr) (F:Formula) (p:List Pd) (fl:Bool):vs=[.ref r]->cE A P H r pl ⟨some F,p⟩ fl->jK F p->(∀H',bz r pl H H'->cE A P H' r pl ⟨some (gq F p).1,(gq F p).2⟩ fl->Q .aO H')->O4 A vs H Q E
theorem O5(T:Txt K mg A):Gd P w K mg base 3 A.EI A.d_Reading_end_formula ["self"] (O4 A):=by
 refine T.ZQ.go (N:=["self","before"]) ?_;rintro aC A' outer s H vs Q E hr nd ⟨P,r,pl,F,p,fl,rfl,hS,hC,q⟩;refine⟨_,(af (bF (dO hr (O2 T) T.bW T.N5 (pv 0)))
  (ag (j4 PassesOwn.never (aR cj (dO hr (uE T) T.bW T.uq (pv 0)) (aW T.rT)) (af (aN 1 nd (oM MM Ng Nh oN (ao (pv 0))))
  (ag (cn (pv 0) (aP hr (Ov T) T.NX (fM (aW T.Ab) (aZ (aP hr (wU T) T.wK (aj (cW (pv 1) ak))) (ao (pv 0))))))))))),?_⟩
 try dsimp only[A9]
 obtain⟨wZ,fv0,w8,GC,_⟩:=hS.ex;refine⟨_,U,r,wZ,_,U,GC,U,P,r,pl,F,p,fl,U,hS,hC,λH1 k1 eR=>?_⟩;have nO:=O3 hC;have eF:gq F p=jR (de F p).1 (de F p).2:=rfl;rw[eF]at q;generalize (de F p).1=F1 at eR nO q;generalize (de F p).2=p1 at eR nO q;obtain⟨W,hW⟩:∃W:Nat->L2.St->Hp->Prop,W=λm σ' H'=>E3 λG g u=>A6 (σ'=[some (.ref r),u]) (m=g.length) (bz r pl H H') (cE A P H' r pl ⟨some G,g⟩ fl) (jK G g) (jR G g=jR F1 p1):=⟨_,U⟩
 refine⟨W,⟨_,by rw[hW];exact⟨F1,p1,none,U,U,k1,eR,nO,U⟩⟩,λm σ' H' w=>?_⟩;rw[hW]at w;obtain⟨G,g,u,rfl,rfl,k,hG,cG,eG⟩:=w;obtain⟨dx,fv,vs,h1,_⟩:=hG.ex;refine⟨_,U,r,dx,_,U,h1,U,P,r,pl,_,fl,U,hG,λH1 s1=>⟨U,_,U,b9 (λh=>?_) (λh=>?_)⟩⟩
 .have et:cI g=45:=by
   have:(cI g:Int)=45:=o5 (dJ h);lia
  match g,et with
  | .arr B::g,_=>obtain⟨dx,fv,ws,w,a1,a2,a3,a4,a5,a6,a7,a8⟩:=(hG.mono s1).popped;have hB:multiplicative B=true:=cG.gy (.arr B) (by simp);refine⟨_,U,_,_,_,_,_,U,a1,T.bW,T.nF,U, .inl ⟨U,_,ab.of a2⟩,pl,_,_,U,U,a2,o7 _ _,?_⟩;rw[pD];rw[<-a8]at a4 a5;obtain⟨c,u',rfl,h6,h7⟩:=a4;have As:=bB _ _ _ _ h6;have hsz:=cG.sz;simp only[cV,gK]at hsz;refine⟨_,U,_,_,_,_,U,U,bx.of As,fP,Md P r pl,u',enc B,U,h7,jt B hB,by lia,a6,λv1 H2 s2 jj=>?_⟩;refine⟨_,U,_,_,_,_,_,U,s2 _ _ a7,T.bW,T.ki,U,Md P r pl,3,v1,fv,_,enc G,U,jj,cT.kr _ _ _ _ (bV s2) a5,by rw[aX];lia,a6.mono s2,λv' H3 s3 hv=>⟨_,U,r,_,_,_,U,s3 _ _ (s2 _ _ a7),T.bW,T.ki,(by show 3<1000;decide),?_⟩⟩;have nx:=cE.next (A:=A) (f':=some (.par (L7 B) G)) (hG.mono s1).aH (((bz.refl (H:=H1)).up.same s2).same s3) (s3 _ _ (s2 _ _ a7)) (s3 _ _ (s2 _ _ ae)) a3 (v':=v') (by show cT _ _ (enc (.par (L7 B) G));rw[yV,jS];exact hv);refine⟨g.length,by simp,?_⟩;rw[hW];refine⟨.par (L7 B) G,g,_,U,U,(k.same s1).trans nx.2,nx.1,⟨by simp[multiplicative,jT,hB,cG.mul],λx hx=>cG.gy x (by simp[hx]),?_⟩,eG⟩;rw[yV,bj,cP,jS,aX];lia
  | .gF::g,et=>exact absurd et (by simp[cI,dA])
  | .cf b B::g,et=>exact absurd et (by cases b<;>simp[cI,dA])
  | .gp::g,et|[],et=>exact absurd et (by simp[cI,dA])
 .have et:¬cI g=45:=λc=>h (bb (by rw[c];rfl))
  rw[<-eG,abg G g et]at q;exact q _ (k.same s1) (hG.mono s1)
def uF(A:aF)(P:Addr->Prop)(H:Hp)(r pl:Addr):Option MS->Prop
 |some s=>cE A P H r pl s false
 |none=>∃s,cE A P H r pl s true
theorem cE.fail{A:aF}{P:Addr->Prop}{H:Hp}{r pl:Addr}{s:MS}{fl:Bool}(h:cE A P H r pl s fl):∃dx fs,H r=some (.ins A.cq dx fs)/\ fs.length=3/\ cE A P (upd H r (.ins A.cq dx (bA "failed" (.bl true) fs))) r pl s true/\ bz r pl H (upd H r (.ins A.cq dx (bA "failed" (.bl true) fs))):=by
 obtain⟨dx,fv,vs,h1,h2,h3,h4⟩:=h.ex;have nrp:r≠pl:=ig h1 h2 (by intro z;cases z);have k:bz r pl H (upd H r (.ins A.cq dx (ku fv pl true))):=bz.refl.ur;have bK:upd H r (.ins A.cq dx (ku fv pl true)) pl=some (.lst vs):=by rw[aD (Ne.symm nrp)];exact h2
 refine⟨dx,_,h1,U,⟨⟨dx,fv,vs,ae,bK,bO (λ_ _ q=>jJ.mono _ _ _ _ k.wo q) h3,cT.kr _ _ _ _ k.wo h4⟩,k.aH h.aH (by rw[ae];intro z;cases z) (by rw[bK];intro z;cases z)⟩,k⟩
inductive O6(A:aF)(vs:List V)(H:Hp)(Q:VK)(E:XK):Prop
 |mk (P:Addr->Prop) (r pl:Addr) (F:Formula) (p:List Pd):vs=[.ref r]->cE A P H r pl ⟨some F,p⟩ false->jK F p->(∀H',bz r pl H H'->uF A P H' r pl (takeRight F p)->Q .aO H')->O6 A vs H Q E
theorem abi(T:Txt K mg A):Gd P w K mg base 4 A.ED A.d_Reading_take_right ["self"] (O6 A):=by
 refine T.ZL.go (N:=["self"]) ?_;rintro aC A' outer s H vs Q E hr nd ⟨P,r,pl,F,p,rfl,hS,hC,q⟩;refine⟨_,(af (bF (dO hr (O5 T) T.bW T.N6 (pv 0)))
  (ag (a9 (aR cj (dO hr (uE T) T.bW T.uq (pv 0)) (aW T.z_)) (af (bF (oM MM Ng Nh oN (ao (pv 0))))
  (ag (bF (dO hr (OZ T) T.bW T.N4 (pv 0))))) (ag (cn (pv 0) iP))))),?_⟩
 try dsimp only[A9]
 obtain⟨wZ,fv0,w8,GC,_⟩:=hS.ex;refine⟨_,U,r,wZ,_,U,GC,U,P,r,pl,F,p,false,U,hS,hC,λH1 k1 eR=>?_⟩;have nO:=abf hC;unfold takeRight at q;generalize gq F p=z at eR nO q;obtain⟨F1,p1⟩:=z;obtain⟨dx,fv,vs,h1,_⟩:=eR.ex;refine⟨_,U,r,dx,_,U,h1,U,P,r,pl,_,false,U,eR,λH2 s2=>⟨U,_,U,b9 (λh=>?_) (λh=>?_)⟩⟩
 .have et:cI p1=40:=by
   have:(cI p1:Int)=40:=o5 (dJ h);lia
  match p1,et with
  | .gF::g,_=>
   obtain⟨dx,fv,ws,w,a1,a2,a3,a4,a5,a6,a7,a8⟩:=(eR.mono s2).popped;refine⟨_,U,_,_,_,_,_,U,a1,T.bW,T.nF,U, .inl ⟨U,_,ab.of a2⟩,pl,_,_,U,U,a2,o7 _ _,?_⟩;rw[pD];have kk:bz r pl H2 (upd H2 pl (.lst ws)):=bz.refl.up;have hsz:=nO.sz;simp only[cV,gK,lF]at hsz;have hG:cE A P (upd H2 pl (.lst ws)) r pl ⟨some F1,g⟩ false:=⟨⟨dx,fv,ws,a7,ae,by rw[a8];exact a3,by rw[a8];exact a5⟩,(eR.mono s2).aH.upd⟩
   refine⟨_,U,r,dx,_,U,a7,U,P,r,pl,F1,g,false,U,hG,⟨nO.mul,λx hx=>nO.gy x (by simp[hx]),by lia⟩,λH3 k3 hS3=>?_⟩;exact q _ (((k1.same s2).trans kk).trans k3) hS3
  | .gp::g,et=>exact absurd et (by simp[cI,dA])
  | .cf b B::g,et=>exact absurd et (by cases b<;>simp[cI,dA])
  | .arr B::g,et|[],et=>exact absurd et (by simp[cI,dA])
 .have et:¬cI p1=40:=λc=>h (bb (by rw[c];rfl))
  obtain⟨rP,fs,f1,f2,f3,f4⟩:=(eR.mono s2).fail;refine⟨_,U,r,_,_,_,U,f1,T.bW,T.ql,(by rw[f2];decide),?_⟩;refine q _ ((k1.same s2).trans f4) ?_;cases p1 with
  |nil=>exact⟨_,f3⟩
  |cons e g=>cases e<;>first|exact absurd U et|exact⟨_,f3⟩
inductive GD(A:aF)(vs:List V)(H:Hp)(Q:VK)(E:XK):Prop
 |mk (P:Addr->Prop) (r pl:Addr) (F:Formula) (p:List Pd) (b:Bool):vs=[.ref r, .int (dA (.cf b F):Int)]->cE A P H r pl ⟨some F,p⟩ false->jK F p->(∀H',bz r pl H H'->uF A P H' r pl (i6 b F p)->Q .aO H')->GD A vs H Q E
theorem abk(T:Txt K mg A):Gd P w K mg base 2 A.EC A.d_Reading_take_chain_sign ["self","sign"] (GD A):=by
 refine T.ZK.go (N:=["self","sign"]) ?_;rintro aC A' outer s H vs Q E hr nd ⟨P,r,pl,F,p,b,rfl,hS,hC,q⟩;refine⟨_,(af (a9 (PW.pt (tV (aR zw (dO hr (uE T) T.bW T.uq (pv 0)) (gh (aZ (aW T.um) (aW T.wG)))) (tU (aR t8 (dO hr (uE T) T.bW T.uq (pv 0)) (pv 1))))) (ag (cn (pv 0) iP)) bt)
  (ag (bF (bN hr (Gy T) T.bW T.F3 (pv 0) (aj (pv 1)))))),?_⟩
 try dsimp only[A9]
 have bK:=wY p;have hsz:=hC.sz;have last:∀(H1:Hp) (fl:Bool),bz r pl H H1->cE A P H1 r pl ⟨some F,p⟩ fl->(fl=false->i6 b F p=push (.cf b F) p)->(fl=true->i6 b F p=none)->
   (fA (za (oH A.cq "begin" (Ao A) [] E0 (aY 0) (d_ (aY 1) eI))) iQ) {nx:=λ_ H'=>Q .aO H',rt:=Q} [some (.ref r),some (.int (dA (.cf b F):Int))] H1:=by
  intro H1 fl k1 eR h1 h2;obtain⟨dx,fv,vs,g1,_⟩:=eR.ex;refine⟨_,U,r,dx,_,U,g1,U,_,U,P,r,pl,_,fl, .cf b F,U,eR,U,by show p.length<=10000;lia,λH2 k2 eJ=>q _ (k1.trans k2) ?_⟩;cases fl with
  |true=>rw[h2 U];exact⟨_,by rw[afu]at eJ;exact eJ⟩
  |false=>
   rw[h1 U];rw[xT]at eJ;have eJ:cE A P H2 r pl ⟨none, .cf b F::p⟩ (decide (100<=p.length)):=eJ;unfold push;by_cases hl:p.length<100
   .rw[aI hl]
    rw[cO (by lia)]at eJ;exact eJ
   .rw[ay hl]
    rw[bb (by lia)]at eJ;exact⟨_,eJ⟩
 obtain⟨dx,fv,vs,h1,_⟩:=hS.ex;refine⟨_,U,r,dx,_,U,h1,U,P,r,pl,_,false,U,hS,λH0 s0=>⟨gm,λz hz=>⟨z,_,U, .inr (bx.of ae),U,U,_,U,?_⟩⟩⟩;have s1:aa H (upd H0 z (.tup [.int 42, .int 124])):=s0.trans (aa.new hz);generalize upd H0 z (.tup [.int 42, .int 124])=H1 at s1⊢;rw[show(if false=true then !gj (.int (cI p:Int)) [.int 42, .int 124]else gj (.int (cI p:Int)) [.int 42, .int 124])=(cI p==42||cI p==124)from O0 _];refine b9 (λh=>?_) (λh=>?_)
 .have et:cI p=42\/cI p=124:=by simpa using h
  refine⟨_,U,r,dx,_,U,s1 _ _ h1,U,P,r,pl,_,false,U,hS.mono s1,λH2 s2=>⟨_,U,U,_,U,b9 (λh'=>?_) (λh'=>?_)⟩⟩
  .have en:¬cI p=dA (.cf b F):=by rw[jH]at h';simpa using h'
   obtain⟨rP,fs,f1,f2,f3,f4⟩:=(hS.mono (s1.trans s2)).fail;refine⟨_,U,r,_,_,_,U,f1,T.bW,T.ql,(by rw[f2];decide),?_⟩;refine last _ true (((bz.of s1).same s2).trans f4) f3 (λc=>by cases c) λ_=>?_;unfold i6;match p,et,en with
   | .cf c B::g,_,en=>show(if c=b then _ else none)=none;rw[ay λe=>en (by rw[e];rfl)]
   | .gp::g,et,_| .gF::g,et,_| .arr B::g,et,_|[],et,_=>exact absurd et (by simp[cI,dA])
  .have en:cI p=dA (.cf b F):=by rw[jH]at h';simpa using h'
   refine last _ false ((bz.of s1).same s2) (hS.mono (s1.trans s2)) (λ_=>?_) (λc=>by cases c);unfold i6;match p,et,en with
   | .cf c B::g,_,en=>show(if c=b then _ else none)=_;rw[aI (by cases c<;>cases b<;>simp[cI,dA]at en⊢)]
   | .gp::g,et,_| .gF::g,et,_| .arr B::g,et,_|[],et,_=>exact absurd et (by simp[cI,dA])
 .have et:¬(cI p=42\/cI p=124):=λc=>h (by simpa using c)
  refine last _ false (bz.of s1) (hS.mono s1) (λ_=>?_) (λc=>by cases c);unfold i6;cases p with
  |nil=>rfl
  |cons e g=>cases e with
   |cf c B=>cases c;exact absurd (.inl U) et;exact absurd (.inr U) et
   |_=>rfl
structure Tk(k:Mc)(c:UInt8)(u:Text):Prop where
 eq:dM k=c::u
 ok:fu k=true
 nm:∀a,k= .name a->MW c=true
theorem GF{c:UInt8}(h:MW c=true):c≠42/\ c≠124/\ c≠45/\ c≠41/\ c≠126/\ c≠40:=by refine⟨?_,?_,?_,?_,?_,?_⟩<;>(intro e;subst e;exact absurd h (by decide))
theorem o9{c:UInt8}{n:Nat}(h:decide (bI c=V.int (n:Int))=true):c.toNat=n:=by have:=o5 (dJ h);lia
theorem o_{c:UInt8}{n:Nat}(h:¬decide (bI c=V.int (n:Int))=true):¬c.toNat=n:=λe=>h (bb (by rw[<-e];rfl))
theorem pb{c d:UInt8}(h:c.toNat=d.toNat):c=d:=UInt8.toNat_inj.mp h
inductive O7(A:aF)(vs:List V)(H:Hp)(Q:VK)(E:XK):Prop
 |mk (P:Addr->Prop) (r pl:Addr) (F:Formula) (p:List Pd) (k:Mc) (c:UInt8) (u:Text):vs=[.ref r,bI c]->cE A P H r pl ⟨some F,p⟩ false->jK F p->Tk k c u->(∀H',bz r pl H H'->uF A P H' r pl (PM.take ⟨some F,p⟩ k)->Q .aO H')->O7 A vs H Q E
theorem abl(T:Txt K mg A):Gd P w K mg base 5 A.EB A.d_Reading_take_behind_part ["self","sign"] (O7 A):=by
 refine T.ZJ.go (N:=["self","sign"]) ?_;rintro aC A' outer s H vs Q E hr nd ⟨P,r,pl,F,p,k,c,u,rfl,hS,hC,hK,q⟩;refine⟨_,(ag (a9 (PW.pt (kW (aR cj (pv 1) (aW T.um)) (oE (aR cj (pv 1) (aW T.wG))))) (ag (bF (bN hr (abk T) T.bW T.YA (pv 0) (aj (pv 1))))) (ag (a9 (aR cj (pv 1) (aW T.rT)) (af (bF (dO hr (O2 T) T.bW T.N5 (pv 0)))
  (ag (bF (bN hr (Gy T) T.bW T.F3 (pv 0) (aj (aW T.rT)))))) (ag (a9 (aR cj (pv 1) (aW T.FX)) (ag (bF (dO hr (abi T) T.bW T.YB (pv 0)))) (ag (cn (pv 0) iP)))))))),?_⟩
 try dsimp only[A9]
 obtain⟨dx,fv,vs,h1,_⟩:=hS.ex;have bK:=wY p;have hsz:=hC.sz;have isSign:c≠45->MW c=false->k= .sign c:=λh1 h2=>by
  cases k with
  |name a=>exact absurd (hK.nm a U) (by rw[h2];simp)
  |sign d=>have:=hK.eq;simp[dM]at this;rw[this.1]
  |arrow=>have:=hK.eq;simp[dM]at this;exact absurd this.1.symm h1
 have chain:∀b:Bool,c.toNat=dA (.cf b F)->(fA (za (oH A.cq "take_chain_sign" (GD A) [] E0 (aY 0) (d_ (aY 1) eI))) iQ) {nx:=λ_ H'=>Q .aO H',rt:=Q} [some (.ref r),some (bI c)] H:=by
  intro b hb;refine⟨_,U,r,dx,_,U,h1,U,_,U,P,r,pl,F,p,b,by show[V.ref r,V.int (c.toNat:Int)]=_;rw[hb],hS,hC,λH' k' h'=>q H' k' ?_⟩;cases b with
  |false=>have e:c=42:=pb hb;rw[isSign (by rw[e];decide) (by rw[e];decide),e];exact h'
  |true=>have e:c=124:=pb hb;rw[isSign (by rw[e];decide) (by rw[e];decide),e];exact h'
 refine⟨_,U,U,_,U,b9 (λh=>?_) (λh=>?_)⟩
 .exact aJ (chain false (o9 (n:=42) h))
 .have n42:=o_ (n:=42) h
  refine⟨_,U,U,_,U,?_⟩;refine b9 (λh=>?_) (λh=>?_)
  .exact chain true (o9 (n:=124) h)
  .have n124:=o_ (n:=124) h
   refine⟨_,U,U,_,U,b9 (λh=>?_) (λh=>?_)⟩
   .have e:c=45:=pb (o9 (n:=45) h)
    have ek:k= .arrow:=by
     cases k with
     |name a=>exact absurd e (GF (hK.nm a U)).2.2.1
     |sign d=>have hd:=hK.eq;simp[dM]at hd;have:=hK.ok;rw[hd.1,e]at this;exact absurd this (by decide)
     |arrow=>rfl
    refine⟨_,U,r,dx,_,U,h1,U,P,r,pl,F,p,false,U,hS,hC,λH1 k1 eR=>?_⟩;obtain⟨GG,O8,Au,g1,_⟩:=eR.ex;have nO:=O3 hC;have km:=wY (de F p).2;have hz1:=nO.sz;refine⟨_,U,r,GG,_,U,g1,U,P,r,pl,_,false, .arr (de F p).1,U,eR,U,by show(de F p).2.length<=10000;lia,λH2 k2 eJ=>q _ (k1.trans k2) ?_⟩;rw[ek];show uF A P H2 r pl (push (.arr (de F p).1) (de F p).2);rw[xT]at eJ;have eJ:cE A P H2 r pl ⟨none, .arr (de F p).1::(de F p).2⟩ (decide (100<=(de F p).2.length)):=eJ;unfold push;by_cases hl:(de F p).2.length<100
    .rw[aI hl]
     rw[cO (by lia)]at eJ;exact eJ
    .rw[ay hl]
     rw[bb (by lia)]at eJ;exact⟨_,eJ⟩
   .have n45:=o_ (n:=45) h
    refine⟨_,U,U,_,U,b9 (λh=>?_) (λh=>?_)⟩
    .have e:c=41:=pb (o9 (n:=41) h)
     have ek:k= .sign 41:=by rw[isSign (by rw[e];decide) (by rw[e];decide),e]
     refine⟨_,U,r,dx,_,U,h1,U,P,r,pl,F,p,U,hS,hC,λH1 k1 eR=>q _ k1 ?_⟩;rw[ek];exact eR
    .have n41:=o_ (n:=41) h
     obtain⟨rP,fs,f1,f2,f3,f4⟩:=hS.fail;refine⟨_,U,r,_,_,_,U,f1,T.bW,T.ql,(by rw[f2];decide),q _ f4 ?_⟩;have ek:PM.take ⟨some F,p⟩ k=none:=by
      cases k with
      |name a=>rfl
      |sign d=>have hd:=hK.eq;simp[dM]at hd;have m42:¬d=42:=λz=>n42 (by rw[<-hd.1,z];rfl);have m124:¬d=124:=λz=>n124 (by rw[<-hd.1,z];rfl);have m41:¬d=41:=λz=>n41 (by rw[<-hd.1,z];rfl);show(if d=42 then _ else if d=124 then _ else if d=41 then _ else none)=none;rw[ay m42,ay m124,ay m41]
      |arrow=>have hd:=hK.eq;simp[dM]at hd;exact absurd (by rw[<-hd.1];rfl) n45
     rw[ek];exact⟨_,f3⟩
theorem abm{c:UInt8}{r:Text}{x:Mc×Text}(h:lJ c r=some x):∃d u,Tk x.1 d u:=by
 obtain⟨h1,h2,h3⟩:=yT h;cases hk:dM x.1 with
 |nil=>exact absurd hk h2
 |cons d u=>
  refine⟨d,u,hk,h3,λa ha=>?_⟩;unfold lJ at h;rw[yf]at h;have h:=h.1;unfold one? at h;split at h
  .have e:=aM h;subst e;cases ha
  .split at h
   .unfold arr? at h
    split at h
    .have e:=aM h;subst e;cases ha
    .cases h
   .split at h
    .split at h
     .rename_i hn
      have e:=aM h;subst e;unfold isName at hn;simp only[ac9,afC,bC]at hn;simp[dM]at hk;rw[<-hk.1];exact hn.1
     .cases h
    .cases h
theorem GH:∀(n:Nat) (t:Text) (ts:List Mc),t.length<=n->toks t=some ts->∀k∈ts,∃c u,Tk k c u
 |n,[],ts,_,h=>by rw[BX]at h;have e:=aM h;subst e;intro k hk;simp at hk
 |0,c::r,ts,hn,h=>by simp at hn
 |n+1,c::r,ts,hn,h=>by
  rw[BY]at h;rw[bj]at hn;split at h
  .exact GH n r ts (by lia) h
  .obtain⟨x,hx,h⟩:=cY.mp h
   obtain⟨l,hl,e⟩:=fq.mp h;subst e;have sp:=yT hx;have hle:x.2.length+1<=r.length+1:=by have:=congrArg List.length sp.1;rw[bj,cP]at this;have:0<(dM x.1).length:=sV.mpr sp.2.1;lia
   intro k hk;rcases br.mp hk with rfl|hk
   .exact abm hx
   .exact GH n x.2 l (by lia) hl k hk
inductive O9(A:aF)(vs:List V)(H:Hp)(Q:VK)(E:XK):Prop
 |mk (P:Addr->Prop) (r pl:Addr) (p:List Pd) (k:Mc) (c:UInt8) (u:Text) (tv:V):vs=[.ref r,tv]->cE A P H r pl ⟨none,p⟩ false->bG H tv (c::u)->Tk k c u->jX p->cV p<=9000->(∀H',bz r pl H H'->uF A P H' r pl (PM.take ⟨none,p⟩ k)->Q .aO H')->O9 A vs H Q E
theorem abn(T:Txt K mg A):Gd P w K mg base 3 A.EA A.d_Reading_take_for_part ["self","token"] (O9 A):=by
 refine T.ZI.go (N:=["self","token"]) ?_;rintro aC A' outer s H vs Q E hr nd ⟨P,r,pl,p,k,c,u,tv,rfl,hS,⟨a,rfl,ha⟩,hK,hm,hz,q⟩;refine⟨_,(ag (a9 (dC (aP hr (Gm T) T.F0 (aj (aT (pv 1) ak)))) (af (cn (pv 0) (aP hr (aaW T) T.Yi (aj (pv 1))))
  (ag (bF (dO hr (OZ T) T.bW T.N4 (pv 0))))) (ag (a9 (PW.pt (kW (aR cj (aT (pv 1) ak) (aW T.Aa)) (oE (aR cj (aT (pv 1) ak) (aW T.z_))))) (ag (bF (bN hr (Gy T) T.bW T.F3 (pv 0) (aj (aT (pv 1) ak))))) (ag (cn (pv 0) iP)))))),?_⟩
 try dsimp only[A9]
 obtain⟨dx,fv,vs,h1,h2,h3,h4⟩:=hS.ex;have bK:=wY p;have gM:H a=some (.lst (bI c::u.map bI)):=ha;have beg:∀e:Pd,c.toNat=dA e->gK e=[]->PM.take ⟨none,p⟩ k=push e p->(fA (za (oH A.cq "begin" (Ao A) [] E0 (aY 0) (d_ (cw (fO K) (aY 1) (tC (.int 0))) eI))) iQ) {nx:=λ_ H'=>Q .aO H',rt:=Q} [some (.ref r),some (.ref a)] H:=by
  intro e he hf ht;refine⟨_,U,r,dx,_,U,h1,U,_,U,_,_,_,_,U,U,ab.of gM,bT,P,r,pl,_,false,e,by show[V.ref r,V.int (c.toNat:Int)]=_;rw[he],hS,hf,by show p.length<=10000;lia,λH2 k2 eJ=>q _ k2 ?_⟩;rw[ht];rw[xT]at eJ;have eJ:cE A P H2 r pl ⟨none,e::p⟩ (decide (100<=p.length)):=eJ;unfold push;by_cases hl:p.length<100
  .rw[aI hl]
   rw[cO (by lia)]at eJ;exact eJ
  .rw[ay hl]
   rw[bb (by lia)]at eJ;exact⟨_,eJ⟩
 refine⟨_,U,_,_,_,_,U,U,ab.of gM,bT,c,U,_,U,?_⟩;cases hs:MW c with
 |true=>
  have ek:k= .name (c::u):=by
   cases k with
   |name b=>rw[<-hK.eq];rfl
   |sign d=>
    have hd:=hK.eq;simp[dM]at hd;have:=tp hK.ok;rw[hd.1]at this;have ns:=GF hs;rcases this with z|z|z|z|z
    .exact absurd z ns.2.2.2.2.1
    .exact absurd z ns.1
    .exact absurd z ns.2.1
    .exact absurd z ns.2.2.2.2.2
    .exact absurd z ns.2.2.2.1
   |arrow=>have hd:=hK.eq;simp[dM]at hd;exact absurd hd.1.symm (GF hs).2.2.1
  refine aJ ⟨_,U,Md P r pl, .ref a,c::u,U,⟨a,U,ha⟩,uD hS.aH h1 h2,λv' H1 s1 hv=>⟨_,U,r,_,_,_,U,s1 _ _ h1,T.bW,T.ki,(by show 3<1000;decide),?_⟩⟩;have nx:=cE.next (A:=A) (f':=some (.atom false (c::u))) hS.aH (bz.of s1) (s1 _ _ h1) (s1 _ _ h2) h3 (v':=v') hv;refine⟨_,U,r,dx,_,U,ae,U,P,r,pl, .atom false (c::u),p,false,U,nx.1,⟨U,hm,by show 1+cV p<=10000;lia⟩,λH2 k2 eJ=>q _ (nx.2.trans k2) ?_⟩;rw[ek];exact eJ
 |false=>
  have ek:k= .arrow\/k= .sign c:=by
   cases k with
   |name b=>exact absurd (hK.nm b U) (by rw[hs];simp)
   |sign d=>have hd:=hK.eq;simp[dM]at hd;rw[hd.1];exact .inr U
   |arrow=>exact .inl U
  have arr:k= .arrow->c=45:=λe=>by have hd:=hK.eq;rw[e]at hd;simp[dM]at hd;exact hd.1.symm
  refine aA ⟨_,U,_,_,_,_,U,U,ab.of gM,bT,U,_,U,b9 (λh=>?_) (λh=>?_)⟩
  .have e:c=126:=pb (o9 (n:=126) h)
   refine aJ (beg .gp (by rw[e];rfl) U ?_);rcases ek with z|z
   .exact absurd (arr z) (by rw[e];decide)
   .rw[z,e];rfl
  .have n126:=o_ (n:=126) h
   refine⟨_,U,_,_,_,_,U,U,ab.of gM,bT,U,_,U,b9 (λh=>?_) (λh=>?_)⟩
   .have e:c=40:=pb (o9 (n:=40) h)
    refine beg .gF (by rw[e];rfl) U ?_;rcases ek with z|z
    .exact absurd (arr z) (by rw[e];decide)
    .rw[z,e];rfl
   .have n40:=o_ (n:=40) h
    obtain⟨rP,fs,f1,f2,f3,f4⟩:=hS.fail;refine⟨_,U,r,_,_,_,U,f1,T.bW,T.ql,(by rw[f2];decide),q _ f4 ?_⟩;have et:PM.take ⟨none,p⟩ k=none:=by
     rcases ek with z|z
     .rw[z];rfl
     .rw[z]
      show(if c=126 then _ else if c=40 then _ else none)=none;rw[ay λe=>n126 (by rw[e];rfl),ay λe=>n40 (by rw[e];rfl)]
    rw[et];exact⟨_,f3⟩
inductive O_(A:aF)(vs:List V)(H:Hp)(Q:VK)(E:XK):Prop
 |mk (P:Addr->Prop) (r pl:Addr) (s:MS) (k:Mc) (c:UInt8) (u:Text) (tv:V):vs=[.ref r,tv]->cE A P H r pl s false->bG H tv (c::u)->Tk k c u->nu s->jy s<=9000->(∀H',bz r pl H H'->uF A P H' r pl (PM.take s k)->Q .aO H')->O_ A vs H Q E
theorem abo(T:Txt K mg A):Gd P w K mg base 6 A.Ez A.d_Reading_take ["self","token"] (O_ A):=by
 refine T.ZH.go (N:=["self","token"]) ?_;rintro aC A' outer s H vs Q E hr nd ⟨P,r,pl,s,k,c,u,tv,rfl,hS,⟨a,rfl,ha⟩,hK,hm,hz,q⟩;refine⟨_,(ag (a9 (aR (mi hr.units) (ao (pv 0)) (aS bY)) (ag (bF (bN hr (abn T) T.bW T.Yy (pv 0) (aj (pv 1))))) (ag (bF (bN hr (abl T) T.bW T.Yz (pv 0) (aj (aT (pv 1) ak))))))),?_⟩
 try dsimp only[A9]
 obtain⟨dx,fv,vs,h1,h2,h3,h4⟩:=hS.ex;have gM:H a=some (.lst (bI c::u.map bI)):=ha;refine⟨_,U,_,_,_,_,_,U,h1,T.bW,T.ki,U,bL _,λz hz=>?_⟩;have s1:=aa.new (o:= .lst []) hz;refine⟨_,_,qu (cT.kr _ _ _ _ (aa.trans (bB _ _) s1) h4),mC ae,(qt _).shaped (by decide),mD,_,U,?_⟩;unfold nN;rw[mB,isEmpty_map];obtain⟨f,p⟩:=s;cases f with
 |none=>refine aJ ⟨_,U,r,dx,_,U,s1 _ _ h1,U,_,U,P,r,pl,p,k,c,u, .ref a,U,hS.mono s1,⟨a,U,s1 _ _ ha⟩,hK,hm.gy,by unfold jy at hz;simp only[ie,lF]at*;lia,λH' k' h'=>q _ (bz.trans (bz.of s1) k') h'⟩
 |some F=>
  have b8:(ie (some F)).isEmpty=false:=by
   show(enc F).isEmpty=false;cases he:enc F with
   |nil=>exact absurd he (BU F)
   |cons _ _=>rfl
  show if(ie (some F)).isEmpty=true then _ else _;rw[b8];refine aA ⟨_,U,r,dx,_,U,s1 _ _ h1,U,_,U,_,_,_,_,U,U,ab.of (s1 _ _ gM),bT,P,r,pl,F,p,k,c,u,U,hS.mono s1,⟨hm.mul,hm.gy,?_⟩,hK,λH' k' h'=>q _ (bz.trans (bz.of s1) k') h'⟩;unfold jy at*;simp only[ie]at*;lia
inductive Pa(A:aF)(vs:List V)(H:Hp)(Q:VK)(E:XK):Prop
 |mk (P:Addr->Prop) (r pl:Addr) (s:MS):vs=[.ref r]->cE A P H r pl s false->nu s->jy s<=9000->(∀v' H',bz r pl H H'->cT (Wo (Md P r pl) H') v' (ie (PM.whole s))->Q v' H')->Pa A vs H Q E
theorem abp(T:Txt K mg A):Gd P w K mg base 4 A.EJ A.d_Reading_whole ["self"] (Pa A):=by
 refine T.ZR.go (N:=["self"]) ?_;rintro aC A' outer s H vs Q E hr nd ⟨P,r,pl,s,rfl,hS,hm,hz,q⟩;refine⟨_,(af (a9 (aR (mi hr.units) (ao (pv 0)) (aS bY)) (ag (aB (aS bY))) bt)
  (af (bF (dO hr (O5 T) T.bW T.N6 (pv 0)))
  (ag (aB (kX (aR (mi hr.units) (ao (pv 0)) (aS bY)) (ao (pv 0)) (aS bY)))))),?_⟩
 try dsimp only[A9]
 obtain⟨dx,fv,vs,h1,h2,h3,h4⟩:=hS.ex;refine⟨_,U,_,_,_,_,_,U,h1,T.bW,T.ki,U,bL _,λz hz=>?_⟩;have s1:=aa.new (o:= .lst []) hz;have hM:=uD hS.aH h1 h2;refine⟨_,_,qu (cT.kr _ _ _ _ (aa.trans (bB _ _) s1) h4),mC ae,(qt _).shaped (by decide),mD,_,U,?_⟩;unfold nN;rw[mB,isEmpty_map];obtain⟨f,p⟩:=s;cases f with
 |none=>exact aJ ⟨bL _,λg hg=>q _ _ (bz.of (s1.trans (aa.new hg))) ⟨g,[],U,e9 (hM.mono s1) hg, .nil⟩⟩
 |some F=>
  have b8:(ie (some F)).isEmpty=false:=by
   show(enc F).isEmpty=false;cases he:enc F with
   |nil=>exact absurd he (BU F)
   |cons _ _=>rfl
  show if(ie (some F)).isEmpty=true then _ else _;rw[b8];have hC:jK F p:=⟨hm.mul,hm.gy,by unfold jy at*;simp only[ie]at*;lia⟩
  refine aA ⟨_,U,r,dx,_,U,s1 _ _ h1,U,P,r,pl,F,p,false,U,hS.mono s1,hC,λH1 k1 eR=>?_⟩;have hq:PM.whole ⟨some F,p⟩=match gq F p with
   |(B,[])=>some B
   |_=>none:=rfl
  rw[hq]at q;generalize gq F p=w at eR q;obtain⟨F1,p1⟩:=w;obtain⟨GG,O8,Au,g1,g2,g3,g4⟩:=eR.ex;refine⟨_,U,_,_,_,_,_,U,g1,T.bW,T.nF,U,bL _,λy hy=>?_⟩;have s2:=aa.new (o:= .lst []) hy;have g3':=bO (λ_ _ q=>jJ.mono _ _ _ _ (aa.trans (bB (Md P r pl) H1) s2) q) g3;have kk:bz r pl H (upd H1 y (.lst [])):=bz.trans (bz.of s1) (k1.same s2);refine⟨_,_, .lst (ab.of (s2 _ _ g2)) (An (λ_ _ r=>OU r) g3'),mC ae,(OT _).shaped (by decide),mD,_,U,?_⟩;rw[mB,isEmpty_map];cases p1 with
  |nil=>exact aJ ⟨_,U,_,_,_,_,_,U,s2 _ _ g1,T.bW,T.ki,U,q _ _ kk (cT.kr _ _ _ _ (bV s2) g4)⟩
  |cons e p2=>
   have b8:((e::p2).reverse).isEmpty=false:=by rw[rY];cases p2.reverse<;>rfl
   show if((e::p2).reverse).isEmpty=true then _ else _;rw[b8];exact aA ⟨bL _,λg hg=>q _ _ (kk.same (aa.new hg)) ⟨g,[],U,e9 ((uD eR.aH g1 g2).mono s2) hg, .nil⟩⟩
theorem abq(t:Text)(h:t.length<=2000):gX t=PM.run ⟨none,[]⟩ ((toks t).getD []):=by
 unfold gX;rw[ay (by lia)];cases toks t with
 |none|some ts=>rfl
theorem abr(t:Text):wW t=((toks t).getD []).map dM:=by
 unfold wW;cases toks t with
 |none|some ts=>rfl
inductive Pb(vs:List V)(H:Hp)(Q:VK)(E:XK):Prop
 |mk (P:Addr->Prop) (v:V) (t:Text):vs=[v]->bG H v t->t.length<=4000->Hid P H->(∀v' H',aa H H'->cT (Wo P H') v' (ie (gX t))->Q v' H')->Pb vs H Q E
theorem abt(T:Txt K mg A):Gd P w K mg base 7 A.Es A.d_read_formula ["text"] Pb:=by
 refine T.Zz.go (N:=["text","reading","token"]) ?_;rintro aC A' outer s H vs Q E hr nd ⟨P,v,t,rfl,⟨a,rfl,ha⟩,hlen,hP,q⟩;refine⟨_,(af (a9 (aR rK (dw T.c6 (pv 0)) (aW T.XM)) (ag (aB (aS bY))) bt)
  (af (aN 1 nd (LZ hr (abb T) T.aaR T.Ye))
  (af (eZ PassesOwn.never U (eE (aP hr (aba T) T.Yt (aj (pv 0)))) (cx 2 nd) (af (bF (bN hr (abo T) T.bW T.Yx (pv 1) (aj (pv 2))))
  (ag (a9 (dC (ao (pv 1))) (ag (aB (aS bY))) bt))))
  (ag (aB (dO hr (abp T) T.bW T.YC (pv 1))))))),?_⟩
 try dsimp only[A9]
 refine⟨_,U,a,_,U, .inl (ab.of ha),_,_,U,U,_,U,b9 (λh=>?_) (λh=>?_)⟩
 .have hl:2000<t.length:=by have:=dJ h;simp at this;lia
  refine⟨bL _,λz hz=>q _ _ (aa.new hz) ⟨z,[],U,e9 hP hz,?_⟩⟩;unfold gX;rw[aI hl];exact .nil
 .have hl:t.length<=2000:=by
   have:¬((2000:Int)<((t.map bI).length:Int)):=λc=>h (bb c);simp at this;lia
  rw[abq t hl]at q;intro r dx nr ndx nrd;have s0:aa H (upd (upd H dx (.own r)) r (.ins A.cq dx [])):=c5 (aa.new ndx) nr;refine⟨P,r,dx,U,ae,hP.mono s0,λH1 pl k1 bK eR=>⟨U,?_⟩⟩;have npl:H pl=none:=s0.free bK;have s1:aa H H1:=λb o e=>k1 b o (s0 b o e) (bS e nr) (bS e npl);obtain⟨GG,O8,Au,g1,g2,_⟩:=eR.ex;refine⟨_,U,Md P r pl, .ref a,t,U,⟨a,U,s1 _ _ ha⟩,hlen,uD eR.aH g1 g2,λv2 H2 s2 h2=>?_⟩;rw[abr]at h2;have Pc:∀k∈(toks t).getD [],vI k/\ ∃c u,Tk k c u:=by
   cases ht:toks t with
   |none=>intro k hk;simp at hk
   |some ts=>exact λk hk=>⟨((vJ _ t ts (a_ _) ht).1 k hk).1,GH _ t ts (a_ _) ht k hk⟩
  have Av:((toks t).getD []).length<=2000:=by
   cases ht:toks t with
   |none=>simp
   |some ts=>exact c_ (vJ _ t ts (a_ _) ht).2 hl
  generalize (toks t).getD []=ts at q h2 Pc Av;obtain⟨c,xs,rfl,hc,cg⟩:=h2;have jh:=ck cg;rw[aX]at jh;refine⟨c,U,⟨_,ab.of (bB _ _ _ _ hc)⟩,gL (xs:=xs) (λi σ' H'=>E2 λs u=>A7 (σ'=[some (.ref a),some (.ref r),u]) (aa H H') (bz r pl H2 H') (cE A P H' r pl s false) (nu s) (jy s<=i) (PM.run ⟨none,[]⟩ ts=PM.run s (ts.drop i)))
   ⟨⟨none,[]⟩,none,U,s1.trans s2,bz.refl,eR.mono s2,J3,a_ _,by rw[mT]⟩ (λi σ' H' _ ⟨_,_,_,_,k,_,_,_,_⟩=>ab.of (bB _ _ _ _ (k.wo _ _ hc))) ?_ ?_⟩
  .rintro i x σ' H' hx ⟨s,u,rfl,sm,k,hS,hm,hz,bP⟩
   obtain⟨y,hy,w9⟩:=fB cg hx;obtain⟨tk,zp,rfl⟩:=lB hy;obtain⟨Al,d,w,hTk⟩:=Pc tk (cN zp);have hi:=dm zp;have hxT:bG H' x (d::w):=by have:=bG.mono _ _ _ _ (aa.trans k.wo (bB _ _)) w9;rw[hTk.eq]at this;exact this
   obtain⟨Aw,fv3,GI,g3,_⟩:=hS.ex;have hd:ts.drop i=tk::ts.drop (i+1):=by have e:ts[i]=tk:=(da.mp zp).2;rw[kM hi,e]
   rw[hd]at bP;refine⟨_,U,r,Aw,_,U,g3,U,_,U,P,r,pl,s,tk,d,w,x,U,hS,hxT,hTk,hm,by lia,λH3 k3 hT=>?_⟩;have rZ:aa H H3:=λb o e=>k3 b o (sm b o e) (bS e nr) (bS e npl);have w_:PM.run s (tk::ts.drop (i+1))=match PM.take s tk with
    |some s'=>PM.run s' (ts.drop (i+1))
    |none=>none:=rfl
   rw[w_]at bP;cases htake:PM.take s tk with
   |none=>rw[htake]at hT bP;obtain⟨s',hF⟩:=hT;obtain⟨dx4,fv4,vs4,g4,g5,_⟩:=hF.ex;refine⟨_,U,_,_,_,_,_,U,g4,T.bW,T.ql,U,_,U,aJ ⟨bL _,λz hz=>?_⟩⟩;refine q _ _ (rZ.trans (aa.new hz)) ⟨z,[],U,e9 (hP.mono rZ) hz,?_⟩;rw[bP];exact .nil
   |some s'=>rw[htake]at hT bP;have aK:=J1 htake hm Al;obtain⟨dx4,fv4,vs4,g4,g5,_⟩:=cE.ex hT;exact⟨_,U,_,_,_,_,_,U,g4,T.bW,T.ql,U,_,U,aA ⟨s',_,U,rZ,k.trans k3,hT,aK.1,by lia,bP⟩⟩
  .rintro σ' H' ⟨s,u,rfl,sm,k,hS,hm,hz,bP⟩
   rw[jh,mY]at bP;obtain⟨Aw,fv3,GI,g3,g5,_⟩:=hS.ex;refine⟨_,U,r,Aw,_,U,g3,U,P,r,pl,s,U,hS,hm,by lia,λv' H3 k3 hv=>?_⟩;have rZ:aa H H3:=λb o e=>k3 b o (sm b o e) (bS e nr) (bS e npl);refine q _ _ rZ ?_;rw[bP];exact cT.kr _ _ _ _ (zT λb hb=> .inl hb) hv
def gP{α:Type}(R:Hp->V->α->Prop)(H:Hp)(v:V):Option α->Prop
 |some x=>R H v x
 |none=>v= .aO
theorem gP.mono{α:Type}{R:Hp->V->α->Prop}(m:eP R):eP (gP R):=λH H' v o s h=>by
 cases o with
 |none=>exact h
 |some x=>exact m _ _ _ _ s h
inductive Pe(vs:List V)(H:Hp)(Q:VK)(E:XK):Prop
 |mk (v:V) (t:Text):vs=[v]->bG H v t->iW H Q ((Ws t).map bI)->Pe vs H Q E
theorem Pf(T:Txt K mg A):Gd P w K mg base 1 A.ET A.d_without_outer_blanks ["text"] Pe:=by
 refine T.Z0.go (N:=["text","begin","end"]) ?_;rintro aC A' outer s H vs Q E hr nd ⟨v,t,rfl,⟨a,rfl,ha⟩,q⟩;refine⟨_,(af (aN 1 nd ak)
  (af (aN 2 nd (dw T.c6 (pv 0)))
  (af (j4 PassesOwn.never (PW.pt (tV (aR iq (pv 1) (pv 2)) (tU (aR cj (aT (pv 0) (pv 1)) (aW T.wF))))) (ag (vT (i:=1) nd U (Or.inl U) ak zk)))
  (af (j4 PassesOwn.never (PW.pt (tV (aR iq (pv 1) (pv 2)) (tU (aR cj (aT (pv 0) (b_ rJ (pv 2) ak)) (aW T.wF))))) (ag (vT (i:=2) nd U (Or.inl U) ak U_)))
  (ag (aB (oJ oK (pv 0) (je (pv 1)) (je (pv 2))))))))),?_⟩
 try dsimp only[A9]
 have get:∀i:Nat,i<t.length->∃c,t[i]? =some c/\ (t.map bI)[i]? =some (bI c):=λi hi=>⟨t[i],cC hi,by rw[ft,cC hi];rfl⟩
 refine⟨_,U,a,_,U, .inl (ab.of ha),?_⟩;rw[aX];obtain⟨W,hW⟩:∃W:Nat->L2.St->Hp->Prop,W=λm σ' H'=>E1 λ(i:Nat)=>A5 (σ'=[some (.ref a),some (.int (i:Int)),some (.int (t.length:Int))]) (H'=H) (m=t.length-i) (i<=t.length) (∀x∈t.take i,x=32):=⟨_,U⟩
 refine⟨W,⟨_,by rw[hW];exact⟨0,U,U,U,bL _,by simp⟩⟩,λm σ' H' w=>?_⟩;rw[hW]at w;obtain⟨i,rfl,rfl,rfl,hi,h1⟩:=w;have second:(i<t.length->∀x,t[i]? =some x->x≠32)->(fA (Kh (Kc (md (cw (iR λi j=> .bl (decide (i<j))) (aY 1) (aY 2))) (md (cw l_ (cw (fO K) (aY 0) (cw (iR λi j=> .int (i-j)) (aY 2) (tC (.int 1)))) (tC (.int 32))))) (fA (Kg 2 (tC (.int 1)) (iR λi j=> .int (i-j))) iQ)) (fA (jC (Dk (zt K) (aY 0) (vY (aY 1)) (vY (aY 2)))) iQ)) {nx:=λ_ H'=>Q .aO H',rt:=Q} [some (.ref a),some (.int (i:Int)),some (.int (t.length:Int))] H':=by
  intro h2;obtain⟨Z,hZ⟩:∃Z:Nat->L2.St->Hp->Prop,Z=λm σ' H''=>E1 λ(j:Nat)=>A6 (σ'=[some (.ref a),some (.int (i:Int)),some (.int (j:Int))]) (H''=H') (m=j+1) (i<=j) (j<=t.length) (∀x∈t.drop j,x=32):=⟨_,U⟩
  refine⟨Z,⟨_,by rw[hZ];exact⟨t.length,U,U,U,hi,a_ _,by simp⟩⟩,λm σ' H'' w=>?_⟩;rw[hZ]at w;obtain⟨j,rfl,rfl,rfl,iH,hj,h3⟩:=w;have fin:(i<j->∀x,t[j-1]? =some x->x≠32)->(fA (jC (Dk (zt K) (aY 0) (vY (aY 1)) (vY (aY 2)))) iQ) {nx:=λ_ H'=>Q .aO H',rt:=Q} [some (.ref a),some (.int (i:Int)),some (.int (j:Int))] H'':=λh4=>by refine⟨_,U,_,U,_,U,_,U,_,U,a,_,U,ab.of ha,λp hp=>q p _ (aa.new hp) hp ?_⟩;rw[ae,uj _ iH (by rw[aX];exact hj),<-pC,<-qO,Tt t i j iH hj h1 (λc=>h2 (by lia)) h3 h4]
  refine⟨_,U,_,U,_,_,U,U,_,U,b9 (λh=>?_) (λh=>?_)⟩
  .have aU:i<j:=by have:=dJ h;lia
   obtain⟨c,mw,jI⟩:=get (j-1) (by lia);refine⟨_,U,_,U,_,_,U,U,_,_,_,_,U,U,ab.of ha,at_of (j:=j-1) (by lia) jI,U,_,U,b9 (λh=>?_) (λh=>?_)⟩
   .have e:c=32:=pb (o9 (n:=32) h)
    refine⟨_,U,_,_,U,U,j-1+1,by lia,?_⟩;rw[hZ];refine⟨j-1,?_,U,U,by lia,by lia,λx hx=>?_⟩
    .show[some (V.ref a),some (V.int (i:Int)),some (V.int ((j:Int)-1))]=_
     rw[show(j:Int)-1=((j-1:Nat):Int) by lia]
    .rw[kM (show j-1<t.length by lia),show j-1+1=j by lia]at hx
     rcases br.mp hx with rfl|hx
     .have:=(da.mp mw).2
      rw[this];exact e
     .exact h3 x hx
   .have e:=o_ (n:=32) h
    refine fin λ_ x hx=>?_;rw[mw]at hx;rw[<-aM hx];intro z;exact e (by rw[z];rfl)
  .exact fin λc=>absurd (bb (by lia)) h
 refine⟨_,U,_,U,_,_,U,U,_,U,b9 (λh=>?_) (λh=>?_)⟩
 .have aU:i<t.length:=by have:=dJ h;lia
  obtain⟨c,mw,jI⟩:=get i aU;refine⟨_,U,_,U,_,_,_,_,U,U,ab.of ha,bH jI,U,_,U,b9 (λh=>?_) (λh=>?_)⟩
  .have e:c=32:=pb (o9 (n:=32) h)
   refine⟨_,U,_,_,U,U,t.length-(i+1),by lia,?_⟩;rw[hW];refine⟨i+1,U,U,U,by lia,λx hx=>?_⟩;rw[iy mw]at hx;rcases c9.mp hx with hx|hx
   .exact h1 x hx
   .simp at hx;rw[hx];exact e
  .have e:=o_ (n:=32) h
   refine second λ_ x hx=>?_;rw[mw]at hx;rw[<-aM hx];intro z;exact e (by rw[z];rfl)
 .exact second λc=>absurd (bb (by lia)) h
inductive Pg(vs:List V)(H:Hp)(Q:VK)(E:XK):Prop
 |mk (v:V) (t:Text):vs=[v]->bG H v t->(∀H',aa H H'->Q (.int (d8 t)) H')->Pg vs H Q E
theorem Ph{t:Text}(h:ot t=true):d8 t= -1:=by unfold d8;rw[B1,aI h]
theorem aby{t:Text}(h:ot t=false)(k:t.all MX=true):d8 t=(valOf t:Int):=by unfold d8;rw[B1,ay (by rw[h];simp),aI k]
theorem abz{t:Text}(k:t.all MX=false):d8 t= -1:=by
 have e:(if ot t=true then none else if false=true then some (PM.valOf t)else none)=(none:Option Nat):=by split<;>rfl
 unfold d8;rw[B1,k,e]
theorem Pj(T:Txt K mg A):Gd P w K mg base 2 A.ES A.d_read_number ["text"] Pg:=by
 refine T.ZZ.go (N:=["text","number","byte"]) ?_;rintro aC A' outer s H vs Q E hr nd ⟨v,t,rfl,⟨a,rfl,ha⟩,q⟩;refine⟨_,(af (a9 (PW.pt (kW (aR (mi hr.units) (pv 0) (aS bY)) (oE (PW.pt (tV (aR cj (aT (pv 0) ak) (aW T.FY)) (tU (aR rK (dw T.c6 (pv 0)) ak))))))) (ag (aB (il ip ak))) bt)
  (af (aN 1 nd ak)
  (af (eZ PassesOwn.never U (eE (pv 0)) (cx 2 nd) (af (a9 (ij (dC (aP hr (Oj T) T.NW (aj (pv 2))))) (ag (aB (il ip ak))) bt)
  (ag (aN 1 nd (b_ rJ (b_ jd (b_ zj ak (pv 1)) (pv 2)) (aW T.FY))))))
  (ag (aB (pv 1)))))),?_⟩
 try dsimp only[A9]
 refine⟨_,U,bL _,λz hz=>?_⟩;have s1:=aa.new (o:= .lst []) hz;have qx:=s1 _ _ ha;refine⟨_,_,uC ⟨a,U,qx⟩,mC ae,(uB _).shaped (by decide),mD,_,U,?_⟩;rw[mB,isEmpty_map];generalize upd H z (.lst [])=H1 at s1 qx⊢;cases t with
 |nil=>exact aJ (aJ ⟨_,U,by have:=q H1 s1;rw[Ph U]at this;exact this⟩)
 |cons c r=>
  have loop:ot (c::r)=false->(fA (oG (tC (.int 0)) (ik 1)) (fA (Kl (Kj K (aY 0)) (ik 2) (fA (rD (Kd (tB (iS Gn [] E0 (d_ (aY 2) eI)))) (fA (jC (zf (rU λi=> .int (-i)) (tC (.int 1)))) iQ) iQ) (fA (oG (cw (iR λi j=> .int (i-j)) (cw (iR λi j=> .int (i+j)) (cw (rI zi λi j=> .int (i*j)) (tC (.int 10)) (aY 1)) (aY 2)) (tC (.int 48))) (ik 1)) iQ))) (fA (jC (aY 1)) iQ))) {nx:=λ_ H'=>Q .aO H',rt:=Q} [some (.ref a),none,none] H1:=by
   intro hb;refine⟨_,U,a,U,⟨_,ab.of qx⟩,gL (xs:=(c::r).map bI) (λi σ' H'=>E1 λu=>A3 (σ'=[some (.ref a),some (.int (valOf ((c::r).take i):Int)),u]) (H'=H1) (((c::r).take i).all MX=true)) ⟨none,U,U,U⟩ (λi σ' H' _ ⟨_,_,e,_⟩=>by rw[e];exact ab.of qx) ?_ ?_⟩
   .rintro i x σ' H' hx ⟨u,rfl,rfl,hd⟩
    obtain⟨d,xa,rfl⟩:=lB hx;refine⟨_,U,d,U,_,U,?_⟩;cases Ax:MX d with
    |false=>
     refine aJ ⟨_,U,?_⟩;have:=q H' s1;rw[abz (by
      cases ha:(c::r).all MX with
      |false=>rfl
      |true=>have:=iZ.mp ha d (cN xa);rw[Ax]at this;cases this)]at this
     exact this
    |true=>
     have h48:48<=d.toNat:=by rw[digit_eq]at Ax;simp at Ax;lia
     refine aA ⟨_,U,_,_,U,U, .inl ⟨by decide,by decide⟩,_,U,_,_,U,U,_,_,U,U,some (bI d),?_,U,?_⟩
     .rw[iy xa,Tu]
      show[some (V.ref a),some (V.int (10*(valOf ((c::r).take i):Int)+(d.toNat:Int)-48)),some (bI d)]=_;rw[show 10*(valOf ((c::r).take i):Int)+(d.toNat:Int)-48=((10*valOf ((c::r).take i)+(d.toNat-48):Nat):Int) by lia]
     .rw[iy xa,BC,hd];simp[Ax]
   .rintro σ' H' ⟨u,rfl,rfl,hd⟩
    rw[aX,lH]at hd⊢;refine⟨_,U,?_⟩;have:=q H' s1;rw[aby hb hd]at this;exact this
  have GJ:H1 a=some (.lst (bI c::r.map bI)):=qx;refine aA ⟨_,U,_,_,_,_,U,U,ab.of GJ,bT,U,_,U,b9 (λh=>?_) (λh=>?_)⟩
  .have e:c=48:=pb (o9 (n:=48) h)
   refine⟨_,U,a,_,U, .inl (ab.of qx),_,_,U,U,_,U,b9 (λh=>?_) (λh=>?_)⟩
   .have hl:1<(c::r).length:=by have:=dJ h;simp at this⊢;lia
    refine⟨_,U,?_⟩;have:=q H1 s1;rw[Ph (by unfold ot;rw[bb hl,e];rfl)]at this;exact this
   .have hl:¬1<(c::r).length:=λz=>h (bb (by rw[aX];lia))
    exact loop (by unfold ot;rw[cO hl];rfl)
  .have e:=o_ (n:=48) h
   refine loop ?_;unfold ot;have:((c::r).head? ==some 48)=false:=by rw[ac9];exact beq_eq_false_iff_ne.mpr λz=>e (by rw[aM z];rfl)
   rw[this,pz];rfl
inductive Pk(vs:List V)(H:Hp)(Q:VK)(E:XK):Prop
 |mk (P:Addr->Prop) (v:V) (t:Text):vs=[v]->bG H v t->t.length<=4000->Hid P H->(∀v' H',aa H H'->gP d6 (Wo P H') v' (adt t)->Q v' H')->Pk vs H Q E
theorem abA(T:Txt K mg A):Gd P w K mg base 3 A.ER A.d_read_pair ["text"] Pk:=by
 refine T.ZY.go (N:=["text","halves","lesser","greater"]) ?_;rintro aC A' outer s H vs Q E hr nd ⟨P,v,t,rfl,ht,hlen,hP,q⟩;refine⟨_,(af (aN 1 nd (aP hr (Aj T) T.Ac (aZ (pv 0) (aW T.rT))))
  (af (a9 (aR t8 (dw T.c6 (pv 1)) ak) (ag (aB ja)) bt)
  (af (aN 2 nd (aP hr (Pj T) T.N9 (aj (aT (pv 1) ak))))
  (af (aN 3 nd (aP hr (Pj T) T.N9 (aj (aT (pv 1) ak))))
  (af (a9 (PW.pt (kW (aR iq (pv 2) ak) (oE (aR j7 (pv 3) (pv 2))))) (ag (aB ja)) bt)
  (ag (aB (gh (aZ (pv 2) (pv 3)))))))))),?_⟩
 try dsimp only[A9]
 rw[Tv]at q;refine⟨_,U,P,v,t,45,U,ht,hlen,hP,λv1 H1 s1 h1=>?_⟩;obtain⟨c,xs,rfl,hc,cg⟩:=h1;have hl:=ck cg;have i_:=bB _ _ _ _ hc;refine⟨_,U,c,_,U, .inl (ab.of i_),U,_,U,?_⟩;rw[uz];generalize Mt 45 t=ts at q cg hl;cases cg with
 |nil=>exact aJ (q _ _ s1 U)
 | @cons va a _ _ ra cg=>
 cases cg with
 |nil=>exact aJ (q _ _ s1 U)
 | @cons vb b _ _ rb cg=>
 cases cg with
 | @cons vd d vr r rd cg=>have:(decide (((va::vb::vd::vr).length:Int)=2))=false:=cO (by simp;lia);rw[this];exact aJ (q _ _ s1 U)
 |nil=>
  have GK:=bG.mono _ _ _ _ (bB _ _) ra;have GL:=bG.mono _ _ _ _ (bB _ _) rb;refine aA ?_;refine⟨_,U,_,_,_,_,U,U,ab.of i_,bT,va,a,U,GK,λH2 s2=>?_⟩;refine⟨_,U,_,_,_,_,U,U,ab.of (s2 _ _ i_),fP,vb,b,U,bG.mono _ _ _ _ s2 GL,λH3 s3=>?_⟩;have cU:=(s1.trans s2).trans s3;refine⟨_,U,_,_,U,U,_,U,b9 (λh=>?_) (λh=>?_)⟩
  .have e:=dJ h
   refine aJ (q _ _ cU ?_);show gP d6 _ _ (if d8 a<0\/d8 b<=d8 a then none else _);rw[aI (.inl e)];rfl
  .have e:¬d8 a<0:=λc=>h (bb c)
   refine⟨_,U,_,U,_,_,U,U,_,U,b9 (λh=>?_) (λh=>?_)⟩
   .have e2:=dJ h
    refine q _ _ cU ?_;show gP d6 _ _ (if d8 a<0\/d8 b<=d8 a then none else _);rw[aI (.inr e2)];rfl
   .have e2:¬d8 b<=d8 a:=λc=>h (bb c)
    refine⟨_,U,_,U,gm,λp hp=>q _ _ (cU.trans (aa.new hp)) ?_⟩;show gP d6 _ _ (if d8 a<0\/d8 b<=d8 a then none else _);rw[ay (by lia)];refine⟨p,U,?_⟩;rw[e9 (hP.mono cU) hp];show some (HO.tup [V.int (d8 a),V.int (d8 b)])=some (HO.tup [V.int ((d8 a).toNat:Int),V.int ((d8 b).toNat:Int)]);rw[afI (by lia),afI (by lia)]
inductive Pl(vs:List V)(H:Hp)(Q:VK)(E:XK):Prop
 |mk (P:Addr->Prop) (v:V) (t:Text):vs=[v]->bG H v t->t.length<=4000->Hid P H->(∀v' H',aa H H'->gP (cS d6) (Wo P H') v' (abG t)->Q v' H')->Pl vs H Q E
theorem Pn(t:Text):(Ws t).length<=t.length:=by rw[B0,uZ];refine c_ (xY _).length_le ?_;rw[uZ];exact(xY _).length_le
theorem Ay(b:UInt8):∀t:Text,(Mt b t).length<=t.length+1
 |[]=>a_ _
 |c::r=>by
  have ih:=Ay b r;unfold adp;split
  .simp;lia
  .split
   .rename_i w ws h;rw[h]at ih;simp at ih⊢;lia
   .simp
theorem xb(b:UInt8):∀(t:Text),∀x∈Mt b t,x.length<=t.length
 |[],x,hx=>by simp[adp]at hx;rw[hx];exact a_ _
 |c::r,x,hx=>by
  have ih:=xb b r;unfold adp at hx;split at hx
  .rcases br.mp hx with rfl|hx
   .simp
   .have:=ih x hx;simp;lia
  .split at hx
   .rename_i w ws h
    rcases br.mp hx with rfl|hx
    .have:=ih w (by rw[h];simp);simp;lia
    .have:=ih x (by rw[h];simp[hx]);simp;lia
   .simp at hx;rw[hx];simp
theorem abB(T:Txt K mg A):Gd P w K mg base 4 A.EO A.d_read_links ["text"] Pl:=by
 refine T.ZX.go (N:=["text","inner","pairs","last","stretch","pair"]) ?_;rintro aC A' outer s H vs Q E hr nd ⟨P,v,t,rfl,ht,hlen,hP,q⟩;refine⟨_,(af (aN 1 nd (aP hr (Pf T) T.N_ (aj (pv 0))))
  (af (a9 (aR (mi hr.units) (pv 1) (aS bY)) (ag (aB (aS bY))) bt)
  (af (aN 2 nd (aS bY))
  (af (aN 3 nd (il ip ak))
  (af (eZ PassesOwn.never U (eE (aP hr (Aj T) T.Ac (aZ (pv 1) (aW T.wF)))) (cx 4 nd) (af (aN 5 nd (aP hr (abA T) T.YE (aj (pv 4))))
  (af (a9 (PW.pt (kW (aR rL (pv 5) ja) (oE (aR j7 (cW (pv 5) ak) (pv 3))))) (ag (aB ja)) bt)
  (af (bF (dD (pv 2) (pv 5)))
  (ag (aN 3 nd (cW (pv 5) ak)))))))
  (ag (aB (pv 2)))))))),?_⟩
 try dsimp only[A9]
 rw[Iu]at q;have Av:=Pn t;refine⟨_,U,v,t,U,ht,λa H1 s1 _ ha=>?_⟩;generalize Ws t=tr at q Av ha;refine⟨_,U,bL _,λz hz=>?_⟩;have s2:=aa.new (o:= .lst []) hz;have bQ:=s1.trans s2;refine⟨_,_,uC ⟨a,U,s2 _ _ ha⟩,mC ae,(uB _).shaped (by decide),mD,_,U,?_⟩;rw[mB,isEmpty_map];cases xc:tr.isEmpty with
 |true=>rw[aI xc]at q;exact aJ ⟨bL _,λy hy=>q _ _ (bQ.trans (aa.new hy)) ⟨y,[],U,e9 (hP.mono bQ) hy, .nil⟩⟩
 |false=>
  rw[ay (by rw[xc];simp)]at q;refine aA ⟨bL _,λl hl=>⟨_,U,?_⟩⟩;have s3:=aa.new (o:= .lst []) hl;have cU:=bQ.trans s3;have xf:Hid (aL P l) _:=(hP.mono cU).lq ae;refine⟨_,U,aL P l, .ref a,tr,32,U,⟨a,U,s3 _ _ (s2 _ _ ha)⟩,by lia,xf,λv4 H4 s4 h4=>?_⟩;have bD:=Ay 32 tr;have jE:=xb 32 tr;generalize Mt 32 tr=ts at q h4 bD jE;obtain⟨c,xs,rfl,hc,cg⟩:=h4;have jh:=ck cg;have dY:H l=none:=bQ.free hl;refine⟨c,U,⟨_,ab.of (bB _ _ _ _ hc)⟩,gL (xs:=xs) (λi σ' H'=>E5 λ(lst:Int) (ds:List (Nat×Nat)) (vs:List V) (u w:Option V)=>A8 (σ'=[some v,some (.ref a),some (.ref l),some (.int lst),u,w]) (aa H H') (aa (Wo (aL P l) H4) (Wo (aL P l) H')) (Hid (aL P l) H') (H' l=some (.lst vs)) (Paired (d6 (Wo (aL P l) H')) vs ds) (vs.length<=i) (jv (-1) ts=(jv lst (ts.drop i)).map λr=>ds++r))
   ⟨-1,[],[],none,none,U,cU.trans s4,aa.refl _,xf.mono s4,s4 _ _ ae, .nil,a_ _,by rw[mT];cases jv (-1) ts<;>rfl⟩ (λi σ' H' _ ⟨_,_,_,_,_,_,_,k,_,_,_,_,_⟩=>ab.of (bB _ _ _ _ (k _ _ hc))) ?_ ?_⟩
  .rintro i x σ' H' hx ⟨lst,ds,vs,u,w,rfl,sm,k,aH,hv,hp,gk,bP⟩
   obtain⟨y,hy,w9⟩:=fB cg hx;have hi:=dm hy;have hd:ts.drop i=y::ts.drop (i+1):=by have e:ts[i]=y:=(da.mp hy).2;rw[kM hi,e]
   rw[hd]at bP;have w_:jv lst (y::ts.drop (i+1))=(adt y).bind λx=>if(x.1:Int)<=lst then none else(jv x.1 (ts.drop (i+1))).map λl=>x::l:=rfl;rw[w_]at bP;have h_:=jE y (cN hy);refine⟨_,U,aL P l,x,y,U,bG.mono _ _ _ _ (aa.trans k (bB _ _)) w9,by lia,aH,λv5 H5 s5 h5=>?_⟩;cases uG:adt y with
   |none=>rw[uG]at h5 bP;have h5:v5= .aO:=h5;subst h5;refine⟨_,U,U,_,U,aJ (aJ (q _ _ (sm.trans s5) ?_))⟩;rw[bP];rfl
   |some pr=>
    rw[uG]at h5 bP;have h5':=h5;obtain⟨g,rfl,hg⟩:=h5;have kx:=bB _ _ _ _ hg;simp only[dQ]at bP;refine⟨_,U,U,_,U,aA ?_⟩;refine⟨_,U,_,_,_,_,U,U,bx.of kx,bT,_,U,_,_,U,U,_,U,b9 (λh=>?_) (λh=>?_)⟩
    .have e:=dJ h
     rw[aI e]at bP;refine q _ _ (sm.trans s5) ?_;rw[bP];rfl
    .have e:¬(pr.1:Int)<=lst:=λc=>h (bb c)
     rw[ay e]at bP;refine⟨_,U, .inl ⟨U,_,ab.of (s5 _ _ hv)⟩,_,U,l,_,_,U,U,s5 _ _ hv,dk (by lia),?_⟩;have xg:g≠l:=λc=>(iU hg).1 (.inr c);refine⟨_,U,_,_,_,_,U,U,bx.of (by rw[aD xg];exact kx),bT,pr.1,ds++[pr],vs++[.ref g],_,_,U,c5 (sm.trans s5) dY,?_,(aH.mono s5).upd,ae,?_,by simp;lia,?_⟩
     .rw[dP (.inr U)];exact k.trans (bV s5)
     .rw[dP (.inr U)]
      exact kf (bO (λ_ _ r=>d6.mono _ _ _ _ (bV s5) r) hp) h5'
     .rw[bP,xX]
      congr 1;funext r;simp
  .rintro σ' H' ⟨lst,ds,vs,u,w,rfl,sm,k,aH,hv,hp,gk,bP⟩
   rw[jh,mY]at bP;have e:jv (-1) ts=some ds:=by rw[bP];simp[jv]
   rw[e]at q;refine⟨_,U,q _ _ sm ⟨l,vs,U,?_,bO (λ_ _ r=>d6.mono _ _ _ _ qh r) hp⟩⟩;rw[cR (hP.not dY)];exact hv
def Az(l:List Formula):Prop:=∀A∈l,multiplicative A=true/\ nm (enc A)/\ nodes A<=2000
noncomputable def readAll(l:List Text):Option (List Formula):=Vaneta.allOf (l.map gX)
theorem Po(t:Text)(r:List Text):readAll (t::r)=(gX t).bind λa=>(readAll r).map λl=>a::l:=rfl
theorem Pp:∀(l:List Text) (z:List Formula),readAll l=some z->Az z
 |[],z,h=>by cases h;intro A hA;simp at hA
 |t::r,z,h=>by
  rw[Po]at h;obtain⟨a,ha,h⟩:=cY.mp h;obtain⟨l,hl,e⟩:=fq.mp h;subst e;intro A hA;rcases br.mp hA with rfl|hA
  .exact J4 ha
  .exact Pp r l hl A hA
theorem Pq{t:Text}{z:List Formula}(h:kQ t=some z):Az z/\ z.length<=20:=by
 unfold kQ at h;split at h
 .cases h;exact⟨λA hA=>by simp at hA,bL _⟩
 .rw[yf]at h
  exact⟨Pp _ _ h.1,dJ h.2⟩
theorem abD{P:Addr->Prop}{H:Hp}{v:V}{t:Text}{A:Formula}(h:cT H v (ie (gX t)))(e:gX t=some A):dj H v A:=by rw[e]at h;exact⟨(J4 e).1,h⟩
inductive Pt(vs:List V)(H:Hp)(Q:VK)(E:XK):Prop
 |mk (P:Addr->Prop) (v:V) (t:Text):vs=[v]->bG H v t->t.length<=4000->Hid P H->(∀v' H',aa H H'->gP (cS dj) (Wo P H') v' (kQ t)->Q v' H')->Pt vs H Q E
theorem Pu(T:Txt K mg A):Gd P w K mg base 8 A.EN A.d_read_sequent ["text"] Pt:=by
 refine T.ZW.go (N:=["text","formulas","stretch","formula"]) ?_;rintro aC A' outer s H vs Q E hr nd ⟨P,v,t,rfl,ht,hlen,hP,q⟩;refine⟨_,(af (a9 (aR (mi hr.units) (aP hr (Pf T) T.N_ (aj (pv 0))) (aS bY)) (ag (aB (aS bY))) bt)
  (af (aN 1 nd (aS bY))
  (af (eZ PassesOwn.never U (eE (aP hr (Aj T) T.Ac (aZ (pv 0) (aW T.Xz)))) (cx 2 nd) (af (aN 3 nd (aP hr (abt T) T.Ys (aj (pv 2))))
  (af (a9 (aR (mi hr.units) (pv 3) (aS bY)) (ag (aB ja)) bt)
  (ag (bF (dD (pv 1) (pv 3)))))))
  (ag (aB (kX (aR j7 (dw T.c6 (pv 1)) (aW T.XQ)) (pv 1) ja)))))),?_⟩
 try dsimp only[A9]
 unfold kQ at q;refine⟨_,U,v,t,U,ht,λa H1 s1 _ ha=>⟨bL _,λz hz=>?_⟩⟩;have s2:=aa.new (o:= .lst []) hz;have bQ:=s1.trans s2;refine⟨_,_,uC ⟨a,U,s2 _ _ ha⟩,mC ae,(uB _).shaped (by decide),mD,_,U,?_⟩;rw[mB,isEmpty_map];cases xc:(Ws t).isEmpty with
 |true=>rw[aI xc]at q;exact aJ ⟨bL _,λy hy=>q _ _ (bQ.trans (aa.new hy)) ⟨y,[],U,e9 (hP.mono bQ) hy, .nil⟩⟩
 |false=>
  rw[ay (by rw[xc];simp)]at q;refine aA ⟨bL _,λl hl=>?_⟩;have s3:=aa.new (o:= .lst []) hl;have cU:=bQ.trans s3;have xf:Hid (aL P l) _:=(hP.mono cU).lq ae;refine⟨_,U,aL P l,v,t,44,U,bG.mono _ _ _ _ cU ht,hlen,xf,λv4 H4 s4 h4=>?_⟩;have bD:=Ay 44 t;have jE:=xb 44 t;have q:∀v' H',aa H H'->gP (cS dj) (Wo P H') v' ((readAll (Mt 44 t)).filter λl=>decide (l.length<=20))->Q v' H':=q;generalize Mt 44 t=ts at q h4 bD jE;obtain⟨c,xs,rfl,hc,cg⟩:=h4;have jh:=ck cg;have dY:H l=none:=bQ.free hl;refine⟨c,U,⟨_,ab.of (bB _ _ _ _ hc)⟩,gL (xs:=xs) (λi σ' H'=>E4 λ(ds:List Formula) (vs:List V) (u w:Option V)=>A8 (σ'=[some v,some (.ref l),u,w]) (aa H H') (aa (Wo (aL P l) H4) (Wo (aL P l) H')) (Hid (aL P l) H') (H' l=some (.lst vs)) (Paired (dj (Wo (aL P l) H')) vs ds) (vs.length<=i) (readAll ts=(readAll (ts.drop i)).map λr=>ds++r))
   ⟨[],[],none,none,U,cU.trans s4,aa.refl _,xf.mono s4,s4 _ _ ae, .nil,a_ _,by rw[mT];cases readAll ts<;>rfl⟩ (λi σ' H' _ ⟨_,_,_,_,_,_,k,_,_,_,_,_⟩=>ab.of (bB _ _ _ _ (k _ _ hc))) ?_ ?_⟩
  .rintro i x σ' H' hx ⟨ds,vs,u,w,rfl,sm,k,aH,hv,hp,gk,bP⟩
   obtain⟨y,hy,w9⟩:=fB cg hx;have hi:=dm hy;have hd:ts.drop i=y::ts.drop (i+1):=by have e:ts[i]=y:=(da.mp hy).2;rw[kM hi,e]
   rw[hd,Po]at bP;have h_:=jE y (cN hy);refine⟨_,U,aL P l,x,y,U,bG.mono _ _ _ _ (aa.trans k (bB _ _)) w9,by lia,aH,λv5 H5 s5 h5=>?_⟩;refine⟨_,U,bL _,λg hg=>?_⟩;have s6:=aa.new (o:= .lst []) hg;have mE:=s5.trans s6;refine⟨_,_,qu (cT.kr _ _ _ _ (aa.trans (bB _ _) s6) h5),mC ae,(qt _).shaped (by decide),mD,_,U,?_⟩;unfold nN;rw[mB,isEmpty_map];cases uG:gX y with
   |none=>rw[uG]at bP;refine aJ (q _ _ (sm.trans mE) ?_);rw[bP];rfl
   |some F=>
    have hF:=abD (P:=P) (cT.kr _ _ _ _ (bV s6) h5) uG;rw[uG]at bP;simp only[dQ]at bP;have b8:(ie (some F)).isEmpty=false:=by
     show(enc F).isEmpty=false;cases he:enc F with
     |nil=>exact absurd he (BU F)
     |cons _ _=>rfl
    rw[b8];refine aA ⟨_,U, .inl ⟨U,_,ab.of (mE _ _ hv)⟩,_,U,l,_,_,U,U,mE _ _ hv,dk (by lia),ds++[F],vs++[v5],_,_,U,c5 (sm.trans mE) dY,?_,(aH.mono mE).upd,ae,?_,by simp;lia,?_⟩
    .rw[dP (.inr U)];exact k.trans (bV mE)
    .rw[dP (.inr U)]
     exact kf (bO (λ_ _ r=>dj.mono _ _ _ _ (bV mE) r) hp) hF
    .rw[bP,xX]
     congr 1;funext r;simp
  .rintro σ' H' ⟨ds,vs,u,w,rfl,sm,k,aH,hv,hp,gk,bP⟩
   rw[jh,mY]at bP;have e:readAll ts=some ds:=by rw[bP];simp[readAll,Vaneta.allOf]
   rw[e]at q;have bK:=ck hp;refine⟨_,U,l,_,U, .inl (ab.of hv),_,_,U,U,_,U,b9 (λh=>?_) (λh=>?_)⟩
   .have hle:ds.length<=20:=by have:=dJ h;lia
    refine⟨_,U,q _ _ sm ?_⟩;rw[ye,aI (bb hle)];refine⟨l,vs,U,?_,bO (λ_ _ r=>dj.mono _ _ _ _ qh r) hp⟩;rw[cR (hP.not dY)];exact hv
   .have hle:¬ds.length<=20:=λc=>h (bb (by lia))
    refine q _ _ sm ?_;rw[ye,ay (by simpa using hle)];rfl
abbrev P3:=List Formula×List Formula×List (Nat×Nat)
noncomputable def GN(c u l:V):List (Str×V):=[("conclusions",c),("cuts",u),("links",l)]
inductive c7(A:aF)(H:Hp)(v:V)(x:P3):Prop
 |mk (p dx:Addr) (c u l:V):v= .ref p->H p=some (.ins A.jg dx (GN c u l))->cS dj H c x.1->cS dj H u x.2.1->cS d6 H l x.2.2->c7 A H v x
theorem c7.mono{A:aF}:eP (c7 A):=λ_ _ _ _ s ⟨p,dx,c,u,l,e,h,h1,h2,h3⟩=>⟨p,dx,c,u,l,e,s _ _ h,cS.mono dj.mono _ _ _ _ s h1,cS.mono dj.mono _ _ _ _ s h2,cS.mono d6.mono _ _ _ _ s h3⟩
structure qy(x:P3):Prop where
 c:Az x.1
 u:Az x.2.1
 cl:x.1.length<=20
 ul:x.2.1.length<=20
 lt:∀y∈x.2.2,y.1<y.2
 ll:x.2.2.length<=4001
theorem Pw:∀(l:List Text) (k:Int) (z:List (Nat×Nat)),jv k l=some z->z.length=l.length
 |[],k,z,h=>by cases h;rfl
 |t::r,k,z,h=>by
  unfold jv at h;obtain⟨x,hx,h⟩:=cY.mp h;split at h
  .cases h
  .obtain⟨l,hl,h⟩:=fq.mp h
   subst h;rw[bj,bj,Pw r x.1 l hl]
theorem AB{t:Text}{x:P3}(hlen:t.length<=4000)(h:Mx t=some x):qy x:=by
 rw[Iz]at h;have jE:=xb 59 t;split at h
 .rename_i ta tb tc abE
  have hd:=jE tc (by rw[abE];simp);obtain⟨a,ha,h⟩:=cY.mp h;obtain⟨b,hb,h⟩:=cY.mp h;obtain⟨c,hc,e⟩:=fq.mp h;subst e;have h1:=Pq ha;have h2:=Pq hb;rw[Iu]at hc;split at hc
  .cases hc;exact⟨h1.1,h2.1,h1.2,h2.2,(by intro y hy;simp at hy),(by simp)⟩
  .refine⟨h1.1,h2.1,h1.2,h2.2,Iv _ _ _ hc,?_⟩
   show c.length<=4001;rw[Pw _ _ _ hc];have:=Ay 32 (Ws tc);have:=Pn tc;lia
 .cases h
inductive Px(A:aF)(vs:List V)(H:Hp)(Q:VK)(E:XK):Prop
 |mk (p dx:Addr) (c u l:V):vs=[.ref p,c,u,l]->H p=some (.ins A.jg dx [])->Q .aO (upd H p (.ins A.jg dx (GN c u l)))->Px A vs H Q E
theorem abF(T:Txt K mg A):Gd P w K mg base 1 A.zY A.d_Parts_init ["self","conclusions","cuts","links"] (Px A):=by
 refine T.ZS.go (N:=["self","conclusions","cuts","links"]) ?_;rintro aC A' outer s H vs Q E hr nd ⟨p,dx,c,u,l,rfl,hp,q⟩;refine⟨_,(af (cn (pv 0) (pv 1))
  (af (cn (pv 0) (pv 2))
  (ag (cn (pv 0) (pv 3))))),?_⟩
 try dsimp only[A9]
 refine⟨_,U,_,U,p,_,_,_,U,hp,T.gN,T.uu,(by show 0<1000;decide),?_⟩;refine⟨_,U,_,U,p,_,_,_,U,ae,T.gN,T.Gg,(by show 1<1000;decide),?_⟩;refine⟨_,U,_,U,p,_,_,_,U,ae,T.gN,T.Af,(by show 2<1000;decide),?_⟩;rw[jz,jz];exact q
inductive Py(A:aF)(vs:List V)(H:Hp)(Q:VK)(E:XK):Prop
 |mk (P:Addr->Prop) (v:V) (t:Text):vs=[v]->bG H v t->t.length<=4000->Hid P H->(∀v' H',aa H H'->gP (c7 A) (Wo P H') v' (Mx t)->Q v' H')->Py A vs H Q E
theorem xh{α:Type}{R:Hp->V->α->Prop}{H:Hp}{v:V}{o:Option α}(k:∀x,R H v x->v≠ .aO)(h:gP R H v o):decide (v=V.aO)=o.isNone:=by
 cases o with
 |none=>have h:v= .aO:=h;rw[h];rfl
 |some x=>exact cO (k x h)
theorem GO{α:Type}{R:Hp->V->α->Prop}{H:Hp}{v:V}(x:List α)(h:cS R H v x):v≠ .aO:=by obtain⟨a,_,rfl,_⟩:=h;intro z;cases z
theorem GP(T:Txt K mg A):Gd P w K mg base 9 A.EM A.d_read_parts ["text"] (Py A):=by
 refine T.ZV.go (N:=["text","stretches","conclusions","cuts","links"]) ?_;rintro aC A' outer s H vs Q E hr nd ⟨P,v,t,rfl,ht,hlen,hP,q⟩;refine⟨_,(af (aN 1 nd (aP hr (Aj T) T.Ac (aZ (pv 0) (aW T.XB))))
  (af (a9 (aR t8 (dw T.c6 (pv 1)) ak) (ag (aB ja)) bt)
  (af (aN 2 nd (aP hr (Pu T) T.N8 (aj (aT (pv 1) ak))))
  (af (aN 3 nd (aP hr (Pu T) T.N8 (aj (aT (pv 1) ak))))
  (af (aN 4 nd (aP hr (abB T) T.YD (aj (aT (pv 1) ak))))
  (af (a9 (PW.pt (kW (aR rL (pv 2) ja) (kW (aR rL (pv 3) ja) (oE (aR rL (pv 4) ja))))) (ag (aB ja)) bt)
  (ag (aB (qi hr (abF T) T.aaS T.Yf (fM (pv 2) (aZ (pv 3) (pv 4)))))))))))),?_⟩
 try dsimp only[A9]
 rw[Iz]at q;refine⟨_,U,P,v,t,59,U,ht,hlen,hP,λv1 H1 s1 h1=>?_⟩;have jE:=xb 59 t;obtain⟨c,xs,rfl,hc,cg⟩:=h1;have hl:=ck cg;have i_:=bB _ _ _ _ hc;refine⟨_,U,c,_,U, .inl (ab.of i_),U,_,U,?_⟩;rw[uz];generalize Mt 59 t=ts at q cg hl jE;cases cg with
 |nil=>exact aJ (q _ _ s1 U)
 | @cons va a _ _ ra cg=>
 cases cg with
 |nil=>exact aJ (q _ _ s1 U)
 | @cons vb b _ _ rb cg=>
 cases cg with
 |nil=>exact aJ (q _ _ s1 U)
 | @cons vd d _ _ rd cg=>
 cases cg with
 | @cons ve e vr r re cg=>have:(decide (((va::vb::vd::ve::vr).length:Int)=3))=false:=cO (by simp;lia);rw[this];exact aJ (q _ _ s1 U)
 |nil=>
  have GK:=bG.mono _ _ _ _ (bB _ _) ra;have GL:=bG.mono _ _ _ _ (bB _ _) rb;have rd':=bG.mono _ _ _ _ (bB _ _) rd;have la:=jE a (by simp);have lb:=jE b (by simp);have ld:=jE d (by simp);have q:∀v' H',aa H H'->gP (c7 A) (Wo P H') v' ((kQ a).bind λx=>(kQ b).bind λy=>(abG d).map λz=>(x,y,z))->Q v' H':=q;refine aA ?_;refine⟨_,U,_,_,_,_,U,U,ab.of i_,bT,P,va,a,U,GK,by lia,hP.mono s1,λw1 H2 s2 g1=>?_⟩;refine⟨_,U,_,_,_,_,U,U,ab.of (s2 _ _ i_),fP,P,vb,b,U,bG.mono _ _ _ _ s2 GL,by lia,hP.mono (s1.trans s2),λw2 H3 s3 g2=>?_⟩;have cU:=(s1.trans s2).trans s3;refine⟨_,U,_,_,_,_,U,U,ab.of (s3 _ _ (s2 _ _ i_)),at2,P,vd,d,U,bG.mono _ _ _ _ (s2.trans s3) rd',by lia,hP.mono cU,λw3 H4 s4 g3=>?_⟩;have mH:=cU.trans s4;have g1':=gP.mono (cS.mono dj.mono) _ _ _ _ (bV (s3.trans s4)) g1;have g2':=gP.mono (cS.mono dj.mono) _ _ _ _ (bV s4) g2;refine⟨_,U,U,_,U,?_⟩;rw[xh GO g1'];cases e1:kQ a with
  |none=>exact aJ (aJ (q _ _ mH (by rw[e1];rfl)))
  |some x1=>
   refine aA ⟨_,U,U,_,U,?_⟩;rw[xh GO g2'];cases e2:kQ b with
   |none=>exact aJ (aJ (q _ _ mH (by rw[e1,e2];rfl)))
   |some x2=>
    refine aA ⟨_,U,U,_,U,?_⟩;rw[xh GO g3];cases e3:abG d with
    |none=>exact aJ (q _ _ mH (by rw[e1,e2,e3];rfl))
    |some x3=>rw[e1]at g1';rw[e2]at g2';rw[e3]at g3;refine aA ⟨_,U,_,U,_,U,?_⟩;intro p dx np ndx npd;have s5:aa H4 (upd (upd H4 dx (.own p)) p (.ins A.jg dx [])):=c5 (aa.new ndx) np;have s6:aa H4 (upd (upd (upd H4 dx (.own p)) p (.ins A.jg dx [])) p (.ins A.jg dx (GN w1 w2 w3))):=c5 s5 np;refine⟨p,dx,w1,w2,w3,U,ae,U,q _ _ (mH.trans s6) ?_⟩;rw[e1,e2,e3];refine⟨p,dx,w1,w2,w3,U,?_,cS.mono dj.mono _ _ _ _ (bV s6) g1',cS.mono dj.mono _ _ _ _ (bV s6) g2',cS.mono d6.mono _ _ _ _ (bV s6) g3⟩;rw[cR ((hP.mono mH).not np),ae]
noncomputable def bE(x:P3):List Formula:=x.1++x.2.1.flatMap λA=>[A,L7 A]
theorem abH{H:Hp}{v:V}{F:Formula}(hF:multiplicative F=true)(h:cT H v ((enc F).map qS)):dj H v (L7 F):=by refine⟨by rw[jT];exact hF,?_⟩;rw[jS];exact h
inductive Pz(A:aF)(vs:List V)(H:Hp)(Q:VK)(E:XK):Prop
 |mk (P:Addr->Prop) (v:V) (x:P3):vs=[v]->c7 A (Wo P H) v x->qy x->Hid P H->(∀v' H',aa H H'->cS dj (Wo P H') v' (bE x)->Q v' H')->Pz A vs H Q E
theorem GQ(T:Txt K mg A):Gd P w K mg base 2 A.EK A.d_Parts_formulas ["self"] (Pz A):=by
 refine T.ZT.go (N:=["self","whole","cut"]) ?_;rintro aC A' outer s H vs Q E hr nd ⟨P,v,x,rfl,⟨p,dx,_,_,lv,rfl,hp,⟨ca,cs,rfl,fc,eT⟩,⟨ua,us,rfl,PB,zy⟩,uH⟩,ok,hP,q⟩;refine⟨_,(af (aN 1 nd (oI Dn (by rfl) T.wD DY (aj (ao (pv 0)))))
  (af (eZ PassesOwn.never U (eE (ao (pv 0))) (cx 2 nd) (af (bF (dD (pv 1) (pv 2)))
  (ag (bF (dD (pv 1) (aP hr (wU T) T.wK (aj (pv 2))))))))
  (ag (aB (pv 1))))),?_⟩
 try dsimp only[A9]
 have uI:=bB _ _ _ _ hp;have bD:=ck eT;have hul:=ck zy;have okl:=ok.cl;have oku:=ok.ul;refine⟨_,U,_,_,_,_,_,U,uI,T.gN,T.uu,U,ca,_,U, .inl (ab.of (bB _ _ _ _ fc)),λl hl=>?_⟩;have s0:=aa.new (o:= .lst cs) hl;refine⟨_,U,_,_,_,_,_,U,s0 _ _ uI,T.gN,T.Gg,U,ua,U,⟨_,ab.of (s0 _ _ (bB _ _ _ _ PB))⟩,gL (xs:=us) (λi σ' H'=>E2 λ(vs:List V) (w:Option V)=>A6 (σ'=[some (.ref p),some (.ref l),w]) (aa H H') (Hid (aL P l) H') (H' l=some (.lst vs)) (Paired (dj (Wo (aL P l) H')) vs (x.1++(x.2.1.take i).flatMap λA=>[A,L7 A])) (vs.length<=20+2*i))
  ⟨cs,none,U,s0,(hP.mono s0).lq ae,ae,by
   simp only[afg,BG,i5];exact bO (λ_ _ r=>dj.mono _ _ _ _ (qg hl s0) r) eT,by lia⟩ (λi σ' H' _ ⟨_,_,_,sm,_,_,_,_⟩=>ab.of (sm _ _ (bB _ _ _ _ PB))) ?_ ?_⟩
 .rintro i y σ' H' hy ⟨vs,w,rfl,sm,aH,hv,bh,gk⟩
  obtain⟨F,hF,rF⟩:=fB zy hy;have hi:=dm hF;have okF:=ok.u F (cN hF);have AD:=dj.mono _ _ _ _ (qg hl sm) rF;refine⟨_,U, .inl ⟨U,_,ab.of hv⟩,_,U,l,_,_,U,U,hv,dk (by lia),?_⟩;have eW:Wo (aL P l) (upd H' l (.lst (vs++[y])))=Wo (aL P l) H':=dP (.inr U);refine⟨_,U, .inl ⟨U,_,ab.of ae⟩,_,U,aL P l,y,enc F,U,by rw[eW];exact AD.2,jt F okF.1,by rw[bJ];lia,aH.upd,λv2 H2 s2 h2=>?_⟩;refine⟨l,_,_,U,U,s2 _ _ ae,dk (by simp;lia),(vs++[y])++[v2],_,U,c5 ((c5 sm hl).trans s2) hl,(aH.upd.mono s2).upd,ae,?_,by simp;lia⟩;have s2':=bV (P:=aL P l) s2;rw[eW]at s2';rw[dP (.inr U),iy hF,pG,<-gC,gC vs];refine qc (bO (λ_ _ r=>dj.mono _ _ _ _ s2' r) bh) ?_;exact .cons (dj.mono _ _ _ _ s2' AD) (.cons (abH okF.1 h2) .nil)
 .rintro σ' H' ⟨vs,w,rfl,sm,aH,hv,bh,gk⟩
  rw[hul,lH]at bh;refine⟨_,U,q _ _ sm ⟨l,vs,U,?_,bO (λ_ _ r=>dj.mono _ _ _ _ qh r) bh⟩⟩;rw[cR (hP.not hl)];exact hv
theorem xi{x:P3}(ok:qy x):(∀F∈bE x,multiplicative F=true/\ nodes F<=2000)/\ (bE x).length<=60:=by
 refine⟨λF hF=>?_,?_⟩
 .unfold bE at hF
  rcases c9.mp hF with hF|hF
  .have:=ok.c F hF;exact⟨this.1,this.2.2⟩
  .obtain⟨G,hG,hF⟩:=gT.mp hF
   have:=ok.u G hG;simp at hF;rcases hF with rfl|rfl
   .exact⟨this.1,this.2.2⟩
   .exact⟨by rw[jT];exact this.1,by rw[yk];exact this.2.2⟩
 .unfold bE
  have h1:=ok.cl;have h2:=ok.ul;have:(x.2.1.flatMap λA=>[A,L7 A]).length=2*x.2.1.length:=by
   generalize x.2.1=l;induction l with
   |nil=>rfl
   |cons a r ih=>rw[iE,cP,ih];simp;lia
  rw[cP,this];lia
noncomputable def uJ(l:List Formula):List Node:=l.flatMap λF=>(enc F).filter λx=> !bR x
inductive PD(A:aF)(vs:List V)(H:Hp)(Q:VK)(E:XK):Prop
 |mk (P:Addr->Prop) (v:V) (x:P3):vs=[v]->c7 A (Wo P H) v x->qy x->Hid P H->(∀v' H',aa H H'->cT (Wo P H') v' (uJ (bE x))->Q v' H')->PD A vs H Q E
theorem PF(T:Txt K mg A):Gd P w K mg base 3 A.EL A.d_Parts_leaves ["self"] (PD A):=by
 refine T.ZU.go (N:=["self","found","formula"]) ?_;rintro aC A' outer s H vs Q E hr nd ⟨P,v,x,rfl,hv,ok,hP,q⟩;refine⟨_,(af (aN 1 nd (aS bY))
  (af (eZ PassesOwn.never U (eE (dO hr (GQ T) T.gN T.F4 (pv 0))) (cx 2 nd) (ag (bF (wc MM acz acJ zx (pv 1) (aj (aP hr (Oy T) T.NY (aj (pv 2))))))))
  (ag (aB (pv 1))))),?_⟩
 try dsimp only[A9]
 obtain⟨fok,flen⟩:=xi ok;refine⟨bL _,λl hl=>?_⟩;have s0:=aa.new (o:= .lst []) hl;have jj:=c7.mono _ _ _ _ (qg (P:=P) hl s0) hv;have PH:=(hP.mono s0).lq (l:=l) ae;obtain⟨p,dx,c,u,lv,rfl,hp,_⟩:=id hv;refine⟨_,U,p,dx,_,U,s0 _ _ (bB _ _ _ _ hp),U,aL P l, .ref p,x,U,jj,ok,PH,λv1 H1 s1 h1=>?_⟩;obtain⟨ca,cs,rfl,fc,eT⟩:=h1;have bD:=ck eT;refine⟨ca,U,⟨_,ab.of (bB _ _ _ _ fc)⟩,gL (xs:=cs) (λi σ' H'=>E2 λ(vs:List V) (w:Option V)=>A7 (σ'=[some (.ref p),some (.ref l),w]) (aa H H') (aa (Wo (aL P l) H1) (Wo (aL P l) H')) (Hid (aL P l) H') (H' l=some (.lst vs)) (Paired (bZ (Wo (aL P l) H')) vs (uJ ((bE x).take i))) (vs.length<=2000*i))
  ⟨[],none,U,s0.trans s1,aa.refl _,PH.mono s1,s1 _ _ ae, .nil,bL _⟩ (λi σ' H' _ ⟨_,_,_,_,k,_,_,_,_⟩=>ab.of (bB _ _ _ _ (k _ _ fc))) ?_ ?_⟩
 .rintro i y σ' H' hy ⟨vs,w,rfl,sm,k,aH,hv,bh,gk⟩
  obtain⟨F,hF,rF⟩:=fB eT hy;have hi:=dm hF;have okF:=fok F (cN hF);have AD:=dj.mono _ _ _ _ k rF;refine⟨_,U, .inl ⟨U,_,ab.of hv⟩,_,U,aL P l,y,enc F,U,AD.2,jt F okF.1,by rw[bJ];lia,aH,λv2 H2 s2 h2=>?_⟩;obtain⟨b,ys,rfl,hb,lC⟩:=h2;have h_:=ck lC;have PJ:((enc F).filter λx=> !bR x).length<=2000:=c_ (sX _ _) (by rw[bJ];exact okF.2);refine⟨l,b,_,_,U,U,s2 _ _ hv,bB _ _ _ _ hb,fC (by lia),vs++ys,_,U,c5 (sm.trans s2) hl,?_,(aH.mono s2).upd,ae,?_,by simp;lia⟩
  .rw[dP (.inr U)];exact k.trans (bV s2)
  .rw[dP (.inr U),iy hF]
   unfold uJ at bh⊢;rw[pG];refine qc (bO (λ_ _ r=>bZ.mono _ _ _ _ (bV s2) r) bh) ?_;rw[iE,BG,i5];exact lC
 .rintro σ' H' ⟨vs,w,rfl,sm,k,aH,hv,bh,gk⟩
  rw[bD,lH]at bh;refine⟨_,U,q _ _ sm ⟨l,vs,U,?_,bO (λ_ _ r=>bZ.mono _ _ _ _ qh r) bh⟩⟩;rw[cR (hP.not hl)];exact hv
abbrev Lf:=Bool×Name
theorem abJ(a b:Lf):decide ([gU a]=[qS (gU b)])=aa0 a b:=by obtain⟨p,x⟩:=a;obtain⟨q,y⟩:=b;unfold aa0;rw[js];cases p<;>cases q<;>simp[gU,qS,yj]
theorem abK{ls:List Lf}{x:Nat×Nat}{a b:Lf}(h1:ls[x.1]? =some a)(h2:ls[x.2]? =some b):fits ls x=aa0 a b:=by unfold fits;rw[h1,h2]
theorem AE{ax:List (Key×V)}{met:List Nat}(h:ax.map (·.1)=met.map λ(n:Nat)=>(Sum.inl (n:Int):Key))(n:Nat):(gA ax (Sum.inl (n:Int))).isSome=decide (n∈met):=by
 cases e:gA ax (Sum.inl (n:Int))with
 |none=>have:=WT e;rw[h]at this;symm;exact cO λc=>this (eu.mpr ⟨n,c,U⟩)
 |some v=>
  have:=WU e;rw[h]at this;symm;refine bb ?_;obtain⟨m,hm,e2⟩:=eu.mp this;have:(m:Int)=(n:Int):=by injection e2
  have:m=n:=by lia
  rw[<-this];exact hm
inductive PK(vs:List V)(H:Hp)(Q:VK)(E:XK):Prop
 |mk (lv kv:V) (ls:List Lf) (lk:List (Nat×Nat)):vs=[lv,kv]->cT H lv (ls.map gU)->cS d6 H kv lk->(∀y∈lk,y.1<y.2)->lk.length<=4001->(∀H',aa H H'->Q (.bl (paired ls lk)) H')->PK vs H Q E
theorem abL(T:Txt K mg A):Gd P w K mg base 2 A.EV A.d_are_paired ["leaves","links"] PK:=by
 refine T.Z2.go (N:=["leaves","links","met","pair"]) ?_;rintro aC A' outer s H vs Q E hr nd ⟨lv,kv,ls,lk,rfl,⟨la,lvs,rfl,jk,xj⟩,⟨ka,kvs0,rfl,xk,xl⟩,aU,hlk,q⟩;refine⟨_,(af (aN 2 nd Wq)
  (af (eZ PassesOwn.never U (eE (pv 1)) (cx 3 nd) (af (a9 (PW.pt (kW (aR Vb (cW (pv 3) ak) (dw T.c6 (pv 0))) (kW (Kb (Lq (zL hr) (cW (pv 3) ak) (pv 2))) (oE (Kb (Lq (zL hr) (cW (pv 3) ak) (pv 2))))))) (ag (aB iP)) bt)
  (af (a9 (aR (Dx hr.units) (aS (aj (aT (pv 0) (cW (pv 3) ak)))) (aP hr (wU T) T.wK (aj (aS (aj (aT (pv 0) (cW (pv 3) ak))))))) (ag (aB iP)) bt)
  (af (Lr (zL hr) (pv 2) (cW (pv 3) ak) iP U)
  (ag (Lr (zL hr) (pv 2) (cW (pv 3) ak) iP U))))))
  (ag (aB (lu cj (pY WS (by rfl) T.c6 adN (aj (pv 2))) (dw T.c6 (pv 0))))))),?_⟩
 try dsimp only[A9]
 have gw:=ck xj;rw[aX]at gw;have GR:=ck xl;unfold paired at q;intro d hd;have s0:=aa.new (o:= .dK []) hd;refine⟨_,U,ka,U,⟨_,ab.of (s0 _ _ xk)⟩,gL (xs:=kvs0) (λi σ' H'=>E3 λ(ax:List (Key×V)) (met:List Nat) (w:Option V)=>A6 (σ'=[some (.ref la),some (.ref ka),some (.ref d),w]) (aa H H') (H' d=some (.dK ax)) (ax.map (·.1)=met.map (λ(n:Nat)=>(Sum.inl (n:Int):Key))) (met.length<=2*i) (jU ls [] lk=jU ls met (lk.drop i)))
  ⟨[],[],none,U,s0,ae,U,a_ _,by rw[mT]⟩ (λi σ' H' _ ⟨_,_,_,_,sm,_,_,_,_⟩=>ab.of (sm _ _ xk)) ?_ ?_⟩
 .rintro i y σ' H' hy ⟨ax,met,w,rfl,sm,hk,r_,Gp,bP⟩
  obtain⟨pr,bh,g,rfl,hg⟩:=fB xl hy;have hi:=dm bh;have sf:lk.drop i=pr::lk.drop (i+1):=by have e:lk[i]=pr:=(da.mp bh).2;rw[kM hi,e]
  rw[sf]at bP;have w_:jU ls met (pr::lk.drop (i+1))=if ls.length<=pr.2\/pr.1∈met\/pr.2∈met then none else if fits ls pr=true then jU ls (met++[pr.1,pr.2]) (lk.drop (i+1))else none:=rfl;rw[w_]at bP;have kx:=sm _ _ hg;have GS:=sm _ _ jk;have bad:jU ls [] lk=none->∀H2,aa H H2->Q (.bl false) H2:=λe H2 s2=>by have:=q H2 s2;rw[e]at this;exact this
  have kl:ax.length=met.length:=by have:=congrArg List.length r_;simpa using this
  refine⟨_,U,_,_,_,_,U,U,bx.of kx,fP,_,U,la,_,U, .inl (ab.of GS),_,_,U,U,_,U,b9 (λh=>?_) (λh=>?_)⟩
  .have e:ls.length<=pr.2:=by have:=dJ h;lia
   rw[aI (.inl e)]at bP;exact aJ (bad bP _ sm)
  .have e:¬ls.length<=pr.2:=λc=>h (bb (by lia))
   have afs:=aU pr (cN bh);refine⟨_,U,_,_,_,_,U,U,bx.of kx,bT,_,U,d,_,U,p9.k (k:=Sum.inl (pr.1:Int)) hk,_,U,?_⟩;rw[AE r_];refine b9 (λh=>?_) (λh=>?_)
   .have e1:=dJ h
    rw[aI (.inr (.inl e1))]at bP;exact aJ (bad bP _ sm)
   .have e1:¬pr.1∈met:=λc=>h (bb c)
    refine⟨_,U,_,_,_,_,U,U,bx.of kx,fP,_,U,d,_,U,p9.k (k:=Sum.inl (pr.2:Int)) hk,_,U,?_⟩;rw[AE r_];refine b9 (λh=>?_) (λh=>?_)
    .have e2:=dJ h
     rw[aI (.inr (.inr e2))]at bP;exact bad bP _ sm
    .have e2:¬pr.2∈met:=λc=>h (bb c)
     rw[ay (by rintro(c|c|c);exact e c;exact e1 c;exact e2 c)]at bP;obtain⟨a,hA⟩:∃a,ls[pr.1]? =some a:=⟨_,cC (by lia)⟩
     obtain⟨b,hB⟩:∃b,ls[pr.2]? =some b:=⟨_,cC (by lia)⟩
     obtain⟨va,hva,rva⟩:=oT xj (show(ls.map gU)[pr.1]? =some (gU a) by rw[ft,hA];rfl);obtain⟨vb,uK,rvb⟩:=oT xj (show(ls.map gU)[pr.2]? =some (gU b) by rw[ft,hB];rfl);rw[abK hA hB]at bP;refine⟨_,U,_,U,_,_,_,_,U,U,bx.of kx,bT,_,_,_,_,U,U,ab.of GS,bH hva,cu,λm1 vi=>?_⟩;have s1:=aa.new (o:= .lst [va]) vi;refine⟨_,U,_,U,_,_,_,_,U,U,bx.of (s1 _ _ kx),fP,_,_,_,_,U,U,ab.of (s1 _ _ GS),bH uK,cu,λm2 oq=>?_⟩;have s2:=aa.new (o:= .lst [vb]) oq;have bQ:=s1.trans s2;have rb2:cT (Wo (λ_=>False) (upd (upd H' m1 (.lst [va])) m2 (.lst [vb]))) (.ref m2) [gU b]:=by rw[mq];exact⟨m2,[vb],U,ae,qd (bZ.mono _ _ _ _ (sm.trans bQ) rvb)⟩
     refine⟨(λ_=>False), .ref m2,[gU b],U,rb2,λz hz=>?_,by simp,Hid.none _,λv3 H3 s3 h3=>?_⟩
     .simp at hz;rw[hz];unfold gU;simp only;split<;>lia
     rw[mq]at h3;have cU:=bQ.trans s3;have ra3:cT H3 (.ref m1) [gU a]:=⟨m1,[va],U,s3 _ _ (s2 _ _ ae),qd (bZ.mono _ _ _ _ (sm.trans cU) rva)⟩
     refine⟨_,_,qu ra3,qu h3,(qt _).shaped (by decide),(qt _).shaped (by decide),_,U,?_⟩;have ev:PyData.eqv (nN [gU a]) (nN ([gU b].map qS))=aa0 a b:=(Gv _ _).trans (abJ a b);rw[ev];cases PL:aa0 a b with
     |false=>rw[PL]at bP;rw[ay (by simp)]at bP;exact aJ (bad bP _ (sm.trans cU))
     |true=>
      rw[PL]at bP;rw[aI U]at bP;refine aA ?_;have hk3:=cU _ _ hk;have v1:gA ax (Sum.inl (pr.1:Int))=none:=by have:=AE r_ pr.1;rw[cO e1]at this;exact afF.mp (by rw[this];simp)
      have PN:(ax++[((Sum.inl (pr.1:Int):Key),V.bl true)]).map (λ(kv:Key×V)=>kv.1)=(met++[pr.1]).map (λ(n:Nat)=>(Sum.inl (n:Int):Key)):=by rw[iD,iD,r_];rfl
      have v2:gA (ax++[(Sum.inl (pr.1:Int),V.bl true)]) (Sum.inl (pr.2:Int))=none:=by have:=AE PN pr.2;rw[cO (by simp;exact⟨e2,by lia⟩)]at this;exact afF.mp (by rw[this];simp)
      have hgd:g≠d:=bS hg hd;refine⟨_,U,_,U,_,_,_,_,U,U,bx.of (cU _ _ kx),bT,d,_,U,p_.k (k:=Sum.inl (pr.1:Int)) hk3 (dk (by lia)),?_⟩;rw[Ll _ v1];refine⟨_,U,_,U,_,_,_,_,U,U,bx.of (by rw[aD hgd];exact cU _ _ kx),fP,d,_,U,p_.k (k:=Sum.inl (pr.2:Int)) ae (dk (by simp;lia)),?_⟩;rw[Ll _ v2,jz];refine⟨_,met++[pr.1,pr.2],_,U,c5 (sm.trans cU) hd,ae,?_,by simp;lia,bP⟩;rw[iD,PN];simp
 .rintro σ' H' ⟨ax,met,w,rfl,sm,hk,r_,Gp,bP⟩
  rw[GR,mY]at bP;have e:jU ls [] lk=some met:=bP;have kl:ax.length=met.length:=by have:=congrArg List.length r_;simpa using this
  refine⟨_,U,d,_,U,hk,_,U,la,_,U, .inl (ab.of (sm _ _ jk)),U,?_⟩;have:=q H' sm;rw[e]at this;rw[jH,kl,gw];exact this
def j3(H:Hp)(v:V)(b:Bool):Prop:=v= .bl b
theorem j3.mono:eP j3:=λ_ _ _ _ _ h=>h
theorem AF{H:Hp}:∀{vs:List V} {bs:List Bool},Paired (j3 H) vs bs->vs=bs.map V.bl
 |_,_, .nil=>rfl
 |_,_, .cons r t=>by rw[ez,<-AF t];rw[show _=_ from r]
noncomputable def cJ(x:P3):List Lf:=(bE x).flatMap NM
theorem GU(l:List Formula):uJ l=(l.flatMap NM).map gU:=by unfold uJ;rw[Ic];congr 1;funext F;exact vg F
noncomputable def refusal:Option P3->Int
 |none=> -1
 |some x=>if(bE x).all inBounds=false then-6 else if 120<(cJ x).length then-5 else if paired (cJ x) x.2.2=false then-3 else 0
inductive PQ(A:aF)(vs:List V)(H:Hp)(Q:VK)(E:XK):Prop
 |mk (v:V) (o:Option P3):vs=[v]->gP (c7 A) H v o->(∀x,o=some x->qy x)->(∀H',aa H H'->Q (.int (refusal o)) H')->PQ A vs H Q E
theorem PR(T:Txt K mg A):Gd P w K mg base 4 A.EU A.d_parts_refusal ["parts"] (PQ A):=by
 refine T.Z1.go (N:=["parts","formula","leaves"]) ?_;rintro aC A' outer s H vs Q E hr nd ⟨v,o,rfl,hv,aK,q⟩;refine⟨_,(af (a9 (aR rL (pv 0) ja) (ag (aB (aW T.XS))) bt)
  (af (a9 (ij (dC (pY (Du U) (by rfl) T.FV DX (aj (ml U nd (eE (dO hr (GQ T) T.gN T.F4 (pv 0))) (jF (own:=[("formula",1)]) (by show iT ["parts","formula","leaves"] (d5 (top 70)) _ _=true;decide+kernel)) (λ_ _ _ _ _=>(cx 1 nd)) (λ_ _ _ _ _=>oP) (λ_ _ _ _ _=>(aP hr (aa1 T) T.Yk (aj (pv 1))))))))) (ag (aB (aW T.XW))) bt)
  (af (aN 2 nd (dO hr (PF T) T.gN T.N7 (pv 0)))
  (af (a9 (aR rK (dw T.c6 (pv 2)) (aW T.XR)) (ag (aB (aW T.XU))) bt)
  (af (a9 (ij (dC (aP hr (abL T) T.YF (aZ (pv 2) (ao (pv 0)))))) (ag (aB (aW T.XT))) bt)
  (ag (aB ak))))))),?_⟩
 try dsimp only[A9]
 cases o with
 |none=>have hv:v= .aO:=hv;subst hv;exact⟨_,U,U,_,U,aJ (q H (aa.refl _))⟩
 |some x=>
  have ok:=aK x U;have fW:c7 A H v x:=hv;have jj:c7 A (Wo (λ_=>False) H) v x:=by rw[mq];exact fW
  obtain⟨fok,flen⟩:=xi ok;obtain⟨p,dx,c,u,lv,rfl,hp,hc,PU,uH⟩:=id fW;have q:∀H',aa H H'->Q (.int (if(bE x).all inBounds=false then-6 else if 120<(cJ x).length then-5 else if paired (cJ x) x.2.2=false then-3 else 0)) H':=q;refine⟨_,U,U,_,U,aA ?_⟩;refine⟨_,U,p,dx,_,U,hp,U,(λ_=>False), .ref p,x,U,jj,ok,Hid.none _,λv1 H1 s1 h1=>?_⟩;rw[mq]at h1;obtain⟨ca,cs,rfl,fc,eT⟩:=h1;have bD:=ck eT;refine⟨ca,U,⟨_,ab.of fc⟩,λD hD=>oU (λ_=>False) j3 j3.mono (bE x) (λF=>some (inBounds F)) hD (Hid.none _) (by lia) (ab.of fc) bD ?_ ?_⟩
  .intro i H2 y F hy hF s2 aH Ky Kn my hn
   obtain⟨F',GV,rF⟩:=fB eT hy;have e:F'=F:=aM (GV.symm.trans hF);subst e;have okF:=fok F' (cN hF);refine⟨U,oZ ⟨_,U,y,F',U,dj.mono _ _ _ _ s2 rF,c_ okF.2 (by decide),λH3 s3=>my _ _ _ U s3 U⟩⟩
  .intro H2 acc s2 cH aH bh
   rw[uY]at bh;have eacc:=AF bh;subst eacc;have bQ:=s1.trans s2;refine⟨D,_,U,ab.of cH,_,U,?_⟩;have eall:((bE x).map inBounds).all id=(bE x).all inBounds:=by rw[ac6];rfl
   rw[eall];cases hb:(bE x).all inBounds with
   |false=>rw[hb]at q;exact aJ (by have:=q H2 bQ;rw[aI U]at this;exact this)
   |true=>
    rw[hb]at q;rw[ay (by simp)]at q;refine aA ?_;have GW:c7 A (Wo (λ_=>False) H2) (.ref p) x:=by rw[mq];exact c7.mono _ _ _ _ bQ fW
    refine⟨_,U,p,dx,_,U,bQ _ _ hp,U,(λ_=>False), .ref p,x,U,GW,ok,Hid.none _,λv3 H3 s3 h3=>?_⟩;rw[mq,GU]at h3;have qw:cT H3 v3 ((cJ x).map gU):=h3;obtain⟨la,lvs,rfl,jk,xj⟩:=h3;have gw:=ck xj;rw[aX]at gw;have gw:lvs.length=(cJ x).length:=gw;have cU:=bQ.trans s3;refine⟨_,U,la,_,U, .inl (ab.of jk),_,_,U,U,_,U,b9 (λh=>?_) (λh=>?_)⟩
    .have aU:120<(cJ x).length:=by have:=dJ h;lia
     rw[aI aU]at q;exact q H3 cU
    .have aU:¬120<(cJ x).length:=λz=>h (bb (by lia))
     rw[ay aU]at q;refine⟨_,U,_,U,_,_,_,_,_,U,cU _ _ hp,T.gN,T.Af,U, .ref la,lv,cJ x,x.2.2,U,qw,cS.mono d6.mono _ _ _ _ cU uH,ok.lt,ok.ll,λH4 s4=>⟨_,U,?_⟩⟩;cases PV:paired (cJ x) x.2.2 with
     |false=>rw[PV]at q;exact aJ (by have:=q H4 (cU.trans s4);rw[aI U]at this;exact this)
     |true=>rw[PV]at q;exact aA (by have:=q H4 (cU.trans s4);rw[ay (by simp)]at this;exact this)
theorem abR:codes ", "=([44,32]:Text).map bI:=by decide+kernel
theorem abS:codes " ; "=([32,59,32]:Text).map bI:=by decide+kernel
def sj(l:List Formula):Prop:=l.length<=20/\ ∀A∈l,multiplicative A=true/\ nm (enc A)/\ nodes A<=200
theorem abT{F:Formula}(h:multiplicative F=true/\ nm (enc F)/\ nodes F<=200):(form F).length<=3400:=by have h1:=J6 h.1;have h2:=yZ h.2.1;rw[bJ]at h2;lia
theorem AG{l:List Nat}{b:Nat}(h:∀x∈l,x<=b):l.sum<=l.length*b:=by
 induction l with
 |nil=>simp
 |cons a r ih=>have:=ih λx hx=>h x (by simp[hx]);have:=h a (by simp);rw[BA,bj,adg];lia
inductive PX(vs:List V)(H:Hp)(Q:VK)(E:XK):Prop
 |mk (v:V) (l:List Formula):vs=[v]->cS dj H v l->sj l->iW H Q ((NN l).map bI)->PX vs H Q E
theorem PY{l:List Formula}(h:sj l):((l.map form).map List.length).sum<=20*3400:=by
 refine c_ (AG (b:=3400) λx hx=>?_) ?_
 .obtain⟨t,ht,rfl⟩:=eu.mp hx
  obtain⟨F,hF,rfl⟩:=eu.mp ht;exact abT (h.2 F hF)
 .rw[aX,aX]
  exact adh _ h.1
theorem PZ(T:Txt K mg A):Gd P w K mg base 4 A.EX A.d_sequent_form ["formulas"] PX:=by
 refine T.Z4.go (N:=["formulas","formula"]) ?_;rintro aC A' outer s H vs Q E hr nd ⟨v,l,rfl,⟨ca,cs,rfl,fc,eT⟩,hb,q⟩;refine⟨_,(ag (aB (aP hr (Gq T) T.F2 (aZ (aP hr (wO T) T.wJ (aj Ka)) (ml U nd (eE (pv 0)) (jF (own:=[("formula",1)]) (by show iT ["formulas","formula"] (d5 (top 73)) _ _=true;decide+kernel)) (λ_ _ _ _ _=>(cx 1 nd)) (λ_ _ _ _ _=>oP) (λ_ _ _ _ _=>(aP hr (aa4 T) T.Yl (aj (pv 1))))))))),?_⟩
 try dsimp only[A9]
 have bD:=ck eT;have hl:=hb.1;refine⟨", ",U,(by decide),λH1 a s1 hn ha=>?_⟩;rw[abR]at ha;refine⟨_,U,ca,U,⟨_,ab.of (s1 _ _ fc)⟩,λD hD=>oU (λ_=>False) bG bG.mono l (λF=>some (form F)) hD (Hid.none _) (by lia) (ab.of (s1 _ _ fc)) bD ?_ ?_⟩
 .intro i H2 y F hy hF s2 aH Ky Kn my zo
  obtain⟨F',GV,rF⟩:=fB eT hy;have e:F'=F:=aM (GV.symm.trans hF);subst e;have okF:=hb.2 F' (cN hF);refine⟨U,oZ ⟨_,U,y,F',U,dj.mono _ _ _ _ (s1.trans s2) rF,c_ okF.2.2 (by decide),okF.2.1,λb H3 s3 P0 hb3=>my _ _ _ U s3 ⟨b,U,?_⟩⟩⟩;rw[cR (aH.not P0)];exact hb3
 .intro H2 acc s2 cH aH bh
  rw[uY]at bh;have bQ:=s1.trans s2;refine⟨.ref a, .ref D,[44,32],l.map form,U,⟨a,U,s2 _ _ ha⟩,⟨D,acc,U,cH,bO (λ_ _ r=>bG.mono _ _ _ _ (bB _ _) r) bh⟩,?_,λz H3 s3 qz hz=>?_⟩
  .have:=PY hb
   rw[aX];show l.length*(2+1)+_<=_;lia
  .rw[<-ym]at hz
   exact q z H3 (bQ.trans s3) (bQ.free qz) hz
theorem P5:∀n:Nat,n<120->codes (Str.ofString (toString (n:Int)))=(M7 n).map bI:=by decide+kernel
theorem qA:∀n:Nat,n<120->(M7 n).length<=3:=by decide+kernel
noncomputable def fD(x:Nat×Nat):Text:=M7 x.1++45::M7 x.2
inductive P6(vs:List V)(H:Hp)(Q:VK)(E:XK):Prop
 |mk (v:V) (l:List (Nat×Nat)):vs=[v]->cS d6 H v l->l.length<=4001->(∀x∈l,x.1<120/\ x.2<120)->iW H Q ((df [32] (l.map fD)).map bI)->P6 vs H Q E
theorem abV(T:Txt K mg A):Gd P w K mg base 2 A.EY A.d_links_form ["links"] P6:=by
 refine T.Z5.go (N:=["links","pair"]) ?_;rintro aC A' outer s H vs Q E hr nd ⟨v,l,rfl,⟨ca,cs,rfl,fc,eT⟩,hl,aU,q⟩;refine⟨_,(ag (aB (aP hr (Gq T) T.F2 (aZ (aS (aj (aW T.wF))) (ml U nd (eE (pv 0)) (jF (own:=[("pair",1)]) (by show iT ["links","pair"] (d5 (top 74)) _ _=true;decide+kernel)) (λ_ _ _ _ _=>(cx 1 nd)) (λ_ _ _ _ _=>oP) (λ_ _ _ _ _=>(b_ gz (b_ gz (aP hr (wO T) T.wJ (aj (oI Kw (by rfl) T.NQ LP (aj (uk (K:=K) U (pv 1) ak))))) (aS (aj (aW T.rT)))) (aP hr (wO T) T.wJ (aj (oI Kw (by rfl) T.NQ LP (aj (uk (K:=K) U (pv 1) ak)))))))))))),?_⟩
 try dsimp only[A9]
 have bD:=ck eT;refine⟨cu,λa ha0=>?_⟩;have s1:=aa.new (o:= .lst [V.int 32]) ha0;refine⟨_,U,ca,U,⟨_,ab.of (s1 _ _ fc)⟩,λD hD=>oU (λ_=>False) bG bG.mono l (λx=>some (fD x)) hD (Hid.none _) (by lia) (ab.of (s1 _ _ fc)) bD ?_ ?_⟩
 .intro i H2 y x hy hx s2 aH Ky Kn my zo
  obtain⟨x',AH,g,rfl,hg⟩:=fB eT hy;have e:x'=x:=aM (AH.symm.trans hx);subst e;have qB:=aU x' (cN hx);have kz:=s2 _ _ (s1 _ _ hg);have d1:=qA x'.1 qB.1;have d2:=qA x'.2 qB.2;have c1:=P5 x'.1 qB.1;have c2:=P5 x'.2 qB.2;have lg:∀n:Nat,n<120->(n:Int).natAbs.log2<1920:=by decide+kernel
  have cz:∀n:Nat,n<120->(Str.ofString (toString (n:Int))).cps.size<=1000:=by decide+kernel
  refine⟨U,oZ ⟨_,U,_,_,_,_,U,U,bx.of kz,bT,_,U,lg _ qB.1,_,U,cz _ qB.1,λH3 b s3 P0 hb=>?_⟩⟩;refine⟨cu,λm hm=>?_⟩;have s4:=aa.new (o:= .lst [V.int 45]) hm;rw[c1]at hb;refine⟨b,m,_,_,U,U,s4 _ _ hb,ae,fC (by simp;lia),λr hr=>?_⟩;have s5:=aa.new (o:= .lst ((M7 x'.1).map bI++[V.int 45])) hr;have P7:=(s3.trans s4).trans s5;refine⟨_,U,_,_,_,_,U,U,bx.of (P7 _ _ kz),fP,_,U,lg _ qB.2,_,U,cz _ qB.2,λH6 f s6 hf0 hf=>?_⟩;rw[c2]at hf;refine⟨r,f,_,_,U,U,s6 _ _ ae,hf,fC (by simp;lia),λz hz=>?_⟩;have s7:=aa.new (o:= .lst (((M7 x'.1).map bI++[V.int 45])++(M7 x'.2).map bI)) hz;have P8:=P7.trans s6;refine my _ _ _ U (P8.trans s7) ⟨z,U,?_⟩;rw[e9 (aH.mono P8) hz];unfold fD;simp[bI]
 .intro H2 acc s2 cH aH bh
  rw[uY]at bh;have bQ:=s1.trans s2;refine⟨.ref a, .ref D,[32],l.map fD,U,⟨a,U,s2 _ _ ae⟩,⟨D,acc,U,cH,bO (λ_ _ r=>bG.mono _ _ _ _ (bB _ _) r) bh⟩,?_,λz H3 s3 qz hz=>?_⟩
  .have h1:((l.map fD).map List.length).sum<=(l.map fD).length*7:=by
    refine c_ (AG (b:=7) λx hx=>?_) (by rw[aX];exact a_ _);obtain⟨t,ht,rfl⟩:=eu.mp hx;obtain⟨y,hy,rfl⟩:=eu.mp ht;have h1:=qA y.1 (aU y hy).1;have h2:=qA y.2 (aU y hy).2;unfold fD;simp;lia
   rw[aX]at h1⊢;show l.length*(1+1)+_<=_;lia
  .exact q z H3 (bQ.trans s3) (bQ.free qz) hz
noncomputable def sk(x:P3):Text:=df [32,59,32] [NN x.1,NN x.2.1,df [32] (x.2.2.map fD)]
inductive P9(A:aF)(vs:List V)(H:Hp)(Q:VK)(E:XK):Prop
 |mk (v:V) (x:P3):vs=[v]->c7 A H v x->sj x.1->sj x.2.1->x.2.2.length<=4001->(∀y∈x.2.2,y.1<120/\ y.2<120)->iW H Q ((sk x).map bI)->P9 A vs H Q E
theorem AI{l:List Formula}(h:sj l):(NN l).length<=100000:=by rw[ym];have h1:=uy [44,32] (l.map form);have h2:=PY h;have h3:=h.1;rw[aX]at h1;have h1:(df [44,32] (l.map form)).length<=l.length*(2+1)+((l.map form).map List.length).sum:=h1;lia
theorem P_{l:List (Nat×Nat)}(hl:l.length<=4001)(h:∀y∈l,y.1<120/\ y.2<120):(df [32] (l.map fD)).length<=100000:=by
 have h1:=uy [32] (l.map fD);have h2:((l.map fD).map List.length).sum<=(l.map fD).length*7:=by refine c_ (AG (b:=7) λx hx=>?_) (by rw[aX];exact a_ _);obtain⟨t,ht,rfl⟩:=eu.mp hx;obtain⟨y,hy,rfl⟩:=eu.mp ht;have h1:=qA y.1 (h y hy).1;have h2:=qA y.2 (h y hy).2;unfold fD;simp;lia
 rw[aX]at h1 h2;have h1:(df [32] (l.map fD)).length<=l.length*(1+1)+((l.map fD).map List.length).sum:=h1;lia
theorem abX(T:Txt K mg A):Gd P w K mg base 5 A.EW A.d_parts_form ["parts"] (P9 A):=by
 refine T.Z3.go (N:=["parts"]) ?_;rintro aC A' outer s H vs Q E hr nd ⟨v,x,rfl,⟨p,dx,c,u,lv,rfl,hp,hc,PU,uH⟩,b1,b2,hl,aU,q⟩;refine⟨_,(ag (aB (aP hr (Gq T) T.F2 (aZ (aP hr (wO T) T.wJ (aj Ka)) (aS (fM (aP hr (PZ T) T.Oa (aj (ao (pv 0)))) (aZ (aP hr (PZ T) T.Oa (aj (ao (pv 0)))) (aP hr (abV T) T.YH (aj (ao (pv 0))))))))))),?_⟩
 try dsimp only[A9]
 refine⟨" ; ",U,(by decide),λH1 a s1 hn ha=>?_⟩;rw[abS]at ha;refine⟨_,U,_,_,_,_,_,U,s1 _ _ hp,T.gN,T.uu,U,c,x.1,U,cS.mono dj.mono _ _ _ _ s1 hc,b1,λd1 H2 s2 _ xa=>?_⟩;have bQ:=s1.trans s2;refine⟨_,U,_,_,_,_,_,U,bQ _ _ hp,T.gN,T.Gg,U,u,x.2.1,U,cS.mono dj.mono _ _ _ _ bQ PU,b2,λd2 H3 s3 _ hd2=>?_⟩;have cU:=bQ.trans s3;refine⟨_,U,_,_,_,_,_,U,cU _ _ hp,T.gN,T.Af,U,lv,x.2.2,U,cS.mono d6.mono _ _ _ _ cU uH,hl,aU,λd3 H4 s4 _ hd3=>⟨wQ,λm hm=>?_⟩⟩;have mH:=cU.trans s4;have s5:=aa.new (o:= .lst [.ref d1, .ref d2, .ref d3]) hm;refine⟨.ref a, .ref m,[32,59,32],[_,_,_],U,⟨a,U,s5 _ _ (s4 _ _ (s3 _ _ (s2 _ _ ha)))⟩,⟨m,_,U,ae, .cons ⟨d1,U,s5 _ _ (s4 _ _ (s3 _ _ xa))⟩ (.cons ⟨d2,U,s5 _ _ (s4 _ _ hd2)⟩ (.cons ⟨d3,U,s5 _ _ hd3⟩ .nil))⟩,?_,λz H6 s6 qz hz=>q z H6 ((mH.trans s5).trans s6) ((mH.trans s5).free qz) hz⟩;have h1:=AI b1;have h2:=AI b2;have h3:=P_ hl aU;simp only[ez,qN,BA,List.sum_nil,bj,lF];lia
structure eK where
 p:Addr
 dx:Addr
 l0:Addr
 l1:Addr
 l2:Addr
 l3:Addr
 l4:Addr
 l5:Addr
 l6:Addr
 l7:Addr
 l8:Addr
noncomputable def eK.L(a:eK):List Addr:=[a.l0,a.l1,a.l2,a.l3,a.l4,a.l5,a.l6,a.l7,a.l8]
noncomputable def Qa(a:eK)(jc cc:Int):List (Str×V):=[("nodes", .ref a.l0),("owners", .ref a.l1),("below", .ref a.l2),("sides", .ref a.l3),("seconds", .ref a.l4),("switches", .ref a.l5),("partners", .ref a.l6),("turns", .ref a.l7),("junction_count", .int jc),("conclusion_count", .int cc),("roots", .ref a.l8)]
structure dE(A:aF)(H:Hp)(a:eK)(cs:List (List V))(jc cc:Int):Prop where
 obj:H a.p=some (.ins A.bM a.dx (Qa a jc cc))
 at_:∀(i:Nat) (x:Addr),a.L[i]? =some x->∃xs,cs[i]? =some xs/\ H x=some (.lst xs)
 nd:a.L.Nodup
theorem dE.get{A:aF}{H:Hp}{a:eK}{cs:List (List V)}{jc cc:Int}(h:dE A H a cs jc cc)(i:Nat){x:Addr}{xs:List V}(hx:a.L[i]? =some x)(hc:cs[i]? =some xs):H x=some (.lst xs):=by obtain⟨ys,h1,h2⟩:=h.at_ i x hx;have e:xs=ys:=aM (hc.symm.trans h1);rw[e];exact h2
theorem dE.np{A:aF}{H:Hp}{a:eK}{cs:List (List V)}{jc cc:Int}(h:dE A H a cs jc cc){x:Addr}(hx:x∈a.L):x≠a.p:=by obtain⟨i,hi⟩:=kK.mp hx;obtain⟨ys,_,h2⟩:=h.at_ i x hi;exact ig h2 h.obj (by intro z;cases z)
theorem dE.mono{A:aF}{H H':Hp}{a:eK}{cs:List (List V)}{jc cc:Int}(h:dE A H a cs jc cc)(s:aa H H'):dE A H' a cs jc cc:=⟨s _ _ h.obj,λi x hx=>by obtain⟨ys,h1,h2⟩:=h.at_ i x hx;exact⟨ys,h1,s _ _ h2⟩,h.nd⟩
theorem dE.set{A:aF}{H:Hp}{a:eK}{cs:List (List V)}{jc cc:Int}(h:dE A H a cs jc cc)(i:Nat){x:Addr}(xs:List V)(hx:a.L[i]? =some x)(hi:i<cs.length):dE A (upd H x (.lst xs)) a (cs.set i xs) jc cc:=by
 refine⟨?_,λj y hy=>?_,h.nd⟩
 .rw[aD (Ne.symm (h.np (cN hx)))];exact h.obj
 .by_cases iH:i=j
  .subst iH
   have e:x=y:=aM (hx.symm.trans hy);subst e;exact⟨xs,by rw[oh hi],ae⟩
  .obtain⟨ys,h1,h2⟩:=h.at_ j y hy
   refine⟨ys,by rw[n0 iH];exact h1,?_⟩;rw[aD]
   .exact h2
   .intro e
    subst e;exact iH (WV h.nd hx hy)
theorem dE.jcs{A:aF}{H:Hp}{a:eK}{cs:List (List V)}{jc cc:Int}(h:dE A H a cs jc cc)(Qb:Int):dE A (upd H a.p (.ins A.bM a.dx (Qa a Qb cc))) a cs Qb cc:=by refine⟨ae,λj y hy=>?_,h.nd⟩;obtain⟨ys,h1,h2⟩:=h.at_ j y hy;exact⟨ys,h1,by rw[aD (h.np (cN hy))];exact h2⟩
def bU(a:eK)(H H':Hp):Prop:=∀b o,H b=some o->b≠a.p->b∉a.L->H' b=some o
def dZ(P:Addr->Prop)(a:eK):Addr->Prop:=λb=>P b\/b=a.p\/b∈a.L
section
variable{a:eK}{H H1 H2:Hp}{P:Addr->Prop}
theorem bU.refl:bU a H H:=λ_ _ e _ _=>e
theorem bU.trans(x:bU a H H1)(y:bU a H1 H2):bU a H H2:=λb o e h1 h2=>y b o (x b o e h1 h2) h1 h2
theorem bU.same(x:bU a H H1)(y:aa H1 H2):bU a H H2:=λb o e h1 h2=>y b o (x b o e h1 h2)
theorem bU.of(y:aa H H1):bU a H H1:=λb o e h1 h2=>y b o e
theorem bU.ul{o:HO}{x:Addr}(h:bU a H H1)(i:Nat)(hx:a.L[i]? =some x):bU a H (upd H1 x o):=λb q e h1 h2=>by rw[aD λc=>h2 (by rw[c];exact cN hx)];exact h b q e h1 h2
theorem bU.up{o:HO}(h:bU a H H1):bU a H (upd H1 a.p o):=λb q e h1 h2=>by rw[aD h1];exact h b q e h1 h2
theorem bU.wo(h:bU a H H1):aa (Wo (dZ P a) H) (Wo (dZ P a) H1):=qe λb o e hb=>h b o e (λc=>hb (.inr (.inl c))) (λc=>hb (.inr (.inr c)))
end
theorem dE.aH{A:aF}{H:Hp}{a:eK}{cs:List (List V)}{jc cc:Int}{P:Addr->Prop}(h:dE A H a cs jc cc)(hP:Hid P H):Hid (dZ P a) H:=λb hb e=>by
 rcases hb with hb|rfl|hb
 .exact hP b hb e
 .rw[h.obj]at e;cases e
 .obtain⟨i,hi⟩:=kK.mp hb
  obtain⟨ys,_,h2⟩:=h.at_ i b hi;rw[h2]at e;cases e
theorem bU.aH{A:aF}{H H':Hp}{a:eK}{cs:List (List V)}{jc cc:Int}{P:Addr->Prop}(k:bU a H H')(hP:Hid P H)(h:dE A H' a cs jc cc):Hid P H':=λb hb e=>by
 by_cases h1:b=a.p
 .subst h1;rw[h.obj]at e;cases e
 .by_cases h2:b∈a.L
  .obtain⟨i,hi⟩:=kK.mp h2
   obtain⟨ys,_,h3⟩:=h.at_ i b hi;rw[h3]at e;cases e
  .cases q:H b with
   |none=>exact hP b hb q
   |some o=>rw[k b o q h1 h2]at e;cases e
inductive Qc(A:aF)(vs:List V)(H:Hp)(Q:VK)(E:XK):Prop
 |mk (a:eK) (nv:V) (x:Node) (b sd:Int) (nn ow be si se sw pa tu ro:List V) (jc cc:Int):vs=[.ref a.p,nv, .int b, .int sd]->dE A H a [nn,ow,be,si,se,sw,pa,tu,ro] jc cc->((∃m u,nv= .ref m/\ H m=some (.tup [.int (x.1:Int),u])/\ m≠a.p/\ m∉a.L))->x.1<4->(nn.length<=50000/\ be.length<=50000/\ si.length<=50000/\ se.length<=50000/\ sw.length<=50000/\ pa.length<=50000/\ tu.length<=50000)->(∀H',bU a H H'->dE A H' a [nn++[nv],ow,be++[.int b],si++[.int sd],se++[.int (-1)],sw++[.int (if bR x=true then jc else-1)],pa++[.int (-1)],tu++[.int (-1)],ro] (if bR x=true then jc+1 else jc) cc->Q .aO H')->Qc A vs H Q E
theorem ab0(T:Txt K mg A):Gd P w K mg base 2 A.E' A.d_Points_add_point ["self","node","junction","side"] (Qc A):=by
 refine T.aaa.go (N:=["self","node","junction","side"]) ?_;rintro aC A' outer s H vs Q E hr nd ⟨a,nv,x,b,sd,nn,ow,be,si,se,sw,pa,tu,ro,jc,cc,rfl,S0,⟨m,u,rfl,hm,m1,m2⟩,hx4,⟨b1,b2,b3,b4,b5,b6,b7⟩,q⟩;refine⟨_,(af (bF (dD (ao (pv 0)) (pv 1)))
  (af (bF (dD (ao (pv 0)) (pv 2)))
  (af (bF (dD (ao (pv 0)) (pv 3)))
  (af (bF (dD (ao (pv 0)) (il ip ak)))
  (af (bF (dD (ao (pv 0)) (il ip ak)))
  (af (bF (dD (ao (pv 0)) (il ip ak)))
  (ag (a9 (dC (aP hr (mx T) T.mr (aj (pv 1)))) (af (bF (dD (ao (pv 0)) (ao (pv 0))))
  (ag (De (pv 0) ak Df))) (ag (bF (dD (ao (pv 0)) (il ip ak)))))))))))),?_⟩
 try dsimp only[A9]
 refine⟨_,U,_,_,_,_,_,U,S0.obj,T.aE,T.kj,U, .inl ⟨U,_,ab.of (S0.get 0 U U)⟩,_,U,a.l0,_,_,U,U,S0.get 0 U U,dk (by lia),?_⟩;have S1:=S0.set 0 (x:=a.l0) (nn++[.ref m]) U (by simp);have k1:bU a H _:=bU.refl.ul (o:= .lst (nn++[.ref m])) (x:=a.l0) 0 U;generalize upd H a.l0 (.lst (nn++[.ref m]))=H1 at S1 k1⊢;refine⟨_,U,_,_,_,_,_,U,S1.obj,T.aE,T.qm,U, .inl ⟨U,_,ab.of (S1.get 2 U U)⟩,_,U,a.l2,_,_,U,U,S1.get 2 U U,dk (by lia),?_⟩;have S2:=S1.set 2 (x:=a.l2) (be++[.int b]) U (by simp);have k2:bU a H _:=k1.ul (o:= .lst (be++[.int b])) (x:=a.l2) 2 U;generalize upd H1 a.l2 (.lst (be++[.int b]))=H2 at S2 k2⊢;refine⟨_,U,_,_,_,_,_,U,S2.obj,T.aE,T.wL,U, .inl ⟨U,_,ab.of (S2.get 3 U U)⟩,_,U,a.l3,_,_,U,U,S2.get 3 U U,dk (by lia),?_⟩;have S3:=S2.set 3 (x:=a.l3) (si++[.int sd]) U (by simp);have k3:bU a H _:=k2.ul (o:= .lst (si++[.int sd])) (x:=a.l3) 3 U;generalize upd H2 a.l3 (.lst (si++[.int sd]))=H3 at S3 k3⊢;refine⟨_,U,_,_,_,_,_,U,S3.obj,T.aE,T.Ag,U, .inl ⟨U,_,ab.of (S3.get 4 U U)⟩,_,U,a.l4,_,_,U,U,S3.get 4 U U,dk (by lia),?_⟩;have S4:=S3.set 4 (x:=a.l4) (se++[.int (-1)]) U (by simp);have k4:bU a H _:=k3.ul (o:= .lst (se++[.int (-1)])) (x:=a.l4) 4 U;generalize upd H3 a.l4 (.lst (se++[.int (-1)]))=H4 at S4 k4⊢;refine⟨_,U,_,_,_,_,_,U,S4.obj,T.aE,T.oV,U, .inl ⟨U,_,ab.of (S4.get 6 U U)⟩,_,U,a.l6,_,_,U,U,S4.get 6 U U,dk (by lia),?_⟩;have S5:=S4.set 6 (x:=a.l6) (pa++[.int (-1)]) U (by simp);have k5:bU a H _:=k4.ul (o:= .lst (pa++[.int (-1)])) (x:=a.l6) 6 U;generalize upd H4 a.l6 (.lst (pa++[.int (-1)]))=H5 at S5 k5⊢;refine⟨_,U,_,_,_,_,_,U,S5.obj,T.aE,T.oW,U, .inl ⟨U,_,ab.of (S5.get 7 U U)⟩,_,U,a.l7,_,_,U,U,S5.get 7 U U,dk (by lia),?_⟩;have S6:=S5.set 7 (x:=a.l7) (tu++[.int (-1)]) U (by simp);have k6:bU a H _:=k5.ul (o:= .lst (tu++[.int (-1)])) (x:=a.l7) 7 U;generalize upd H5 a.l7 (.lst (tu++[.int (-1)]))=H6 at S6 k6⊢;refine⟨_,U,m,x.1,_,U,k6 _ _ hm m1 m2,_,U,?_⟩;rw[nH hx4];cases hj:bR x with
 |true=>rw[hj]at q;refine aJ ⟨_,U,_,_,_,_,_,U,S6.obj,T.aE,T.wM,U, .inl ⟨U,_,ab.of (S6.get 5 U U)⟩,_,U,_,_,_,_,_,U,S6.obj,T.aE,T.qo,U,a.l5,_,_,U,U,S6.get 5 U U,dk (by lia),?_⟩;have S7:=S6.set 5 (x:=a.l5) (sw++[.int jc]) U (by simp);have k7:bU a H _:=k6.ul (o:= .lst (sw++[.int jc])) (x:=a.l5) 5 U;generalize upd H6 a.l5 (.lst (sw++[.int jc]))=H7 at S7 k7⊢;exact⟨_,U,_,_,_,_,_,U,S7.obj,T.aE,T.qo,U,_,_,U,U,_,_,S7.obj,(by show 11<1000;decide),q _ k7.up (S7.jcs (jc+1))⟩
 |false=>rw[hj]at q;refine aA ⟨_,U,_,_,_,_,_,U,S6.obj,T.aE,T.wM,U, .inl ⟨U,_,ab.of (S6.get 5 U U)⟩,_,U,a.l5,_,_,U,U,S6.get 5 U U,dk (by lia),?_⟩;exact q _ (k6.ul (x:=a.l5) 5 U) (S6.set 5 (x:=a.l5) (sw++[.int (-1)]) U (by simp))
noncomputable def nI(n:Nat):V:= .int (n:Int)
def so(H:Hp)(v:V)(n:Nat):Prop:=v=nI n
theorem so.mono:eP so:=λ_ _ _ _ _ h=>h
theorem GX{H:Hp}:∀{vs:List V} {ns:List Nat},Paired (so H) vs ns->vs=ns.map nI
 |_,_, .nil=>rfl
 |_,_, .cons r t=>by rw[ez,<-GX t];rw[show _=_ from r]
theorem GY{α:Type}(Pr:α->Bool):∀(l:List α) (k:Nat) (m:List α),m.drop k=l->(List.range' k l.length).filterMap (λi=>m[i]?.bind λx=>if Pr x=true then some i else none)=idx Pr l k
 |[],_,_,_=>rfl
 |a::r,k,m,h=>by
  have h0:m[k]? =some a:=by
   have e:(m.drop k)[0]? =some a:=by rw[h];rfl
   rw[oa]at e;exact e
  have h1:m.drop (k+1)=r:=by rw[<-sW,h];rfl
  rw[bj,sQ,jr,h0,GY Pr r (k+1) m h1];show _=if Pr a=true then k::idx Pr r (k+1)else idx Pr r (k+1);simp only[dQ];by_cases hp:Pr a=true
  .rw[aI hp,aI hp]
  .rw[ay hp,ay hp]
inductive AJ(A:aF)(H:Hp)(p:Addr)(ns:List Node):Prop
 |mk (dx:Addr) (fs:List (Str×V)) (l:Addr) (vs:List V):H p=some (.ins A.bM dx fs)->fs.lookup ("nodes":Str)=some (.ref l)->H l=some (.lst vs)->Paired (bZ H) vs ns->AJ A H p ns
inductive Qe(A:aF)(vs:List V)(H:Hp)(Q:VK)(E:XK):Prop
 |mk (p:Addr) (ns:List Node):vs=[.ref p]->AJ A H p ns->(∀x∈ns,x.1<4)->ns.length<=100000->(iW H Q ((idx (λx=> !bR x) ns 0).map nI))->Qe A vs H Q E
theorem GZ(T:Txt K mg A):Gd P w K mg base 2 A.Fd A.d_Points_leaf_points ["self"] (Qe A):=by
 refine T.aad.go (N:=["self","point","node"]) ?_;rintro aC A' outer s H vs Q E hr nd ⟨p,ns,rfl,⟨dx,fs,l,vs,hp,hf,hl,xm⟩,hk,hlen,q⟩;refine⟨_,(ag (aB (ml U nd (zI (by rfl) T.z8 (aj (ao (pv 0)))) (jF (own:=[("point",1),("node",2)]) (by show iT ["self","point","node"] (d5 (inClass (top 81) 5)) _ _=true;decide+kernel)) (λ_ _ _ _ _=>(zV (K:=K) (n:=2) U U (kZ (cx 1 nd) (kZ (cx 2 nd) tW)))) (λ_ _ _ _ _=>(wj (ij (dC (aP hr (mx T) T.mr (aj (pv 2))))))) (λ_ _ _ _ _=>(pv 1))))),?_⟩
 try dsimp only[A9]
 have gk:=ck xm;refine⟨_,U,_,_,_,_,_,U,hp,T.aE,T.kj,hf,l,vs,U,ab.of hl,λD hD=>LV (λ_=>False) so so.mono ns (λk x=>if(!bR x)=true then some k else none) hD (Hid.none _) (by lia) (ab.of hl) gk (λu v=>rfl) ?_ ?_⟩
 .intro k H1 x y hx hy s1 aH Ky Kn h1 h2
  obtain⟨y',k9,n,u',rfl,hn,_⟩:=fB xm hx;have e:y'=y:=aM (k9.symm.trans hy);subst e;have gO:=hk y' (cN hy);refine⟨_,U,n,y'.1,_,U,s1 _ _ hn,_,U,?_⟩;rw[nH gO];cases hj:bR y' with
  |true=>exact aA (h2 _ (by rw[hj];rfl) (aa.refl _))
  |false=>exact aJ ⟨_,U,h1 k _ _ (by rw[hj];rfl) (aa.refl _) U⟩
 .intro H1 acc s1 cH aH bh
  have e:(List.range ns.length).filterMap (λk=>ns[k]?.bind λx=>if(!bR x)=true then some k else none)=idx (λx=> !bR x) ns 0:=by rw[pF];exact GY _ ns 0 ns U
  rw[e]at bh;rw[GX bh]at cH;exact q D H1 s1 hD cH
inductive Qg(A:aF)(vs:List V)(H:Hp)(Q:VK)(E:XK):Prop
 |mk (p:Addr) (ns:List Node) (kd:Nat):vs=[.ref p,nI kd]->AJ A H p ns->ns.length<=100000->(iW H Q ((idx (λx=>x.1==kd) ns 0).map nI))->Qg A vs H Q E
theorem Qh(T:Txt K mg A):Gd P w K mg base 1 A.Fe A.d_Points_junction_points ["self","kind"] (Qg A):=by
 refine T.aae.go (N:=["self","kind","point","node"]) ?_;rintro aC A' outer s H vs Q E hr nd ⟨p,ns,kd,rfl,⟨dx,fs,l,vs,hp,hf,hl,xm⟩,hlen,q⟩;refine⟨_,(ag (aB (ml U nd (zI (by rfl) T.z8 (aj (ao (pv 0)))) (jF (own:=[("point",2),("node",3)]) (by show iT ["self","kind","point","node"] (d5 (inClass (top 81) 6)) _ _=true;decide+kernel)) (λ_ _ _ _ _=>(zV (K:=K) (n:=2) U U (kZ (cx 2 nd) (kZ (cx 3 nd) tW)))) (λ_ _ _ _ _=>(wj (aR cj (uk (K:=K) U (pv 3) ak) (pv 1)))) (λ_ _ _ _ _=>(pv 2))))),?_⟩
 try dsimp only[A9]
 have gk:=ck xm;refine⟨_,U,_,_,_,_,_,U,hp,T.aE,T.kj,hf,l,vs,U,ab.of hl,λD hD=>LV (λ_=>False) so so.mono ns (λk x=>if(x.1==kd)=true then some k else none) hD (Hid.none _) (by lia) (ab.of hl) gk (λu v=>rfl) ?_ ?_⟩
 .intro k H1 x y hx hy s1 aH Ky Kn h1 h2
  obtain⟨y',k9,n,u',rfl,hn,_⟩:=fB xm hx;have e:y'=y:=aM (k9.symm.trans hy);subst e;refine⟨_,U,_,_,_,_,U,U,bx.of (s1 _ _ hn),bT,_,U,U,_,U,?_⟩;show if decide (V.int (y'.1:Int)=V.int (kd:Int))=true then _ else _;rw[jH];refine b9 (λh=>?_) (λh=>?_)
  .have e2:=dJ h
   exact⟨_,U,h1 k _ _ (by rw[aI (beq_iff_eq.mpr e2)]) (aa.refl _) U⟩
  .have e2:¬y'.1=kd:=λc=>h (bb c)
   exact h2 _ (by rw[ay (by simpa using e2)]) (aa.refl _)
 .intro H1 acc s1 cH aH bh
  have e:(List.range ns.length).filterMap (λk=>ns[k]?.bind λx=>if(x.1==kd)=true then some k else none)=idx (λx=>x.1==kd) ns 0:=by rw[pF];exact GY _ ns 0 ns U
  rw[e]at bh;rw[GX bh]at cH;exact q D H1 s1 hD cH
noncomputable def fE(vs:List V)(S:PA)(ow ro:List Nat):List (List V):=[vs,ow.map nI,S.below.map V.int,S.sides.map V.int,S.seconds.map V.int,S.switches.map V.int,S.partners.map V.int,S.turns.map V.int,ro.map nI]
inductive sq(A:aF)(P:Addr->Prop)(H:Hp)(a:eK)(S:PA)(ow ro:List Nat)(cc:Int):Prop
 |mk (vs:List V):dE A H a (fE vs S ow ro) (S.jc:Int) cc->Paired (bZ (Wo (dZ P a) H)) vs S.nodes->sq A P H a S ow ro cc
structure fX(S:PA):Prop where
 b:S.below.length=S.nodes.length
 s:S.sides.length=S.nodes.length
 e:S.seconds.length=S.nodes.length
 w:S.switches.length=S.nodes.length
 p:S.partners.length=S.nodes.length
 t:S.turns.length=S.nodes.length
theorem fX.add{S:PA}(h:fX S)(x:Node)(b sd:Int):fX (dz S x b sd):=by constructor<;>simp[dz,h.b,h.s,h.e,h.w,h.p,h.t]
theorem fX.fix{S:PA}(h:fX S)(b sd:Int)(p:Nat):fX (d4 S b sd p):=by
 unfold d4;split
 .exact⟨h.b,h.s,by simp[h.e],h.w,h.p,h.t⟩
 .exact h
def ab2(S:PA)(aw:List (Int×Int)):Prop:=∀e∈aw,e.2=1->∃n:Nat,e.1=(n:Int)/\ n<S.nodes.length
theorem Qi(S:PA):∀l:List Node,l.foldl hU (S,[])=(S,[])
 |[]=>rfl
 |x::r=>by show r.foldl hU (S,[])=_;exact Qi S r
theorem AK(S:PA)(b sd:Int)(p:Nat):(d4 S b sd p).nodes=S.nodes:=by unfold d4;split<;>rfl
theorem Qj:∀(l:List Node) (z:PA×List (Int×Int)),(l.foldl hU z).1.nodes.length<=z.1.nodes.length+l.length
 |[],z=>a_ _
 |x::r,z=>by
  rw[sR];refine c_ (Qj r _) ?_;have:(hU z x).1.nodes.length<=z.1.nodes.length+1:=by
   unfold hU;split
   .rw[AK];simp[dz]
   .lia
  rw[bj];lia
theorem AL:∀(F:Formula),multiplicative F=true->∀(S:PA) (b sd:Int),(gr S b sd F).nodes.length=S.nodes.length+nodes F
 | .atom n a,_,S,b,sd=>by show(d4 _ _ _ _).nodes.length=_;rw[AK];simp[dz,Vaneta.nodes]
 | .tensor F G,h,S,b,sd| .par F G,h,S,b,sd=>by simp only[multiplicative,bC]at h;show(gr (gr _ _ _ F) _ _ G).nodes.length=_;rw[AL G h.2,AL F h.1,AK];simp[dz,Vaneta.nodes];lia
 | .wth A B,h,_,_,_| .plus A B,h,_,_,_| .ofc A,h,_,_,_| .whn A,h,_,_,_=>by simp[multiplicative]at h
theorem ab3{F:Formula}(hF:multiplicative F=true)(S:PA){i:Nat}(hi:i<(enc F).length):(((enc F).take i).foldl hU (S,[(-1,-1)])).2≠ []:=by
 intro h;have h1:=tJ F hF S (-1) (-1) [];have h2:(enc F).foldl hU (S,[(-1,-1)])=((enc F).drop i).foldl hU (((enc F).take i).foldl hU (S,[(-1,-1)])):=by rw[<-u6,u5]
 generalize hz:((enc F).take i).foldl hU (S,[(-1,-1)])=z at h h2;obtain⟨S',aw⟩:=z;have h:aw=[]:=h;subst h;rw[Qi,h1]at h2;have e:gr S (-1) (-1) F=S':=congrArg Prod.fst h2;have l1:=AL F hF S (-1) (-1);have l2:=Qj ((enc F).take i) (S,[(-1,-1)]);rw[hz,n9]at l2;have l2:S'.nodes.length<=S.nodes.length+min i (enc F).length:=l2;rw[<-e,l1]at l2;rw[bJ]at l2 hi;lia
inductive sr(H:Hp)(v:V)(x:Int×Int):Prop
 |mk (m:Addr):v= .ref m->H m=some (.tup [.int x.1, .int x.2])->sr H v x
theorem sr.mono:eP sr:=λ_ _ _ _ s ⟨m,e,h⟩=>⟨m,e,s _ _ h⟩
theorem dE.out{A:aF}{H:Hp}{a:eK}{cs:List (List V)}{jc cc:Int}{x:Addr}{o:HO}(h:dE A H a cs jc cc)(h1:x≠a.p)(h2:x∉a.L):dE A (upd H x o) a cs jc cc:=
 ⟨by rw[aD (Ne.symm h1)];exact h.obj,λi y hy=>by obtain⟨ys,e1,e2⟩:=h.at_ i y hy;exact⟨ys,e1,by rw[aD λc=>h2 (by rw[<-c];exact cN hy)];exact e2⟩,h.nd⟩
theorem uL{n j:Nat}(h:j<n):mf n (j:Int)=some j:=by unfold mf;rw[aI (by lia),aI (by lia)];simp
theorem Qk(S:PA)(x:Node)(b sd:Int)(g:V)(vs:List V)(ow ro:List Nat)(o p:Nat):fE (vs++[g]) (d4 (dz S x b sd) b sd p) (ow++[o]) ro=
  [vs++[g],ow.map nI++[nI o],S.below.map V.int++[.int b],S.sides.map V.int++[.int sd],(if sd=1 then(S.seconds.map V.int++[V.int (-1)]).set b.toNat (nI p)else S.seconds.map V.int++[.int (-1)]),S.switches.map V.int++[.int (if bR x=true then(S.jc:Int)else-1)],S.partners.map V.int++[.int (-1)],S.turns.map V.int++[.int (-1)],ro.map nI]:=by
 unfold fE d4;by_cases h:sd=1
 .rw[aI h,aI h]
  simp only[dz,iD,ez,qN,BD];rfl
 .rw[ay h,ay h]
  simp only[dz,iD,ez,qN]
theorem Ql(S:PA)(x:Node)(b sd:Int)(p:Nat):((d4 (dz S x b sd) b sd p).jc:Int)=if bR x=true then(S.jc:Int)+1 else S.jc:=by
 have e:(d4 (dz S x b sd) b sd p).jc=if bR x=true then S.jc+1 else S.jc:=by unfold d4;split<;>rfl
 rw[e];split<;>simp
inductive Qm(A:aF)(vs:List V)(H:Hp)(Q:VK)(E:XK):Prop
 |mk (P:Addr->Prop) (a:eK) (fv:V) (F:Formula) (S:PA) (ow ro:List Nat) (cc:Int):vs=[.ref a.p,fv]->sq A P H a S ow ro cc->Hid P H->dj (Wo (dZ P a) H) fv F->fX S->S.nodes.length+nodes F<=40000->ro.length<=1000->ow.length=S.nodes.length->(∀H',bU a H H'->sq A P H' a (fR S F) (ow++List.replicate (nodes F) ro.length) (ro++[S.nodes.length]) cc->Q .aO H')->Qm A vs H Q E
theorem ab4(T:Txt K mg A):Gd P w K mg base 3 A.E_ A.d_Points_lay ["self","formula"] (Qm A):=by
 refine T.Z'.go (N:=["self","formula","root","owner","awaited","node","point","spot"]) ?_;rintro aC A' outer s H vs Q E hr nd ⟨P,a,fv,F,S,ow,ro,cc,rfl,⟨w8,S0,p0⟩,hP,⟨hF,fa,fvs,rfl,fF,su⟩,hL,hlen,mJ,how,q⟩;refine⟨_,(af (aN 2 nd (dw T.c6 (ao (pv 0))))
  (af (aN 3 nd (dw T.c6 (ao (pv 0))))
  (af (aN 4 nd (aS (aj (gh (aZ (il ip ak) (il ip ak))))))
  (af (eZ PassesOwn.never U (eE (pv 1)) (cx 5 nd) (af (aN 6 nd (dw T.c6 (ao (pv 0))))
  (af (aN 7 nd (oM MM Ng Nh oN (pv 4)))
  (af (bF (bN hr (ab0 T) T.aE T.YL (pv 0) (fM (pv 5) (aZ (cW (pv 7) ak) (cW (pv 7) ak)))))
  (af (bF (dD (ao (pv 0)) (pv 3)))
  (af (a9 (aR cj (cW (pv 7) ak) ak) (ag (tZ (pv 6) (tY (ao (pv 0)) (cW (pv 7) ak) set_list))) bt)
  (ag (a9 (dC (aP hr (mx T) T.mr (aj (pv 5)))) (af (bF (dD (pv 4) (gh (aZ (pv 6) ak))))
  (ag (bF (dD (pv 4) (gh (aZ (pv 6) ak)))))) bt))))))))
  (af (tZ (pv 2) (tY (ao (pv 0)) (pv 2) set_list))
  (ag (bF (dD (ao (pv 0)) (pv 2))))))))),?_⟩
 try dsimp only[A9]
 have e0:=ck p0;have efv:=ck su;have enl:=bJ F;refine⟨_,U,_,_,_,_,_,U,S0.obj,T.aE,T.kj,U,a.l0,_,U, .inl (ab.of (S0.get 0 U U)),?_⟩;refine⟨_,U,_,_,_,_,_,U,S0.obj,T.aE,T.oX,U,a.l8,_,U, .inl (ab.of (S0.get 8 U U)),?_⟩;rw[e0,aX];refine⟨_,U,_,U,gm,λt0 sv=>⟨cu,λl hl=>?_⟩⟩;have s1:aa H (upd (upd H t0 (.tup [.int (-1), .int (-1)])) l (.lst [.ref t0])):=(aa.new sv).trans (aa.new hl);have dY:H l=none:=(aa.new sv).free hl;have nt:t0≠l:=λc=>by subst c;rw[ae]at hl;cases hl
 have nlp:l≠a.p:=λc=>by rw[c,S0.obj]at dY;cases dY
 have nlL:l∉a.L:=λc=>by obtain⟨i,hi⟩:=kK.mp c;obtain⟨ys,_,h2⟩:=S0.at_ i l hi;rw[h2]at dY;cases dY
 have G0:=S0.aH hP;have hO:Hid (aL (dZ P a) l) (upd (upd H t0 (.tup [.int (-1), .int (-1)])) l (.lst [.ref t0])):=(G0.mono s1).lq ae;have d7:Hid (dZ P a) H:=G0;refine⟨_,U,fa,U,⟨_,ab.of (s1 _ _ (bB _ _ _ _ fF))⟩,gL (xs:=fvs) (λi σ' H'=>E6 λ(S':PA) (aw:List (Int×Int)) (ws:List V) (u v w:Option V)=>D2 (σ'=[some (.ref a.p),some (.ref fa),some (nI S.nodes.length),some (nI ro.length),some (.ref l),u,v,w]) (bU a H H') (((enc F).take i).foldl hU (S,[(-1,-1)])=(S',aw)) ((∃iA,dE A H' a (fE iA S' (ow++List.replicate i ro.length) ro) (S'.jc:Int) cc/\ Paired (bZ (Wo (aL (dZ P a) l) H')) iA S'.nodes)) (Hid P H') (H' l=some (.lst ws)) (Paired (sr (Wo (aL (dZ P a) l) H')) ws aw.reverse) (fX S') (ab2 S' aw) (S'.nodes.length=S.nodes.length+i) (aw.length<=i+1))
  ⟨S,[(-1,-1)],_,none,none,none,U,bU.of s1,U,⟨w8,by rw[List.replicate_zero,i5];exact S0.mono s1,bO (λ_ _ r=>bZ.mono _ _ _ _ (qg dY s1) r) p0⟩,hP.mono s1,ae,qd ⟨t0,U,?_⟩,hL,λe he h1=>by simp at he;rw[he]at h1;simp at h1,U,a_ _⟩ (λi σ' H' _ ⟨_,_,_,_,_,_,_,k,_,_,_,_,_,_,_,_,_⟩=>ab.of (bB _ _ _ _ (k.wo (P:=P) _ _ fF))) ?_ ?_⟩
 .rw[cR,aD nt,ae]
  rintro(c|c)
  .exact G0.not sv c
  .exact nt c
 .rintro i x σ' H' hx ⟨S',aw,ws,u,v,w,rfl,k,hfold,⟨iA,S1,p1⟩,uM,wX,AM,nP,AN,rA,eg⟩
  obtain⟨nd',gb,rnd⟩:=fB su hx;have hi:=dm gb;have gO:=jt F hF nd' (cN gb);have b8:=ab3 hF S hi;rw[hfold]at b8;have el:=ck p1;obtain⟨⟨b,sd⟩,aw,rfl⟩:=List.exists_cons_of_ne_nil b8;rw[rY]at AM;obtain⟨ws,wv,rfl,Qn,m,rfl,hm⟩:=ui AM;clear AM;have ke:=ck Qn;rw[uZ]at ke;simp only[bj]at eg;obtain⟨hmO,vi⟩:=iU hm;have nml:m≠l:=λc=>hmO (.inr c);have nmp:m≠a.p:=λc=>hmO (.inl (.inr (.inl c)));have nmL:m∉a.L:=λc=>hmO (.inl (.inr (.inr c)));have rnd':=bZ.mono _ _ _ _ k.wo rnd;obtain⟨g,u',rfl,AO,ab5⟩:=rnd;obtain⟨hgM,hgH⟩:=iU AO;have ngp:g≠a.p:=λc=>hgM (.inr (.inl c));have ngL:g∉a.L:=λc=>hgM (.inr (.inr c));have ngl:g≠l:=bS hgH dY;have G1:=k _ _ hgH ngp ngL;refine⟨_,U,_,_,_,_,_,U,S1.obj,T.aE,T.kj,U,a.l0,_,U, .inl (ab.of (S1.get 0 U U)),?_⟩;rw[el];refine⟨_,U, .inl ⟨U,_,ab.of wX⟩,l,_,_,U,U,wX,o7 _ _,?_⟩;rw[pD];have S1q:dE A (upd H' l (.lst ws)) a _ _ _:=S1.out nlp nlL;have kq:bU a H (upd H' l (.lst ws)):=λb o e h1 h2=>by rw[aD (bS e dY)];exact k b o e h1 h2
  have xn:upd H' l (.lst ws) m=some (.tup [.int b, .int sd]):=by rw[aD nml];exact vi
  have xo:upd H' l (.lst ws) g=some (.tup [.int (nd'.1:Int),u']):=by rw[aD ngl];exact G1
  have AQ:upd H' l (.lst ws) l=some (.lst ws):=ae;have eWq:Wo (aL (dZ P a) l) (upd H' l (.lst ws))=Wo (aL (dZ P a) l) H':=dP (.inr U);have wsq:Paired (sr (Wo (aL (dZ P a) l) (upd H' l (.lst ws)))) ws aw.reverse:=by rw[eWq];exact Qn
  have hPq:Hid P (upd H' l (.lst ws)):=uM.upd;have pq:Paired (bZ (Wo (aL (dZ P a) l) (upd H' l (.lst ws)))) iA S'.nodes:=by rw[eWq];exact p1
  generalize upd H' l (.lst ws)=Hq at S1q kq xn xo AQ wsq hPq pq⊢;have bnd:S'.nodes.length<=40000:=by lia
  refine⟨_,U,a.p,_,_,U,S1q.obj,U,_,U,_,U,_,_,_,_,U,U,bx.of xn,bT,_,U,_,_,_,_,U,U,bx.of xn,fP,a, .ref g,nd',b,sd,iA,_,_,_,_,_,_,_,_,_,cc,U,S1q,⟨g,u',U,xo,ngp,ngL⟩,gO,⟨by lia,by rw[aX,nP.b];lia,by rw[aX,nP.s];lia,by rw[aX,nP.e];lia,by rw[aX,nP.w];lia,by rw[aX,nP.p];lia,by rw[aX,nP.t];lia⟩,λH2 k2 S2=>?_⟩;have fh:=k2 _ _ AQ nlp nlL;have oq:=k2 _ _ xn nmp nmL;have kz:=k2 _ _ xo ngp ngL;have hP2:=k2.aH hPq S2;refine⟨_,U,_,_,_,_,_,U,S2.obj,T.aE,T.uv,U, .inl ⟨U,_,ab.of (S2.get 1 U U)⟩,_,U,a.l1,_,_,U,U,S2.get 1 U U,dk (by rw[aX,cP,qL];lia),?_⟩;have S3:=S2.set 1 (x:=a.l1) ((ow++List.replicate i ro.length).map nI++[nI ro.length]) U (by simp);have k3:bU a Hq _:=k2.ul (o:= .lst ((ow++List.replicate i ro.length).map nI++[nI ro.length])) (x:=a.l1) 1 U;generalize upd H2 a.l1 (.lst ((ow++List.replicate i ro.length).map nI++[nI ro.length]))=H3 at S3 k3⊢;have Qo:=k3 _ _ AQ nlp nlL;have Qp:=k3 _ _ xn nmp nmL;have G2:=k3 _ _ xo ngp ngL;refine⟨_,U,_,_,_,_,U,U,bx.of Qp,fP,U,_,U,?_⟩;rw[uz];refine LQ (λσ4 H4=>σ4=[some (.ref a.p),some (.ref fa),some (nI S.nodes.length),some (nI ro.length),some (.ref l),some (.ref g),some (nI S'.nodes.length),some (.ref m)]/\ bU a Hq H4/\ dE A H4 a (fE (iA++[.ref g]) (d4 (dz S' nd' b sd) b sd S'.nodes.length) ((ow++List.replicate i ro.length)++[ro.length]) ro) ((d4 (dz S' nd' b sd) b sd S'.nodes.length).jc:Int) cc) ?_ ?_ ?_
  .rintro σ4 H4 ⟨rfl,k4,S4⟩
   have sx:=k4 _ _ AQ nlp nlL;have G3:=k4 _ _ xo ngp ngL;have G4:=k4.aH hPq S4;have kk:=kq.trans k4;have e2:ow++List.replicate (i+1) ro.length=(ow++List.replicate i ro.length)++[ro.length]:=by rw[List.replicate_succ',gC]
   have fold2:((enc F).take (i+1)).foldl hU (S,[(-1,-1)])=(d4 (dz S' nd' b sd) b sd S'.nodes.length,qY nd' S'.nodes.length aw):=by rw[iy gb,u6,hfold];rfl
   have sy:(d4 (dz S' nd' b sd) b sd S'.nodes.length).nodes=S'.nodes++[nd']:=by rw[AK];rfl
   have up4:aa (Wo (dZ P a) H) (Wo (aL (dZ P a) l) H4):=λc o e=>by obtain⟨c1,c2⟩:=iU e;rw[cR (by rintro(z|z);exact c1 z;exact bS c2 dY z)];exact kk c o c2 (λz=>c1 (.inr (.inl z))) (λz=>c1 (.inr (.inr z)))
   have ko:aa (Wo (aL (dZ P a) l) Hq) (Wo (aL (dZ P a) l) H4):=qe λc o e hc=>k4 c o e (λz=>hc (.inl (.inr (.inl z)))) (λz=>hc (.inl (.inr (.inr z))));have rnd4:=bZ.mono _ _ _ _ up4 (show bZ (Wo (dZ P a) H) (.ref g) nd' from⟨g,u',U,AO,ab5⟩);have p4:Paired (bZ (Wo (aL (dZ P a) l) H4)) (iA++[.ref g]) (S'.nodes++[nd']):=kf (bO (λ_ _ r=>bZ.mono _ _ _ _ ko r) pq) rnd4;have L4:=(nP.add nd' b sd).fix b sd S'.nodes.length;have Qq:Paired (sr (Wo (aL (dZ P a) l) H4)) ws aw.reverse:=bO (λ_ _ r=>sr.mono _ _ _ _ ko r) wsq;have Qr:Hid (aL (dZ P a) l) H4:=(S4.aH G4).lq sx;refine⟨_,U,g,nd'.1,_,U,G3,_,U,?_⟩;rw[nH gO];cases hj:bR nd' with
   |false=>refine aA ⟨_,aw,ws,_,_,_,U,kk,by rw[fold2];unfold qY;rw[hj];rfl,⟨iA++[.ref g],by rw[e2];exact S4,by rw[sy];exact p4⟩,G4,sx,Qq,L4,λe he h1=>?_,by rw[sy];simp;lia,by lia⟩;obtain⟨n,n1,n2⟩:=AN e (by simp[he]) h1;exact⟨n,n1,by rw[sy];simp;lia⟩
   |true=>
    refine aJ ⟨_,U, .inl ⟨U,_,ab.of sx⟩,_,U,gm,λt1 uN=>⟨l,_,_,U,U,aa.new uN _ _ sx,dk (by lia),?_⟩⟩;have s5:=aa.new (o:= .tup [nI S'.nodes.length, .int 1]) uN;refine⟨_,U, .inl ⟨U,_,ab.of ae⟩,_,U,gm,λt2 qC=>⟨l,_,_,U,U,aa.new qC _ _ ae,dk (by simp;lia),?_⟩⟩;have s6:=aa.new (o:= .tup [nI S'.nodes.length, .int 0]) qC;have nt1l:t1≠l:=λc=>by subst c;rw[sx]at uN;cases uN
    have nt2l:t2≠l:=λc=>by subst c;rw[ae]at qC;cases qC
    have ab7:t1≠t2:=λc=>by subst c;rw[aD nt1l,ae]at qC;cases qC
    have Qs:H4 t2=none:=by rw[aD nt2l]at qC;exact s5.free qC
    have t1O:¬aL (dZ P a) l t1:=Qr.not uN;have t2O:¬aL (dZ P a) l t2:=Qr.not Qs;have S5:dE A (upd (upd (upd (upd H4 t1 (.tup [nI S'.nodes.length, .int 1])) l (.lst (ws++[.ref t1]))) t2 (.tup [nI S'.nodes.length, .int 0])) l (.lst ((ws++[.ref t1])++[.ref t2]))) a _ _ _:=(((S4.mono s5).out nlp nlL).mono s6).out nlp nlL;have e7:∀o,aa (Wo (aL (dZ P a) l) H4) (Wo (aL (dZ P a) l) (upd (upd (upd (upd H4 t1 (.tup [nI S'.nodes.length, .int 1])) l (.lst (ws++[.ref t1]))) t2 (.tup [nI S'.nodes.length, .int 0])) l o)):=λo=>by rw[dP (.inr U)];refine aa.trans ?_ (bV s6);rw[dP (.inr U)];exact bV s5
    have kk7:bU a H (upd (upd (upd (upd H4 t1 (.tup [nI S'.nodes.length, .int 1])) l (.lst (ws++[.ref t1]))) t2 (.tup [nI S'.nodes.length, .int 0])) l (.lst ((ws++[.ref t1])++[.ref t2]))):=λc o e h1 h2=>by have ncl:=bS e dY;have h4:=kk c o e h1 h2;rw[aD ncl,aD (bS h4 Qs),aD ncl,aD (bS h4 uN)];exact h4
    refine⟨_,qY nd' S'.nodes.length aw,_,_,_,_,U,kk7,fold2,⟨iA++[.ref g],by rw[e2];exact S5,by rw[sy];exact bO (λ_ _ r=>bZ.mono _ _ _ _ (e7 _) r) p4⟩,((G4.mono s5).upd.mono s6).upd,ae,?_,L4,λe he h1=>?_,by rw[sy];simp;lia,by unfold qY;rw[hj];simp;lia⟩
    .unfold qY
     rw[hj,aI U,rY,rY];refine kf (kf (bO (λ_ _ r=>sr.mono _ _ _ _ (e7 _) r) Qq) ⟨t1,U,?_⟩) ⟨t2,U,?_⟩
     .rw[cR t1O,aD nt1l,aD ab7,aD nt1l,ae];rfl
     .rw[cR t2O,aD nt2l,ae];rfl
    .unfold qY at he
     rw[hj,aI U]at he;rcases br.mp he with rfl|he
     .simp at h1
     .rcases br.mp he with rfl|he
      .exact⟨S'.nodes.length,U,by rw[sy];simp⟩
      .obtain⟨n,n1,n2⟩:=AN e (by simp[he]) h1
       exact⟨n,n1,by rw[sy];simp;lia⟩
  .intro h K
   have AR:sd=1:=dJ h;obtain⟨n,n1,n2⟩:=AN (b,sd) (by simp) AR;have n1:b=(n:Int):=n1;refine⟨_,U,_,U,_,_,_,_,_,U,S3.obj,T.aE,T.Ag,U,_,U,_,_,_,_,U,U,bx.of Qp,bT,a.l4,_,_,n,U,U,S3.get 4 U U,by rw[n1];exact uL (by simp[nP.e];lia),K _ _ ⟨U,k3.ul (x:=a.l4) 4 U,?_⟩⟩;have S4:=S3.set 4 (x:=a.l4) ((S'.seconds.map V.int++[V.int (-1)]).set n (nI S'.nodes.length)) U (by simp);rw[Qk,Ql,aI AR,n1,jO];rw[n1]at S4;exact S4
  .intro h
   have AR:¬sd=1:=λc=>h (bb c);refine⟨U,k3,?_⟩;rw[Qk,Ql,ay AR];exact S3
 .rintro σ' H' ⟨S',aw,ws,u,v,w,rfl,k,hfold,⟨iA,S1,p1⟩,uM,wX,AM,nP,AN,rA,eg⟩
  rw[efv,lH,tJ F hF]at hfold;have eS:gr S (-1) (-1) F=S':=congrArg Prod.fst hfold;rw[efv,enl]at S1 rA;have np:=fz F;refine⟨_,U,_,U,_,_,_,_,_,U,S1.obj,T.aE,T.oW,U,_,U,a.l7,_,_,S.nodes.length,U,U,S1.get 7 U U,uL (by rw[aX,nP.t];lia),?_⟩;have S2:=S1.set 7 (x:=a.l7) ((S'.turns.map V.int).set S.nodes.length (nI S.nodes.length)) U (by unfold fE;simp);have k2:bU a H _:=k.ul (o:= .lst ((S'.turns.map V.int).set S.nodes.length (nI S.nodes.length))) (x:=a.l7) 7 U;have p2:Paired (bZ (Wo (dZ P a) (upd H' a.l7 (.lst ((S'.turns.map V.int).set S.nodes.length (nI S.nodes.length)))))) iA S'.nodes:=by refine bO (λ_ _ r=>bZ.mono _ _ _ _ ?_ r) p1;rw[dP (P:=dZ P a) (l:=a.l7) (.inr (.inr (by unfold eK.L;simp)))];exact qh
  generalize upd H' a.l7 (.lst ((S'.turns.map V.int).set S.nodes.length (nI S.nodes.length)))=H2 at S2 k2 p2⊢;refine⟨_,U,_,_,_,_,_,U,S2.obj,T.aE,T.oX,U, .inl ⟨U,_,ab.of (S2.get 8 U U)⟩,_,U,a.l8,_,_,U,U,S2.get 8 U U,dk (by rw[aX];lia),?_⟩;have S3:=S2.set 8 (x:=a.l8) (ro.map nI++[nI S.nodes.length]) U (by unfold fE;simp);refine q _ (k2.ul (x:=a.l8) 8 U) ⟨iA,?_,?_⟩
  .unfold fR
   rw[eS];have e:fE iA {S' with turns:=S'.turns.set S.nodes.length (S.nodes.length:Int)} (ow++List.replicate (nodes F) ro.length) (ro++[S.nodes.length])=[iA,(ow++List.replicate (nodes F) ro.length).map nI,S'.below.map V.int,S'.sides.map V.int,S'.seconds.map V.int,S'.switches.map V.int,S'.partners.map V.int,(S'.turns.map V.int).set S.nodes.length (nI S.nodes.length),ro.map nI++[nI S.nodes.length]]:=by unfold fE;simp only[iD,BD,ez,qN];rfl
   rw[e];exact S3
  .unfold fR
   rw[eS,dP (P:=dZ P a) (l:=a.l8) (.inr (.inr (by unfold eK.L;simp)))];exact p2
theorem ab9{m:Nat}(h:2*m<=100000):zH 0 ((2*m:Nat):Int) 2 m:=by
 have e:Builtin.Range.rangeSize 0 ((2*m:Nat):Int) 2=(m:Int):=by
  unfold Builtin.Range.rangeSize;rw[aI (by decide)];by_cases hm:m=0
  .subst hm;rw[ay (by decide)];rfl
  .rw[aI (by lia)];lia
 refine⟨by decide,by decide,?_,e⟩;have f:∀z:Int,-1000000<=z->z<=1000000->Builtin.Range.rangeFitsLong z=true:=by intro z h1 h2;unfold Builtin.Range.rangeFitsLong;rw[bC,iB,iB];lia
 unfold Builtin.Range.small;rw[e,f 0 (by decide) (by decide),f _ (by lia) (by lia),f 2 (by decide) (by decide),f _ (by lia) (by lia),aI (by decide),f _ (by lia) (by lia)];simp
theorem Qt:∀(n:Nat) (l:List Nat) (t:List Int) (x y:Nat),l.length=2*n->gH (l++[x,y]) t=((gH l t).set x y).set y x
 |0,l,t,x,y,h=>by have:l=[]:=uW.mp (by lia);subst this;rfl
 |n+1,[],t,x,y,h=>by simp at h
 |n+1,[a],t,x,y,h=>by simp at h;lia
 |n+1,a::b::r,t,x,y,h=>by show gH (r++[x,y]) ((t.set a b).set b a)=_;rw[Qt n r _ x y (by simp at h;lia)];rfl
inductive Qu(A:aF)(vs:List V)(H:Hp)(Q:VK)(E:XK):Prop
 |mk (P:Addr->Prop) (a:eK) (r:Addr) (rs:List Nat) (m:Nat) (S:PA) (ow ro:List Nat) (cc:Int):vs=[.ref a.p, .ref r]->sq A P H a S ow ro cc->H r=some (.lst (rs.map nI))->r≠a.p->r∉a.L->rs.length=2*m->rs.length<=1000->(∀z∈rs,z<S.turns.length)->(∀H',bU a H H'->sq A P H' a {S with turns:=gH rs S.turns} ow ro cc->Q .aO H')->Qu A vs H Q E
theorem ab_(T:Txt K mg A):Gd P w K mg base 1 A.Fb A.d_Points_join_cuts ["self","roots"] (Qu A):=by
 refine T.aab.go (N:=["self","roots","at"]) ?_;rintro aC A' outer s H vs Q E hr nd ⟨P,a,r,rs,m,S,ow,ro,cc,rfl,⟨vs,S0,p0⟩,d7,nrp,nrL,hm,hlen,aU,q⟩;refine⟨_,(ag (eZ PassesOwn.never U (Ww (by rfl) T.z9 (fM ak (aZ (dw T.c6 (pv 1)) ak))) (cx 2 nd) (af (tZ (aT (pv 1) (b_ jd (pv 2) ak)) (tY (ao (pv 0)) (aT (pv 1) (pv 2)) set_list))
  (ag (tZ (aT (pv 1) (pv 2)) (tY (ao (pv 0)) (aT (pv 1) (b_ jd (pv 2) ak)) set_list)))))),?_⟩
 try dsimp only[A9]
 refine⟨_,U,r,_,U, .inl (ab.of d7),_,_,_,m,U,?_,Wx (lo:=0) (c:=2) (n:=m) (λi σ' H'=>E1 λu=>A3 (σ'=[some (.ref a.p),some (.ref r),u]) (bU a H H') (dE A H' a (fE vs {S with turns:=gH (rs.take (2*i)) S.turns} ow ro) (S.jc:Int) cc)) ⟨none,U,bU.refl,S0⟩ ?_ ?_⟩
 .rw[aX,hm];exact ab9 (by lia)
 .rintro i σ' H' hi ⟨u,rfl,k,S1⟩
  have sC:=k _ _ d7 nrp nrL;obtain⟨x,hx⟩:∃x,rs[2*i]? =some x:=⟨_,cC (by lia)⟩
  obtain⟨y,hy⟩:∃y,rs[2*i+1]? =some y:=⟨_,cC (by lia)⟩
  have AH:(rs.map nI)[2*i]? =some (nI x):=by rw[ft,hx];rfl
  have k9:(rs.map nI)[2*i+1]? =some (nI y):=by rw[ft,hy];rfl
  have lx:=aU x (cN hx);have ly:=aU y (cN hy);have et:rs.take (2*(i+1))=rs.take (2*i)++[x,y]:=by rw[show 2*(i+1)=2*i+1+1 by lia,iy hy,iy hx,gC];rfl
  have jl:=Cq (rs.take (2*i)) S.turns;generalize hj:gH (rs.take (2*i)) S.turns=tt at S1 jl;refine⟨_,U,_,U,_,_,U,U,_,_,_,_,U,U,ab.of sC,at_of (j:=2*i+1) (by lia) k9,_,U,_,_,_,_,_,U,S1.obj,T.aE,T.oW,U,_,U,_,U,_,_,_,_,U,U,ab.of sC,at_of (j:=2*i) (by lia) AH,a.l7,_,_,x,U,U,S1.get 7 U U,uL (by show x<(tt.map V.int).length;rw[aX];lia),?_⟩;have S2:=S1.set 7 (x:=a.l7) ((tt.map V.int).set x (nI y)) U (by unfold fE;simp);have k2:bU a H _:=k.ul (o:= .lst ((tt.map V.int).set x (nI y))) (x:=a.l7) 7 U;have Ar:upd H' a.l7 (.lst ((tt.map V.int).set x (nI y))) r=some (.lst (rs.map nI)):=by rw[aD λc=>nrL (by rw[c];unfold eK.L;simp)];exact sC
  refine⟨_,U,_,U,_,_,_,_,U,U,ab.of Ar,at_of (j:=2*i) (by lia) AH,_,U,_,_,_,_,_,U,S2.obj,T.aE,T.oW,U,_,U,_,U,_,_,U,U,_,_,_,_,U,U,ab.of Ar,at_of (j:=2*i+1) (by lia) k9,a.l7,_,_,y,U,U,S2.get 7 U U,uL (by rw[tf,aX];lia),_,U,k2.ul (x:=a.l7) 7 U,?_⟩;have S3:=S2.set 7 (x:=a.l7) (((tt.map V.int).set x (nI y)).set y (nI x)) U (by unfold fE;simp);have e:fE vs {S with turns:=gH (rs.take (2*(i+1))) S.turns} ow ro=[vs,ow.map nI,S.below.map V.int,S.sides.map V.int,S.seconds.map V.int,S.switches.map V.int,S.partners.map V.int,((tt.map V.int).set x (nI y)).set y (nI x),ro.map nI]:=by unfold fE;rw[et,Qt i _ _ _ _ (by rw[n9];lia),hj];simp only[BD];rfl
  rw[e];exact S3
 .rintro σ' H' ⟨u,rfl,k,S1⟩
  rw[qM (by lia)]at S1;exact q _ k ⟨vs,S1,bO (λ_ _ r=>bZ.mono _ _ _ _ k.wo r) p0⟩
theorem dE.nodes{A:aF}{H:Hp}{a:eK}{vs:List V}{cs:List (List V)}{jc cc:Int}{ns:List Node}(S:dE A H a (vs::cs) jc cc)(p:Paired (bZ H) vs ns):AJ A H a.p ns:=⟨a.dx,_,a.l0,vs,S.obj,U,S.get 0 U U,p⟩
theorem Qv(lp:List Nat):∀(l:List (Nat×Nat)) (t:List Int) (x:Nat×Nat),fS lp (l++[x]) t=((fS lp l t).set (lp.getD x.1 0) (lp.getD x.2 0)).set (lp.getD x.2 0) (lp.getD x.1 0)
 |[],t,x=>rfl
 |y::r,t,x=>by show fS lp (r++[x]) _=_;rw[Qv lp r];rfl
inductive Qw(A:aF)(vs:List V)(H:Hp)(Q:VK)(E:XK):Prop
 |mk (P:Addr->Prop) (a:eK) (kv:V) (lk:List (Nat×Nat)) (S:PA) (ow ro:List Nat) (cc:Int):vs=[.ref a.p,kv]->sq A P H a S ow ro cc->cS d6 (Wo (dZ P a) H) kv lk->(∀x∈S.nodes,x.1<4)->S.nodes.length<=40000->S.partners.length=S.nodes.length->((∀z∈lk,z.1<(idx (λx=> !bR x) S.nodes 0).length/\ z.2<(idx (λx=> !bR x) S.nodes 0).length))->(∀H',bU a H H'->sq A P H' a {S with partners:=fS (idx (λx=> !bR x) S.nodes 0) lk S.partners} ow ro cc->Q .aO H')->Qw A vs H Q E
theorem Qx{α:Type}{Pr:α->Bool}:∀(l:List α) (k:Nat),∀x∈idx Pr l k,x<k+l.length
 |[],k,x,h=>by simp[idx]at h
 |a::r,k,x,h=>by
  have ih:=Qx (Pr:=Pr) r (k+1);have h:x∈if Pr a=true then k::idx Pr r (k+1)else idx Pr r (k+1):=h;split at h
  .rcases br.mp h with rfl|h
   .simp
   .have:=ih x h;simp;lia
  .have:=ih x h;simp;lia
theorem ab'(T:Txt K mg A):Gd P w K mg base 3 A.Fc A.d_Points_join_leaves ["self","links"] (Qw A):=by
 refine T.aac.go (N:=["self","links","leaves","pair"]) ?_;rintro aC A' outer s H vs Q E hr nd ⟨P,a,kv,lk,S,ow,ro,cc,rfl,⟨vs,S0,p0⟩,⟨ka,ks,rfl,xk,xl⟩,gO,hlen,bK,aU,q⟩;refine⟨_,(af (aN 2 nd (dO hr (GZ T) T.aE T.F7 (pv 0)))
  (ag (eZ PassesOwn.never U (eE (pv 1)) (cx 3 nd) (af (tZ (aT (pv 2) (cW (pv 3) ak)) (tY (ao (pv 0)) (aT (pv 2) (cW (pv 3) ak)) set_list))
  (ag (tZ (aT (pv 2) (cW (pv 3) ak)) (tY (ao (pv 0)) (aT (pv 2) (cW (pv 3) ak)) set_list))))))),?_⟩
 try dsimp only[A9]
 have GR:=ck xl;refine⟨_,U,a.p,_,_,U,S0.obj,U,a.p,S.nodes,U,S0.nodes (bO (λ_ _ r=>bZ.mono _ _ _ _ (bB _ _) r) p0),gO,by lia,λlf H1 s1 rV mK=>?_⟩;have xp:=Qx (Pr:=λx=> !bR x) S.nodes 0;generalize idx (λx=> !bR x) S.nodes 0=lp at q aU mK xp;have nlp:lf≠a.p:=λc=>by rw[c,S0.obj]at rV;cases rV
 have nlL:lf∉a.L:=λc=>by obtain⟨i,hi⟩:=kK.mp c;obtain⟨ys,_,h2⟩:=S0.at_ i lf hi;rw[h2]at rV;cases rV
 refine⟨_,U,ka,U,⟨_,ab.of (s1 _ _ (bB _ _ _ _ xk))⟩,gL (xs:=ks) (λi σ' H'=>E1 λu=>A3 (σ'=[some (.ref a.p),some (.ref ka),some (.ref lf),u]) (bU a H1 H') (dE A H' a (fE vs {S with partners:=fS lp (lk.take i) S.partners} ow ro) (S.jc:Int) cc)) ⟨none,U,bU.refl,S0.mono s1⟩ (λi σ' H' _ ⟨_,_,k,_⟩=>ab.of (bB _ _ _ _ (k.wo (P:=P) _ _ (bV s1 _ _ xk)))) ?_ ?_⟩
 .rintro i x σ' H' hx ⟨u,rfl,k,S1⟩
  obtain⟨pr,bh,g,rfl,hg⟩:=fB xl hx;have G1:=k.wo (P:=P) _ _ (bV s1 _ _ hg);obtain⟨hgM,kz⟩:=iU G1;have G5:=k _ _ mK nlp nlL;obtain⟨l1,l2⟩:=aU pr (cN bh);obtain⟨x1,G6⟩:∃x,lp[pr.1]? =some x:=⟨_,cC l1⟩
  obtain⟨x2,qD⟩:∃x,lp[pr.2]? =some x:=⟨_,cC l2⟩
  have Qy:(lp.map nI)[pr.1]? =some (nI x1):=by rw[ft,G6];rfl
  have Qz:(lp.map nI)[pr.2]? =some (nI x2):=by rw[ft,qD];rfl
  have b1:=xp x1 (cN G6);have b2:=xp x2 (cN qD);have et:fS lp (lk.take (i+1)) S.partners=((fS lp (lk.take i) S.partners).set x1 x2).set x2 x1:=by rw[iy bh,Qv,eX G6,eX qD]
  have jl:=Cr lp (lk.take i) S.partners;rw[et];generalize fS lp (lk.take i) S.partners=tt at S1 jl⊢;refine⟨_,U,_,U,_,_,_,_,U,U,bx.of kz,fP,_,_,_,_,U,U,ab.of G5,bH Qz,_,U,_,_,_,_,_,U,S1.obj,T.aE,T.oV,U,_,U,_,U,_,_,_,_,U,U,bx.of kz,bT,_,_,_,_,U,U,ab.of G5,bH Qy,a.l6,_,_,x1,U,U,S1.get 6 U U,uL (by show x1<(tt.map V.int).length;rw[aX];lia),?_⟩;have S2:=S1.set 6 (x:=a.l6) ((tt.map V.int).set x1 (nI x2)) U (by unfold fE;simp);have k2:bU a H1 _:=k.ul (o:= .lst ((tt.map V.int).set x1 (nI x2))) (x:=a.l6) 6 U;have m6:a.l6∈a.L:=by unfold eK.L;simp
  have QA:upd H' a.l6 (.lst ((tt.map V.int).set x1 (nI x2))) lf=some (.lst (lp.map nI)):=by rw[aD λc=>nlL (by rw[c];exact m6)];exact G5
  have G2:upd H' a.l6 (.lst ((tt.map V.int).set x1 (nI x2))) g=some (.tup [.int (pr.1:Int), .int (pr.2:Int)]):=by rw[aD λc=>hgM (.inr (.inr (by rw[c];exact m6)))];exact kz
  refine⟨_,U,_,U,_,_,_,_,U,U,bx.of G2,bT,_,_,_,_,U,U,ab.of QA,bH Qy,_,U,_,_,_,_,_,U,S2.obj,T.aE,T.oV,U,_,U,_,U,_,_,_,_,U,U,bx.of G2,fP,_,_,_,_,U,U,ab.of QA,bH Qz,a.l6,_,_,x2,U,U,S2.get 6 U U,uL (by rw[tf,aX];lia),_,U,k2.ul (x:=a.l6) 6 U,?_⟩;have S3:=S2.set 6 (x:=a.l6) (((tt.map V.int).set x1 (nI x2)).set x2 (nI x1)) U (by unfold fE;simp);have e:fE vs {S with partners:=(tt.set x1 (x2:Int)).set x2 (x1:Int)} ow ro=[vs,ow.map nI,S.below.map V.int,S.sides.map V.int,S.seconds.map V.int,S.switches.map V.int,((tt.map V.int).set x1 (nI x2)).set x2 (nI x1),S.turns.map V.int,ro.map nI]:=by unfold fE;simp only[BD];rfl
  rw[e];exact S3
 .rintro σ' H' ⟨u,rfl,k,S1⟩
  rw[GR,lH]at S1;have kk:bU a H H':=bU.trans (bU.of s1) k;exact q _ kk ⟨vs,S1,bO (λ_ _ r=>bZ.mono _ _ _ _ kk.wo r) p0⟩
abbrev dn:=PA×List Nat×List Nat×Nat
inductive bq(A:aF)(H:Hp)(v:V)(D:dn):Prop
 |mk (a:eK) (vs:List V):v= .ref a.p->dE A H a (fE vs D.1 D.2.1 D.2.2.1) (D.1.jc:Int) (D.2.2.2:Int)->Paired (bZ H) vs D.1.nodes->bq A H v D
theorem bq.mono{A:aF}:eP (bq A):=λ_ _ _ _ s ⟨a,vs,e,h,p⟩=>⟨a,vs,e,h.mono s,bO (λ_ _ r=>bZ.mono _ _ _ _ s r) p⟩
noncomputable def nQ(x:P3):PA:=iJ PA.empty (bE x)
noncomputable def uO(x:P3):List Nat:=idx (λn=> !bR n) (nQ x).nodes 0
noncomputable def uP(x:P3):List Nat:=Mm 0 (bE x)
noncomputable def eh(x:P3):dn:=({nQ x with turns:=gH ((uP x).drop x.1.length) (nQ x).turns,partners:=fS (uO x) x.2.2 (nQ x).partners},iL 0 (bE x),uP x,x.1.length)
theorem QB:∀(l:List Formula) (S:PA) (F:Formula),iJ S (l++[F])=fR (iJ S l) F
 |[],_,_=>rfl
 |G::r,S,F=>QB r (fR S G) F
theorem QC:∀(l:List Formula) (j:Nat) (F:Formula),iL j (l++[F])=iL j l++List.replicate (nodes F) (j+l.length)
 |[],j,F=>by simp[iL]
 |G::r,j,F=>by show List.replicate (nodes G) j++iL (j+1) (r++[F])=_;rw[QC r,<-gC];congr 2;simp;lia
theorem QD:∀(l:List Formula) (n:Nat) (F:Formula),Mm n (l++[F])=Mm n l++[n+bf l]
 |[],n,F=>by simp[Mm,bf]
 |G::r,n,F=>by show n::Mm (n+nodes G) (r++[F])=_;rw[QD r];simp[Mm,bf];lia
theorem fX.lay:∀(F:Formula),multiplicative F=true->∀{S:PA} (b sd:Int),fX S->fX (gr S b sd F)
 | .atom n a,_,S,b,sd,h=>(h.add _ b sd).fix b sd _
 | .tensor F G,hm,S,b,sd,h| .par F G,hm,S,b,sd,h=>by simp only[multiplicative,bC]at hm;exact fX.lay G hm.2 _ _ (fX.lay F hm.1 _ _ ((h.add _ b sd).fix b sd _))
 | .wth A B,h,_,_,_,_| .plus A B,h,_,_,_,_| .ofc A,h,_,_,_,_| .whn A,h,_,_,_,_=>by simp[multiplicative]at h
theorem fX.fR{F:Formula}(hF:multiplicative F=true){S:PA}(h:fX S):fX (PM.fR S F):=by have l:=fX.lay F hF (-1) (-1) h;unfold PM.fR;exact⟨l.b,l.s,l.e,l.w,l.p,by simp[l.t]⟩
theorem aca{F:Formula}(hF:multiplicative F=true)(S:PA):(PM.fR S F).nodes.length=S.nodes.length+nodes F:=by unfold PM.fR;exact AL F hF S _ _
theorem G7:∀(fs:List Formula) (S:PA),(∀F∈fs,multiplicative F=true)->fX S->fX (iJ S fs)/\ (iJ S fs).nodes.length=S.nodes.length+bf fs
 |[],S,_,h=>⟨h,by simp[iJ,bf]⟩
 |F::r,S,hm,h=>by have hF:=hm F (by simp);obtain⟨h1,h2⟩:=G7 r (PM.fR S F) (λG hG=>hm G (by simp[hG])) (fX.fR hF h);refine⟨h1,?_⟩;show(iJ (PM.fR S F) r).nodes.length=_;rw[h2,aca hF];simp only[bf];lia
theorem G8{α:Type}(Pr:α->Bool):∀(l:List α) (k:Nat),(idx Pr l k).length=(l.filter Pr).length
 |[],_=>rfl
 |a::r,k=>by have ih:=G8 Pr r (k+1);show(if Pr a=true then k::idx Pr r (k+1)else idx Pr r (k+1)).length=_;rw[mV];split<;>simp[ih]
theorem QE:fX PA.empty:=⟨U,U,U,U,U,U⟩
theorem QF{x:P3}(hm:∀F∈bE x,multiplicative F=true):(nQ x).nodes=(bE x).flatMap enc:=by unfold nQ;rw[yB (bE x) PA.empty hm ⟨U,U⟩];rfl
theorem acb{x:P3}(hm:∀F∈bE x,multiplicative F=true):(uO x).length=(cJ x).length:=by unfold uO cJ;rw[G8,QF hm,List.filter_flatMap];have e:((bE x).flatMap λF=>(enc F).filter λn=> !bR n)=uJ (bE x):=rfl;rw[e,GU,aX]
def K1(p:Addr)(H H':Hp):Prop:=∀b o,H b=some o->b≠p->H' b=some o
structure Pre(A:aF)(H0 H:Hp)(p dx:Addr)(fs:List (Str×V))(ls:List Addr):Prop where
 obj:H p=some (.ins A.bM dx fs)
 emp:∀x∈ls,H x=some (.lst [])
 new:∀x∈ls,H0 x=none
 nd:ls.Nodup
 kp:K1 p H0 H
theorem Pre.step{A:aF}{H0 H:Hp}{p dx z:Addr}{fs:List (Str×V)}{ls:List Addr}(f:Str)(h:Pre A H0 H p dx fs ls)(hz:H z=none):Pre A H0 (upd (upd H z (.lst [])) p (.ins A.bM dx (bA f (.ref z) fs))) p dx (bA f (.ref z) fs) (ls++[z]):=by
 have nzp:z≠p:=λc=>by rw[c,h.obj]at hz;cases hz
 have nls:∀x∈ls,x≠z:=λx hx c=>by rw[<-c,h.emp x hx]at hz;cases hz
 have nlp:∀x∈ls,x≠p:=λx hx c=>by have:=h.emp x hx;rw[c,h.obj]at this;cases this
 have qz:H0 z=none:=by
  cases e:H0 z with
  |none=>rfl
  |some o=>rw[h.kp z o e nzp]at hz;cases hz
 refine⟨ae,λx hx=>?_,λx hx=>?_,?_,λb o e hb=>?_⟩
 .rcases c9.mp hx with hx|hx
  .rw[aD (nlp x hx),aD (nls x hx)];exact h.emp x hx
  .simp at hx;subst hx;rw[aD nzp,ae]
 .rcases c9.mp hx with hx|hx
  .exact h.new x hx
  .simp at hx;subst hx;exact qz
 .exact Ly h.nd λc=>nls z c U
 .rw[aD hb,aD (bS e qz)];exact h.kp b o e hb
theorem Pre.objs{A:aF}{H0 H:Hp}{p dx:Addr}{fs:List (Str×V)}{ls:List Addr}(lX:List (Str×V))(h:Pre A H0 H p dx fs ls):Pre A H0 (upd H p (.ins A.bM dx lX)) p dx lX ls:=by
 have nlp:∀x∈ls,x≠p:=λx hx c=>by have:=h.emp x hx;rw[c,h.obj]at this;cases this
 exact⟨ae,λx hx=>by rw[aD (nlp x hx)];exact h.emp x hx,h.new,h.nd,λb o e hb=>by rw[aD hb];exact h.kp b o e hb⟩
theorem Pre.QG{A:aF}{H0 H:Hp}{p dx:Addr}{fs:List (Str×V)}{ls:List Addr}(f:Str)(v:V)(h:Pre A H0 H p dx fs ls):Pre A H0 (upd H p (.ins A.bM dx (bA f v fs))) p dx (bA f v fs) ls:=h.objs _
structure QH(x:P3):Prop where
 ok:qy x
 nb:∀F∈bE x,nodes F<=200
 lk:∀z∈x.2.2,z.1<(cJ x).length/\ z.2<(cJ x).length
theorem QI:∀(l:List Formula) (b:Nat),(∀F∈l,nodes F<=b)->bf l<=l.length*b
 |[],b,_=>bL _
 |F::r,b,h=>by have:=QI r b λG hG=>h G (by simp[hG]);have:=h F (by simp);simp only[bf,bj,adg];lia
theorem QJ(x:P3):(uP x).length=(bE x).length:=lM _ _
inductive QK(A:aF)(vs:List V)(H:Hp)(Q:VK)(E:XK):Prop
 |mk (P:Addr->Prop) (p dx:Addr) (v:V) (x:P3):vs=[.ref p,v]->H p=some (.ins A.bM dx [])->¬P p->c7 A (Wo (aL P p) H) v x->QH x->Hid P H->(∀H',K1 p H H'->bq A (Wo P H') (.ref p) (eh x)->Q .aO H')->QK A vs H Q E
theorem G9(T:Txt K mg A):Gd P w K mg base 4 A.zZ A.d_Points_init ["self","parts"] (QK A):=by
 refine T.Z_.go (N:=["self","parts","formula"]) ?_;rintro aC A' outer s H vs Q E hr nd ⟨P,p,dx,v,x,rfl,gQ,nPp,fW,bo,hP,q⟩;refine⟨_,(af (cn (pv 0) (aS bY))
  (af (cn (pv 0) (aS bY))
  (af (cn (pv 0) (aS bY))
  (af (cn (pv 0) (aS bY))
  (af (cn (pv 0) (aS bY))
  (af (cn (pv 0) (aS bY))
  (af (cn (pv 0) (aS bY))
  (af (cn (pv 0) (aS bY))
  (af (cn (pv 0) ak)
  (af (cn (pv 0) (dw T.c6 (ao (pv 1))))
  (af (cn (pv 0) (aS bY))
  (af (eZ PassesOwn.never U (eE (dO hr (GQ T) T.gN T.F4 (pv 1))) (cx 2 nd) (ag (bF (bN hr (ab4 T) T.aE T.YK (pv 0) (aj (pv 2))))))
  (af (bF (bN hr (ab_ T) T.aE T.YM (pv 0) (aj (oJ oK (ao (pv 0)) (je (ao (pv 0))) Dj))))
  (ag (bF (bN hr (ab' T) T.aE T.YN (pv 0) (aj (ao (pv 1))))))))))))))))))),?_⟩
 try dsimp only[A9]
 have ok:=bo.ok;obtain⟨fok,flen⟩:=xi ok;have fm:∀F∈bE x,multiplicative F=true:=λF hF=>(fok F hF).1;obtain⟨ap,adx,ac,au,al,rfl,sD,G_,hau,eg⟩:=id fW;obtain⟨hapP,acd⟩:=iU sD;have nap:ap≠p:=λc=>hapP (.inr c);have R0:Pre A H H p dx [] []:=⟨gQ,λx hx=>by simp at hx,λx hx=>by simp at hx,oe,λb o e _=>e⟩
 refine⟨bL _,λl0 h0=>⟨_,U,p,_,_,_,U,aa.new h0 _ _ R0.obj,T.aE,T.kj,(by show 0<1000;decide),?_⟩⟩;have R1:=R0.step "nodes" h0;generalize upd (upd H l0 (.lst [])) p (.ins A.bM dx (bA "nodes" (.ref l0) []))=H1 at R1⊢;refine⟨bL _,λl1 h1=>⟨_,U,p,_,_,_,U,aa.new h1 _ _ R1.obj,T.aE,T.uv,(by show 1<1000;decide),?_⟩⟩;have R2:=R1.step "owners" h1;generalize upd (upd H1 l1 (.lst [])) p (.ins A.bM dx (bA "owners" (.ref l1) _))=H2 at R2⊢;refine⟨bL _,λl2 h2=>⟨_,U,p,_,_,_,U,aa.new h2 _ _ R2.obj,T.aE,T.qm,(by show 2<1000;decide),?_⟩⟩;have R3:=R2.step "below" h2;generalize upd (upd H2 l2 (.lst [])) p (.ins A.bM dx (bA "below" (.ref l2) _))=H3 at R3⊢;refine⟨bL _,λl3 h3=>⟨_,U,p,_,_,_,U,aa.new h3 _ _ R3.obj,T.aE,T.wL,(by show 3<1000;decide),?_⟩⟩;have R4:=R3.step "sides" h3;generalize upd (upd H3 l3 (.lst [])) p (.ins A.bM dx (bA "sides" (.ref l3) _))=H4 at R4⊢;refine⟨bL _,λl4 h4=>⟨_,U,p,_,_,_,U,aa.new h4 _ _ R4.obj,T.aE,T.Ag,(by show 4<1000;decide),?_⟩⟩;have R5:=R4.step "seconds" h4;generalize upd (upd H4 l4 (.lst [])) p (.ins A.bM dx (bA "seconds" (.ref l4) _))=H5 at R5⊢;refine⟨bL _,λl5 h5=>⟨_,U,p,_,_,_,U,aa.new h5 _ _ R5.obj,T.aE,T.wM,(by show 5<1000;decide),?_⟩⟩;have R6:=R5.step "switches" h5;generalize upd (upd H5 l5 (.lst [])) p (.ins A.bM dx (bA "switches" (.ref l5) _))=H6 at R6⊢;refine⟨bL _,λl6 h6=>⟨_,U,p,_,_,_,U,aa.new h6 _ _ R6.obj,T.aE,T.oV,(by show 6<1000;decide),?_⟩⟩;have R7:=R6.step "partners" h6;generalize upd (upd H6 l6 (.lst [])) p (.ins A.bM dx (bA "partners" (.ref l6) _))=H7 at R7⊢;refine⟨bL _,λl7 h7=>⟨_,U,p,_,_,_,U,aa.new h7 _ _ R7.obj,T.aE,T.oW,(by show 7<1000;decide),?_⟩⟩;have R8:=R7.step "turns" h7;generalize upd (upd H7 l7 (.lst [])) p (.ins A.bM dx (bA "turns" (.ref l7) _))=H8 at R8⊢;refine⟨_,U,p,_,_,_,U,R8.obj,T.aE,T.qo,(by show 8<1000;decide),?_⟩;have R9:=R8.QG "junction_count" (.int 0);generalize upd H8 p (.ins A.bM dx (bA "junction_count" (.int 0) _))=H9 at R9⊢;obtain⟨ca,cs,rfl,fc,eT⟩:=G_;obtain⟨hcaP,ace⟩:=iU fc;have ncap:ca≠p:=λc=>hcaP (.inr c);have bD:=ck eT;refine⟨_,U,_,_,_,_,_,U,R9.kp _ _ acd nap,T.gN,T.uu,U,ca,_,U, .inl (ab.of (R9.kp _ _ ace ncap)),_,U,p,_,_,_,U,R9.obj,T.aE,T.Gi,(by show 9<1000;decide),?_⟩;rw[bD];have R10:=R9.QG "conclusion_count" (.int (x.1.length:Int));generalize upd H9 p (.ins A.bM dx (bA "conclusion_count" (.int (x.1.length:Int)) _))=H10 at R10⊢;refine⟨bL _,λl8 h8=>⟨_,U,p,_,_,_,U,aa.new h8 _ _ R10.obj,T.aE,T.oX,(by show 10<1000;decide),?_⟩⟩;have R11:=R10.step "roots" h8;generalize upd (upd H10 l8 (.lst [])) p (.ins A.bM dx (bA "roots" (.ref l8) _))=H11 at R11⊢;obtain⟨a,ha⟩:∃a:eK,a=⟨p,dx,l0,l1,l2,l3,l4,l5,l6,l7,l8⟩:=⟨_,U⟩
 have eL:a.L=[l0,l1,l2,l3,l4,l5,l6,l7,l8]:=by rw[ha];rfl
 have eap:a.p=p:=by rw[ha]
 have R12:Pre A H H11 p dx _ [l0,l1,l2,l3,l4,l5,l6,l7,l8]:=R11;have S0:dE A H11 a (fE [] PA.empty [] []) ((PA.empty.jc:Nat):Int) (x.1.length:Int):=by
  refine⟨by rw[ha];exact R11.obj,λi y hy=>?_,by rw[eL];exact R12.nd⟩;rw[eL]at hy;have hm:=R12.emp y (cN hy);have hi:=dm hy;refine⟨[],?_,hm⟩;match i,hi with
  |0,_|1,_|2,_|3,_|4,_|5,_|6,_|7,_|8,_=>rfl
  |i+9,hi=>simp at hi;lia
 have G':∀y∈a.L,H y=none:=λy hy=>by rw[eL]at hy;exact R12.new y hy
 have Ha:K1 p H H11:=R12.kp;have QL:Hid P H11:=λb hb e=>by
  cases hq:H b with
  |none=>exact hP b hb hq
  |some o=>rw[Ha b o hq (λc=>nPp (by rw[<-c];exact hb))]at e;cases e
 clear R0 R1 R2 R3 R4 R5 R6 R7 R8 R9 R10 R11 R12 h0 h1 h2 h3 h4 h5 h6 h7 h8;have up:aa (Wo (aL P p) H) (Wo (dZ P a) H11):=λb o e=>by
  obtain⟨b1,b2⟩:=iU e;rw[cR]
  .exact Ha b o b2 λc=>b1 (.inr c)
  .rintro(c|c|c)
   .exact b1 (.inl c)
   .exact b1 (.inr (by rw[c,eap]))
   .rw[G' b c]at b2;cases b2
 have jj:=c7.mono _ _ _ _ up fW;have acf:=bB _ _ _ _ (up _ _ sD);refine⟨_,U,ap,adx,_,U,acf,U,dZ P a, .ref ap,x,U,jj,ok,S0.aH QL,λw1 H12 bQ hw1=>?_⟩;obtain⟨fa,fvs,rfl,fF,su⟩:=hw1;have PJ:=ck su;have nle:∀i,bf ((bE x).take i)<=12000:=λi=>by
  refine c_ (QI _ 200 λF hF=>bo.nb F (acZ hF)) ?_;have:((bE x).take i).length<=60:=by rw[n9];lia
  calc ((bE x).take i).length*200<=60*200:=adh _ this
   _=12000:=rfl
 rw[<-eap];refine⟨fa,U,⟨_,ab.of (bB _ _ _ _ fF)⟩,gL (xs:=fvs) (λi σ' H'=>E1 λu=>A4 (σ'=[some (.ref a.p),some (.ref ap),u]) (bU a H12 H') (sq A P H' a (iJ PA.empty ((bE x).take i)) (iL 0 ((bE x).take i)) (Mm 0 ((bE x).take i)) (x.1.length:Int)) (Hid P H'))
  ⟨none,U,bU.refl,⟨[],S0.mono bQ, .nil⟩,QL.mono bQ⟩ (λi σ' H' _ ⟨_,_,k,_,_⟩=>ab.of (bB _ _ _ _ (k.wo (P:=P) _ _ fF))) ?_ ?_⟩
 .rintro i y σ' H' hy ⟨u,rfl,k,hD,uM⟩
  obtain⟨F,hF,rF⟩:=fB su hy;have hi:=dm hF;have hFm:=fm F (cN hF);obtain⟨LA,LN⟩:=G7 ((bE x).take i) PA.empty (λG hG=>fm G (acZ hG)) QE;have LN:(iJ PA.empty ((bE x).take i)).nodes.length=bf ((bE x).take i):=by rw[LN];exact afZ _
  have b1:=nle i;have b2:=bo.nb F (cN hF);have QM:=hD;obtain⟨iA,S1,p1⟩:=hD;refine⟨_,U,a.p,_,_,U,S1.obj,U,_,U,P,a,y,F,_,_,_,(x.1.length:Int),U,QM,uM,dj.mono _ _ _ _ k.wo rF,LA,by rw[LN];lia,by rw[lM,n9];lia,by rw[Jo,LN],λH2 k2 h2=>⟨_,U,k.trans k2,?_,?_⟩⟩
  .rw[iy hF,QB,QC,QD]
   rw[lM,LN]at h2;simp only[afZ];exact h2
  .obtain⟨vs2,S2,_⟩:=h2
   exact k2.aH uM S2
 .rintro σ' H' ⟨u,rfl,k,hD,uM⟩
  rw[PJ,lH]at hD;obtain⟨LA,LN⟩:=G7 (bE x) PA.empty fm QE;have LN:(iJ PA.empty (bE x)).nodes.length=bf (bE x):=by rw[LN];exact afZ _
  have b1:=nle (bE x).length;rw[lH]at b1;have QM:=hD;obtain⟨iA,S1,p1⟩:=hD;have rl:(Mm 0 (bE x)).length=(bE x).length:=lM _ _;have fl2:(bE x).length=x.1.length+2*x.2.1.length:=by
   unfold bE;rw[cP];congr 1;generalize x.2.1=l;induction l with
   |nil=>rfl
   |cons a r ih=>rw[iE,cP,ih];simp;lia
  refine⟨_,U,a.p,_,_,U,S1.obj,U,_,U,_,_,_,_,_,U,S1.obj,T.aE,T.oX,U,_,U,_,_,_,_,_,U,S1.obj,T.aE,T.Gi,U,_,U,a.l8,_,U,ab.of (S1.get 8 U U),λr d7=>?_⟩;have ecut:fU ((Mm 0 (bE x)).map nI) (some (x.1.length:Int)) none=((uP x).drop x.1.length).map nI:=by rw[LX _ (by rw[aX];lia),pC];rfl
  have s2:=aa.new (o:= .lst (fU ((Mm 0 (bE x)).map nI) (some (x.1.length:Int)) none)) d7;have nrp:r≠a.p:=λc=>by rw[c,S1.obj]at d7;cases d7
  have nrL:r∉a.L:=λc=>by obtain⟨i,hi⟩:=kK.mp c;obtain⟨ys,_,h2⟩:=S1.at_ i r hi;rw[h2]at d7;cases d7
  refine⟨P,a,r,(uP x).drop x.1.length,x.2.1.length,nQ x,iL 0 (bE x),uP x,(x.1.length:Int),U,⟨iA,S1.mono s2,bO (λ_ _ q=>bZ.mono _ _ _ _ (bV s2) q) p1⟩,by rw[ae,ecut],nrp,nrL,by rw[jq,QJ];lia,by rw[jq,QJ];lia,λz hz=>?_,λH2 k2 h2=>?_⟩
  .have:=m8 (bE x) 0 z (x8 hz)
   have e:=LA.t;show z<(iJ PA.empty (bE x)).turns.length;rw[e,LN];lia
  have kk:bU a H12 H2:=(k.same s2).trans k2;have aci:=bB _ _ _ _ (kk.wo (P:=P) _ _ (bV bQ _ _ (up _ _ sD)));have pK:=h2;obtain⟨vs2,S2,p2⟩:=h2;refine⟨_,U,a.p,_,_,U,S2.obj,U,_,U,_,_,_,_,_,U,aci,T.gN,T.Af,U,P,a,al,x.2.2,_,_,_,(x.1.length:Int),U,pK,cS.mono d6.mono _ _ _ _ ((up.trans (bV bQ)).trans kk.wo) eg,?_,by show(nQ x).nodes.length<=40000;unfold nQ;rw[LN];lia,LA.p,?_,λH3 k3 h3=>?_⟩
  .intro n hn
   have hn:n∈(nQ x).nodes:=hn;rw[QF fm]at hn;obtain⟨F,hF,hn⟩:=gT.mp hn;exact jt F (fm F hF) n hn
  .intro z hz
   show z.1<(uO x).length/\ z.2<(uO x).length;rw[acb fm];exact bo.lk z hz
  .have Hb:bU a H12 H3:=kk.trans k3
   refine q H3 (λb o e hb=>?_) ?_
   .have wu:b≠a.p:=by rw[eap];exact hb
    refine Hb b o (bQ _ _ (Ha b o e hb)) wu λc=>?_;rw[G' b c]at e;cases e
   .obtain⟨GI,S3,p3⟩:=h3
    refine⟨a,GI,by rw[eap],?_,bO (λ_ _ q=>bZ.mono _ _ _ _ (zT λb hb=> .inl hb) q) p3⟩;refine⟨?_,λi y hy=>?_,S3.nd⟩
    .rw[cR (by rw[eap];exact nPp)];exact S3.obj
    .obtain⟨ys,e1,e2⟩:=S3.at_ i y hy
     refine⟨ys,e1,?_⟩;rw[cR λc=>hP y c (G' y (cN hy))];exact e2
abbrev Net:=Vanetc.Net
noncomputable abbrev aQ(s:Net):List Vanetc.Point:=Vanetc.points s
structure dF(s:Net)(D:dn):Prop where
 good:Good s
 arr:Arr s D.1
 be:D.1.below=f_ 0 (tQ s)
 si:D.1.sides=iK (tQ s)
 se:D.1.seconds=i7 0 (tQ s)
 nd:D.1.nodes=(tQ s).flatMap enc
 ow:D.2.1=iL 0 (tQ s)
 ro:D.2.2.1=dR s
 cc:D.2.2.2=s.concl.length
 bd:(aQ s).length<=240
noncomputable def dy(b:Bool):V:= .int (if b=true then 1 else 0)
theorem fY{l:List Int}{i:Nat}{z:Int}(h:l[i]? =some z):(l.map V.int)[i]? =some (.int z):=by rw[ft,h];rfl
theorem kC{l:List Nat}{i n:Nat}(h:l[i]? =some n):(l.map nI)[i]? =some (nI n):=by rw[ft,h];rfl
theorem xq{s:Net}{D:dn}(d:dF s D):∀x∈D.1.nodes,x.1<4:=λx hx=>by rw[d.nd]at hx;obtain⟨F,hF,hx⟩:=gT.mp hx;exact jt F (d.good.mul F hF) x hx
inductive nR(vs:List V)(H:Hp)(Q:VK)(E:XK):Prop
 |mk (p:Nat):vs=[nI p]->Q (nI (Vanetg.up p)) H->nR vs H Q E
theorem acj(p:Nat):V.int (2*(p:Int))=nI (Vanetg.up p):=by unfold nI Vanetg.up;congr 1
theorem ack(p:Nat):V.int (2*(p:Int)+1)=nI (Nj p):=by unfold nI Nj;congr 1
theorem AS(T:Txt K mg A):Gd P w K mg base 1 A.Fq A.d_up ["point"] nR:=by
 refine T.aap.go (N:=["point"]) ?_;rintro aC A' outer s H vs Q E hr nd ⟨p,rfl,q⟩;refine⟨_,(ag (aB (b_ zj ak (pv 0)))),?_⟩
 try dsimp only[A9]
 refine⟨_,U,_,_,U,U, .inl ⟨by decide,by decide⟩,?_⟩;rw[<-acj]at q;exact q
inductive sE(vs:List V)(H:Hp)(Q:VK)(E:XK):Prop
 |mk (p:Nat):vs=[nI p]->Q (nI (Nj p)) H->sE vs H Q E
theorem Hc(T:Txt K mg A):Gd P w K mg base 1 A.Fs A.d_down ["point"] sE:=by
 refine T.aaq.go (N:=["point"]) ?_;rintro aC A' outer s H vs Q E hr nd ⟨p,rfl,q⟩;refine⟨_,(ag (aB (b_ jd (b_ zj ak (pv 0)) ak))),?_⟩
 try dsimp only[A9]
 refine⟨_,U,_,_,U,U, .inl ⟨by decide,by decide⟩,_,_,U,U,?_⟩;rw[<-ack]at q;exact q
inductive QN(A:aF)(vs:List V)(H:Hp)(Q:VK)(E:XK):Prop
 |mk (v:V) (D:dn) (s:Net):vs=[v]->bq A H v D->dF s D->Q (nI (MB s)) H->QN A vs H Q E
theorem Hd(T:Txt K mg A):Gd P w K mg base 1 A.Fh A.d_Points_passage_count ["self"] (QN A):=by
 refine T.aah.go (N:=["self"]) ?_;rintro aC A' outer s H vs Q E hr nd ⟨v,D,s,rfl,⟨a,vs,rfl,S,p⟩,d,q⟩;refine⟨_,(ag (aB (b_ zj ak (dw T.c6 (ao (pv 0)))))),?_⟩
 try dsimp only[A9]
 have hl:=ck p;refine⟨_,U,_,_,_,_,_,U,S.obj,T.aE,T.kj,U,a.l0,_,U, .inl (ab.of (S.get 0 U U)),_,_,U,U, .inl ⟨by decide,by decide⟩,?_⟩;rw[hl,d.arr.ln];have e:V.int (2*((aQ s).length:Int))=nI (MB s):=by unfold nI MB;congr 1
 rw[<-e]at q;exact q
inductive QO(A:aF)(vs:List V)(H:Hp)(Q:VK)(E:XK):Prop
 |mk (v:V) (D:dn) (s:Net) (n:Int):vs=[v, .int n]->bq A H v D->dF s D->Q (.bl (below n s.concl.length)) H->QO A vs H Q E
theorem He(T:Txt K mg A):Gd P w K mg base 1 A.Ff A.d_Points_has_conclusion ["self","number"] (QO A):=by
 refine T.aaf.go (N:=["self","number"]) ?_;rintro aC A' outer s H vs Q E hr nd ⟨v,D,s,n,rfl,⟨a,vs,rfl,S,p⟩,d,q⟩;refine⟨_,(ag (aB (zl j7 iq ak (pv 1) (ao (pv 0))))),?_⟩
 try dsimp only[A9]
 unfold below at q;refine⟨_,U,_,_,U,U,_,U,b9 (λh=>?_) (λh=>?_)⟩
 .refine⟨_,U,_,_,_,_,_,U,S.obj,T.aE,T.Gi,U,_,_,U,U,?_⟩
  rw[bb (dJ h),n6]at q;rw[d.cc];exact q
 .rw[cO λc=>h (bb c),om]at q
  exact q
inductive QP(A:aF)(vs:List V)(H:Hp)(Q:VK)(E:XK):Prop
 |mk (v:V) (D:dn) (s:Net) (n:Int):vs=[v, .int n]->bq A H v D->dF s D->Q (.bl (below n (MB s))) H->QP A vs H Q E
theorem Hf(T:Txt K mg A):Gd P w K mg base 2 A.Fg A.d_Points_has_passage ["self","number"] (QP A):=by
 refine T.aag.go (N:=["self","number"]) ?_;rintro aC A' outer s H vs Q E hr nd ⟨v,D,s,n,rfl,hv,d,q⟩;refine⟨_,(ag (aB (zl j7 iq ak (pv 1) (dO hr (Hd T) T.aE T.F_ (pv 0))))),?_⟩
 try dsimp only[A9]
 obtain⟨a,vs,rfl,S,p⟩:=id hv;unfold below at q;refine⟨_,U,_,_,U,U,_,U,b9 (λh=>?_) (λh=>?_)⟩
 .refine⟨_,U,a.p,_,_,U,S.obj,U, .ref a.p,D,s,U,hv,d,_,_,U,U,?_⟩
  rw[bb (dJ h),n6]at q;exact q
 .rw[cO λc=>h (bb c),om]at q
  exact q
theorem QQ(z:Int):gj (.int z) [.int 0, .int 1]=(z==0||z==1):=by
 unfold gj;simp only[px,BB,sT];have e:∀m:Int,mh (.int m) (.int z)=(z==m):=λm=>by show(m==z)=(z==m);exact adi
 rw[e 0,e 1]
noncomputable def pd(s:Net)(zs:List Int):Bool:=zs.length==(Mg s).length&&zs.all λz=>z==0||z==1
inductive QR(A:aF)(vs:List V)(H:Hp)(Q:VK)(E:XK):Prop
 |mk (v:V) (D:dn) (s:Net) (na:Addr) (zs:List Int):vs=[v, .ref na]->bq A H v D->dF s D->H na=some (.lst (zs.map V.int))->zs.length<=10000->(∀H',aa H H'->Q (.bl (pd s zs)) H')->QR A vs H Q E
theorem acn(T:Txt K mg A):Gd P w K mg base 1 A.Fi A.d_Points_is_switching ["self","numbers"] (QR A):=by
 refine T.aai.go (N:=["self","numbers","number"]) ?_;rintro aC A' outer s H vs Q E hr nd ⟨v,D,s,na,zs,rfl,⟨a,vs,rfl,S,p⟩,d,mL,hlen,q⟩;refine⟨_,(ag (aB (vQ (lu cj (dw T.c6 (pv 1)) (ao (pv 0))) (rB (pY (Du U) (by rfl) T.FV DX (aj (ml U nd (eE (pv 1)) (jF (own:=[("number",2)]) (by show iT ["self","numbers","number"] (d5 (inClass (top 81) 10)) _ _=true;decide+kernel)) (λ_ _ _ _ _=>(cx 2 nd)) (λ_ _ _ _ _=>oP) (λ_ _ _ _ _=>(lu (Xo (K:=K) U) (pv 2) (gh (aZ ak ak))))))))))),?_⟩
 try dsimp only[A9]
 unfold pd at q;refine⟨_,U,na,_,U, .inl (ab.of mL),_,U,_,_,_,_,_,U,S.obj,T.aE,T.qo,U,U,_,U,?_⟩;rw[jH,aX,d.arr.jc];have e0:decide (zs.length=(Mg s).length)=(zs.length==(Mg s).length):=by rw[js];simp
 rw[e0];cases hb:(zs.length==(Mg s).length)with
 |false=>rw[hb,om]at q;exact aA (q H (aa.refl _))
 |true=>
  rw[hb,n6]at q;refine aJ ⟨_,U,na,U,⟨_,ab.of mL⟩,λL hL=>oU (λ_=>False) j3 j3.mono zs (λz=>some (z==0||z==1)) hL (Hid.none _) (by rw[aX];lia) (ab.of mL) (by rw[aX]) ?_ ?_⟩
  .intro i H2 y z hy hz s2 aH Ky Kn my hn
   obtain⟨z',mj,rfl⟩:=lB hy;have e:z'=z:=aM (mj.symm.trans hz);subst e;refine⟨U,oZ ⟨_,U,gm,λt ht=>⟨t,_,U, .inr (bx.of ae),U,U,?_⟩⟩⟩;rw[show(if false=true then !gj (.int z') [.int 0, .int 1]else gj (.int z') [.int 0, .int 1])=(z'==0||z'==1)from QQ z'];exact my _ _ _ U (aa.new ht) U
  .intro H2 acc s2 cH aH bh
   rw[uY]at bh;have eacc:=AF bh;subst eacc;refine⟨L,_,U,ab.of cH,?_⟩;have eall:(zs.map λz=>z==0||z==1).all id=zs.all λz=>z==0||z==1:=by rw[ac6];rfl
   rw[eall];exact q _ s2
def jL(s:Net)(j l r:Nat):Prop:=(aQ s)[j]? =some (.tensor l r)\/(aQ s)[j]? =some (.par l r)
theorem jL.arr{s:Net}{D:dn}(d:dF s D){j l r:Nat}(h:jL s j l r):l=j+1/\ D.1.seconds[j]? =some (r:Int)/\ (∃k,(k=2\/k=3)/\ D.1.nodes[j]? =some (k,[]))/\ ∃i:Nat,D.1.switches[j]? =some (i:Int)/\ (Mg s)[i]? =some j:=by
 rcases h with h|h
 .have a:=d.arr.lP (k:=2) (.inl ⟨h,U⟩)
  exact⟨a.2.1,a.2.2.1,⟨2, .inl U,a.1⟩,a.2.2.2⟩
 .have a:=d.arr.lP (k:=3) (.inr ⟨h,U⟩)
  exact⟨a.2.1,a.2.2.1,⟨3, .inr U,a.1⟩,a.2.2.2⟩
inductive AU(A:aF)(vs:List V)(H:Hp)(Q:VK)(E:XK):Prop
 |mk (v:V) (D:dn) (s:Net) (j l r:Nat) (b:Bool):vs=[v,nI j,dy b]->bq A H v D->dF s D->jL s j l r->(Q (nI (if b=true then r else l)) H)->AU A vs H Q E
theorem qE(T:Txt K mg A):Gd P w K mg base 1 A.Fn A.d_Points_part ["self","junction","side"] (AU A):=by
 refine T.aam.go (N:=["self","junction","side"]) ?_;rintro aC A' outer s H vs Q E hr nd ⟨v,D,s,j,l,r,b,rfl,⟨a,vs,rfl,S,p⟩,d,hj,q⟩;refine⟨_,(ag (aB (kX (aR cj (pv 2) ak) (b_ jd (pv 1) ak) (aT (ao (pv 0)) (pv 1))))),?_⟩
 try dsimp only[A9]
 obtain⟨e1,e2,_,_⟩:=hj.arr d;refine⟨_,U,U,_,U,?_⟩;cases b with
 |false=>refine aJ ⟨_,U,_,_,U,U,?_⟩;rw[ay (by simp),e1]at q;exact q
 |true=>rw[aI U]at q;exact aA ⟨_,U,_,_,_,_,_,U,S.obj,T.aE,T.Ag,U,_,U,a.l4,_,_,_,U,U,ab.of (S.get 4 U U),bH (fY e2),q⟩
theorem aco(b:Bool):(1:Int)-(if b=true then 1 else 0)=if(!b)=true then 1 else 0:=by cases b<;>rfl
inductive AV(A:aF)(vs:List V)(H:Hp)(Q:VK)(E:XK):Prop
 |mk (v:V) (D:dn) (s:Net) (p j o:Nat) (b:Bool):vs=[v,nI p]->bq A H v D->dF s D->abP (abj s) p= .tensor j o b->Q (nI o) H->AV A vs H Q E
theorem acp(T:Txt K mg A):Gd P w K mg base 2 A.Fo A.d_Points_beside ["self","point"] (AV A):=by
 refine T.aan.go (N:=["self","point"]) ?_;rintro aC A' outer s H vs Q E hr nd ⟨v,D,s,p,j,o,b,rfl,hv,d,cD,q⟩;refine⟨_,(ag (aB (bN hr (qE T) T.aE T.qj (pv 0) (aZ (aT (ao (pv 0)) (pv 1)) (b_ rJ ak (aT (ao (pv 0)) (pv 1))))))),?_⟩
 try dsimp only[A9]
 obtain⟨a,vs,rfl,S,pp⟩:=id hv;obtain⟨b1,b2,l,r,hj,hb⟩:=d.arr.d9 cD;refine⟨_,U,a.p,_,_,U,S.obj,U,_,U,_,_,_,_,_,U,S.obj,T.aE,T.qm,U,_,U,a.l2,_,_,_,U,U,ab.of (S.get 2 U U),bH (fY b1),_,U,_,_,_,_,_,U,S.obj,T.aE,T.wL,U,_,U,a.l3,_,_,_,U,U,ab.of (S.get 3 U U),bH (fY b2),_,_,U,U, .ref a.p,D,s,j,l,r,!b,?_,hv,d, .inl hj,?_⟩
 .show[V.ref a.p,V.int (j:Int),V.int (1-if b=true then 1 else 0)]=[V.ref a.p,nI j,dy (!b)]
  rw[aco];rfl
 .cases b with
  |false=>rw[ay (by simp)]at hb;rw[show(!false)=true from rfl,aI U,<-hb.2];exact q
  |true=>rw[aI U]at hb;rw[show(!true)=false from rfl,ay (by simp),<-hb.2];exact q
theorem QS{s:Net}{w:List Bool}(hw:w.length=(Mg s).length){i j:Nat}(hi:(Mg s)[i]? =some j):∃b,w[i]? =some b/\ Mj (My s w) j=b:=by have hl:=dm hi;refine⟨w[i]'(by lia),cC (by lia),?_⟩;exact Jc (by rw[Co];exact Cp _ _) hi (cC (by lia))
inductive QT(A:aF)(vs:List V)(H:Hp)(Q:VK)(E:XK):Prop
 |mk (v:V) (D:dn) (s:Net) (p:Nat) (wa:Addr) (w:List Bool):vs=[v,nI p, .ref wa]->bq A H v D->dF s D->p<(aQ s).length->H wa=some (.lst (w.map dy))->w.length=(Mg s).length->Q (nI (Ni s (aQ s) (My s w) p)) H->QT A vs H Q E
theorem acq(T:Txt K mg A):Gd P w K mg base 2 A.Fl A.d_Points_behind_up ["self","point","switching"] (QT A):=by
 refine T.aak.go (N:=["self","point","switching"]) ?_;rintro aC A' outer s H vs Q E hr nd ⟨v,D,s,p,wa,w,rfl,hv,d,hp,fG,hw,q⟩;refine⟨_,(af (a9 (ij (dC (aP hr (mx T) T.mr (aj (aT (ao (pv 0)) (pv 1)))))) (ag (aB (aP hr (Hc T) T.Gb (aj (aT (ao (pv 0)) (pv 1)))))) bt)
  (ag (aB (aP hr (AS T) T.Ae (aj (bN hr (qE T) T.aE T.qj (pv 0) (aZ (pv 1) (aT (pv 2) (aT (ao (pv 0)) (pv 1)))))))))),?_⟩
 try dsimp only[A9]
 obtain⟨a,vs,rfl,S,pp⟩:=id hv;obtain⟨nd',gb⟩:∃x,D.1.nodes[p]? =some x:=⟨_,cC (by rw[d.arr.ln];exact hp)⟩
 obtain⟨nv,sF,g,u,rfl,hg,_⟩:=oT pp gb;have gO:=xq d nd' (cN gb);refine⟨_,U,_,_,_,_,_,U,S.obj,T.aE,T.kj,U,_,U,a.l0,_,_,_,U,U,ab.of (S.get 0 U U),bH sF,g,nd'.1,_,U,hg,_,U,?_⟩;rw[nH gO];have fH:(aQ s)[p]? =some (aQ s)[p]:=cC hp;generalize (aQ s)[p]=pt at fH;have lP:∀l r,jL s p l r->Ni s (aQ s) (My s w) p=Vanetg.up (if Mj (My s w) p=true then r else l)->if(!bR nd')=true then(jC (iS sE [] E0 (d_ (cw (fO K) (ir K (aY 0) "partners") (aY 1)) eI))) {nx:=(jC (iS nR [] E0 (d_ (oH A.bM "part" (AU A) [] E0 (aY 0) (d_ (aY 1) (d_ (cw (fO K) (aY 2) (cw (fO K) (ir K (aY 0) "switches") (aY 1))) eI))) eI))) {nx:=λ_ H'=>Q .aO H',rt:=Q},rt:=Q} [some (.ref a.p),some (nI p),some (.ref wa)] H else(jC (iS nR [] E0 (d_ (oH A.bM "part" (AU A) [] E0 (aY 0) (d_ (aY 1) (d_ (cw (fO K) (aY 2) (cw (fO K) (ir K (aY 0) "switches") (aY 1))) eI))) eI))) {nx:=λ_ H'=>Q .aO H',rt:=Q} [some (.ref a.p),some (nI p),some (.ref wa)] H:=by
  intro l r hj eq;obtain⟨e1,e2,⟨k,hk,e3⟩,i,e4,e5⟩:=hj.arr d;have en:nd'=(k,[]):=aM (gb.symm.trans e3);have ej:bR nd'=true:=by rw[en];unfold bR;exact bb (by show 2<=k;lia)
  obtain⟨b,hb1,xr⟩:=QS hw e5;rw[ej];refine aA ⟨_,U,a.p,_,_,U,S.obj,U,_,U,_,U,_,U,_,_,_,_,_,U,S.obj,T.aE,T.wM,U,_,U,a.l5,_,_,_,U,U,ab.of (S.get 5 U U),bH (fY e4),wa,_,_,_,U,U,ab.of fG,bH (show(w.map dy)[i]? =some (dy b) by rw[ft,hb1];rfl), .ref a.p,D,s,p,l,r,b,U,hv,d,hj,_,U,?_⟩;rw[eq,xr]at q;exact q
 cases pt with
 |leaf=>
  obtain⟨⟨x,hx,qD⟩,gR⟩:=d.arr.leaf fH;have en:nd'=x:=aM (gb.symm.trans hx);have ej:bR nd'=false:=by rw[en];unfold bR;exact cO (by lia)
  have eq:Ni s (aQ s) (My s w) p=Nj (partner s p):=by unfold Ni;rw[fH];rfl
  rw[eq]at q;rw[ej];exact aJ ⟨_,U,_,_,_,_,_,U,S.obj,T.aE,T.oV,U,_,U,a.l6,_,_,_,U,U,ab.of (S.get 6 U U),bH (fY gR),partner s p,U,q⟩
 |tensor l r=>exact lP l r (.inl fH) (by unfold Ni;rw[fH])
 |par l r=>exact lP l r (.inr fH) (by unfold Ni;rw[fH])
theorem dsw(b c:Bool):decide (dy b=dy c)=(b==c):=by cases b<;>cases c<;>rfl
inductive QU(A:aF)(vs:List V)(H:Hp)(Q:VK)(E:XK):Prop
 |mk (v:V) (D:dn) (s:Net) (p:Nat) (wa:Addr) (w:List Bool):vs=[v,nI p, .ref wa]->bq A H v D->dF s D->p<(aQ s).length->H wa=some (.lst (w.map dy))->w.length=(Mg s).length->Q (nI (Vanetg.behindDown (abj s) (My s w) p)) H->QU A vs H Q E
theorem acu(T:Txt K mg A):Gd P w K mg base 3 A.Fm A.d_Points_behind_down ["self","point","switching"] (QU A):=by
 refine T.aal.go (N:=["self","point","switching","junction","switched"]) ?_;rintro aC A' outer s H vs Q E hr nd ⟨v,D,s,p,wa,w,rfl,hv,d,hp,fG,hw,q⟩;refine⟨_,(af (aN 3 nd (aT (ao (pv 0)) (pv 1)))
  (af (a9 (aR cj (pv 3) (il ip ak)) (ag (aB (aP hr (AS T) T.Ae (aj (aT (ao (pv 0)) (pv 1)))))) bt)
  (af (aN 4 nd (lu cj (aT (pv 2) (aT (ao (pv 0)) (pv 3))) (aT (ao (pv 0)) (pv 1))))
  (af (a9 (aR cj (cW (aT (ao (pv 0)) (pv 3)) ak) (aW T.wI)) (ag (aB (kX (dC (pv 4)) (aP hr (AS T) T.Ae (aj (bN hr (acp T) T.aE T.YS (pv 0) (aj (pv 1))))) (aP hr (Hc T) T.Gb (aj (pv 3)))))) bt)
  (ag (aB (kX (dC (pv 4)) (aP hr (Hc T) T.Gb (aj (pv 3))) (aP hr (AS T) T.Ae (aj (pv 1)))))))))),?_⟩
 try dsimp only[A9]
 obtain⟨a,vs,rfl,S,pp⟩:=id hv;unfold Vanetg.behindDown at q;have root:∀z:Nat,D.1.below[p]? =some (-1)->D.1.turns[p]? =some (z:Int)->Q (nI (Vanetg.up z)) H->_:=λz h1 h2 hq=>(⟨_,U,_,_,_,_,_,U,S.obj,T.aE,T.qm,U,_,U,a.l2,_,_,_,U,U,ab.of (S.get 2 U U),bH (fY h1),_,U,_,U,U,_,U,aJ ⟨_,U,_,_,_,_,_,U,S.obj,T.aE,T.oW,U,_,U,a.l7,_,_,_,U,U,ab.of (S.get 7 U U),bH (fY h2),z,U,hq⟩⟩:
  (fA (oG (cw (fO K) (ir K (aY 0) "below") (aY 1)) (ik 3)) (fA (rD (md (cw l_ (aY 3) (zf (rU λi=> .int (-i)) (tC (.int 1))))) (jC (iS nR [] E0 (d_ (cw (fO K) (ir K (aY 0) "turns") (aY 1)) eI))) iQ) (fA (oG (cw l_ (cw (fO K) (aY 2) (cw (fO K) (ir K (aY 0) "switches") (aY 3))) (cw (fO K) (ir K (aY 0) "sides") (aY 1))) (ik 4)) (fA (rD (md (cw l_ (cw (ub K) (cw (fO K) (ir K (aY 0) "nodes") (aY 3)) (tC (.int 0))) (tC (.int 2)))) (jC (rC (tB (aY 4)) (iS nR [] E0 (d_ (oH A.bM "beside" (AV A) [] E0 (aY 0) (d_ (aY 1) eI)) eI)) (iS sE [] E0 (d_ (aY 3) eI)))) iQ) (jC (rC (tB (aY 4)) (iS sE [] E0 (d_ (aY 3) eI)) (iS nR [] E0 (d_ (aY 1) eI)))))))) {nx:=λ_ H'=>Q .aO H',rt:=Q} [some (.ref a.p),some (nI p),some (.ref wa),none,none] H)
 have jn:∀(j k:Nat) (b:Bool) (l r:Nat),D.1.below[p]? =some (j:Int)->D.1.sides[p]? =some (if b=true then 1 else 0)->jL s j l r->D.1.nodes[j]? =some (k,[])->
   ((b==Mj (My s w) j)=true->(k=2->abP (abj s) p= .tensor j (if b=true then l else r) b/\ Q (nI (Vanetg.up (if b=true then l else r))) H)/\ (¬k=2->Q (nI (Nj j)) H))->((b==Mj (My s w) j)=false->(k=2->Q (nI (Nj j)) H)/\ (¬k=2->Q (nI (Vanetg.up p)) H))->
   (fA (oG (cw (fO K) (ir K (aY 0) "below") (aY 1)) (ik 3)) (fA (rD (md (cw l_ (aY 3) (zf (rU λi=> .int (-i)) (tC (.int 1))))) (jC (iS nR [] E0 (d_ (cw (fO K) (ir K (aY 0) "turns") (aY 1)) eI))) iQ) (fA (oG (cw l_ (cw (fO K) (aY 2) (cw (fO K) (ir K (aY 0) "switches") (aY 3))) (cw (fO K) (ir K (aY 0) "sides") (aY 1))) (ik 4)) (fA (rD (md (cw l_ (cw (ub K) (cw (fO K) (ir K (aY 0) "nodes") (aY 3)) (tC (.int 0))) (tC (.int 2)))) (jC (rC (tB (aY 4)) (iS nR [] E0 (d_ (oH A.bM "beside" (AV A) [] E0 (aY 0) (d_ (aY 1) eI)) eI)) (iS sE [] E0 (d_ (aY 3) eI)))) iQ) (jC (rC (tB (aY 4)) (iS sE [] E0 (d_ (aY 3) eI)) (iS nR [] E0 (d_ (aY 1) eI)))))))) {nx:=λ_ H'=>Q .aO H',rt:=Q} [some (.ref a.p),some (nI p),some (.ref wa),none,none] H:=by
  intro j k b l r h1 h2 hj h3 ht hf;obtain⟨_,_,_,i,e4,e5⟩:=hj.arr d;obtain⟨c,mw,jI⟩:=QS hw e5;rw[jI]at ht hf;obtain⟨nv,sF,g,u,rfl,hg,_⟩:=oT pp h3;refine⟨_,U,_,_,_,_,_,U,S.obj,T.aE,T.qm,U,_,U,a.l2,_,_,_,U,U,ab.of (S.get 2 U U),bH (fY h1),_,U,_,U,U,_,U,?_⟩;rw[uz,cO (by lia)];refine aA ⟨_,U,_,U,_,_,_,_,_,U,S.obj,T.aE,T.wM,U,_,U,a.l5,_,_,_,U,U,ab.of (S.get 5 U U),bH (fY e4),wa,_,_,_,U,U,ab.of fG,bH (show(w.map dy)[i]? =some (dy c) by rw[ft,mw];rfl),_,U,_,_,_,_,_,U,S.obj,T.aE,T.wL,U,_,U,a.l3,_,_,_,U,U,ab.of (S.get 3 U U),bH (fY h2),U,?_⟩;rw[show decide (dy c=V.int (if b=true then 1 else 0))=(b==c) by rw[show V.int (if b=true then 1 else 0)=dy b from rfl,dsw];exact adi];refine⟨_,U,_,_,_,_,_,U,S.obj,T.aE,T.kj,U,_,U,a.l0,_,_,_,U,U,ab.of (S.get 0 U U),bH sF,_,_,_,_,U,U,bx.of hg,bT,U,_,U,?_⟩;show if decide (V.int (k:Int)=V.int ((2:Nat):Int))=true then _ else _;rw[jH];refine b9 (λh=>?_) (λh=>?_)
  .have ek:=dJ h
   refine⟨_,U,_,U,?_⟩;cases sG:(b==c)with
   |true=>have hq:=(ht sG).1 ek;exact aJ ⟨_,U,a.p,_,_,U,S.obj,U,_,U, .ref a.p,D,s,p,j,_,b,U,hv,d,hq.1,_,U,hq.2⟩
   |false=>exact aA ⟨_,U,j,U,(hf sG).1 ek⟩
  .have ek:¬k=2:=λz=>h (bb z)
   refine⟨_,U,_,U,?_⟩;cases sG:(b==c)with
   |true=>exact aJ ⟨_,U,j,U,(ht sG).2 ek⟩
   |false=>exact aA ⟨_,U,p,U,(hf sG).2 ek⟩
 cases cD:abP (abj s) p with
 |concl=>rw[cD]at q;obtain⟨h1,h2⟩:=d.arr.concl hp cD;exact root p h1 h2 q
 |cut z=>rw[cD]at q;obtain⟨h1,h2⟩:=d.arr.cut hp cD;exact root z h1 h2 q
 |tensor j o b=>
  rw[cD]at q;obtain⟨h1,h2,l,r,hj,hb⟩:=d.arr.d9 cD;have hn:=(d.arr.lP (k:=2) (.inl ⟨hj,U⟩)).1;have eo:o=if b=true then l else r:=by
   cases b with
   |false=>rw[ay (by simp)]at hb⊢;exact hb.2
   |true=>rw[aI U]at hb⊢;exact hb.2
  have q:Q (nI (if b=Mj (My s w) j then Vanetg.up o else Nj j)) H:=q;refine jn j 2 b l r h1 h2 (.inl hj) hn (λh=>⟨λ_=>⟨by rw[<-eo];exact cD,?_⟩,λc=>absurd U c⟩) (λh=>⟨λ_=>?_,λc=>absurd U c⟩)
  .rw[aI (beq_iff_eq.mp h),eo]at q;exact q
  .rw[ay (beq_eq_false_iff_ne.mp h)]at q;exact q
 |par j b=>
  rw[cD]at q;obtain⟨h1,h2,l,r,hj⟩:=d.arr.par cD;have hn:=(d.arr.lP (k:=3) (.inr ⟨hj,U⟩)).1;have q:Q (nI (if b=Mj (My s w) j then Nj j else Vanetg.up p)) H:=q;refine jn j 3 b l r h1 h2 (.inr hj) hn (λh=>⟨λc=>by lia,λ_=>?_⟩) (λh=>⟨λc=>by lia,λ_=>?_⟩)
  .rw[aI (beq_iff_eq.mp h)]at q;exact q
  .rw[ay (beq_eq_false_iff_ne.mp h)]at q;exact q
noncomputable abbrev nx(s:Net)(w:List Bool)(a:Nat):Nat:=lN s (My s w) a
inductive QV(A:aF)(vs:List V)(H:Hp)(Q:VK)(E:XK):Prop
 |mk (v:V) (D:dn) (s:Net) (p:Nat) (wa:Addr) (w:List Bool):vs=[v,nI p, .ref wa]->bq A H v D->dF s D->p<2*(aQ s).length->H wa=some (.lst (w.map dy))->w.length=(Mg s).length->Q (nI (nx s w p)) H->QV A vs H Q E
theorem Hg(T:Txt K mg A):Gd P w K mg base 4 A.Fj A.d_Points_behind ["self","passage","switching"] (QV A):=by
 refine T.aaj.go (N:=["self","passage","switching"]) ?_;rintro aC A' outer s H vs Q E hr nd ⟨v,D,s,p,wa,w,rfl,hv,d,hp,fG,hw,q⟩;refine⟨_,(af (a9 (aR cj (b_ U9 (pv 1) ak) ak) (ag (aB (bN hr (acq T) T.aE T.YQ (pv 0) (aZ (b_ Kp (pv 1) ak) (pv 2))))) bt)
  (ag (aB (bN hr (acu T) T.aE T.YR (pv 0) (aZ (b_ Kp (pv 1) ak) (pv 2)))))),?_⟩
 try dsimp only[A9]
 obtain⟨a,vs,rfl,S,pp⟩:=id hv;have hdiv:(p:Int)/2=((p/2:Nat):Int):=by lia
 unfold nx lN at q;refine⟨_,U,_,_,U,U,(by show(0:Int)<2;decide),U,_,U,?_⟩;rw[uz];refine b9 (λh=>?_) (λh=>?_)
 .have e:p%2=0:=by have:=dJ h;lia
  rw[aI e]at q;exact⟨_,U,a.p,_,_,U,S.obj,U,_,U,_,_,U,U,⟨by decide,by decide⟩,_,U, .ref a.p,D,s,p/2,wa,w,by show[V.ref a.p,V.int ((p:Int)/2),V.ref wa]=_;rw[hdiv];rfl,hv,d,by lia,fG,hw,q⟩
 .have e:¬p%2=0:=λc=>h (bb (by lia))
  rw[ay e]at q;exact⟨_,U,a.p,_,_,U,S.obj,U,_,U,_,_,U,U,⟨by decide,by decide⟩,_,U, .ref a.p,D,s,p/2,wa,w,by show[V.ref a.p,V.int ((p:Int)/2),V.ref wa]=_;rw[hdiv];rfl,hv,d,by lia,fG,hw,q⟩
inductive QW(A:aF)(vs:List V)(H:Hp)(Q:VK)(E:XK):Prop
 |mk (v:V) (D:dn) (s:Net) (p:Nat) (wa:Addr) (w:List Bool):vs=[v,nI p, .ref wa]->bq A H v D->dF s D->p<2*(aQ s).length->H wa=some (.lst (w.map dy))->w.length=(Mg s).length->iW H Q ((Vanetg.trip s w p).map nI)->QW A vs H Q E
theorem AW(T:Txt K mg A):Gd P w K mg base 5 A.Fp A.d_Points_trip ["self","passage","switching"] (QW A):=by
 refine T.aao.go (N:=["self","passage","switching","met","at"]) ?_;rintro aC A' outer s H vs Q E hr nd ⟨v,D,s,p,wa,w,rfl,hv,d,hp,fG,hw,q⟩;refine⟨_,(af (aN 3 nd (aS (aj (pv 1))))
  (af (aN 4 nd (bN hr (Hg T) T.aE T.Ga (pv 0) (aZ (pv 1) (pv 2))))
  (af (j4 PassesOwn.never (aR t8 (pv 4) (pv 1)) (af (bF (dD (pv 3) (pv 4)))
  (ag (aN 4 nd (bN hr (Hg T) T.aE T.Ga (pv 0) (aZ (pv 4) (pv 2)))))))
  (ag (aB (pv 3)))))),?_⟩
 try dsimp only[A9]
 obtain⟨a,vs,rfl,S,pp⟩:=id hv;obtain⟨k,k1,k2,k3,k4,k5⟩:=Cd d.good w hp;have uQ:=d.bd;have k2:k<=2*(aQ s).length:=k2;have hf:∀a,a<2*(aQ s).length->nx s w a<2*(aQ s).length:=λa ha=>(Cb d.good _ ha).2;rw[k5]at q;refine⟨_,U,cu,λl hl=>?_⟩;have s1:=aa.new (o:= .lst [nI p]) hl;have jj:=bq.mono _ _ _ _ s1 hv;refine⟨_,U,a.p,_,_,U,s1 _ _ S.obj,U,_,U,_,U, .ref a.p,D,s,p,wa,w,U,jj,d,hp,s1 _ _ fG,hw,?_⟩;obtain⟨W,hW⟩:∃W:Nat->L2.St->Hp->Prop,W=λm σ' H'=>E1 λ(j:Nat)=>A6 (m=k-j) (1<=j) (j<=k) (σ'=[some (.ref a.p),some (nI p),some (.ref wa),some (.ref l),some (nI (cZ (nx s w) j p))]) (aa H H') (H' l=some (.lst (((List.range j).map λi=>cZ (nx s w) i p).map nI))):=⟨_,U⟩
 refine⟨W,⟨_,by rw[hW];exact⟨1,U,a_ _,k1,U,s1,ae⟩⟩,λm σ' H' w'=>?_⟩;rw[hW]at w';obtain⟨j,rfl,j1,j2,rfl,sm,Hh⟩:=w';refine⟨_,U,_,U,U,_,U,?_⟩;rw[show decide (nI (cZ (nx s w) j p)=nI p)=decide (cZ (nx s w) j p=p)from jH _ _];by_cases hj:cZ (nx s w) j p=p
 .have ejk:j=k:=by
   rcases pE j k with c|c
   .exact absurd hj (k4 j j1 c)
   .lia
  rw[bb hj];refine aA ⟨_,U,q l H' sm hl ?_⟩;rw[Hh,ejk]
 .rw[cO hj]
  have jlt:j<k:=by
   rcases pE j k with c|c
   .exact c
   .exfalso;apply hj;rw[show j=k by lia];exact k3
  refine aJ ?_;refine⟨_,U, .inl ⟨U,_,ab.of Hh⟩,_,U,l,_,_,U,U,Hh,dk (by simp;lia),?_⟩;have s2:=c5 (o:= .lst (((List.range j).map λi=>cZ (nx s w) i p).map nI++[nI (cZ (nx s w) j p)])) sm hl;refine⟨_,U,a.p,_,_,U,s2 _ _ S.obj,U,_,U,_,U, .ref a.p,D,s,cZ (nx s w) j p,wa,w,U,bq.mono _ _ _ _ s2 hv,d,tI hf hp j,s2 _ _ fG,hw,k-(j+1),by lia,?_⟩;rw[hW];refine⟨j+1,U,by lia,by lia,U,s2,?_⟩;rw[ae,s_];simp
inductive nS(H:Hp)(v:V)(w:List Bool):Prop
 |mk (a:Addr):v= .ref a->H a=some (.lst (w.map dy))->nS H v w
theorem nS.mono:eP nS:=λ_ _ _ _ s ⟨a,e,h⟩=>⟨a,e,s _ _ h⟩
inductive QX(vs:List V)(H:Hp)(Q:VK)(E:XK):Prop
 |mk (n:Nat):vs=[nI n]->n<=8->(∀v' H',aa H H'->cS nS H' v' (Ms n)->Q v' H')->QX vs H Q E
theorem acv{i:Nat}(h:i<=8):2^i<=256:=by
 calc 2^i<=2^8:=Nat.pow_le_pow_right (by decide) h
  _=256:=rfl
theorem acw(T:Txt K mg A):Gd P w K mg base 1 A.Fx A.d_all_switchings ["count"] QX:=by
 refine T.aaw.go (N:=["count","found","junction","longer","switching"]) ?_;rintro aC A' outer s H vs Q E hr nd ⟨n,rfl,hn,q⟩;refine⟨_,(af (aN 1 nd (aS (aj (aS bY))))
  (af (eZ PassesOwn.never U (Kk (by rfl) T.z9 (aj (pv 0))) (cx 2 nd) (af (aN 3 nd (aS bY))
  (af (eZ PassesOwn.never U (eE (pv 1)) (cx 4 nd) (af (bF (dD (pv 3) (b_ gz (pv 4) (aS (aj ak)))))
  (ag (bF (dD (pv 3) (b_ gz (pv 4) (aS (aj ak))))))))
  (ag (aN 1 nd (pv 3))))))
  (ag (aB (pv 1))))),?_⟩
 try dsimp only[A9]
 refine⟨bL _,λe he=>⟨cu,λf hf=>?_⟩⟩;have s1:aa H (upd (upd H e (.lst [])) f (.lst [.ref e])):=(aa.new he).trans (aa.new hf);refine⟨_,U,(n:Int),U,by lia,by lia,?_⟩;rw[jO];refine Ko (n:=n) (λi σ' H'=>E5 λ(fa:Addr) (u v w:Option V) (xs:List V)=>A4 (σ'=[some (nI n),some (.ref fa),u,v,w]) (aa H H') (H' fa=some (.lst xs)) (Paired (nS H') xs (Ms i))) ⟨f,none,none,none,_,U,s1,ae,qd ⟨e,U,(aa.new hf) _ _ ae⟩⟩ ?_ ?_
 .rintro i σ' H' hi ⟨fa,u,v,w,xs,rfl,sm,fF,cg⟩
  have jh:=ck cg;rw[CD]at jh;have hpw:=acv (i:=i) (by lia);refine⟨bL _,λl hl=>?_⟩;have s2:=aa.new (o:= .lst []) hl;refine⟨_,U,fa,U,⟨_,ab.of (s2 _ _ fF)⟩,gL (xs:=xs) (λj σ2 H2=>E2 λ(u:Option V) (ys:List V)=>A5 (σ2=[some (nI n),some (.ref fa),some (.int (0+(i:Int))),some (.ref l),u]) (aa H' H2) (H2 l=some (.lst ys)) (Paired (nS (Wo (λb=>b=l) H2)) ys (((Ms i).take j).flatMap λw=>[w++[false],w++[true]])) (ys.length=2*j))
   ⟨w,[],U,s2,ae, .nil,U⟩ (λj σ2 H2 _ ⟨_,_,_,jM,_,_,_⟩=>ab.of (jM _ _ fF)) ?_ ?_⟩
  .rintro j x σ2 H2 hx ⟨u,ys,rfl,jM,fh,lC,h_⟩
   obtain⟨bw,QY,g,rfl,hg⟩:=fB cg hx;have hj:=dm hx;have hbl:=vG i bw (cN QY);have aH:Hid (λb=>b=l) H2:=λb hb e=>by rw[hb,fh]at e;cases e
   have kz:=jM _ _ hg;have ngl:g≠l:=bS hg hl;refine⟨_,U, .inl ⟨U,_,ab.of fh⟩,_,U,cu,λm hm=>?_⟩;have s3:=aa.new (o:= .lst [V.int 0]) hm;refine⟨g,m,_,_,U,U,s3 _ _ kz,ae,fC (by simp;lia),λc hc=>?_⟩;have s4:=aa.new (o:= .lst (bw.map dy++[V.int 0])) hc;have xu:=s3.trans s4;have hcw:Wo (λb=>b=l) (upd (upd H2 m (.lst [V.int 0])) c (.lst (bw.map dy++[V.int 0]))) c=some (.lst (bw.map dy++[V.int 0])):=e9 (aH.mono s3) hc;refine⟨l,_,_,U,U,xu _ _ fh,dk (by lia),?_⟩;have w34:=bV (P:=λb=>b=l) xu;have eW:∀o,Wo (λb=>b=l) (upd (upd (upd H2 m (.lst [V.int 0])) c (.lst (bw.map dy++[V.int 0]))) l o)=Wo (λb=>b=l) (upd (upd H2 m (.lst [V.int 0])) c (.lst (bw.map dy++[V.int 0]))):=λo=>dP U;have acy:=(aH.mono xu)
   have G3:∀o,upd (upd (upd H2 m (.lst [V.int 0])) c (.lst (bw.map dy++[V.int 0]))) l o g=some (.lst (bw.map dy)):=λo=>by rw[aD ngl];exact xu _ _ kz
   have sm4:∀o,aa H' (upd (upd (upd H2 m (.lst [V.int 0])) c (.lst (bw.map dy++[V.int 0]))) l o):=λo=>c5 (jM.trans xu) hl;have acA:∀o,Hid (λb=>b=l) (upd (upd (upd H2 m (.lst [V.int 0])) c (.lst (bw.map dy++[V.int 0]))) l o):=λo=>acy.upd;refine⟨_,U, .inl ⟨U,_,ab.of ae⟩,_,U,cu,λm2 oq=>?_⟩;have s5:=aa.new (o:= .lst [V.int 1]) oq;refine⟨g,m2,_,_,U,U,s5 _ _ (G3 _),ae,fC (by simp;lia),λc2 jI=>?_⟩;have s6:=aa.new (o:= .lst (bw.map dy++[V.int 1])) jI;have mE:=s5.trans s6;refine⟨l,_,_,U,U,mE _ _ ae,dk (by simp;lia),_,(ys++[.ref c])++[.ref c2],U,c5 ((sm4 _).trans mE) hl,ae,?_,by simp;lia⟩;rw[dP (P:=λb=>b=l) U,iy QY,pG,gC ys];have w56:=bV (P:=λb=>b=l) mE;rw[eW]at w56;refine qc (bO (λ_ _ r=>nS.mono _ _ _ _ (w34.trans w56) r) lC) ?_;refine .cons ⟨c,U,?_⟩ (.cons ⟨c2,U,?_⟩ .nil)
   .rw[w56 _ _ hcw,iD];rfl
   .rw[e9 ((acA _).mono s5) jI,iD];rfl
  .rintro σ2 H2 ⟨u,ys,rfl,jM,fh,lC,h_⟩
   have acB:=ck cg;rw[acB,lH,<-JA]at lC;exact⟨_,U,l,_,_,_,ys,U,sm.trans jM,fh,bO (λ_ _ r=>nS.mono _ _ _ _ (bB _ _) r) lC⟩
 .rintro σ' H' ⟨fa,u,v,w,xs,rfl,sm,fF,cg⟩
  exact⟨_,U,q _ _ sm ⟨fa,xs,U,fF,cg⟩⟩
noncomputable def mM(s:Net)(w:List Bool):Bool:=decide ((Vanetg.trip s w 0).length<2*(aQ s).length)
inductive QZ(A:aF)(vs:List V)(H:Hp)(Q:VK)(E:XK):Prop
 |mk (v:V) (D:dn) (s:Net):vs=[v]->bq A H v D->dF s D->0<(aQ s).length->(Mg s).length<=8->(∀v' H',aa H H'->gP nS H' v' ((Ms (Mg s).length).find? (mM s))->Q v' H')->QZ A vs H Q E
theorem Q0(T:Txt K mg A):Gd P w K mg base 6 A.Fy A.d_first_bad_switching ["points"] (QZ A):=by
 refine T.aax.go (N:=["points","switching"]) ?_;rintro aC A' outer s H vs Q E hr nd ⟨v,D,s,rfl,hv,d,afz,hj,q⟩;refine⟨_,(af (eZ PassesOwn.never U (eE (aP hr (acw T) T.YW (aj (ao (pv 0))))) (cx 1 nd) (ag (a9 (aR iq (dw T.c6 (bN hr (AW T) T.aE T.Ad (pv 0) (aZ ak (pv 1)))) (dO hr (Hd T) T.aE T.F_ (pv 0))) (ag (aB (pv 1))) bt)))
  (ag (aB ja))),?_⟩
 try dsimp only[A9]
 obtain⟨a,vs,rfl,S,pp⟩:=id hv;have uQ:=d.bd;refine⟨_,U,_,_,_,_,_,U,S.obj,T.aE,T.qo,U,(Mg s).length,by rw[d.arr.jc];rfl,hj,λv1 H1 s1 h1=>?_⟩;obtain⟨fa,xs,rfl,fF,cg⟩:=h1;have jh:=ck cg;refine⟨fa,U,⟨_,ab.of fF⟩,gL (xs:=xs) (λi σ' H'=>E1 λu=>A3 (σ'=[some (.ref a.p),u]) (aa H1 H') ((Ms (Mg s).length).find? (mM s)=((Ms (Mg s).length).drop i).find? (mM s))) ⟨none,U,aa.refl _,by rw[mT]⟩ (λi σ' H' _ ⟨_,_,sm,_⟩=>ab.of (sm _ _ fF)) ?_ ?_⟩
 .rintro i x σ' H' hx ⟨u,rfl,sm,hf⟩
  obtain⟨w,hw,g,rfl,hg⟩:=fB cg hx;have hi:=dm hw;have ke:=vG _ w (cN hw);have hd:(Ms (Mg s).length).drop i=w::(Ms (Mg s).length).drop (i+1):=by have e:=(da.mp hw).2;rw[kM hi,e]
  rw[hd,oj]at hf;have xw:=s1.trans sm;refine⟨_,U,a.p,_,_,U,xw _ _ S.obj,U,_,U, .ref a.p,D,s,0,g,w,U,bq.mono _ _ _ _ xw hv,d,by lia,sm _ _ hg,ke,λt H2 s2 _ ht=>?_⟩;have jM:=xw.trans s2;refine⟨t,_,U, .inl (ab.of ht),_,U,a.p,_,_,U,jM _ _ S.obj,U, .ref a.p,D,s,U,bq.mono _ _ _ _ jM hv,d,_,_,U,U,_,U,?_⟩;have e0:decide ((((Vanetg.trip s w 0).map nI).length:Int)<(MB s:Int))=mM s w:=by unfold mM;rw[aX];exact decide_eq_decide.mpr (by unfold MB aQ;lia)
  rw[e0];cases zE:mM s w with
  |true=>rw[zE]at hf;refine aJ ⟨_,U,q _ _ jM ?_⟩;rw[hf];exact⟨g,U,s2 _ _ (sm _ _ hg)⟩
  |false=>rw[zE]at hf;exact aA ⟨_,U,sm.trans s2,hf⟩
 .rintro σ' H' ⟨u,rfl,sm,hf⟩
  rw[jh,mY]at hf;refine q _ _ (s1.trans sm) ?_;rw[hf];rfl
inductive Q1(A:aF)(vs:List V)(H:Hp)(Q:VK)(E:XK):Prop
 |mk (v:V) (D:dn) (s:Net):vs=[v]->bq A H v D->dF s D->(Mg s).length<=8->(∀H',aa H H'->Q (.bl (Nv s)) H')->Q1 A vs H Q E
theorem acC(n:Nat):Ms n≠ []:=by intro h;have:=CD n;rw[h]at this;have h2:=Nat.two_pow_pos n;rw[lF]at this;lia
theorem acD{s:Net}(g:Good s)(hp:0<(aQ s).length):Nv s=((Ms (Mg s).length).find? (mM s)).isNone:=by
 unfold Nv;have e:∀w,abh s w= !mM s w:=λw=>JB g w hp;generalize Ms (Mg s).length=l;induction l with
 |nil=>rfl
 |cons w r ih=>
  rw[iG,e w,oj];cases mM s w with
  |true=>rfl
  |false=>simp only[x_,n6];exact ih
theorem acE{s:Net}(hp:(aQ s).length=0):Nv s=false:=by
 unfold Nv;have e:∀w,abh s w=false:=λw=>by
  unfold abh;have:(Vanetc.points s).isEmpty=true:=by have:Vanetc.points s=[]:=uW.mp hp;rw[this];rfl
  rw[this];rfl
 cases h:Ms (Mg s).length with
 |nil=>exact absurd h (acC _)
 |cons w r=>rw[iG,e w];rfl
theorem acF(T:Txt K mg A):Gd P w K mg base 7 A.Fz A.d_is_net ["points"] (Q1 A):=by
 refine T.aay.go (N:=["points"]) ?_;rintro aC A' outer s H vs Q E hr nd ⟨v,D,s,rfl,hv,d,hj,q⟩;refine⟨_,(ag (aB (vQ (bN hr (Hf T) T.aE T.F9 (pv 0) (aj ak)) (rB (lu rL (aP hr (Q0 T) T.Od (aj (pv 0))) ja))))),?_⟩
 try dsimp only[A9]
 obtain⟨a,vs,rfl,S,pp⟩:=id hv;refine⟨_,U,a.p,_,_,U,S.obj,U, .ref a.p,D,s,0,U,hv,d,_,U,?_⟩;by_cases hp:0<(aQ s).length
 .have e:below 0 (MB s)=true:=by
   unfold below MB;have hp:0<(Vanetc.points s).length:=hp;rw[bb (by lia),bb (by lia)];rfl
  rw[e];refine aJ ⟨_,U, .ref a.p,D,s,U,hv,d,hp,hj,λv1 H1 s1 h1=>⟨U,?_⟩⟩;have:=q H1 s1;rw[acD d.good hp]at this;rw[xh (R:=nS) (λx h=>by obtain⟨g,rfl,_⟩:=h;intro z;cases z) h1];exact this
 .have hp:(aQ s).length=0:=by lia
  have e:below 0 (MB s)=false:=by unfold below MB;have hp:(Vanetc.points s).length=0:=hp;rw[cO (p:=(0:Int)<((2*(Vanetc.points s).length:Nat):Int)) (by lia),pz]
  rw[e];have:=q H (aa.refl _);rw[acE hp]at this;exact aA this
end
end PP
namespace PySem
theorem acG:typeLookup (.type "list_reverseiterator") "__len__"=pure none:=by rw[typeLookup_type,builtinLookup_eq_fast];kernel_rfl
theorem acH:typeLookup (.type "list_reverseiterator") "__length_hint__"=pure (some (.builtin "list_reverseiterator.__length_hint__")):=by rw[typeLookup_type,builtinLookup_eq_fast];kernel_rfl
section
variable{prog:Mb}{w:L9}{A:Mf}{E:cp->me->Prop}{s:me}
theorem acI{it l:Addr}{i:Int}{Q:Bool->me->Prop}(hit:s.heap.IsRevIter it l i)(h:Q false s):L3 (L1 prog w) A (Builtin.List.listLengthHint (.ref it)) Q E s:=by
 unfold Builtin.List.listLengthHint;refine Mn (wpAny_specialOf hit.typeIs acG ?_);refine Mn (m:=specialOf (Value.ref it) (Str.ofString "__length_hint__")) (wpAny_specialOf hit.typeIs acH ?_);generalize aH:("list_reverseiterator.__length_hint__":String)=id0
 wp_delta
 rw[show splitId id0=some ("list_reverseiterator","__length_hint__")from by subst aH;decide+kernel];subst aH;refine Mn (wpAny_isInstance (T:="list_reverseiterator") (b:=true) hit.typeIs (by rw[isSubtype_type];kernel_rfl) ?_);refine acr (λg_=>absurd g_ (by decide)) (λ_=>?_);refine acr (λ_=>?_) (λg_=>absurd (by decide+kernel) g_);refine acr (λg_=>absurd g_ (by decide+kernel)) (λ_=>?_);exact MD h
theorem acK{R:Result->me->Prop}{it l:Addr}{items:Array cp}(hh:A.handled=none)(hit:s.heap.IsRevIter it l ((items.size:Int)-1))(hl:s.heap.IsList l items)(xx:l≠it)(hn:items.size<=sizeLine)(S:Addr)(hSi:S≠it)(hSl:S≠l)(res:cp)(c₀:Nat)(hS:s.heap.get? S=some {cls:= .type "list",data:= .seq #[] c₀})
  (hR:∀h' tk acc' c',(∀b o,b≠S->b≠it->s.heap.get? b=some o->h'.get? b=some o)->h'.get? S=some {cls:= .type "list",dict:=none,data:= .seq acc' c',slots:= #[]}->
   ItemsOf (λi v=>items[items.size-1-i]? =some v) acc' items.size->R (.ok (.ret res)) {s with heap:=h',toks:=tk}):
  L3 (L1 prog w) A.in1 (Builtin.List.listExtendWith (.ref S) (.ref it) res)
   (λfin s'=>match fin with| .done f=>R (.ok f) s'| .again c'=>c'.quiet=true/\ Nb (L1 prog w) A c' R s') (λe s'=>R (.error e) s') s:=by
 have W:=(Walks.listRev (prog:=prog) (w:=w) (A:=A.in1) hh it l xx items).toS;unfold Builtin.List.listExtendWith;refine Mn (wpAny_typeOf (T:="list_reverseiterator") hit.typeIs ?_);have h1:Builtin.List.listSameRef (.ref S) (.ref it)=false:=by simp[Builtin.List.listSameRef,hSi]
 have h2:(Value.type "list_reverseiterator"==Value.type "list")=false:=by decide
 have h3:(Value.type "list_reverseiterator"==Value.type "tuple")=false:=by decide
 simp only[h1,h2,h3,sT,pH,if_false];refine Mn (adM hit ?_);refine Mn (abY (acI hit ?_));refine acr (λg_=>absurd g_ (by decide+kernel)) (λ_=>MD ⟨plainId_quiet F.plain_extend_loop _,?_⟩);refine codeAny_extend_loopS W hn S (by simp;exact⟨hSi,hSl⟩) res items.size 0 _ #[] c₀ U (bL _) ⟨bL _,by simpa using hit,hl⟩ hS (ItemsOf.nil _) λs' acc' c' hm xy cH=>?_;rw[Moved.eq_with hm];exact hR s'.heap s'.toks acc' c' (λb o hb xr e=>hm.heap b o (by simp;exact⟨hb,xr⟩) e) xy cH
theorem acL{R:Result->me->Prop}{it l:Addr}{items:Array cp}(hh:A.handled=none)(hit:s.heap.IsRevIter it l ((items.size:Int)-1))(hl:s.heap.IsList l items)(xx:l≠it)(hn:items.size<=sizeLine)(S:Addr)(hSi:S≠it)(hSl:S≠l)(hS:s.heap.get? S=some {cls:= .type "list",data:= .seq #[]})
  (hR:∀h' tk acc' c',(∀b o,b≠S->b≠it->s.heap.get? b=some o->h'.get? b=some o)->h'.get? S=some {cls:= .type "list",dict:=none,data:= .seq acc' c',slots:= #[]}->
   ItemsOf (λi v=>items[items.size-1-i]? =some v) acc' items.size->R (.ok (.ret .none)) {s with heap:=h',toks:=tk}):
  L3 (L1 prog w) A.in1 (Builtin.«list.__init__» ⟨[.ref S, .ref it],[]⟩)
   (λfin s'=>match fin with| .done f=>R (.ok f) s'| .again c'=>c'.quiet=true/\ Nb (L1 prog w) A c' R s') (λe s'=>R (.error e) s') s:=by
 show L3 _ _ (do let old<-Builtin.List.listItems (.ref S);Builtin.List.listUpdate (.ref S) (λ_=> #[]);letGo old.toList.reverse;Builtin.List.listExtendWith (.ref S) (.ref it) .none) _ _ s;refine Mn ?_;unfold Builtin.List.listItems;refine Mn (wpAny_seqItems hS U (MD ?_));show L3 _ _ (updateSeq S (λ_=> #[])>>=λ_=>letGo (#[]:Array cp).toList.reverse>>=λ_=>Builtin.List.listExtendWith (.ref S) (.ref it) .none) _ _ s;refine Mn (wpAny_updateSeq hS U ?_);have hS₂:=Heap.get?_update_self (Obj.mapSeq (λ_=>(#[]:Array cp))) hS U;have oth:∀b o,b≠S->s.heap.get? b=some o->(s.heap.update S (Obj.mapSeq (λ_=>(#[]:Array cp)))).get? b=some o:=λb o hb e=>(Heap.get?_update_other _ _ (Ne.symm hb)).trans e
 refine Mn (wpAny_letGo ?_);refine acK hh (hit.at λo e=>oth it o (Ne.symm hSi) e) (by obtain⟨o,e,r⟩:=hl;exact⟨o,oth l o (Ne.symm hSl) e,r⟩) xx hn S hSi hSl .none _ hS₂ λh' tk acc' c' hk xy cH=>?_;exact hR h' tk acc' c' (λb o hb xr e=>hk b o hb xr (oth b o hb e)) xy cH
theorem acM{Q:cp->me->Prop}{it l:Addr}{items:Array cp}(hh:A.handled=none)(hit:s.heap.IsRevIter it l ((items.size:Int)-1))(hl:s.heap.IsList l items)(xx:l≠it)(hn:items.size<=sizeLine)
  (hQ:∀h' tk acc' c',(∀b o,b≠it->s.heap.get? b=some o->h'.get? b=some o)->
   h'.get? s.heap.objs.size=some {cls:= .type "list",dict:=none,data:= .seq acc' c',slots:= #[]}->ItemsOf (λi v=>items[items.size-1-i]? =some v) acc' items.size->Q (.ref s.heap.objs.size) {s with heap:=h',toks:=tk}):
  L3 (L1 prog w) A (call (.type "list") [.ref it]) Q E s:=by
 refine callType_codes (Q₁:=λobj s₁=>obj= .ref s.heap.objs.size/\ s₁={s with heap:=s.heap.push {cls:= .type "list",data:= .seq #[]}}) F.called_list (F.typeCall_list_1 _) F.entry_list_init
  (code_list_new _ ⟨U,U⟩) λobj s₁ h₁=>?_
 obtain⟨rfl,rfl⟩:=h₁;have hS:(s.heap.push {cls:= .type "list",data:= .seq #[]}).get? s.heap.objs.size=some {cls:= .type "list",data:= .seq #[]}:=Heap.get?_push_size _ U;have nit:s.heap.objs.size≠it:=λc=>by obtain⟨o,e,_⟩:=hit;exact lG _ (c▸Heap.lt_size e)
 have nl:s.heap.objs.size≠l:=λc=>by obtain⟨o,e,_⟩:=hl;exact lG _ (c▸Heap.lt_size e)
 refine⟨⟨_,hS,U⟩,F.args_list_init_2 _ _,acL (A:=A.in1) hh (hit.at λo e=>Heap.get?_push_of_some _ e) (by obtain⟨o,e,r⟩:=hl;exact⟨o,Heap.get?_push_of_some _ e,r⟩) xx hn _ nit nl hS λh' tk acc' c' hk xy cH=>?_⟩;exact⟨U,hQ h' tk acc' c' (λb o hb e=>hk b o (gE (Heap.lt_size e)) hb (Heap.get?_push_of_some _ e)) xy cH⟩
end
end PySem
namespace L2
open PySem PySem.Spec PyProof.Rows
theorem Q2:MI "list"=some (.type "list"):=by first|rfl|decide+kernel
theorem acN:MI "set"=some (.type "set"):=by first|rfl|decide+kernel
def acO(K:FU)(te:TE):TE:=λσ H Q=>te σ H λx H1=>∃(a:Addr) (xs:List V),x= .ref a/\ ab K H1 a xs/\ ∀l,H1 l=none->Q (.ref l) (upd H1 l (.lst xs.reverse))
section
variable{X:Cx}
theorem acP{xs:List V}{ai:List cp}(rv:Vals xs ai)(acc:Array cp)(h:ItemsOf (λi v=>ai.toArray[ai.toArray.size-1-i]? =some v) acc ai.toArray.size):Vals xs.reverse acc.toList:=by
 have e:acc.toList=ai.reverse:=by
  obtain⟨h1,h2⟩:=h;simp only[eM]at h1 h2;apply yc;intro i;by_cases hi:i<ai.length
  .have uR:i<acc.size:=by lia
   have:=h2 i acc[i] (by simp[uR]);rw[x4 hi];rw[show acc.toList[i]? =some acc[i] by simp[uR]];simpa using this.symm
  .rw[kN (by simp;lia),kN (by simp;lia)]
 rw[e];exact PP.DW rv
theorem acQ{e:Lj}{te:TE}{p pos p' pos':Pos}(hgL:Gl X "list")(hmL:X.mg "list"=none)(hgR:Gl X "reversed")(hmR:X.mg "reversed"=none)(hc:X.calm=true)(he:PE X e te)
  (hs:autoParam (Ma [e] X.env=[(false,L6 e X.env)]) L'._auto_1) (vW:autoParam (Ma [.Call (.Name "reversed" p') [e] [] pos'] X.env=[(false,L6 (.Call (.Name "reversed" p') [e] [] pos') X.env)]) L'._auto_1):
  PE X (.Call (.Name "list" p) [.Call (.Name "reversed" p') [e] [] pos'] [] pos) (acO X.K te):=by
 intro pins s σ H Q I h;refine Nz (oC I hgL hmL Q2 ?_);refine PyProof.Rows.callWith_type1 ?_ vW U;rw[vW];show L3 _ _ (spliced ((false,L6 (.Call (.Name "reversed" p') [e] [] pos') X.env)::Mw pos [])) _ _ s;refine Calls.spliced_cons ?_;refine Nz (oC I hgR hmR Ls ?_);refine PyProof.Rows.callWith_type1 ?_ hs U;rw[hs];show L3 _ _ (spliced ((false,L6 e X.env)::Mw pos' [])) _ _ s;refine Calls.spliced_cons (aV (he pins s σ H _ I h) λu s1 ⟨x,H1,I1,r1,q1⟩=>?_);refine Calls.spliced_nil ?_;obtain⟨a,xs,rfl,hq,q⟩:=q1;cases r1;obtain⟨ai,rv,p',hz⟩:=I1.list hq;have hl:=rv.length;refine call_reversed_list p'.isList ?_;refine Calls.spliced_nil ?_;have I2:Inv X pins σ H1 {s1 with heap:=s1.heap.push {cls:= .type "list_reverseiterator",data:= .fields #[.ref a,rawInt (((ai.toArray.size:Nat):Int)-1)]}}:=I1.kept (t':=s1.toks) λb o e=>Heap.get?_push_of_some _ e;have ha:a<s1.heap.objs.size:=by obtain⟨o,e,_⟩:=p'.isList;exact Heap.lt_size e
 refine acM (l:=a) (items:=ai.toArray) (I1.ok.hd hc) ⟨_,Heap.get?_push_size _ U,U,U⟩ (by obtain⟨o,e,r⟩:=p'.isList;exact⟨o,Heap.get?_push_of_some _ e,r⟩) (gE ha) (by simp only[eM];lia) λh' tk acc' c' hk hS cH=>?_;have hf:∀b∈ [s1.heap.objs.size],j6 X pins H1 b:=λb hb=>by
  have e:b=s1.heap.objs.size:=by simpa using hb
  subst e;exact I1.rH (a_ _) (I1.aK.fresh (a_ _))
 have nT:=I2.aK.fresh (a_ _);exact⟨.ref _,_,I2.DR (ch:=[s1.heap.objs.size]) (λb o hb e=>hk b o (by simpa using hb) e) hf (a_ _)
  (show dU X.prog X.w _ _ _ (.lst xs.reverse)from⟨by rw[uZ];exact hz,acc'.toList,c',acP rv acc' cH,by simpa using hS⟩),U,q _ nT⟩
theorem acR:jD X (.type "range") (λxs H Q=>∃n:Int,xs=[.int n]/\ ∀r,H r=none->Q (.ref r) (upd H r (.rk 0 n))):=by intro pins s σ H xs us Q I r h;obtain⟨n,rfl,q⟩:=h;obtain⟨u,rfl,rx⟩:=vals1 r;obtain⟨t,rfl⟩:=rx;refine call_range_1 ?_;exact⟨.ref _,_,I.laid (t':=s.toks+1+1) (λb u e=>Heap.get?_push_of_some _ e) (a_ _) (show dU X.prog X.w _ _ _ (.rk 0 n)from⟨_,_,_,Heap.get?_push_size _ U⟩),U,q _ (I.aK.fresh (a_ _))⟩
theorem acS(hc:X.calm=true):jD X (.type "list") (λxs H Q=>∃(r:Addr) (n:Nat),xs=[.ref r]/\ H r=some (.rk 0 (n:Int))/\ n<=100000/\ ∀l,H l=none->Q (.ref l) (upd H l (.lst ((List.range n).map λi:Nat=>V.int (i:Int))))):=by
 intro pins s σ H xs us Q I r h;obtain⟨a,n,rfl,hq,hn,q⟩:=h;obtain⟨u,rfl,rx⟩:=vals1 r;cases rx;obtain⟨t,u,v,e⟩:=I.aK a _ hq;refine call_list_range (a:=0) (b:=n) (c:=1) (n:=n) (I.ok.hd hc) e (small_one (by lia) (by lia) (by lia) (by lia)) (by rw[rangeSize_one];split<;>lia) (by lia) λh' tk acc' c' hk hS cH=>?_;obtain⟨h1,h2⟩:=cH;have rv:Vals ((List.range n).map λi:Nat=>V.int (i:Int)) acc'.toList:=by
  have:∀(m:Nat) (us:List cp),us.length=m->(∀(j:Nat) v,us[j]? =some v->∃t,v=Value.int (0+(j:Int)*1) t)->Vals ((List.range m).map λi:Nat=>V.int (i:Int)) us:=by
   intro m;induction m with
   |zero=>intro us e _;rw[uW.mp e];exact .nil
   |succ m ih=>
    intro us e hj;have hm:m<us.length:=by lia
    have e2:us=us.take m++[us[m]]:=by rw[List.take_append_getElem hm,qM (by lia)]
    rw[e2,s_,iD];refine Vals.append (ih _ (by rw[n9];lia) λj v hv=>?_) ?_
    .have IQ:j<m:=by
      have:=(da.mp hv).1;rw[n9]at this;lia
     rw[ae9 IQ]at hv;exact hj j v hv
    .obtain⟨t,ht⟩:=hj m us[m] (by simp[hm])
     refine .cons ⟨t,?_⟩ .nil;rw[ht];simp
  refine this n _ (by simpa using h1) λj v hv=>h2 j v (by simpa using hv)
 exact⟨.ref _,_,I.laid (t':=tk) hk (a_ _) (show dU X.prog X.w _ _ _ (.lst _)from⟨by rw[aX,afh,ab8];lia,acc'.toList,c',rv,by simpa using hS⟩),U,q _ (I.aK.fresh (a_ _))⟩
noncomputable def firstM(ns:List Int):List Int:=firstMet (λi=>ns.getD i 0) ns.length
theorem acT(hc:X.calm=true):jD X (.type "set") (λxs H Q=>∃(a:Addr) (ns:List Int),xs=[.ref a]/\ ab X.K H a (ns.map V.int)/\ ns.length<=4000/\ ∀l,H l=none->Q (.ref l) (upd H l (.set (λk'=>(firstM ns).any (·==k')) (firstM ns).length))):=by intro pins s σ H xs us Q I r h;obtain⟨a,ns,rfl,hq,hn,q⟩:=h;obtain⟨u,rfl,rx⟩:=vals1 r;cases rx;obtain⟨ai,rv,pl,hz⟩:=I.list hq;have hl:=rv.length;rw[aX]at hl;refine PySem.call_set_list (ns:=ns) (I.ok.hd hc) pl.isList (by simpa using intsAre_of rv) (by simp only[eM];rw[<-hl];have:scanBound=4096:=rfl;lia) λh' tk hS hk=>?_;simp only[eM,<-hl]at hS;exact⟨.ref _,_,I.laid (t':=tk) (λb o e=>hk b o (Heap.lt_size e) e) (a_ _) (show dU X.prog X.w _ _ _ (.set _ _)from hS),U,q _ (I.aK.fresh (a_ _))⟩
theorem acU:jD X (.builtin "len") (λxs H Q=>∃(a:Addr) (S:Int->Bool) (n:Nat),xs=[.ref a]/\ H a=some (.set S n)/\ Q (.int n) H):=by intro pins s σ H xs us Q I r h;obtain⟨a,S,n,rfl,hq,q⟩:=h;obtain⟨u,rfl,rx⟩:=vals1 r;cases rx;obtain⟨o,es,ep,t,e1,e2,e3,e4,e5,e6,e7,e8⟩:=I.aK a _ hq;refine call_len_set e1 e2 e3 e7 (by have:scanBound=4096:=rfl;lia) ?_;exact⟨.int n,_,I.tok _,⟨_,by rw[e8]⟩,q⟩
end
end L2
namespace PP
open PySem PySem.Spec PyProof.Rows L2 PM
open Vaneta (Formula Text Name isSmall isWord isName cutAt multiplicative nodes form deep paren Token dual inBounds)
open Vanetc (isDigit formulas partsOf together switchings pars rootsFrom decimal countParts)
open Vanetg (below junctions comesOut tellLeaf passages theLeaf withSwitches toldPlace placesOf does allLong switchAt behindUp given)
section
variable{P:Mb}{w:L9}{K:FU}{mg:Str->Option cp}{base:Heap}{A:aF}
theorem acV{s:Net}{D:dn}(d:dF s D){n k m:Nat}(hn:n<(aQ s).length)(h1:D.1.nodes[n]? =some (k,[]))(hk:k=2\/k=3)(h2:D.1.seconds[n]? =some (m:Int)):jL s n (n+1) m:=by
 have fH:(aQ s)[n]? =some (aQ s)[n]:=cC hn;generalize (aQ s)[n]=pt at fH;cases pt with
 |leaf=>obtain⟨⟨x,hx,qD⟩,_⟩:=d.arr.leaf fH;have e:(k,[])=x:=aM (h1.symm.trans hx);rw[<-e]at qD;have qD:k<2:=qD;lia
 |tensor l r=>
  obtain⟨e1,e2,_⟩:=jL.arr d (j:=n) (l:=l) (r:=r) (.inl fH);have e3:(m:Int)=(r:Int):=aM (h2.symm.trans e2);have e4:m=r:=by lia
  subst e1 e4;exact .inl fH
 |par l r=>
  obtain⟨e1,e2,_⟩:=jL.arr d (j:=n) (l:=l) (r:=r) (.inr fH);have e3:(m:Int)=(r:Int):=aM (h2.symm.trans e2);have e4:m=r:=by lia
  subst e1 e4;exact .inr fH
noncomputable def mI:Option Nat->V
 |some n=>nI n
 |none=> .int (-1)
theorem acW(z:Int):gj (.int z) [.int 0, .int 1]=(decide (z=0)||decide (z=1)):=by rw[QQ];congr 1<;>(rw[js];simp)
theorem Q3{A:Formula}(hm:multiplicative A=true):(∃B C k,(A= .tensor B C/\ k=2\/A= .par B C/\ k=3))\/(∃x,(enc A)[0]? =some x/\ x.1<2)/\ ∀p,desc A p=match p with|[]=>some 0|_::_=>none:=by
 cases A with
 |atom n b=>right;exact⟨⟨_,U,by show(if n=true then 1 else 0)<2;split<;>decide⟩,λp=>by cases p<;>rfl⟩
 |tensor B C=>exact .inl ⟨B,C,2, .inl ⟨U,U⟩⟩
 |par B C=>exact .inl ⟨B,C,3, .inr ⟨U,U⟩⟩
 |wth B C|plus B C|ofc B|whn B=>simp[multiplicative]at hm
inductive Q4(A:aF)(vs:List V)(H:Hp)(Q:VK)(E:XK):Prop
 |mk (v:V) (D:dn) (s:Net) (f r:Nat) (F:Formula) (pa:Addr) (zs:List Int):vs=[v,nI f, .ref pa]->bq A H v D->dF s D->(tQ s)[f]? =some F->(dR s)[f]? =some r->H pa=some (.lst (zs.map V.int))->zs.length<=10000->(∀H',aa H H'->Q (mI ((desc F zs).map (r+·))) H')->Q4 A vs H Q E
theorem acX(T:Txt K mg A):Gd P w K mg base 2 A.EZ A.d_atom_at ["points","formula","place"] (Q4 A):=by
 refine T.Z6.go (N:=["points","formula","place","at","side"]) ?_;rintro aC A' outer s H vs Q E hr nd ⟨v,D,s,f,r,F,pa,zs,rfl,hv,d,hF,d7,gR,nE,q⟩;refine⟨_,(af (aN 3 nd (aT (ao (pv 0)) (pv 1)))
  (af (eZ PassesOwn.never U (eE (pv 2)) (cx 4 nd) (af (a9 (PW.pt (kW (ij (dC (aP hr (mx T) T.mr (aj (aT (ao (pv 0)) (pv 3)))))) (oE (aR VP (pv 4) (gh (aZ ak ak)))))) (ag (aB (il ip ak))) bt)
  (ag (aN 3 nd (bN hr (qE T) T.aE T.qj (pv 0) (aZ (pv 3) (pv 4)))))))
  (ag (aB (kX (dC (aP hr (mx T) T.mr (aj (aT (ao (pv 0)) (pv 3))))) (il ip ak) (pv 3)))))),?_⟩
 try dsimp only[A9]
 obtain⟨a,vs,rfl,S,pp⟩:=id hv;have mJ:D.2.2.1[f]? =some r:=by rw[d.ro];exact d7
 refine⟨_,U,_,_,_,_,_,U,S.obj,T.aE,T.oX,U,_,U,a.l8,_,_,_,U,U,ab.of (S.get 8 U U),bH (kC mJ),?_⟩;have sub0:lU D.1.nodes D.1.seconds r F:=by rw[d.nd,d.se];exact lU.of d.good.mul hF d7
 have sC:r<(aQ s).length:=by have h:=m8 _ _ r (cN d7);have e:(aQ s).length=bf (tQ s):=jV _ _ d.good.mul;lia
 refine⟨_,U,pa,U,⟨_,ab.of gR⟩,gL (xs:=zs.map V.int) (λi σ' H'=>E3 λ(u:Option V) (n:Nat) (C:Formula)=>A4 (σ'=[some (.ref a.p),some (nI f),some (.ref pa),some (nI n),u]) (aa H H') (lU D.1.nodes D.1.seconds n C) ((desc F zs).map (r+·)=(desc C (zs.drop i)).map (n+·)))
  ⟨none,r,F,U,aa.refl _,sub0,by rw[mT]⟩ (λi σ' H' _ ⟨_,_,_,_,sm,_,_⟩=>ab.of (sm _ _ gR)) ?_ ?_⟩
 .rintro i x σ' H' hx ⟨u,n,C,rfl,sm,sub,he⟩
  obtain⟨z,hz,rfl⟩:=lB hx;have hi:=dm hz;have sf:zs.drop i=z::zs.drop (i+1):=by have e:=(da.mp hz).2;rw[kM hi,e]
  rw[sf]at he;obtain⟨nd',gb,Hi⟩:=sub.head;obtain⟨nv,sF,g,w,rfl,hg,_⟩:=oT pp gb;have gO:=xq d nd' (cN gb);refine⟨_,U,_,_,_,_,_,U,sm _ _ S.obj,T.aE,T.kj,U,_,U,a.l0,_,_,_,U,U,ab.of (sm _ _ (S.get 0 U U)),bH sF,g,nd'.1,_,U,sm _ _ hg,_,U,?_⟩;rw[nH gO];have hnl:n<(aQ s).length:=by rw[<-d.arr.ln];exact dm gb
  rcases Q3 sub.mul with⟨B,C',k,hC⟩|⟨⟨y,hy,hy2⟩,iX⟩
  .obtain⟨t1,t2,t3,t4⟩:=sub.two hC
   have hk:k=2\/k=3:=by rcases hC with⟨_,h⟩|⟨_,h⟩<;>lia
   have en:nd'=(k,[]):=aM (gb.symm.trans t1);have ej:bR nd'=true:=by rw[en];unfold bR;exact bb (by show 2<=k;lia)
   have hJ:=acV d hnl t1 hk t2;have iX:desc C (z::zs.drop (i+1))=if z=0 then(desc B (zs.drop (i+1))).map (·+1)else if z=1 then(desc C' (zs.drop (i+1))).map (·+(1+nodes B))else none:=by rcases hC with⟨rfl,_⟩|⟨rfl,_⟩<;>rfl
   rw[iX]at he;rw[ej];refine aA ⟨_,U,gm,λt ht=>⟨t,_,U, .inr (bx.of ae),U,U,_,U,?_⟩⟩;have s2:=sm.trans (aa.new (o:= .tup [V.int 0,V.int 1]) ht);rw[show(if true=true then !gj (.int z) [.int 0, .int 1]else gj (.int z) [.int 0, .int 1])= !gj (.int z) [.int 0, .int 1]from rfl,acW];by_cases h0:z=0
   .subst h0
    rw[aI U]at he;refine aA ⟨_,U,a.p,_,_,U,s2 _ _ S.obj,U,_,U,_,U, .ref a.p,D,s,n,n+1,n+1+nodes B,false,U,bq.mono _ _ _ _ s2 hv,d,hJ,_,n+1,B,U,s2,t3,?_⟩;rw[he,xX];congr 1;funext x;show n+(x+1)=n+1+x;lia
   .by_cases h1:z=1
    .subst h1
     rw[ay (by decide),aI U]at he;refine aA ⟨_,U,a.p,_,_,U,s2 _ _ S.obj,U,_,U,_,U, .ref a.p,D,s,n,n+1,n+1+nodes B,true,U,bq.mono _ _ _ _ s2 hv,d,hJ,_,n+1+nodes B,C',U,s2,t4,?_⟩;rw[he,xX];congr 1;funext x;show n+(x+(1+nodes B))=n+1+nodes B+x;lia
    .rw[ay h0,ay h1]at he
     rw[cO h0,cO h1];refine aJ ⟨_,U,?_⟩;have:=q _ s2;rw[he]at this;exact this
  .have en:nd'=y:=aM (Hi.symm.trans hy)
   have ej:bR nd'=false:=by rw[en];unfold bR;exact cO (by lia)
   rw[iX]at he;rw[ej];refine aJ (aJ ⟨_,U,?_⟩);have:=q _ sm;rw[he]at this;exact this
 .rintro σ' H' ⟨u,n,C,rfl,sm,sub,he⟩
  rw[aX,mY]at he;obtain⟨nd',gb,Hi⟩:=sub.head;obtain⟨nv,sF,g,w,rfl,hg,_⟩:=oT pp gb;have gO:=xq d nd' (cN gb);refine⟨_,U,_,_,_,_,_,U,sm _ _ S.obj,T.aE,T.kj,U,_,U,a.l0,_,_,_,U,U,ab.of (sm _ _ (S.get 0 U U)),bH sF,g,nd'.1,_,U,sm _ _ hg,_,U,?_⟩;rw[nH gO];have q':=q _ sm;rw[he]at q';rcases Q3 sub.mul with⟨B,C',k,hC⟩|⟨⟨y,hy,hy2⟩,iX⟩
  .obtain⟨t1,_⟩:=sub.two hC
   have hk:k=2\/k=3:=by rcases hC with⟨_,h⟩|⟨_,h⟩<;>lia
   have en:nd'=(k,[]):=aM (gb.symm.trans t1);have ej:bR nd'=true:=by rw[en];unfold bR;exact bb (by show 2<=k;lia)
   have iX:desc C []=none:=by rcases hC with⟨rfl,_⟩|⟨rfl,_⟩<;>rfl
   rw[iX]at q';rw[ej];exact aJ ⟨_,U,q'⟩
  .have en:nd'=y:=aM (Hi.symm.trans hy)
   have ej:bR nd'=false:=by rw[en];unfold bR;exact cO (by lia)
   rw[iX]at q';rw[ej];exact aA ⟨_,U,q'⟩
inductive Q5(A:aF)(vs:List V)(H:Hp)(Q:VK)(E:XK):Prop
 |mk (v:V) (D:dn) (s:Net) (c:Int) (pa:Addr) (zs:List Int):vs=[v, .int c, .ref pa]->bq A H v D->dF s D->H pa=some (.lst (zs.map V.int))->zs.length<=10000->(∀H',aa H H'->Q (mI ((Mz s c zs).bind λi=>(cv s)[i]?)) H')->Q5 A vs H Q E
theorem Q6(T:Txt K mg A):Gd P w K mg base 3 A.E7 A.d_conclusion_atom_at ["points","conclusion","place"] (Q5 A):=by
 refine T.Z7.go (N:=["points","conclusion","place"]) ?_;rintro aC A' outer s H vs Q E hr nd ⟨v,D,s,c,pa,zs,rfl,hv,d,gR,nE,q⟩;refine⟨_,(af (a9 (ij (dC (bN hr (He T) T.aE T.F8 (pv 0) (aj (pv 1))))) (ag (aB (il ip ak))) bt)
  (ag (aB (aP hr (acX T) T.YI (fM (pv 0) (aZ (pv 1) (pv 2))))))),?_⟩
 try dsimp only[A9]
 obtain⟨a,vs,rfl,S,pp⟩:=id hv;refine⟨_,U,a.p,_,_,U,S.obj,U,_,U, .ref a.p,D,s,c,U,hv,d,_,U,?_⟩;by_cases hc:below c s.concl.length=true
 .rw[hc]
  have Q7:0<=c/\ c<(s.concl.length:Int):=by unfold below at hc;simp only[bC,iB]at hc;exact hc
  obtain⟨f,rfl⟩:∃f:Nat,c=(f:Int):=⟨c.toNat,by lia⟩
  have hf:f<s.concl.length:=by lia
  have AX:s.concl[f]? =some (s.concl[f]):=cC hf;generalize s.concl[f]=F at AX;have hF:(tQ s)[f]? =some F:=by rw[vF,fe hf];exact AX
  have hm:=d.good.mul F (cN hF);have hl:(dR s).length=(tQ s).length:=lM _ _;have d7:(dR s)[f]? =some ((dR s)[f]'(by rw[hl];exact dm hF)):=cC _;generalize (dR s)[f]'(by rw[hl];exact dm hF)=r at d7;refine aA ⟨_,U,_,U,_,U, .ref a.p,D,s,f,r,F,pa,zs,U,hv,d,hF,d7,gR,nE,λH' sm=>?_⟩;have q':=q _ sm;cases ht:Mz s (f:Int) zs with
  |none=>rw[ht]at q';rw[Uc AX hm ht];exact q'
  |some n=>rw[ht]at q';obtain⟨k,e,bT,h2,h3⟩:=CA AX hm ht;obtain⟨r',d',z1,z2,_,z4⟩:=(bT.left (b:=cM s.cuts)).root 0 d.good.mul;have er:r=r':=aM (d7.symm.trans z1);have ed:e=d':=aM (h2.symm.trans z2);subst er ed;rw[h3];have z4:(cv s)[n]? =some (r+e):=z4;rw[dQ,z4]at q';exact q'
 .have hc:below c s.concl.length=false:=by simpa using hc
  rw[hc];refine aJ ⟨_,U,?_⟩;have q':=q _ (aa.refl _);have e:Mz s c zs=none:=by
   unfold Mz;by_cases h0:c<0
   .rw[aI h0]
   .rw[ay h0]
    unfold below at hc;rw[bb (by lia:(0:Int)<=c),n6]at hc;have hc:=of_decide_eq_false hc;cases MZ zs with
    |none=>rfl
    |some q=>rw[dQ];unfold abQ;rw[kN (by lia)];rfl
  rw[e]at q';exact q'
theorem eU{H H':Hp}{p:Addr}(s:aa H H')(h:H' p=none):H p=none:=by
 cases e:H p with
 |none=>rfl
 |some o=>rw[s _ _ e]at h;cases h
theorem xA:∀(A:Formula),∀p∈placesOf A,p.length<nodes A
 | .atom _ _,p,h=>by simp[placesOf]at h;subst h;simp[nodes]
 | .tensor A B,p,h| .par A B,p,h=>by
  simp only[placesOf,c9,eu]at h;rcases h with⟨q,hq,rfl⟩|⟨q,hq,rfl⟩
  .have:=xA A q hq;simp[nodes];lia
  .have:=xA B q hq;simp[nodes];lia
 | .wth A B,p,h| .plus A B,p,h| .ofc A,p,h| .whn A,p,h=>by simp[placesOf]at h;subst h;simp[nodes];lia
inductive Q8(A:aF)(vs:List V)(H:Hp)(Q:VK)(E:XK):Prop
 |mk (v:V) (D:dn) (p:Nat) (π:List Nat):vs=[v,nI p]->bq A H v D->ia D.1.below D.1.sides p π->π.length<=10000->iW H Q (π.map nI)->Q8 A vs H Q E
theorem ac0(T:Txt K mg A):Gd P w K mg base 1 A.E8 A.d_place_of ["points","point"] (Q8 A):=by
 refine T.Z8.go (N:=["points","point","sides","at"]) ?_;rintro aC A' outer s H vs Q E hr nd ⟨v,D,p,π,rfl,hv,bD,hlen,q⟩;refine⟨_,(af (aN 2 nd (aS bY))
  (af (aN 3 nd (pv 1))
  (af (j4 PassesOwn.never (aR t8 (aT (ao (pv 0)) (pv 3)) (il ip ak)) (af (bF (dD (pv 2) (aT (ao (pv 0)) (pv 3))))
  (ag (aN 3 nd (aT (ao (pv 0)) (pv 3))))))
  (ag (aB (acQ (by rfl) T.wD (by rfl) T.FW U (pv 2))))))),?_⟩
 try dsimp only[A9]
 obtain⟨a,vs,rfl,S,pp⟩:=id hv;refine⟨bL _,λl hl=>⟨_,U,?_⟩⟩;have s1:=aa.new (o:= .lst []) hl;obtain⟨W,hW⟩:∃W:Nat->L2.St->Hp->Prop,W=λm σ' H'=>E3 λ(n:Nat) (π' τ:List Nat)=>A6 (m=π'.length) (π=π'++τ.reverse) (ia D.1.below D.1.sides n π') (σ'=[some (.ref a.p),some (nI p),some (.ref l),some (nI n)]) (aa H H') (H' l=some (.lst (τ.map nI))):=⟨_,U⟩
 refine⟨W,⟨_,by rw[hW];exact⟨p,π,[],U,by simp,bD,U,s1,ae⟩⟩,λm σ' H' w'=>?_⟩;rw[hW]at w';obtain⟨n,π',τ,rfl,eπ,cl,rfl,sm,aU⟩:=w';have hb:∀z:Int,D.1.below[n]? =some z->gi (D.1.below.map V.int) (n:Int)=some (.int z):=λz h=>bH (fY h);cases cl with
 |root h0=>refine⟨_,U,_,_,_,_,_,U,sm _ _ S.obj,T.aE,T.qm,U,_,U,a.l2,_,_,_,U,U,ab.of (sm _ _ (S.get 2 U U)),hb _ h0,_,U,U,_,U,?_⟩;rw[show decide (V.int (-1)=V.int (-1))=true from bb U];refine aA ⟨_,U,l,_,U,ab.of aU,λr d7=>?_⟩;refine q r _ (sm.trans (aa.new d7)) (eU sm d7) ?_;rw[ae,eπ,nY,List.map_reverse]
 | @up _ j sd π0 h0 h1 h2=>
  have b8:(V.int (j:Int)=V.int (-1))->False:=λc=>by have:=V.int.inj c;lia
  refine⟨_,U,_,_,_,_,_,U,sm _ _ S.obj,T.aE,T.qm,U,_,U,a.l2,_,_,_,U,U,ab.of (sm _ _ (S.get 2 U U)),hb _ h0,_,U,U,_,U,?_⟩;rw[show decide (V.int (j:Int)=V.int (-1))=false from cO b8];have afA:τ.length<=10000:=by rw[eπ]at hlen;simp at hlen;lia
  refine aJ ?_;refine⟨_,U, .inl ⟨U,_,ab.of aU⟩,_,U,_,_,_,_,_,U,sm _ _ S.obj,T.aE,T.wL,U,_,U,a.l3,_,_,_,U,U,ab.of (sm _ _ (S.get 3 U U)),bH (fY h1),l,_,_,U,U,aU,dk (by simp;lia),?_⟩;have s2:=c5 (o:= .lst (τ.map nI++[V.int (sd:Int)])) sm hl;refine⟨_,U,_,_,_,_,_,U,s2 _ _ S.obj,T.aE,T.qm,U,_,U,a.l2,_,_,_,U,U,ab.of (s2 _ _ (S.get 2 U U)),hb _ h0,π0.length,by simp,?_⟩;rw[hW];refine⟨j,π0,τ++[sd],U,by rw[eπ];simp,h2,U,s2,?_⟩;rw[ae];simp;rfl
theorem Q9{fs:List Formula}{F:Formula}(h:F∈fs):nodes F<=bf fs:=by
 induction fs with
 |nil=>cases h
 |cons G r ih=>
  simp only[bf];rcases br.mp h with rfl|h
  .lia
  .have:=ih h;lia
inductive Q_(A:aF)(vs:List V)(H:Hp)(Q:VK)(E:XK):Prop
 |mk (v:V) (D:dn) (s:Net) (p i:Nat):vs=[v,nI p]->bq A H v D->dF s D->i<s.to.length->(cv s)[i]? =some p->iW H Q (((Mr (tQ s) 0 i).1::MK (Mr (tQ s) 0 i).2).map nI)->Q_ A vs H Q E
theorem Hj(T:Txt K mg A):Gd P w K mg base 2 A.E9 A.d_spot_of ["points","point"] (Q_ A):=by
 refine T.Z9.go (N:=["points","point","place"]) ?_;rintro aC A' outer s H vs Q E hr nd ⟨v,D,s,p,i,rfl,hv,d,hi,hp,q⟩;refine⟨_,(af (aN 2 nd (aP hr (ac0 T) T.YJ (aZ (pv 0) (pv 1))))
  (ag (aB (b_ gz (aS (aZ (aT (ao (pv 0)) (pv 1)) (dw T.c6 (pv 2)))) (pv 2))))),?_⟩
 try dsimp only[A9]
 obtain⟨a,vs,rfl,S,pp⟩:=id hv;obtain⟨f,k,F,r,e,eD,h2,h3,h4,h5,h6⟩:=d.good.leaf hi;have ep:p=r+e:=aM (hp.symm.trans h5);have bD:=eD.T' d.good.mul hp;rw[eD.tell 0,afZ]at q;rw[<-ep]at h6;have how:D.2.1[p]? =some f:=by rw[d.ow];exact h6
 have hk:k<(placesOf F).length:=by rw[places_len F (d.good.mul F (cN eD.fm))];exact eD.lt
 have bK:((placesOf F).getD k []).length<=10000:=by
  rw[og,cC hk];have h1:=xA F _ (BL hk);have h7:nodes F<=(aQ s).length:=by have e:(aQ s).length=bf (tQ s):=jV _ _ d.good.mul;have:=Q9 (cN eD.fm);lia
  have:=d.bd;show(placesOf F)[k].length<=10000;lia
 generalize (placesOf F).getD k []=π at bD bK q;refine⟨_,U,_,U, .ref a.p,D,p,π,U,hv,by rw[d.be,d.si];exact bD,bK,λl H1 s1 dY hl=>?_⟩;refine⟨_,U,_,_,_,_,_,U,s1 _ _ S.obj,T.aE,T.uv,U,_,U,a.l1,_,_,_,U,U,ab.of (s1 _ _ (S.get 1 U U)),bH (kC how),_,U,l,_,U, .inl (ab.of hl),gm,λm hm=>?_⟩;have s2:=aa.new (o:= .lst [nI f,V.int ((π.map nI).length:Int)]) hm;refine⟨_,U,m,l,_,_,U,U,ae,s2 _ _ hl,fC (by simp;lia),λc hc=>?_⟩;refine q c _ ((s1.trans s2).trans (aa.new hc)) (eU (s1.trans s2) hc) ?_;rw[ae];unfold MK;simp[nI]
theorem xB{s:Net}(g:Good s){i p:Nat}(h:(cv s)[i]? =some p):(aQ s)[p]? =some .leaf/\ i<s.to.length/\ (cv s)[s.to.getD i 0]? =some (partner s p):=by
 have hm:p∈cv s:=cN h;obtain⟨q,e,hq⟩:=(vt _ _ _).mp hm;have e:p=q:=by lia
 subst e;obtain⟨i',j,h1,h2,h3,h4⟩:=g.pair hq;rw[gZ]at h1 h4;have hl:(cv s).length=s.to.length:=by rw[g.len,gZ]
 have ei:i=i':=by
  obtain⟨l1,e1⟩:=da.mp h;obtain⟨l2,e2⟩:=da.mp h1;rcases afq i i' with c|c|c
  .exact absurd (e1.trans e2.symm) (yb.mp (pL _ _) i i' l1 l2 c)
  .exact c
  .exact absurd (e2.trans e1.symm) (yb.mp (pL _ _) i' i l2 l1 c)
 subst ei;refine⟨hq,by rw[<-hl];exact dm h,?_⟩;rw[eX h2];exact h4
noncomputable def kD(p c:Nat)(b:Bool)(n:Nat):List (Str×V):=[("point",nI p),("cut_count",nI c),("board",dy b),("crossing_count",nI n)]
inductive Ra(A:aF)(vs:List V)(H:Hp)(Q:VK)(E:XK):Prop
 |mk (t dx:Addr) (x:Nat):vs=[.ref t,nI x]->H t=some (.ins A.eQ dx [])->Q .aO (upd H t (.ins A.eQ dx (kD x 0 false 0)))->Ra A vs H Q E
theorem Rb(T:Txt K mg A):Gd P w K mg base 1 A.z0 A.d_Token_init ["self","point"] (Ra A):=by
 refine T.aar.go (N:=["self","point"]) ?_;rintro aC A' outer s H vs Q E hr nd ⟨p,dx,x,rfl,hp,q⟩;refine⟨_,(af (cn (pv 0) (pv 1))
  (af (cn (pv 0) ak)
  (af (cn (pv 0) ak)
  (ag (cn (pv 0) ak))))),?_⟩
 try dsimp only[A9]
 refine⟨_,U,_,U,p,_,_,_,U,hp,T.dX,T.mv,(by show 0<1000;decide),?_⟩;refine⟨_,U,p,_,_,_,U,ae,T.dX,T.Gj,(by show 1<1000;decide),?_⟩;refine⟨_,U,p,_,_,_,U,ae,T.dX,T.nG,(by show 2<1000;decide),?_⟩;refine⟨_,U,p,_,_,_,U,ae,T.dX,T.Gk,(by show 3<1000;decide),?_⟩;rw[jz,jz,jz];exact q
inductive Rc(A:aF)(vs:List V)(H:Hp)(Q:VK)(E:XK):Prop
 |mk (v:V) (D:dn) (s:Net) (p i:Nat):vs=[v,nI p]->bq A H v D->dF s D->Vanete.outer s<=i->i<s.to.length->(cv s)[i]? =some p->(∀p',(cv s)[Vanete.over (Vanete.outer s) s.cuts i]? =some p'->Q (nI p') H)->Rc A vs H Q E
theorem ac1(T:Txt K mg A):Gd P w K mg base 1 A.Fv A.d_over_cut ["points","point"] (Rc A):=by
 refine T.aau.go (N:=["points","point","root"]) ?_;rintro aC A' outer s H vs Q E hr nd ⟨v,D,s,p,i,rfl,hv,d,h1,h2,hp,q⟩;refine⟨_,(af (aN 2 nd (aT (ao (pv 0)) (aT (ao (pv 0)) (pv 1))))
  (ag (aB (b_ rJ (b_ jd (aT (ao (pv 0)) (pv 2)) (pv 1)) (pv 2))))),?_⟩
 try dsimp only[A9]
 obtain⟨a,vs,rfl,S,pp⟩:=id hv;obtain⟨f,r,e,qq,g1,g2,g3,g4,g5,g6,g7,g8,g9⟩:=d.good.over h1 h2;have ep:p=r+e:=aM (hp.symm.trans g1);rw[<-ep]at g2;have how:D.2.1[p]? =some f:=by rw[d.ow];exact g2
 have mJ:D.2.2.1[f]? =some r:=by rw[d.ro];exact g4
 have AY:=(d.arr.cut g7 g5).2;refine⟨_,U,_,_,_,_,_,U,S.obj,T.aE,T.oX,U,_,U,_,_,_,_,_,U,S.obj,T.aE,T.uv,U,_,U,a.l1,_,_,_,U,U,ab.of (S.get 1 U U),bH (kC how),a.l8,_,_,_,U,U,ab.of (S.get 8 U U),bH (kC mJ),?_⟩;refine⟨_,U,_,_,_,_,_,U,S.obj,T.aE,T.oW,U,_,U,a.l7,_,_,_,U,U,ab.of (S.get 7 U U),bH (fY AY),_,U,_,_,U,U,_,U,_,_,U,U,?_⟩;have:=q _ g6;have ee:V.int ((qq:Int)+(p:Int)-(r:Int))=nI (qq+e):=by unfold nI;congr 1;lia
 rw[<-ee]at this;exact this
theorem Hk{α:Type}{step:α->Option α}{x y:α}{k:Nat}(h:iter step k x=some y)(hy:step y=none):∀n,k<n->iter step n x=none
 |0,hn=>by lia
 |n+1,hn=>by
  show(iter step n x).bind step=none;by_cases c:k=n
  .subst c;rw[h];exact hy
  .rw[Hk h hy n (by lia)];rfl
inductive Rf(A:aF)(vs:List V)(H:Hp)(Q:VK)(E:XK):Prop
 |mk (t dx:Addr) (v:V) (D:dn) (s:Net) (p i c:Nat) (b:Bool) (n:Nat):vs=[.ref t,v]->H t=some (.ins A.eQ dx (kD p c b n))->(bq A (Wo (λx=>x=t) H) v D)->dF s D->i<Vanete.outer s->(cv s)[i]? =some p->(∀H' p',K1 t H H'->(cv s)[(L5 s i).1]? =some p'->H' t=some (.ins A.eQ dx (kD p' (c+(L5 s i).2) b n))->Q .aO H')->Rf A vs H Q E
theorem Hl(T:Txt K mg A):Gd P w K mg base 2 A.Ft A.d_Token_go_through ["self","points"] (Rf A):=by
 refine T.aas.go (N:=["self","points"]) ?_;rintro aC A' outer s H vs Q E hr nd ⟨t,dx,v,D,s,p,i,c,b,n,rfl,ht,fW,d,hi,hp,q⟩;refine⟨_,(af (cn (pv 0) (aT (ao (pv 1)) (ao (pv 0))))
  (ag (j4 PassesOwn.never (ij (dC (bN hr (He T) T.aE T.F8 (pv 1) (aj (aT (ao (pv 1)) (ao (pv 0))))))) (af (cn (pv 0) (aT (ao (pv 1)) (aP hr (ac1 T) T.YU (aZ (pv 1) (ao (pv 0))))))
  (ag (De (pv 0) ak Df)))))),?_⟩
 try dsimp only[A9]
 obtain⟨⟨x,x1,x2,x3⟩,o1,o2⟩:=d.good.out hi;obtain⟨l1,l2,l3⟩:=xB d.good hp;have gR:=(d.arr.leaf l1).2;have up:∀{H':Hp},K1 t H H'->aa (Wo (λx=>x=t) H) (Wo (λx=>x=t) H'):=λk=>qe λb o e hb=>k b o e hb;have Rg:∀{H':Hp},K1 t H H'->bq A H' v D:=λk=>bq.mono _ _ _ _ ((up k).trans (bB _ _)) fW;obtain⟨a,vs,rfl,S0,pp⟩:=id fW;have hS:∀{H':Hp},K1 t H H'->dE A H' a (fE vs D.1 D.2.1 D.2.2.1) (D.1.jc:Int) (D.2.2.2:Int):=λk=>S0.mono ((up k).trans (bB _ _));have S:=hS (λb o e _=>e);refine⟨_,U,_,_,_,_,_,U,S.obj,T.aE,T.oV,U,_,U,t,_,_,_,_,U,ht,T.dX,T.mv,U,a.l6,_,_,_,U,U,ab.of (S.get 6 U U),bH (fY gR),_,U,t,_,_,_,U,ht,T.dX,T.mv,(by show 4<1000;decide),?_⟩;obtain⟨W,hW⟩:∃W:Nat->L2.St->Hp->Prop,W=λm σ' H'=>E3 λ(k y p1:Nat)=>A8 (m=(L5 s i).2-k) (k<=(L5 s i).2) (iter (dI s) k i=some y) (y<s.to.length) ((cv s)[s.to.getD y 0]? =some p1) (σ'=[some (.ref t),some (.ref a.p)]) (K1 t H H') (H' t=some (.ins A.eQ dx (kD p1 (c+k) b n))):=⟨_,U⟩
 have k0:∀o,K1 t H (upd H t o):=λo b' o' e hb=>by rw[aD hb];exact e
 refine⟨W,⟨_,by rw[hW];exact⟨0,i,_,U,bL _,U,l2,l3,U,k0 _,ae⟩⟩,λm σ' H' w'=>?_⟩;rw[hW]at w';obtain⟨k,y,p1,rfl,hk,hy,h_,km,rfl,kk,eY⟩:=w';have S':=hS kk;obtain⟨m1,m2,m3⟩:=xB d.good km;obtain⟨f,k',F,r,e,eD,h2,h3,h4,h5,h6⟩:=d.good.leaf m2;have ep:p1=r+e:=aM (km.symm.trans h5);rw[<-ep]at h6;have how:D.2.1[p1]? =some f:=by rw[d.ow];exact h6
 refine⟨_,U,a.p,_,_,U,S'.obj,U,_,U,_,_,_,_,_,U,S'.obj,T.aE,T.uv,U,_,U,t,_,_,_,_,U,eY,T.dX,T.mv,U,a.l1,_,_,_,U,U,ab.of (S'.get 1 U U),bH (kC how), .ref a.p,D,s,(f:Int),U,Rg kk,d,_,U,?_⟩;have Rh:=eD.outer;by_cases hf:f<s.concl.length
 .have hb:below (f:Int) s.concl.length=true:=by unfold below;rw[bb (by lia),bb (by lia)];rfl
  rw[hb];have cD:dI s y=none:=by unfold dI;rw[aI (Rh.mpr hf)]
  have pf:k=(L5 s i).2:=by
   rcases pE k (L5 s i).2 with c|c
   .rw[Hk hy cD _ c]at x1;cases x1
   .lia
  rw[<-pf,hy]at x1;have exy:y=x:=aM x1;subst exy;refine aA (q H' p1 kk (by rw[x3];exact km) (by rw[<-pf];exact eY))
 .have hb:below (f:Int) s.concl.length=false:=by unfold below;rw[cO (p:=(f:Int)<(s.concl.length:Int)) (by lia),pz]
  rw[hb];have oR:Vanete.outer s<=s.to.getD y 0:=by
   rcases pE (s.to.getD y 0) (Vanete.outer s)with c|c
   .exact absurd (Rh.mp c) hf
   .exact c
  have cD:dI s y=some (Vanete.over (Vanete.outer s) s.cuts (s.to.getD y 0)):=by unfold dI;rw[ay (by lia)]
  have pf:k<(L5 s i).2:=by
   rcases pE k (L5 s i).2 with c|c
   .exact c
   .have e:k=(L5 s i).2:=by lia
    rw[<-e,hy]at x1;have exy:y=x:=aM x1;rw[<-exy,cD]at x2;cases x2
  refine aJ ?_;obtain⟨_,_,_,_,_,_,_,_,_,g6,_,g8,g9⟩:=d.good.over oR m2;refine⟨_,U,_,_,_,_,_,U,S'.obj,T.aE,T.oV,U,_,U,_,U,t,_,_,_,_,U,eY,T.dX,T.mv,U, .ref a.p,D,s,p1,s.to.getD y 0,U,Rg kk,d,oR,m2,km,λp2 nM=>?_⟩;obtain⟨n1,n2,n3⟩:=xB d.good nM;have ac2:=(d.arr.leaf n1).2;refine⟨a.l6,_,_,_,U,U,ab.of (S'.get 6 U U),bH (fY ac2),_,U,t,_,_,_,U,eY,T.dX,T.mv,(by show 4<1000;decide),?_⟩;refine⟨_,U,t,_,_,_,_,U,ae,T.dX,T.Gj,U,_,_,U,U,_,_,ae,(by show 4<1000;decide),(L5 s i).2-(k+1),by lia,?_⟩;rw[hW,jz];refine⟨k+1,_,_,U,pf,by show(iter (dI s) k i).bind (dI s)=_;rw[hy];exact cD,n2,n3,U,λb' o e hb=>by rw[aD hb];exact kk b' o e hb,?_⟩;rw[ae];rfl
inductive Ri(A:aF)(vs:List V)(H:Hp)(Q:VK)(E:XK):Prop
 |mk (t dx ra:Addr) (r0 r1 e c:Nat) (b:Bool) (n:Nat):vs=[.ref t, .ref ra]->(H t=some (.ins A.eQ dx (kD ((if b=true then r1 else r0)+e) c b n)))->H ra=some (.lst [nI r0,nI r1])->(∀H',K1 t H H'->H' t=some (.ins A.eQ dx (kD ((if b=true then r0 else r1)+e) c (!b) (n+1)))->Q .aO H')->Ri A vs H Q E
theorem ac3(T:Txt K mg A):Gd P w K mg base 1 A.Fu A.d_Token_cross ["self","roots"] (Ri A):=by
 refine T.aat.go (N:=["self","roots","inside"]) ?_;rintro aC A' outer s H vs Q E hr nd ⟨t,dx,ra,r0,r1,e,c,b,n,rfl,ht,kE,q⟩;refine⟨_,(af (aN 2 nd (b_ rJ (ao (pv 0)) (aT (pv 1) (ao (pv 0)))))
  (af (cn (pv 0) (b_ rJ ak (ao (pv 0))))
  (af (cn (pv 0) (b_ jd (aT (pv 1) (ao (pv 0))) (pv 2)))
  (ag (De (pv 0) ak Df))))),?_⟩
 try dsimp only[A9]
 have ntr:ra≠t:=ig kE ht (by intro z;cases z);have eD:∀b':Bool,gi [nI r0,nI r1] (if b'=true then 1 else 0)=some (nI (if b'=true then r1 else r0)):=λb'=>by cases b'<;>rfl
 refine⟨_,U,t,_,_,_,_,U,ht,T.dX,T.mv,U,_,U,_,U,t,_,_,_,_,U,ht,T.dX,T.nG,U,ra,_,_,_,U,U,ab.of kE,eD b,_,_,U,U,?_⟩;refine⟨_,U,t,_,_,_,_,U,ht,T.dX,T.nG,U,_,_,U,U,_,U,t,_,_,_,U,ht,T.dX,T.nG,(by show 4<1000;decide),?_⟩;have eb:(1:Int)-(if b=true then 1 else 0)=if(!b)=true then 1 else 0:=by cases b<;>rfl
 refine⟨_,U,_,U,t,_,_,_,_,U,ae,T.dX,T.nG,U,ra,_,_,_,U,U,ab.of (by rw[aD ntr];exact kE),(by show gi [nI r0,nI r1] ((1:Int)-(if b=true then 1 else 0))=_;rw[eb];exact eD (!b)),_,U,_,_,U,U,_,U,t,_,_,_,U,ae,T.dX,T.mv,(by show 4<1000;decide),?_⟩;refine⟨_,U,t,_,_,_,_,U,ae,T.dX,T.Gk,U,_,_,U,U,_,_,ae,(by show 4<1000;decide),?_⟩;refine q _ (λb' o e hb=>by rw[aD hb,aD hb,aD hb];exact e) ?_;rw[ae];have e1:V.int (((if(!b)=true then r1 else r0:Nat):Int)+((((if b=true then r1 else r0)+e:Nat):Int)-((if b=true then r1 else r0:Nat):Int)))=nI ((if b=true then r0 else r1)+e):=by unfold nI;congr 1;cases b<;>simp<;>lia
 have e2:V.int ((1:Int)-(if b=true then 1 else 0))=dy (!b):=by cases b<;>rfl
 show some (HO.ins A.eQ dx [("point",V.int (((if(!b)=true then r1 else r0:Nat):Int)+((((if b=true then r1 else r0)+e:Nat):Int)-((if b=true then r1 else r0:Nat):Int)))),("cut_count",nI c),("board",V.int ((1:Int)-(if b=true then 1 else 0))),("crossing_count",V.int ((n:Int)+1))])=_;rw[e1,e2];rfl
def mN(_:Hp)(v:V)(n:Nat):Prop:=v=nI n
theorem mN.mono:eP mN:=λ_ _ _ _ _ h=>h
theorem AZ{H:Hp}{vs:List V}{l:List Nat}(h:Paired (mN H) vs l):vs=l.map nI:=by
 induction h with
 |nil=>rfl
 |cons r _ ih=>rw[r,ih];rfl
inductive Rj(A:aF)(vs:List V)(H:Hp)(Q:VK)(E:XK):Prop
 |mk (t dx ba ca:Addr) (v0 v1:V) (D0 D1:dn) (s o:Net) (i j p leaf:Nat) (F:Formula):vs=[.ref t, .ref ba, .ref ca]->H t=some (.ins A.eQ dx (kD p 0 false 0))->H ba=some (.lst [v0,v1])->H ca=some (.lst [nI i,nI j])->(bq A (Wo (λx=>x=t) H) v0 D0)->(bq A (Wo (λx=>x=t) H) v1 D1)->dF s D0->dF o D1->Meet s o i j F->leaf<Vanete.outer s->(cv s)[leaf]? =some p->¬ib s o i j F false leaf->(∀H' p' c',K1 t H H'->(cv (c4 s o (Vanetg.play s o i j F leaf).1))[(Vanetg.play s o i j F leaf).2.1]? =some p'->(Vanetg.play s o i j F leaf).2.1<Vanete.outer (c4 s o (Vanetg.play s o i j F leaf).1)->H' t=some (.ins A.eQ dx (kD p' c' (Vanetg.play s o i j F leaf).1 (Vanetg.play s o i j F leaf).2.2))->Q .aO H')->Rj A vs H Q E
theorem ac4(T:Txt K mg A):Gd P w K mg base 3 A.Fw A.d_play ["token","boards","conclusions"] (Rj A):=by
 refine T.aav.go (N:=["token","boards","conclusions","roots","points","conclusion"]) ?_;rintro aC A' outer s H vs Q E hr nd ⟨t,dx,ba,ca,v0,v1,D0,D1,s,o,i,j,p,leaf,F,rfl,ht,mO,fc,fW,jj,d0,d1,m,hl,hp,rh,q⟩;refine⟨_,(af (DI (i:=3) U nd U U (DJ U U U (by decide+kernel)) (Lx (by rfl) T.NR (aZ (pv 1) (pv 2))) (jF (own:=[("points",4),("conclusion",5)]) (by show iT ["token","boards","conclusions","roots","points","conclusion"] (d5 (top 87)) _ _=true;decide+kernel)) (λ_ _ _ _ _=>(zV (K:=K) (n:=2) U U (kZ (cx 4 nd) (kZ (cx 5 nd) tW)))) (λ_ _ _ _ _=>oP) (λ_ _ _ _ _=>(Xs (K:=K) U (Xt (K:=K) U (pv 4)) (pv 5))))
  (af (bF (bN hr (Hl T) T.dX T.Ge (pv 0) (aj (aT (pv 1) ak))))
  (ag (j4 PassesOwn.never (aR cj (aT (ao (aT (pv 1) (ao (pv 0)))) (ao (pv 0))) (aT (pv 2) (ao (pv 0)))) (af (bF (bN hr (ac3 T) T.dX T.YT (pv 0) (aj (pv 3))))
  (ag (bF (bN hr (Hl T) T.dX T.Ge (pv 0) (aj (aT (pv 1) (ao (pv 0)))))))))))),?_⟩
 try dsimp only[A9]
 obtain⟨k,w,k1,k2,k3,k4⟩:=Ul m hl rh;rw[k4]at q;have nba:ba≠t:=ig mO ht (by intro z;cases z);have nca:ca≠t:=ig fc ht (by intro z;cases z);obtain⟨a0,w8,rfl,S0,pp0⟩:=id fW;obtain⟨a1,Au,rfl,S1,pp1⟩:=id jj;have fi:(tQ s)[i]? =some F:=by rw[vF,fe (dm m.hi)];exact m.hi
 have fj:(tQ o)[j]? =some (L7 F):=by rw[vF,fe (dm m.hj)];exact m.hj
 obtain⟨r0,d7⟩:∃r,(dR s)[i]? =some r:=⟨_,cC (by have:(dR s).length=_:=lM _ _;rw[this];exact dm fi)⟩
 obtain⟨r1,sC⟩:∃r,(dR o)[j]? =some r:=⟨_,cC (by have:(dR o).length=_:=lM _ _;rw[this];exact dm fj)⟩
 refine⟨_,U,_,U,ba,ca,_,_,U,ab.of mO,ab.of fc,λL hL=>LW (α:=Nat) (γ:=Nat) (λ_=>False) mN mN.mono (λk=>[r0,r1][k]?) hL (Hid.none _) (by show 2<=100000;decide) (ab.of mO) (ab.of fc) U (λu v=>rfl) ?_ ?_⟩
 .intro k' H2 x y hx hy s2 aH Ky Kn h1 h2
  have w2:aa (Wo (λx=>x=t) H) H2:=(bB _ _).trans s2;refine oZ ?_;match k',hx,hy with
  |0,hx,hy=>have ex:V.ref a0.p=x:=aM hx;have ey:nI i=y:=aM hy;subst ex ey;have S:=S0.mono w2;exact⟨_,U,_,_,_,_,_,U,S.obj,T.aE,T.oX,U,_,U,a0.l8,_,_,_,U,U,ab.of (S.get 8 U U),bH (kC (by rw[d0.ro];exact d7)),h1 r0 _ _ U (aa.refl _) U⟩
  |1,hx,hy=>have ex:V.ref a1.p=x:=aM hx;have ey:nI j=y:=aM hy;subst ex ey;have S:=S1.mono w2;exact⟨_,U,_,_,_,_,_,U,S.obj,T.aE,T.oX,U,_,U,a1.l8,_,_,_,U,U,ab.of (S.get 8 U U),bH (kC (by rw[d1.ro];exact sC)),h1 r1 _ _ U (aa.refl _) U⟩
  |k'+2,hx,hy=>simp at hx
 .intro H2 acc s2 cH aH bh
  have ea:=AZ bh;have ea:acc=[nI r0,nI r1]:=ea;subst ea;have nL:L≠t:=ig cH (s2 _ _ ht) (by intro z;cases z);obtain⟨vb,evb⟩:∃vb:Bool->V,vb=λb=>if b=true then .ref a1.p else .ref a0.p:=⟨_,U⟩
  obtain⟨Db,eDb⟩:∃Db:Bool->dn,Db=λb=>if b=true then D1 else D0:=⟨_,U⟩
  have uK:∀b,bq A (Wo (λx=>x=t) H) (vb b) (Db b):=λb=>by rw[evb,eDb];cases b;exact fW;exact jj
  have fN:∀b,dF (c4 s o b) (Db b):=λb=>by rw[eDb];cases b;exact d0;exact d1
  have Rk:∀b,(dR (c4 s o b))[lV i j b]? =some (if b=true then r1 else r0):=λb=>by cases b;exact d7;exact sC
  have A0:∀b:Bool,gi [V.ref a0.p,V.ref a1.p] (if b=true then 1 else 0)=some (vb b):=λb=>by rw[evb];cases b<;>rfl
  have ac7:∀b:Bool,gi [nI i,nI j] (if b=true then 1 else 0)=some (nI (lV i j b)):=λb=>by cases b<;>rfl
  have up:∀{H':Hp},K1 t H2 H'->aa (Wo (λx=>x=t) H) (Wo (λx=>x=t) H'):=λk=>(bV s2).trans (qe λb o e hb=>k b o e hb);refine⟨_,U,t,_,_,U,s2 _ _ ht,U,_,U,ba,_,_,_,U,U,ab.of (s2 _ _ mO),bT,t,dx, .ref a0.p,D0,s,p,leaf,0,false,0,U,s2 _ _ ht,bq.mono _ _ _ _ (bV s2) fW,d0,hl,hp,λH3 p3 Hb hp3 Aq=>?_⟩;obtain⟨W,hW⟩:∃W:Nat->L2.St->Hp->Prop,W=λm σ' H'=>E4 λ(z:Bool×Nat) (k' p' c':Nat)=>A8 (m=k-k') (k'<=k) (iter (ic s o i j F) k' (false,leaf)=some z) (z.2<Vanete.outer (c4 s o z.1)) ((cv (c4 s o z.1))[(L5 (c4 s o z.1) z.2).1]? =some p') (σ'=[some (.ref t),some (.ref ba),some (.ref ca),some (.ref L),none,none]) (K1 t H2 H') (H' t=some (.ins A.eQ dx (kD p' c' z.1 k'))):=⟨_,U⟩
  refine⟨W,⟨_,by rw[hW];exact⟨(false,leaf),0,p3,_,U,bL _,U,hl,hp3,U,Hb,Aq⟩⟩,λm' σ' H' w'=>?_⟩;rw[hW]at w';obtain⟨z,k',p',c',rfl,zB,hz,nE,uI,rfl,kk,eY⟩:=w';have g:=m.good z.1;have ho:=(g.out nE).2.1;obtain⟨m1,m2,m3⟩:=xB g uI;obtain⟨f,κ,B,r,e,eD,h2,h3,h4,h5,h6⟩:=g.leaf m2;have ep:p'=r+e:=aM (uI.symm.trans h5);have how:(Db z.1).2.1[p']? =some f:=by rw[(fN z.1).ow,ep];exact h6
  have hfc:f<(c4 s o z.1).concl.length:=eD.outer.mp ho;have Hm:=eD.of_left hfc;have jW:=m.Jx z.1 Hm;obtain⟨az,vsz,evz,Sz,ppz⟩:=bq.mono _ _ _ _ ((up kk).trans (bB _ _)) (uK z.1);have ac_:=kk _ _ (s2 _ _ mO) nba;have ac':=kk _ _ (s2 _ _ fc) nca;refine⟨_,U,_,U,t,_,_,_,_,U,eY,T.dX,T.nG,U,ba,_,_,_,U,U,ab.of ac_,A0 z.1,az.p,_,_,_,_,evz,Sz.obj,T.aE,T.uv,U,_,U,t,_,_,_,_,U,eY,T.dX,T.mv,U,az.l1,_,_,_,U,U,ab.of (Sz.get 1 U U),bH (kC how),_,U,_,U,t,_,_,_,_,U,eY,T.dX,T.nG,U,ca,_,_,_,U,U,ab.of ac',ac7 z.1,U,_,U,?_⟩;rw[show decide (nI f=nI (lV i j z.1))=decide (f=lV i j z.1)from jH _ _];by_cases hf:f=lV i j z.1
  .have hib:=jW.mpr hf
   have eC:ic s o i j F z=some (!z.1,bX s o i j (!z.1)+((L5 (c4 s o z.1) z.2).1-bX s o i j z.1)):=by unfold ic;simp only;rw[aI hib]
   have pf:k'<k:=by
    rcases pE k' k with c|c
    .exact c
    .have e:k'=k:=by lia
     rw[e,k1]at hz;have ew:w=z:=aM hz;rw[ew,eC]at k2;cases k2
   obtain⟨_,b2,b3,_⟩:=pS m nE eC;simp only at b2 b3;have er:r=if z.1=true then r1 else r0:=by have:=Rk z.1;rw[<-hf]at this;exact aM (h2.symm.trans this)
   have hB:B=tO F z.1:=by have:=Hm.fm;rw[hf]at this;exact aM (this.symm.trans (m.fm z.1))
   rw[bb hf];refine aJ ?_;refine⟨_,U,t,_,_,U,eY,U,_,U,t,dx,L,r0,r1,e,c',z.1,k',U,by rw[eY,ep,er],kk _ _ cH nL,λH4 kk4 uS=>?_⟩;have Hn:K1 t H2 H4:=λb o e hb=>kk4 b o (kk b o e hb) hb;have ade:=Hn _ _ (s2 _ _ mO) nba;have a2:=m.at (!z.1) b2;obtain⟨r',d',q1,q2,_,q4⟩:=(a2.left (b:=cM (c4 s o (!z.1)).cuts)).root 0 (m.good (!z.1)).mul;have er':r'=if z.1=true then r0 else r1:=by have:=Rk (!z.1);have q1:(dR (c4 s o (!z.1)))[lV i j (!z.1)]? =some r':=q1;have e:=aM (q1.symm.trans this);rw[e];cases z.1<;>rfl
   have hκ:κ=(L5 (c4 s o z.1) z.2).1-bX s o i j z.1:=by have h:=Hm.eq;rw[hf]at h;have:bX s o i j z.1=cQ (c4 s o z.1).concl (lV i j z.1):=rfl;lia
   have ed:d'=e:=by rw[hB,m.cK]at h3;rw[m.cK,Nat.add_sub_cancel_left,<-hκ]at q2;exact aM (q2.symm.trans h3)
   have q4:(cv (c4 s o (!z.1)))[bX s o i j (!z.1)+((L5 (c4 s o z.1) z.2).1-bX s o i j z.1)]? =some (r'+d'):=q4;refine⟨_,U,t,_,_,U,uS,U,_,U,_,U,t,_,_,_,_,U,uS,T.dX,T.nG,U,ba,_,_,_,U,U,ab.of ade,A0 (!z.1),t,dx,vb (!z.1),Db (!z.1),c4 s o (!z.1),_,_,c',!z.1,k'+1,U,uS,bq.mono _ _ _ _ (up Hn) (uK (!z.1)),fN (!z.1),b3,by rw[q4,er',ed],λH5 p5 kk5 A1 ht5=>⟨k-(k'+1),by lia,?_⟩⟩;rw[hW];exact⟨_,k'+1,p5,_,U,pf,by show(iter (ic s o i j F) k' (false,leaf)).bind (ic s o i j F)=_;rw[hz];exact eC,b3,A1,U,λb o e hb=>kk5 b o (Hn b o e hb) hb,ht5⟩
  .have eC:ic s o i j F z=none:=by
    unfold ic;simp only;rw[ay (λc=>hf (jW.mp c))]
   have pf:k'=k:=by
    rcases pE k' k with c|c
    .rw[Hk hz eC _ c]at k1;cases k1
    .lia
   rw[pf,k1]at hz;have ew:w=z:=aM hz;subst ew;rw[cO hf];refine aA (q H' p' c' (λb o e hb=>kk b o (s2 _ _ e) hb) uI ho ?_);rw[<-pf];exact eY
noncomputable def clF(l:Addr):List (Str×V):=[("labels", .ref l)]
inductive CL(A:aF)(H:Hp)(c:Addr)(ns:List Nat):Prop
 |mk (dx l:Addr):H c=some (.ins A.kg dx (clF l))->H l=some (.lst (ns.map nI))->CL A H c ns
inductive Rl(A:aF)(vs:List V)(H:Hp)(Q:VK)(E:XK):Prop
 |mk (c dx:Addr) (n:Nat):vs=[.ref c,nI n]->H c=some (.ins A.kg dx [])->n<=10000->(∀H',K1 c H H'->CL A H' c (List.range n)->Q .aO H')->Rl A vs H Q E
theorem adk(T:Txt K mg A):Gd P w K mg base 1 A.zW A.d_Clusters_init ["self","count"] (Rl A):=by
 refine T.Zr.go (N:=["self","count"]) ?_;rintro aC A' outer s H vs Q E hr nd ⟨c,dx,n,rfl,hc,hn,q⟩;refine⟨_,(ag (cn (pv 0) (oI (acS U) (by rfl) T.wD Q2 (fM (oI acR (by rfl) T.z9 boot_range (aj (pv 1))) bY)))),?_⟩
 try dsimp only[A9]
 refine⟨_,U,_,U,λr d7=>⟨r,n,U,ae,by lia,λl hl=>?_⟩⟩;have s1:=aa.new (o:= .rk 0 (n:Int)) d7;have s2:=aa.new (o:= .lst ((List.range n).map λi:Nat=>V.int (i:Int))) hl;have jI:=(s1.trans s2) _ _ hc;have ncl:l≠c:=λe=>by rw[e]at hl;rw[s1 _ _ hc]at hl;cases hl
 refine⟨_,U,c,_,_,_,U,jI,T.kh,T.qk,(by show 0<1000;decide),?_⟩;refine q _ (λb o e hb=>by rw[aD hb];exact(s1.trans s2) _ _ e) ⟨dx,l,ae,?_⟩;rw[aD ncl,ae];rfl
theorem A2{ns:List Nat}{a:Nat}(h:a<ns.length):ns[a]? =some (ns.getD a 0):=by rw[cC h,eX (cC h)]
inductive Rm(A:aF)(vs:List V)(H:Hp)(Q:VK)(E:XK):Prop
 |mk (c:Addr) (ns:List Nat) (a b:Nat):vs=[.ref c,nI a,nI b]->CL A H c ns->a<ns.length->b<ns.length->Q (.bl (Mh a b ns)) H->Rm A vs H Q E
theorem Rn(T:Txt K mg A):Gd P w K mg base 1 A.Ej A.d_Clusters_are_one ["self","first","second"] (Rm A):=by
 refine T.Zs.go (N:=["self","first","second"]) ?_;rintro aC A' outer s H vs Q E hr nd ⟨c,ns,a,b,rfl,⟨dx,l,hc,hl⟩,ha,hb,q⟩;refine⟨_,(ag (aB (lu cj (aT (ao (pv 0)) (pv 1)) (aT (ao (pv 0)) (pv 2))))),?_⟩
 try dsimp only[A9]
 refine⟨_,U,c,_,_,_,_,U,hc,T.kh,T.qk,U,_,U,l,_,_,_,U,U,ab.of hl,bH (kC (A2 ha)),_,U,c,_,_,_,_,U,hc,T.kh,T.qk,U,_,U,l,_,_,_,U,U,ab.of hl,bH (kC (A2 hb)),U,?_⟩;have e:decide (nI (ns.getD a 0)=nI (ns.getD b 0))=Mh a b ns:=by rw[show decide (nI (ns.getD a 0)=nI (ns.getD b 0))=decide (ns.getD a 0=ns.getD b 0)from jH _ _];unfold Mh;rw[js];simp
 rw[<-e]at q;exact q
inductive Ro(A:aF)(vs:List V)(H:Hp)(Q:VK)(E:XK):Prop
 |mk (c:Addr) (ns:List Nat) (a b:Nat):vs=[.ref c,nI a,nI b]->CL A H c ns->a<ns.length->b<ns.length->ns.length<=10000->(if Mh a b ns=true then Q (.bl false) H else∀H',K1 c H H'->CL A H' c (lQ a b ns)->Q (.bl true) H')->Ro A vs H Q E
theorem Rp(T:Txt K mg A):Gd P w K mg base 2 A.Ek A.d_Clusters_unite ["self","first","second"] (Ro A):=by
 refine T.Zt.go (N:=["self","first","second","kept","lost","label"]) ?_;rintro aC A' outer s H vs Q E hr nd ⟨c,ns,a,b,rfl,bD,ha,hb,hn,q⟩;refine⟨_,(af (a9 (dC (bN hr (Rn T) T.kh T.N0 (pv 0) (aZ (pv 1) (pv 2)))) (ag (aB iP)) bt)
  (af (aN 3 nd (aT (ao (pv 0)) (pv 1)))
  (af (aN 4 nd (aT (ao (pv 0)) (pv 2)))
  (af (cn (pv 0) (ml U nd (eE (ao (pv 0))) (jF (own:=[("label",5)]) (by show iT ["self","first","second","kept","lost","label"] (d5 (inClass (top 40) 2)) _ _=true;decide+kernel)) (λ_ _ _ _ _=>(cx 5 nd)) (λ_ _ _ _ _=>oP) (λ_ _ _ _ _=>(kX (aR cj (pv 5) (pv 4)) (pv 3) (pv 5)))))
  (ag (aB iP)))))),?_⟩
 try dsimp only[A9]
 obtain⟨dx,l,hc,hl⟩:=id bD;refine⟨_,U,c,_,_,U,hc,U,_,U,_,U,c,ns,a,b,U,bD,ha,hb,_,U,?_⟩;by_cases ht:Mh a b ns=true
 .rw[aI ht]at q
  rw[ht];exact aJ q
 .rw[ay ht]at q
  have ht:Mh a b ns=false:=by simpa using ht
  rw[ht];refine aA ⟨_,U,c,_,_,_,_,U,hc,T.kh,T.qk,U,_,U,l,_,_,_,U,U,ab.of hl,bH (kC (A2 ha)),?_⟩;refine⟨_,U,c,_,_,_,_,U,hc,T.kh,T.qk,U,_,U,l,_,_,_,U,U,ab.of hl,bH (kC (A2 hb)),?_⟩;refine⟨_,U,c,_,_,_,_,U,hc,T.kh,T.qk,U,l,U,⟨_,ab.of hl⟩,λL hL=>oU (λ_=>False) mN mN.mono ns (λz=>some (if z=ns.getD b 0 then ns.getD a 0 else z)) hL (Hid.none _) (by rw[aX];lia) (ab.of hl) (by rw[aX]) ?_ ?_⟩
  .intro i H2 x z hx hz s2 aH Ky Kn h1 h2
   obtain⟨z',mj,rfl⟩:=lB hx;have e:z'=z:=aM (mj.symm.trans hz);subst e;refine⟨U,oZ ⟨_,U,_,U,U,_,U,?_⟩⟩;rw[show decide (nI z'=nI (ns.getD b 0))=decide (z'=ns.getD b 0)from jH _ _];by_cases e:z'=ns.getD b 0
   .rw[bb e]
    exact aJ ⟨_,U,h1 _ _ _ (by rw[aI e]) (aa.refl _) U⟩
   .rw[cO e]
    exact aA ⟨_,U,h1 _ _ _ (by rw[ay e]) (aa.refl _) U⟩
  .intro H2 acc s2 cH aH bh
   rw[uY]at bh;have ea:=AZ bh;subst ea;have ncl:L≠c:=ig cH (s2 _ _ hc) (by intro z;cases z);refine⟨_,U,c,_,_,_,U,s2 _ _ hc,T.kh,T.qk,(by show 1<1000;decide),q _ (λb o e hb=>by rw[aD hb];exact s2 _ _ e) ⟨dx,L,ae,?_⟩⟩;rw[aD ncl,cH];rfl
theorem any_cast(as:List Nat)(a:Nat):(as.map λn:Nat=>(n:Int)).any (·==(a:Int))=as.any (·==a):=by rw[List.any_map];congr 1;funext x;show((x:Int)==(a:Int))=(x==a);rw[js,beq_iff_eq,beq_iff_eq];lia
theorem Ho:∀(l as:List Nat),((l.map λn:Nat=>(n:Int)).foldl step_dedup (as.map λn:Nat=>(n:Int))).length=as.length+(l.filter λb=> !as.any (·==b)).eraseDups.length
 |[],as=>by simp
 |a::r,as=>by
  rw[ez,sR,mV];unfold step_dedup;rw[any_cast];cases h:as.any (·==a)with
  |true=>rw[aI U,ay (by simp)];exact Ho r as
  |false=>
   rw[ay (by simp),aI (by rfl:(!false)=true),u9,bj,List.filter_filter];have:=Ho r (as++[a]);rw[iD]at this;rw[show[a].map (λn:Nat=>(n:Int))=[(a:Int)]from rfl]at this;unfold step_dedup at this;rw[this,cP];have e:(r.filter λb=> !(as++[a]).any (·==b))=r.filter λb=>(!b==a)&& !as.any (·==b):=by refine aeH λy _=>?_;rw[List.any_append,Bool.not_or,Bool.and_comm];congr 1;rw[px,BB,sT,adi (a:=a)]
   rw[e];show as.length+1+_=as.length+(_+1);lia
theorem adl(ns:List Nat):(firstM (ns.map λn:Nat=>(n:Int))).length=MQ ns:=by
 unfold firstM firstMet MQ;have e:((List.range (ns.map λn:Nat=>(n:Int)).length).map λi=>(ns.map λn:Nat=>(n:Int)).getD i 0)=ns.map λn:Nat=>(n:Int):=by
  apply yc;intro i;by_cases hi:i<ns.length
  .rw[ft,qR (by rw[aX];exact hi),mW,cC (by rw[aX];exact hi),og,cC (by rw[aX];exact hi)];rfl
  .rw[kN (by simp;lia),kN (by simp;lia)]
 rw[e];have:=Ho ns [];rw[qN]at this;rw[this];rw[show(ns.filter λb=> !([]:List Nat).any (·==b))=ns from x5.mpr λ_ _=>rfl];simp
inductive Rq(A:aF)(vs:List V)(H:Hp)(Q:VK)(E:XK):Prop
 |mk (c:Addr) (ns:List Nat):vs=[.ref c]->CL A H c ns->ns.length<=4000->(∀H',aa H H'->Q (nI (MQ ns)) H')->Rq A vs H Q E
theorem adm(T:Txt K mg A):Gd P w K mg base 1 A.El A.d_Clusters_cluster_count ["self"] (Rq A):=by
 refine T.Zu.go (N:=["self"]) ?_;rintro aC A' outer s H vs Q E hr nd ⟨c,ns,rfl,⟨dx,l,hc,hl⟩,hn,q⟩;refine⟨_,(ag (aB (pY acU (by rfl) T.c6 adN (fM (oI (acT U) (by rfl) T.Xx acN (aj (ao (pv 0)))) bY)))),?_⟩
 try dsimp only[A9]
 have e:ns.map nI=(ns.map λn:Nat=>(n:Int)).map V.int:=by rw[kL];rfl
 refine⟨_,U,c,_,_,_,_,U,hc,T.kh,T.qk,U,l,_,U,ab.of (by rw[<-e];exact hl),by rw[aX];exact hn,λr d7=>⟨r,_,_,U,ae,?_⟩⟩;rw[adl];exact q _ (aa.new d7)
theorem A_{H0 H:Hp}{l t:Addr}{acc:List V}{es:List (Nat×Nat)}{x y:Nat}(sm:aa H0 H)(h0:H0 l=none)(hl:H l=some (.lst acc))(hp:Paired (d6 (Wo (λb=>b=l) H)) acc es)(ht:H t=none):
  aa H0 (upd (upd H t (.tup [nI x,nI y])) l (.lst (acc++[.ref t])))/\ Paired (d6 (Wo (λb=>b=l) (upd (upd H t (.tup [nI x,nI y])) l (.lst (acc++[.ref t]))))) (acc++[.ref t]) (es++[(x,y)]):=by
 have s1:=aa.new (o:= .tup [nI x,nI y]) ht;refine⟨c5 (sm.trans s1) h0,?_⟩;rw[dP (P:=λb=>b=l) U];refine kf (bO (λ_ _ r=>d6.mono _ _ _ _ (bV s1) r) hp) ⟨t,U,?_⟩;have ntl:¬t=l:=λc=>by rw[c,hl]at ht;cases ht
 rw[cR (P:=λb=>b=l) ntl,ae];rfl
theorem adn{s:Net}{D:dn}(d:dF s D){r:Nat}(h:r∈dR s):D.1.turns[r]? =some (gc s r:Int):=by
 obtain⟨f,hf⟩:=kK.mp h;have hl:(dR s).length=(tQ s).length:=lM _ _;have hF:(tQ s)[f]? =some ((tQ s)[f]'(by rw[<-hl];exact dm hf)):=cC _;generalize (tQ s)[f]'(by rw[<-hl];exact dm hf)=F at hF;have hm:=d.good.mul F (cN hF);obtain⟨_,sg⟩:=yO d.good.mul hF hf;have hb:D.1.below[r]? =some (-1):=by have:=(sg 0 (fz F)).1;rw[jQ,qJ,(oy F r (-1) (-1) hm).1]at this;rw[d.be];exact this
 have hr:r<(aQ s).length:=by have h1:=m8 _ _ r h;have e:(aQ s).length=bf (tQ s):=jV _ _ d.good.mul;lia
 unfold gc;cases hs:abP (abj s) r with
 |concl=>exact(d.arr.concl hr hs).2
 |cut q=>exact(d.arr.cut hr hs).2
 |tensor j q b=>have:=(d.arr.d9 hs).1;rw[hb]at this;have e:=aM this;lia
 |par j b=>have:=(d.arr.par hs).1;rw[hb]at this;have e:=aM this;lia
theorem bq.Ba{A:aF}{H:Hp}{a:eK}{vs:List V}{D:dn}(S:dE A H a (fE vs D.1 D.2.1 D.2.2.1) (D.1.jc:Int) (D.2.2.2:Int))(p:Paired (bZ H) vs D.1.nodes):AJ A H a.p D.1.nodes:=⟨a.dx,_,a.l0,vs,S.obj,U,S.get 0 U U,p⟩
theorem Hr{α:Type}(Pr:α->Bool)(l:List α)(k:Nat):(idx Pr l k).length<=l.length:=by rw[G8];exact sX _ _
theorem Rr{s:Net}{d9:Bool}{t:Vanetc.Par}(h:t∈gx d9 (aQ s) 0):jL s t.1 t.2.1 t.2.2:=by
 obtain⟨p,e1,e2⟩:=CG h;rw[afZ]at e1;rw[e1];cases d9 with
 |true=>exact .inl e2
 |false=>exact .inr e2
theorem Rt:∀(l:List Formula),l.length<=bf l
 |[]=>a_ _
 |F::r=>by have:=Rt r;have:=fz F;simp only[bf,bj];lia
inductive Ru(A:aF)(vs:List V)(H:Hp)(Q:VK)(E:XK):Prop
 |mk (v:V) (D:dn) (s:Net):vs=[v]->bq A H v D->dF s D->(∀v' H',aa H H'->cS d6 H' v' (abd s)->(abd s).length<=10000->Q v' H')->Ru A vs H Q E
theorem ado(T:Txt K mg A):Gd P w K mg base 3 A.Eo A.d_edges ["points"] (Ru A):=by
 refine T.Zw.go (N:=["points","found","tensor","point","root"]) ?_;rintro aC A' outer s H vs Q E hr nd ⟨v,D,s,rfl,hv,d,q⟩;refine⟨_,(af (aN 1 nd (aS bY))
  (af (eZ PassesOwn.never U (eE (bN hr (Qh T) T.aE T.Oc (pv 0) (aj (aW T.wI)))) (cx 2 nd) (af (bF (dD (pv 1) (gh (aZ (pv 2) (bN hr (qE T) T.aE T.qj (pv 0) (aZ (pv 2) ak))))))
  (ag (bF (dD (pv 1) (gh (aZ (pv 2) (bN hr (qE T) T.aE T.qj (pv 0) (aZ (pv 2) ak)))))))))
  (af (eZ PassesOwn.never U (eE (dO hr (GZ T) T.aE T.F7 (pv 0))) (cx 3 nd) (ag (a9 (aR iq (pv 3) (aT (ao (pv 0)) (pv 3))) (ag (bF (dD (pv 1) (gh (aZ (pv 3) (aT (ao (pv 0)) (pv 3))))))) bt)))
  (af (eZ PassesOwn.never U (eE (ao (pv 0))) (cx 4 nd) (ag (a9 (aR iq (pv 4) (aT (ao (pv 0)) (pv 4))) (ag (bF (dD (pv 1) (gh (aZ (pv 4) (aT (ao (pv 0)) (pv 4))))))) bt)))
  (ag (aB (pv 1))))))),?_⟩
 try dsimp only[A9]
 obtain⟨a,vs,rfl,S,pp⟩:=id hv;have uQ:=d.bd;have hln:=d.arr.ln;refine⟨bL _,λl hl=>?_⟩;have s0:=aa.new (o:= .lst []) hl;refine⟨_,U,a.p,_,_,U,s0 _ _ S.obj,U,a.p,D.1.nodes,2,U,bq.Ba (S.mono s0) (bO (λ_ _ r=>bZ.mono _ _ _ _ s0 r) pp),by rw[hln];show(aQ s).length<=100000;lia,λfa H1 s1 Hs fF=>?_⟩;have ph:=JM d.arr true;have ph:idx (λx=>x.1==2) D.1.nodes 0=(gx true (aQ s) 0).map (·.1):=ph;have hjl:(gx true (aQ s) 0).length<=(aQ s).length:=by have:=Hr (λx:Node=>x.1==2) D.1.nodes 0;rw[ph,aX,hln]at this;exact this
 rw[ph]at fF;have kF:∀t∈gx true (aQ s) 0,jL s t.1 t.2.1 t.2.2:=λ_ h=>Rr h;have ete:abd s=((gx true (aQ s) 0).flatMap λt=>[(t.1,t.2.1),(t.1,t.2.2)])++((cv s).filterMap (fg (partner s))++(dR s).filterMap (fg (gc s))):=by unfold abd;rw[JF,JI d.good,JK d.good]
 have nfl:fa≠l:=λc=>by rw[c,ae]at Hs;cases Hs
 have qp:H1 l=some (.lst []):=s1 _ _ ae;have xw:aa H H1:=s0.trans s1;generalize gx true (aQ s) 0=ts at fF hjl ete kF;refine⟨fa,U,⟨_,ab.of fF⟩,gL (xs:=(ts.map (·.1)).map nI) (λi σ' H'=>E2 λ(u:Option V) (acc:List V)=>A6 (σ'=[some (.ref a.p),some (.ref l),u,none,none]) (aa H H') (H' fa=some (.lst ((ts.map (·.1)).map nI))) (H' l=some (.lst acc)) (acc.length=2*i) (Paired (d6 (Wo (λb=>b=l) H')) acc ((ts.take i).flatMap λt=>[(t.1,t.2.1),(t.1,t.2.2)])))
  ⟨none,[],U,xw,fF,qp,U, .nil⟩ (λi σ' H' _ ⟨_,_,_,_,h,_,_,_⟩=>ab.of h) ?_ ?_⟩
 .rintro i x σ' H' hx ⟨u,acc,rfl,sm,Bb,dH,eg,bh⟩
  rw[kL]at hx;obtain⟨t,ht,rfl⟩:=lB hx;have hi:=dm ht;have hJ:jL s t.1 t.2.1 t.2.2:=kF t (cN ht);have Bc:2*i<=1000:=by lia
  have t9:=bq.mono _ _ _ _ sm hv;have S':=S.mono sm;refine⟨_,U, .inl ⟨U,_,ab.of dH⟩,_,U,_,U,a.p,_,_,U,S'.obj,U,_,U, .ref a.p,D,s,t.1,t.2.1,t.2.2,false,U,t9,d,hJ,gm,λz hz=>?_⟩;obtain⟨e1,e2⟩:=A_ (x:=t.1) (y:=t.2.1) sm hl dH bh hz;have nzl:z≠l:=λc=>by rw[c,dH]at hz;cases hz
  refine⟨l,_,_,U,U,aa.new hz _ _ dH,dk (by lia),?_⟩;have adq:upd (upd H' z (.tup [nI t.1,nI t.2.1])) l (.lst (acc++[.ref z])) fa=some (.lst ((ts.map (·.1)).map nI)):=by rw[aD nfl];exact aa.new hz _ _ Bb
  refine⟨_,U, .inl ⟨U,_,ab.of ae⟩,_,U,_,U,a.p,_,_,U,(S.mono e1).obj,U,_,U, .ref a.p,D,s,t.1,t.2.1,t.2.2,true,U,bq.mono _ _ _ _ e1 hv,d,hJ,gm,λz2 sI=>?_⟩;obtain⟨e3,e4⟩:=A_ (x:=t.1) (y:=t.2.2) e1 hl ae e2 sI;refine⟨l,_,_,U,U,aa.new sI _ _ ae,dk (by simp;lia),_,_,U,e3,?_,ae,by simp;lia,?_⟩
  .rw[aD nfl];exact aa.new sI _ _ adq
  .rw[iy ht,pG]
   have:([t].flatMap λt:Vanetc.Par=>[(t.1,t.2.1),(t.1,t.2.2)])=[(t.1,t.2.1)]++[(t.1,t.2.2)]:=rfl;rw[this,<-gC];exact e4
 .rintro σ' H' ⟨u,acc,rfl,sm,Bb,dH,eg,bh⟩
  rw[aX,aX,lH]at bh;have eg:acc.length<=500:=by rw[aX,aX]at eg;lia
  generalize (ts.flatMap λt:Vanetc.Par=>[(t.1,t.2.1),(t.1,t.2.2)])=Rv at bh ete;have S':=S.mono sm;refine⟨_,U,a.p,_,_,U,S'.obj,U,a.p,D.1.nodes,U,bq.Ba S' (bO (λ_ _ r=>bZ.mono _ _ _ _ sm r) pp),xq d,by rw[hln];show(aQ s).length<=100000;lia,λfb H2 s2 xC nU=>?_⟩;rw[yR d.arr]at nU;have nfb:fb≠l:=λc=>by rw[c,dH]at xC;cases xC
  have gw:(cv s).length<=(aQ s).length:=by have:=Hr (λx:Node=> !bR x) D.1.nodes 0;rw[yR d.arr,hln]at this;exact this
  have mK:∀p∈cv s,D.1.partners[p]? =some (partner s p:Int):=λp hp=>by obtain⟨i,hi⟩:=kK.mp hp;exact(d.arr.leaf (xB d.good hi).1).2
  have jM:aa H H2:=sm.trans s2;have xD:=bO (λ_ _ r=>d6.mono _ _ _ _ (bV (P:=λb=>b=l) s2) r) bh;have fh:=s2 _ _ dH;generalize cv s=ls at nU gw mK ete;refine⟨fb,U,⟨_,ab.of nU⟩,gL (xs:=ls.map nI) (λi σ' H'=>E2 λ(u':Option V) (acc:List V)=>A6 (σ'=[some (.ref a.p),some (.ref l),u,u',none]) (aa H H') (H' fb=some (.lst (ls.map nI))) (H' l=some (.lst acc)) (acc.length<=500+i) (Paired (d6 (Wo (λb=>b=l) H')) acc (Rv++(ls.take i).filterMap (fg (partner s)))))
   ⟨none,acc,U,jM,nU,fh,eg,by simpa using xD⟩ (λi σ' H' _ ⟨_,_,_,_,h,_,_,_⟩=>ab.of h) ?_ ?_⟩
  .clear bh xD eg dH fh Bb S' jM sm s2 nU xC
   rintro i x σ' H' hx ⟨u',acc,rfl,sm,xE,dH,eg,bh⟩;obtain⟨p,hp,rfl⟩:=lB hx;have hi:=dm hp;have gR:=mK p (cN hp);have S':=S.mono sm;have iV:(ls.take (i+1)).filterMap (fg (partner s))=(ls.take i).filterMap (fg (partner s))++(if p<partner s p then[(p,partner s p)]else[]):=by
    rw[iy hp,xS];congr 1;unfold fg;by_cases c:p<partner s p
    .rw[aI c];simp[c]
    .rw[ay c];simp[c]
   refine⟨_,U,_,U,_,_,_,_,_,U,S'.obj,T.aE,T.oV,U,_,U,a.l6,_,_,_,U,U,ab.of (S'.get 6 U U),bH (fY gR),_,_,U,U,_,U,?_⟩;by_cases c:p<partner s p
   .rw[aI c]at iV
    rw[show decide ((p:Int)<(partner s p:Int))=true from bb (by lia)];refine aJ ⟨_,U, .inl ⟨U,_,ab.of dH⟩,_,U,_,U,_,_,_,_,_,U,S'.obj,T.aE,T.oV,U,_,U,a.l6,_,_,_,U,U,ab.of (S'.get 6 U U),bH (fY gR),gm,λz hz=>?_⟩;obtain⟨e1,e2⟩:=A_ (x:=p) (y:=partner s p) sm hl dH bh hz;refine⟨l,_,_,U,U,aa.new hz _ _ dH,dk (by lia),_,_,U,e1,by rw[aD nfb];exact aa.new hz _ _ xE,ae,by simp;lia,?_⟩;rw[iV,<-gC];exact e2
   .rw[ay c,i5]at iV
    rw[show decide ((p:Int)<(partner s p:Int))=false from cO (by lia)];exact aA ⟨_,acc,U,sm,xE,dH,by lia,by rw[iV];exact bh⟩
  .clear bh xD eg dH fh Bb S' jM sm s2 nU xC
   rintro σ' H' ⟨u',acc,rfl,sm,xE,dH,eg,bh⟩;rw[aX,lH]at bh;have eg:acc.length<=800:=by rw[aX]at eg;lia
   have S':=S.mono sm;have mJ:=S'.get 8 U U;rw[d.ro]at mJ;have tL:(dR s).length<=240:=by have e:(dR s).length=(tQ s).length:=lM _ _;have e2:(aQ s).length=bf (tQ s):=jV _ _ d.good.mul;have e3:(tQ s).length<=bf (tQ s):=Rt _;lia
   rw[<-gC]at ete;generalize Rv++ls.filterMap (fg (partner s))=es1 at bh ete;have nrl:a.l8≠l:=λc=>by have:=S.get 8 U U;rw[c,hl]at this;cases this
   have AY:∀r∈dR s,D.1.turns[r]? =some (gc s r:Int):=λr hr=>adn d hr;generalize dR s=rs at mJ tL AY ete;refine⟨_,U,_,_,_,_,_,U,S'.obj,T.aE,T.oX,U,a.l8,U,⟨_,ab.of mJ⟩,gL (xs:=rs.map nI) (λi σ' H'=>E2 λ(u'':Option V) (acc:List V)=>A6 (σ'=[some (.ref a.p),some (.ref l),u,u',u'']) (aa H H') (H' a.l8=some (.lst (rs.map nI))) (H' l=some (.lst acc)) (acc.length<=800+i) (Paired (d6 (Wo (λb=>b=l) H')) acc (es1++(rs.take i).filterMap (fg (gc s)))))
    ⟨none,acc,U,sm,mJ,dH,eg,by simpa using bh⟩ (λi σ' H' _ ⟨_,_,_,_,h,_,_,_⟩=>ab.of h) ?_ ?_⟩
   .clear bh eg dH S' sm mJ xE
    rintro i x σ' H' hx ⟨u'',acc,rfl,sm,Ht,dH,eg,bh⟩;obtain⟨p,hp,rfl⟩:=lB hx;have hi:=dm hp;have gR:=AY p (cN hp);have S':=S.mono sm;have iV:(rs.take (i+1)).filterMap (fg (gc s))=(rs.take i).filterMap (fg (gc s))++(if p<gc s p then[(p,gc s p)]else[]):=by
     rw[iy hp,xS];congr 1;unfold fg;by_cases c:p<gc s p
     .rw[aI c];simp[c]
     .rw[ay c];simp[c]
    refine⟨_,U,_,U,_,_,_,_,_,U,S'.obj,T.aE,T.oW,U,_,U,a.l7,_,_,_,U,U,ab.of (S'.get 7 U U),bH (fY gR),_,_,U,U,_,U,?_⟩;by_cases c:p<gc s p
    .rw[aI c]at iV
     rw[show decide ((p:Int)<(gc s p:Int))=true from bb (by lia)];refine aJ ⟨_,U, .inl ⟨U,_,ab.of dH⟩,_,U,_,U,_,_,_,_,_,U,S'.obj,T.aE,T.oW,U,_,U,a.l7,_,_,_,U,U,ab.of (S'.get 7 U U),bH (fY gR),gm,λz hz=>?_⟩;obtain⟨e1,e2⟩:=A_ (x:=p) (y:=gc s p) sm hl dH bh hz;refine⟨l,_,_,U,U,aa.new hz _ _ dH,dk (by lia),_,_,U,e1,by rw[aD nrl];exact aa.new hz _ _ Ht,ae,by simp;lia,?_⟩;rw[iV,<-gC];exact e2
    .rw[ay c,i5]at iV
     rw[show decide ((p:Int)<(gc s p:Int))=false from cO (by lia)];exact aA ⟨_,acc,U,sm,Ht,dH,by lia,by rw[iV];exact bh⟩
   .clear bh eg dH S' sm mJ xE
    rintro σ' H' ⟨u'',acc,rfl,sm,Ht,dH,eg,bh⟩;rw[aX,lH]at bh;rw[<-ete]at bh;have bK:=ck bh;exact⟨_,U,q _ _ sm ⟨l,acc,U,dH,bO (λ_ _ r=>d6.mono _ _ _ _ (bB _ _) r) bh⟩ (by rw[aX]at eg;lia)⟩
inductive Rw(A:aF)(vs:List V)(H:Hp)(Q:VK)(E:XK):Prop
 |mk (v:V) (D:dn) (s:Net) (c:Addr) (ns:List Nat) (j l r:Nat):vs=[v, .ref c,nI j]->bq A H v D->dF s D->jL s j l r->CL A H c ns->l<ns.length->r<ns.length->Q (.bl (Mh l r ns)) H->Rw A vs H Q E
theorem Rx(T:Txt K mg A):Gd P w K mg base 2 A.Er A.d_is_ready ["points","clusters","par"] (Rw A):=by
 refine T.Zy.go (N:=["points","clusters","par"]) ?_;rintro aC A' outer s H vs Q E hr nd ⟨v,D,s,c,ns,j,l,r,rfl,hv,d,hJ,bD,hl,hr',q⟩;refine⟨_,(ag (aB (bN hr (Rn T) T.kh T.N0 (pv 1) (aZ (bN hr (qE T) T.aE T.qj (pv 0) (aZ (pv 2) ak)) (bN hr (qE T) T.aE T.qj (pv 0) (aZ (pv 2) ak)))))),?_⟩
 try dsimp only[A9]
 obtain⟨a,vs,rfl,S,pp⟩:=id hv;obtain⟨dx,la,hc,jk⟩:=id bD;exact⟨_,U,c,_,_,U,hc,U,_,U,a.p,_,_,U,S.obj,U,_,U, .ref a.p,D,s,j,l,r,false,U,hv,d,hJ,_,U,a.p,_,_,U,S.obj,U,_,U, .ref a.p,D,s,j,l,r,true,U,hv,d,hJ,c,ns,l,r,U,bD,hl,hr',q⟩
theorem Hu{K:FU}{H:Hp}:∀(l:List Nat),oO K H (l.map nI) (l.map λn:Nat=>PyData.int (n:Int))
 |[]=> .nil
 |b::t=> .cons (.int _) (Hu t)
theorem Ry(l:List Nat):iz (.list (l.map λn:Nat=>PyData.int (n:Int))) 1:=wV λx hx=>by obtain⟨b,_,rfl⟩:=eu.mp hx;exact Am _
theorem Hv{α β:Type}(P:α->Bool)(g:α->β):∀(l:List α),(l.filterMap λx=>if P x=true then some (g x)else none)=(l.filter P).map g
 |[]=>rfl
 |a::r=>by
  rw[jr,mV,Hv P g r];by_cases h:P a=true
  .rw[aI h,aI h];rfl
  .rw[ay h,ay h]
theorem Rz{α:Type}(P:α->Bool):∀l:List α,(l.filter P).length+(l.filter λt=> !P t).length=l.length
 |[]=>rfl
 |a::r=>by have:=Rz P r;rw[mV,mV];cases P a<;>simp<;>lia
inductive RA(A:aF)(vs:List V)(H:Hp)(Q:VK)(E:XK):Prop
 |mk (v:V) (D:dn) (s:Net) (c:Addr) (ns:List Nat):vs=[v, .ref c]->(bq A (Wo (λb=>b=c) H) v D)->dF s D->CL A H c ns->ns.length=(aQ s).length->((∀H',K1 c H H'->drawn (pars s).length (pars s) ns=false->Q (.bl false) H'))->((∀H' iY,K1 c H H'->CL A H' c iY->iY.length=(aQ s).length->drawn (pars s).length (pars s) ns=(MQ iY==1)->Q (.bl true) H'))->RA A vs H Q E
theorem adv(T:Txt K mg A):Gd P w K mg base 3 A.Ep A.d_takes_all_pars ["points","clusters"] (RA A):=by
 refine T.Zx.go (N:=["points","clusters","waiting","ready","par"]) ?_;rintro aC A' outer s H vs Q E hr nd ⟨v,D,s,c,Hw,rfl,fW,d,RB,adw,qF,qT⟩;refine⟨_,(af (aN 2 nd (bN hr (Qh T) T.aE T.Oc (pv 0) (aj (aW T.Ab))))
  (af (j4 PassesOwn.never (aR (Dx hr.units) (pv 2) (aS bY)) (af (DI (i:=3) U nd U U (DJ U U U (by decide+kernel)) (eE (pv 2)) (jF (own:=[("par",4)]) (by show iT ["points","clusters","waiting","ready","par"] (d5 (top 43)) _ _=true;decide+kernel)) (λ_ _ _ _ _=>(cx 4 nd)) (λ_ _ _ _ _=>(wj (dC (aP hr (Rx T) T.N2 (fM (pv 0) (aZ (pv 1) (pv 4))))))) (λ_ _ _ _ _=>(pv 4)))
  (af (a9 (aR (mi hr.units) (pv 3) (aS bY)) (ag (aB iP)) bt)
  (af (DI (i:=2) U nd U U (DJ U U U (by decide+kernel)) (eE (pv 2)) (jF (own:=[("par",4)]) (by show iT ["points","clusters","waiting","ready","par"] (d5 (top 43)) _ _=true;decide+kernel)) (λ_ _ _ _ _=>(cx 4 nd)) (λ_ _ _ _ _=>(wj (ij (dC (aP hr (Rx T) T.N2 (fM (pv 0) (aZ (pv 1) (pv 4)))))))) (λ_ _ _ _ _=>(pv 4)))
  (ag (eZ PassesOwn.never U (eE (pv 3)) (cx 4 nd) (ag (a9 (ij (dC (bN hr (Rp T) T.kh T.N1 (pv 1) (aZ (pv 4) (bN hr (qE T) T.aE T.qj (pv 0) (aZ (pv 4) ak)))))) (ag (aB iP)) bt))))))))
  (ag (aB iP)))),?_⟩
 try dsimp only[A9]
 obtain⟨a,vs,rfl,S0,pp⟩:=id fW;have uQ:=d.bd;have hln:=d.arr.ln;obtain⟨wZ,la0,Q7,adz⟩:=id RB;have up:∀{H':Hp},K1 c H H'->aa (Wo (λb=>b=c) H) H':=λk=>(qe λb o e hb=>k b o e hb).trans (bB _ _);have S:=S0.mono (bB _ _);refine⟨_,U,a.p,_,_,U,S.obj,U,a.p,D.1.nodes,3,U,bq.Ba S (bO (λ_ _ r=>bZ.mono _ _ _ _ (bB _ _) r) pp),by rw[hln];show(aQ s).length<=100000;lia,λfa H1 s1 Hs fF=>?_⟩;have ph:=JM d.arr false;have ph:idx (λx=>x.1==3) D.1.nodes 0=(gx false (aQ s) 0).map (·.1):=ph;rw[ph,<-yQ]at fF;have Gx:(pars s).length<=240:=by have:=Hr (λx:Node=>x.1==3) D.1.nodes 0;rw[ph,aX,hln,<-yQ]at this;have h2:(pars s).length<=(aQ s).length:=this;lia
 have Hy:=JL d.good;have hpj:∀t∈pars s,jL s t.1 t.2.1 t.2.2:=λt ht=>by rw[yQ]at ht;exact Rr ht
 have k1:K1 c H H1:=λb o e _=>s1 _ _ e;have adB:CL A H1 c Hw:=⟨wZ,la0,s1 _ _ Q7,s1 _ _ adz⟩
 generalize hd0:drawn (pars s).length (pars s) Hw=dr at qF qT;obtain⟨W,hW⟩:∃W:Nat->L2.St->Hp->Prop,W=λm σ' H'=>E5 λ(ps:List Vanetc.Par) (wa:Addr) (ns:List Nat) (u v:Option V)=>LY (m=ps.length) (ps.length<=240) ((∀t∈ps,jL s t.1 t.2.1 t.2.2)) (pO (aQ s).length ps) (σ'=[some (.ref a.p),some (.ref c),some (.ref wa),u,v]) (K1 c H H') (CL A H' c ns) (ns.length=(aQ s).length) (H' wa=some (.lst ((ps.map (·.1)).map nI))) (dr=drawn ps.length ps ns):=⟨_,U⟩
 refine⟨W,⟨_,by rw[hW];exact⟨pars s,fa,Hw,none,none,U,Gx,hpj,Hy,U,k1,adB,adw,fF,hd0.symm⟩⟩,λm σ' H' w'=>?_⟩;rw[hW]at w';obtain⟨ps,wa,ns,u,v,rfl,bK,hj,Bd,rfl,kk,bD,j_,fG,sf⟩:=w';refine⟨_,U,bL _,λz hz=>?_⟩;have sz:=aa.new (o:= .lst []) hz;refine⟨_,_, .lst (ab.of (sz _ _ fG)) (Hu _),mC ae,(Ry _).shaped (by decide),mD,_,U,?_⟩;rw[mB,isEmpty_map,isEmpty_map];have Hz:K1 c H (upd H' z (.lst [])):=λb o e hb=>sz _ _ (kk b o e hb);have HA:CL A (upd H' z (.lst [])) c ns:=by obtain⟨dx,la,h1,h2⟩:=bD;exact⟨dx,la,sz _ _ h1,sz _ _ h2⟩
 have xF:=sz _ _ fG;generalize upd H' z (.lst [])=H2 at Hz HA xF⊢;cases eC:ps with
 |nil=>subst eC;exact aA (qT H2 ns Hz HA j_ (by rw[sf];exact T7 ns))
 |cons p0 r0=>
  have b8:ps≠ []:=by rw[eC];simp
  have hem:ps.isEmpty=false:=by rw[eC];rfl
  rw[<-eC];rw[hem];refine aJ ?_;have hmono:∀{H3:Hp},aa H2 H3->CL A H3 c ns:=λs3=>by obtain⟨dx,la,h1,h2⟩:=HA;exact⟨dx,la,s3 _ _ h1,s3 _ _ h2⟩
  have kS:∀{H3:Hp},aa H2 H3->K1 c H H3:=λs3 b o e hb=>s3 _ _ (Hz b o e hb);have aU:∀t∈ps,t.1<ns.length/\ t.2.1<ns.length/\ t.2.2<ns.length:=λt ht=>by rw[j_];exact Bd t ht
  have Be:((ps.map (·.1)).map nI).length=ps.length:=by rw[aX,aX]
  refine⟨_,U,wa,U,⟨_,ab.of xF⟩,λL hL=>oU (λ_=>False) mN mN.mono ps (λt=>if isReady ns t=true then some t.1 else none) hL (Hid.none _) (by rw[Be];lia) (ab.of xF) Be ?_ ?_⟩
  .intro i H3 x t hx ht s3 aH Ky Kn h1 h2
   rw[kL]at hx;obtain⟨t',HB,rfl⟩:=lB hx;have e:t'=t:=aM (HB.symm.trans ht);subst e;have kF:=cN ht;refine⟨U,_,U,_,U,_,U, .ref a.p,D,s,c,ns,t'.1,t'.2.1,t'.2.2,U,bq.mono _ _ _ _ (up (kS s3)) fW,d,hj t' kF,hmono s3,(aU t' kF).2.1,(aU t' kF).2.2,_,U,?_⟩;cases hr:isReady ns t' with
   |true=>rw[show Mh t'.2.1 t'.2.2 ns=true from hr];exact aJ ⟨_,U,h1 _ _ _ (by rw[aI hr]) (aa.refl _) U⟩
   |false=>rw[show Mh t'.2.1 t'.2.2 ns=false from hr];exact aA (h2 _ (by rw[ay (by rw[hr];simp)]) (aa.refl _))
  .intro H3 acc s3 cH aH bh
   have ea:=AZ bh;rw[Hv (isReady ns) (λt:Vanetc.Par=>t.1)]at ea;subst ea;have hturn:=T8 j_ Bd;rw[<-sf]at hturn;have tL:(ps.filter (isReady ns)).length<=ps.length:=sX _ _;refine⟨_,U,bL _,λz3 Ap=>?_⟩;have wQ:=aa.new (o:= .lst []) Ap;refine⟨_,_, .lst (ab.of (wQ _ _ cH)) (Hu _),mC ae,(Ry _).shaped (by decide),mD,_,U,?_⟩;rw[mB,isEmpty_map,isEmpty_map];have s4:aa H2 (upd H3 z3 (.lst [])):=s3.trans wQ;have RD:=wQ _ _ cH;generalize upd H3 z3 (.lst [])=H4 at s4 RD⊢;cases pP:(ps.filter (isReady ns)).isEmpty with
   |true=>
    refine aJ (qF H4 (kS s4) ?_);have fw:∀p∈ps,isReady ns p=false:=λp hp=>by have e:=List.isEmpty_iff.mp pP;have:=List.filter_eq_nil_iff.mp e p hp;simpa using this
    rw[sf];exact T6 fw b8 _
   |false=>
    have adE:ps.filter (isReady ns)≠ []:=λc=>by rw[c]at pP;cases pP
    refine aA ⟨_,U,wa,U,⟨_,ab.of (s4 _ _ xF)⟩,λL2 hL2=>oU (λ_=>False) mN mN.mono ps (λt=>if(!isReady ns t)=true then some t.1 else none) hL2 (Hid.none _) (by rw[Be];lia) (ab.of (s4 _ _ xF)) Be ?_ ?_⟩
    .intro i H5 x t hx ht s5 aH Ky Kn h1 h2
     rw[kL]at hx;obtain⟨t',HB,rfl⟩:=lB hx;have e:t'=t:=aM (HB.symm.trans ht);subst e;have kF:=cN ht;have sJ:=s4.trans s5;refine⟨U,_,U,_,U,_,U, .ref a.p,D,s,c,ns,t'.1,t'.2.1,t'.2.2,U,bq.mono _ _ _ _ (up (kS sJ)) fW,d,hj t' kF,hmono sJ,(aU t' kF).2.1,(aU t' kF).2.2,_,U,?_⟩;cases hr:isReady ns t' with
     |true=>rw[show Mh t'.2.1 t'.2.2 ns=true from hr];exact aA (h2 _ (by rw[hr];rfl) (aa.refl _))
     |false=>rw[show Mh t'.2.1 t'.2.2 ns=false from hr];exact aJ ⟨_,U,h1 _ _ _ (by rw[hr];rfl) (aa.refl _) U⟩
    .intro H5 acc2 s5 HC OI xD
     have ea:=AZ xD;rw[Hv (λt=> !isReady ns t) (λt:Vanetc.Par=>t.1)]at ea;subst ea;have sJ:=s4.trans s5;have Bf:=s5 _ _ RD;have RE:(ps.filter λt=> !isReady ns t).length<ps.length:=by have e:=Rz (isReady ns) ps;have:0<(ps.filter (isReady ns)).length:=sV.mpr adE;lia
     have rest1:∀t∈ps.filter λt=> !isReady ns t,t∈ps:=λt ht=>(uU.mp ht).1;have rdy1:∀t∈ps.filter (isReady ns),t∈ps:=λt ht=>(uU.mp ht).1;obtain⟨dx5,la5,RF,_⟩:=hmono sJ;have nLc:L≠c:=ig Bf RF (by intro z;cases z);have nL2c:L2≠c:=ig HC RF (by intro z;cases z);generalize afD:ps.filter (isReady ns)=rd at Bf hturn tL rdy1;generalize afE:(ps.filter λt=> !isReady ns t)=rs at HC hturn RE rest1;refine⟨_,U,L,U,⟨_,ab.of Bf⟩,gL (xs:=(rd.map (·.1)).map nI) (λi σ' H'=>E2 λ(v':Option V) (iY:List Nat)=>A5 (σ'=[some (.ref a.p),some (.ref c),some (.ref L2),some (.ref L),v']) (K1 c H5 H') (CL A H' c iY) (iY.length=(aQ s).length) (ni rd ns=ni (rd.drop i) iY))
      ⟨v,ns,U,λb o e _=>e,hmono sJ,j_,by rw[mT]⟩ (λi σ' H' _ ⟨_,_,_,k',_,_,_⟩=>ab.of (k' _ _ Bf nLc)) ?_ ?_⟩
     .rintro i x σ' H' hx ⟨v',iY,rfl,k',Bg,xG,fI⟩
      rw[kL]at hx;obtain⟨t,ht,rfl⟩:=lB hx;have kF:=rdy1 t (cN ht);have HD:rd.drop i=t::rd.drop (i+1):=by have e:=(da.mp ht).2;rw[kM (dm ht),e]
      rw[HD]at fI;have fH:=Bd t kF;have kH:K1 c H H':=λb o e hb=>k' _ _ (kS sJ _ _ e hb) hb;have S6:=S0.mono (up kH);obtain⟨dx6,la6,HE,adI⟩:=id Bg;refine⟨_,U,c,_,_,U,HE,U,_,U,_,U,a.p,_,_,U,S6.obj,U,_,U, .ref a.p,D,s,t.1,t.2.1,t.2.2,false,U,bq.mono _ _ _ _ (up kH) fW,d,hj t kF,c,iY,t.1,t.2.1,U,Bg,by rw[xG];exact fH.1,by rw[xG];exact fH.2.1,by lia,?_⟩;have HF:ni (t::rd.drop (i+1)) iY=if Mh t.1 t.2.1 iY=true then none else ni (rd.drop (i+1)) (lQ t.1 t.2.1 iY):=rfl;rw[HF]at fI;by_cases eY:Mh t.1 t.2.1 iY=true
      .rw[aI eY]at fI
       rw[aI eY];refine⟨_,U,aJ (qF H' kH ?_)⟩;rw[hturn,fI]
      .rw[ay eY]at fI
       rw[ay eY];intro H7 k7 HG;exact⟨_,U,aA ⟨_,_,U,λb o e hb=>k7 _ _ (k' _ _ e hb) hb,HG,by rw[Cu];exact xG,fI⟩⟩
     .rintro σ' H' ⟨v',iY,rfl,k',Bg,xG,fI⟩
      rw[aX,aX,mY]at fI;have fI:ni rd ns=some iY:=fI;rw[fI]at hturn;have kH:K1 c H H':=λb o e hb=>k' _ _ (kS sJ _ _ e hb) hb;refine⟨rs.length,RE,?_⟩;rw[hW];exact⟨rs,L2,iY,_,_,U,by lia,λt ht=>hj t (rest1 t ht),λt ht=>Bd t (rest1 t ht),U,kH,Bg,xG,k' _ _ HC nL2c,hturn⟩
theorem adJ{A:aF}{H:Hp}{v:V}{c dx:Addr}{fs:List (Str×V)}{es:List (Nat×Nat)}(hc:H c=some (.ins A.kg dx fs))(h:cS d6 H v es):cS d6 (Wo (λb=>b=c) H) v es:=by
 obtain⟨l,vs,rfl,hl,p⟩:=h;have ne:∀{x:Addr} {o:HO},H x=some o->o≠ .ins A.kg dx fs->Wo (λb=>b=c) H x=some o:=λ{x o} hx ho=>by rw[cR (P:=λb=>b=c) (λe=>by rw[e,hc]at hx;exact ho (aM hx).symm)];exact hx
 refine⟨l,vs,U,ne hl (by intro z;cases z),bO (λu x r=>?_) p⟩;obtain⟨a,rfl,ha⟩:=r;exact⟨a,U,ne ha (by intro z;cases z)⟩
inductive RG(A:aF)(vs:List V)(H:Hp)(Q:VK)(E:XK):Prop
 |mk (v:V) (D:dn) (s:Net):vs=[v]->bq A H v D->dF s D->(∀H',aa H H'->Q (.bl (abI s)) H')->RG A vs H Q E
theorem adK(T:Txt K mg A):Gd P w K mg base 4 A.Em A.d_draws_together ["points"] (RG A):=by
 refine T.Zv.go (N:=["points","clusters","edge"]) ?_;rintro aC A' outer s H vs Q E hr nd ⟨v,D,s,rfl,hv,d,q⟩;refine⟨_,(af (aN 1 nd (qi hr (adk T) T.aaQ T.Yd (aj (dw T.c6 (ao (pv 0))))))
  (af (eZ PassesOwn.never U (eE (aP hr (ado T) T.Yq (aj (pv 0)))) (cx 2 nd) (ag (a9 (ij (dC (bN hr (Rp T) T.kh T.N1 (pv 1) (aZ (cW (pv 2) ak) (cW (pv 2) ak))))) (ag (aB iP)) bt)))
  (ag (aB (vQ (aP hr (adv T) T.Yr (aZ (pv 0) (pv 1))) (rB (lu cj (dO hr (adm T) T.kh T.Yo (pv 1)) ak))))))),?_⟩
 try dsimp only[A9]
 obtain⟨a,vs,rfl,S,pp⟩:=id hv;have uQ:=d.bd;have hln:vs.length=(aQ s).length:=by rw[ck pp,d.arr.ln]
 have jW:=Uo d.good;have Hy:=JL d.good;have iX:=T9 (s:=s) U jW Hy;refine⟨_,U,_,_,_,_,_,U,S.obj,T.aE,T.kj,U,a.l0,_,U, .inl (ab.of (S.get 0 U U)),?_⟩;intro c dx hc Bh kU;have s1:aa H (upd (upd H dx (.own c)) c (.ins A.kg dx [])):=c5 (aa.new Bh) hc;refine⟨c,dx,(aQ s).length,by rw[hln];rfl,ae,by lia,λH2 k2 adL=>⟨U,?_⟩⟩;have s2:aa H H2:=λb o e=>k2 _ _ (s1 _ _ e) (bS e hc);have GW:=bq.mono _ _ _ _ s2 hv;refine⟨_,U, .ref a.p,D,s,U,GW,d,λv' H3 s3 hes oS=>?_⟩;have ji:=s2.trans s3;have RH:CL A H3 c (List.range (aQ s).length):=by obtain⟨dx,la,h1,h2⟩:=adL;exact⟨dx,la,s3 _ _ h1,s3 _ _ h2⟩
 obtain⟨Aw,la3,hc3,afG⟩:=id RH;have adO:=adJ hc3 hes;obtain⟨fa,xs,rfl,fF,cg⟩:=adO;obtain⟨nfc,RI⟩:=iU fF;have jh:=ck cg;have up:∀{H':Hp},K1 c H3 H'->aa (Wo (λb=>b=c) H3) (Wo (λb=>b=c) H'):=λk=>qe λb o e hb=>k b o e hb;have upH:∀{H':Hp},K1 c H3 H'->aa H H':=λk b o e=>k _ _ (ji _ _ e) (bS e hc);generalize abd s=es at cg jh oS jW iX;refine⟨fa,U,⟨_,ab.of RI⟩,gL (xs:=xs) (λi σ' H'=>E2 λ(u:Option V) (ns:List Nat)=>A5 (σ'=[some (.ref a.p),some (.ref c),u]) (K1 c H3 H') (CL A H' c ns) (ns.length=(aQ s).length) (nj es (List.range (aQ s).length)=nj (es.drop i) ns))
  ⟨none,_,U,λb o e _=>e,RH,by simp,by rw[mT]⟩ (λi σ' H' _ ⟨_,_,_,k,_,_,_⟩=>ab.of (k _ _ RI nfc)) ?_ ?_⟩
 .rintro i x σ' H' hx ⟨u,ns,rfl,k,bD,j_,fI⟩
  obtain⟨e,he,g,rfl,hg⟩:=fB cg hx;have hi:=dm he;have kx:=bB _ _ _ _ (up k _ _ hg);have HD:es.drop i=e::es.drop (i+1):=by have e':=(da.mp he).2;rw[kM hi,e']
  rw[HD]at fI;have hb:=jW e (cN he);obtain⟨dx6,la6,HE,adI⟩:=id bD;refine⟨_,U,c,_,_,U,HE,U,_,U,_,_,_,_,U,U,bx.of kx,bT,_,U,_,_,_,_,U,U,bx.of kx,fP,c,ns,e.1,e.2,U,bD,by rw[j_];exact hb.1,by rw[j_];exact hb.2,by lia,?_⟩;have HF:nj (e::es.drop (i+1)) ns=if Mh e.1 e.2 ns=true then none else nj (es.drop (i+1)) (lQ e.1 e.2 ns):=rfl;rw[HF]at fI;by_cases eY:Mh e.1 e.2 ns=true
  .rw[aI eY]at fI
   rw[aI eY];rw[fI]at iX;refine⟨_,U,aJ ?_⟩;have:=q H' (upH k);rw[iX]at this;exact this
  .rw[ay eY]at fI
   rw[ay eY];intro H7 k7 HG;exact⟨_,U,aA ⟨_,_,U,λb o e hb=>k7 _ _ (k _ _ e hb) hb,HG,by rw[Cu];exact j_,fI⟩⟩
 .rintro σ' H' ⟨u,ns,rfl,k,bD,j_,fI⟩
  rw[jh,mY]at fI;have fI:nj es (List.range (aQ s).length)=some ns:=fI;rw[fI]at iX;have iX:abI s=drawn (pars s).length (pars s) ns:=iX;have sH:=upH k;have wH:aa H (Wo (λb=>b=c) H'):=λb o e=>by rw[cR (P:=λb=>b=c) (bS e hc)];exact sH _ _ e
  refine⟨_,U,_,U, .ref a.p,D,s,c,ns,U,bq.mono _ _ _ _ wH hv,d,bD,j_,λH8 k8 hf=>?_,λH8 xH k8 RJ afH hf=>?_⟩
  .refine⟨_,U,aA ?_⟩
   have:=q H8 (λb o e=>k8 _ _ (sH _ _ e) (bS e hc));rw[iX,hf]at this;exact this
  .obtain⟨dx8,la8,hc8,afK⟩:=id RJ
   refine⟨_,U,aJ ⟨_,U,c,_,_,U,hc8,U,c,xH,U,RJ,by lia,λH9 s9=>⟨U,?_⟩⟩⟩;have:=q H9 (λb o e=>s9 _ _ (k8 _ _ (sH _ _ e) (bS e hc)));rw[iX,hf]at this;have e1:decide (nI (MQ xH)=V.int 1)=(MQ xH==1):=by have e2:(V.int 1:V)=nI 1:=rfl;rw[e2,show decide (nI (MQ xH)=nI 1)=decide (MQ xH=1)from jH _ _,js];simp
   rw[<-e1]at this;exact this
noncomputable def ah(x:P3):Net:={concl:=x.1,cuts:=x.2.1,to:=abe (cJ x).length x.2.2}
theorem adQ(x:P3):adu (ah x)=cJ x:=rfl
theorem xI(x:P3):(ah x).to.length=(cJ x).length:=tE _ _
theorem adR(l:List Formula):(l.flatMap λA=>[A,L7 A]).all inBounds=l.all inBounds:=by
 induction l with
 |nil=>rfl
 |cons a r ih=>rw[iE,BC,ih,iG,iG,iG,Tn];cases inBounds a<;>simp
theorem adS(x:P3):((x.1++x.2.1.flatMap λA=>[A,L7 A]).map NO).foldl (·+·) 0=(cJ x).length:=(Js (bE x)).symm
structure fJ(x:P3):Prop where
 ok:qy x
 nr:refusal (some x)=0
 ri:abM x.2.2=true
theorem qG{x:P3}(h:refusal (some x)=0):(bE x).all inBounds=true/\ (cJ x).length<=120/\ paired (cJ x) x.2.2=true:=by
 unfold refusal at h;simp only at h;by_cases h1:(bE x).all inBounds=false
 .rw[aI h1]at h;lia
 .rw[ay h1]at h
  by_cases h2:120<(cJ x).length
  .rw[aI h2]at h;lia
  .rw[ay h2]at h
   by_cases h3:paired (cJ x) x.2.2=false
   .rw[aI h3]at h;lia
   .exact⟨by simpa using h1,by lia,by simpa using h3⟩
theorem adT{α:Type}{x:P3}(ok:qy x)(f:Net->Except Nat α):ady x f=if refusal (some x)=0 then f (ah x)else .error (-(refusal (some x))).toNat:=by
 unfold ady refusal;simp only;rw[adS];have e1:(x.1++x.2.1).all inBounds=(bE x).all inBounds:=by unfold bE;rw[BC,BC,adR]
 rw[e1];have hp:=IC (cJ x) x.2.2 ok.lt;unfold Vanetc.after;cases h1:(bE x).all inBounds with
 |false=>rfl
 |true=>
  by_cases h2:120<(cJ x).length
  .have:decide ((cJ x).length<=abN)=false:=cO (by unfold abN;lia)
   rw[this];simp[h2]
  .have:decide ((cJ x).length<=abN)=true:=bb (by unfold abN;lia)
   rw[this];have e3:(Vanetc.oncePairs (cJ x).length x.2.2&&Vanetc.linked (adu (ah x)) (ah x).to)=paired (cJ x) x.2.2:=by rw[adQ,hp];rfl
   have e4:(Vanetc.oncePairs (cJ x).length x.2.2&&Vanetc.linked (adu {concl:=x.1,cuts:=x.2.1,to:=abe (cJ x).length x.2.2}) (abe (cJ x).length x.2.2))=paired (cJ x) x.2.2:=e3;rw[e4];cases h3:paired (cJ x) x.2.2 with
   |false=>simp[h2]
   |true=>simp[h2];rfl
theorem qV:∀A:Formula,multiplicative A=true->nodes A+1=2*NO A
 | .atom _ _,_=>rfl
 | .tensor A B,h| .par A B,h=>by simp only[multiplicative,bC]at h;have:=qV A h.1;have:=qV B h.2;simp only[nodes,NO];lia
 | .wth A B,h| .plus A B,h| .ofc A,h| .whn A,h=>by simp[multiplicative]at h
theorem Bi:∀(l:List Formula),(∀F∈l,multiplicative F=true)->bf l<=2*(l.flatMap NM).length
 |[],_=>bL _
 |F::r,h=>by have h1:=Bi r λG hG=>h G (by simp[hG]);have h2:=qV F (h F (by simp));rw[iE,cP,qU];simp only[bf];lia
theorem fJ.mul{x:P3}(o:fJ x):∀F∈bE x,multiplicative F=true:=λF hF=>((xi o.ok).1 F hF).1
theorem fJ.links{x:P3}(o:fJ x):(numsOf x.2.2).Nodup/\ (∀i∈numsOf x.2.2,i<(cJ x).length)/\ (numsOf x.2.2).length=(cJ x).length:=by
 obtain⟨_,_,h⟩:=qG o.nr;unfold paired at h;cases hp:jU (cJ x) [] x.2.2 with
 |none=>rw[hp]at h;cases h
 |some met=>rw[hp]at h;obtain⟨rfl,nd,lt,ff⟩:=(yp (cJ x) x.2.2 [] met o.ok.lt oe).mp hp;rw[nY]at nd h;exact⟨nd,lt,by simpa using h⟩
theorem fJ.good{x:P3}(o:fJ x):Good (ah x):=by refine⟨o.mul,?_⟩;obtain⟨_,_,h⟩:=qG o.nr;rw[IC _ _ o.ok.lt,bC]at h;exact h.2
theorem fJ.sL{x:P3}(o:fJ x):QH x:=by
 obtain⟨h1,h2,h3⟩:=qG o.nr;refine⟨o.ok,λF hF=>?_,λz hz=>?_⟩
 .have:=iZ.mp h1 F hF
  unfold inBounds at this;simp only[bC,iB]at this;exact this.2.1
 .have hl:=o.links.2.1
  exact⟨hl z.1 (gT.mpr ⟨z,hz,by simp⟩),hl z.2 (gT.mpr ⟨z,hz,by simp⟩)⟩
theorem fJ.kG{x:P3}(o:fJ x):dF (ah x) (eh x):=by
 have g:=o.good;obtain⟨nd,lt,ln⟩:=o.links;have eY:(ah x).to=abe (ah x).to.length x.2.2:=by rw[xI];rfl
 have vA:=B3 nd lt ln;have arr:=TR g eY o.ok.lt nd (by rw[xI];exact lt) (by rw[xI];exact vA);have hlp:uO x=Vanetc.leafPoints (Vanetc.points (ah x)):=by rw[gZ];have:=yR arr;exact this
 have e:(eh x).1=PM.arrOf (ah x) x.2.2:=by unfold eh PM.arrOf;rw[hlp];rfl
 obtain⟨a1,a2,a3,a4⟩:=Up g x.2.2;refine⟨g,by rw[e];exact arr,by rw[e];exact a1,by rw[e];exact a2,by rw[e];exact a3,by rw[e];exact a4,U,U,U,?_⟩;have e2:(aQ (ah x)).length=bf (bE x):=jV _ _ g.mul;rw[e2];have:=Bi (bE x) o.mul;have h2:=(qG o.nr).2.1;unfold cJ at h2;lia
theorem adV{t:Text}{x:P3}(h:Mx t=some x):abM x.2.2=true:=by
 unfold Mx at h;split at h
 .obtain⟨a,ha,h⟩:=cY.mp h
  obtain⟨b,hb,h⟩:=cY.mp h;split at h
  .obtain⟨c,hc,e⟩:=fq.mp h
   subst e;unfold abG at hc;split at hc
   .cases hc;rfl
   .obtain⟨l,_,h2⟩:=cY.mp hc
    split at h2
    .rename_i hr
     have e:=aM h2;subst e;exact hr
    .cases h2
  .cases h
 .cases h
theorem RK{t:Text}{x:P3}(hlen:t.length<=4000)(h:Mx t=some x)(hr:refusal (some x)=0):fJ x:=⟨AB hlen h,hr,adV h⟩
noncomputable def x0:P3:=([.atom false [97], .atom true [97]],[],[(0,1)])
noncomputable def t0:Text:=[97,44,32,126,97,32,59,32,59,32,48,45,49]
theorem RL:Mx t0=some x0:=by decide+kernel
theorem RM:fJ x0:=RK (t:=t0) (by decide) RL (by decide+kernel)
theorem adW:ah x0=Vanetg.start:=by rfl
theorem RN:∀(l m:List (Nat×Nat)),l.Pairwise (λa b=>a.1<b.1)->m.Pairwise (λa b=>a.1<b.1)->(∀z,z∈l↔z∈m)->l=m
 |[],[],_,_,_=>rfl
 |[],b::m,_,_,h=>absurd ((h b).mpr (by simp)) (by simp)
 |a::l,[],_,_,h=>absurd ((h a).mp (by simp)) (by simp)
 |a::l,b::m,hl,hm,h=>by
  obtain⟨h1,h2⟩:=n8.mp hl;obtain⟨h3,h4⟩:=n8.mp hm;have e:a=b:=by
   rcases br.mp ((h a).mp (by simp))with e|e
   .exact e
   .rcases br.mp ((h b).mpr (by simp))with e'|e'
    .exact e'.symm
    .have:=h3 a e;have:=h1 b e';lia
  subst e;rw[RN l m h2 h4 λz=>?_];constructor
  .intro hz
   rcases br.mp ((h z).mp (by simp[hz]))with e|e
   .subst e;exact absurd (h1 z hz) (by lia)
   .exact e
  .intro hz
   rcases br.mp ((h z).mpr (by simp[hz]))with e|e
   .subst e;exact absurd (h3 z hz) (by lia)
   .exact e
theorem RO:∀(l:List (Nat×Nat)),abM l=true->l.Pairwise (λa b=>a.1<b.1)
 |[],_=> .nil
 |[a],_=>n8.mpr ⟨λb hb=>by simp at hb, .nil⟩
 |a::b::r,h=>by
  have h:(decide (a.1<b.1)&&abM (b::r))=true:=h;rw[bC,iB]at h;have ih:=RO (b::r) h.2;refine n8.mpr ⟨λc hc=>?_,ih⟩;rcases br.mp hc with rfl|hc
  .exact h.1
  .have:=(n8.mp ih).1 c hc;lia
theorem yn:∀(l:List Text),adA l=df [32] l
 |[]=>rfl
 |[a]=>by simp[adA,df]
 |a::b::r=>by have:=yn (b::r);show a++32::adA (b::r)=_;rw[this];simp[df]
theorem adX{x:P3}(o:fJ x):((List.range (ah x).to.length).zip (ah x).to).filterMap (λz=>if z.1<z.2 then some z else none)=x.2.2:=by
 obtain⟨nd,lt,ln⟩:=o.links;have vA:=B3 nd lt ln;have tl:=xI x;have hz:∀i j,(i,j)∈(List.range (ah x).to.length).zip (ah x).to↔(ah x).to[i]? =some j:=λi j=>by
  constructor
  .intro h
   obtain⟨k,hk⟩:=kK.mp h;rw[xR]at hk;have HH:=hk.1;have Bc:=hk.2;simp only at HH Bc;have hl:=(da.mp Bc).1;rw[qR hl]at HH;have e:=aM HH;subst e;exact Bc
  .intro h
   have hl:=(da.mp h).1;exact kK.mpr ⟨i,xR.mpr ⟨qR hl,h⟩⟩
 refine RN _ _ ?_ (RO _ o.ri) ?_
 .refine af5 (R:=λa b:Nat×Nat=>a.1<b.1) _ (λa b g_ z mj z2 sI=>?_) ?_
  .have e1:z=a:=by
    split at mj
    .exact(aM mj).symm
    .cases mj
   have e2:z2=b:=by
    split at sI
    .exact(aM sI).symm
    .cases sI
   rw[e1,e2];exact g_
  .generalize (ah x).to=to
   rw[yb];intro i j hi hj iH;simp only[BN,List.getElem_range];exact iH
 .rintro⟨i,j⟩
  rw[uX];constructor
  .rintro⟨⟨a,b⟩,g_,h⟩
   split at h
   .rename_i aU
    have e:=aM h;cases e;have ht:=(hz i j).mp g_;have hi:i<(cJ x).length:=by rw[<-tl];exact(da.mp ht).1
    obtain⟨y,hy,hyi⟩:=B5 (vA i hi);have h_:=o.ok.lt y hy;obtain⟨p1,p2⟩:=vk (n:=(cJ x).length) nd hy h_ (lt y.2 (gT.mpr ⟨y,hy,by simp⟩));have ht:(abe (cJ x).length x.2.2)[i]? =some j:=ht;rcases hyi with rfl|rfl
    .rw[p1]at ht
     have e:=aM ht;rw[<-e];exact hy
    .rw[p2]at ht
     have e:=aM ht;simp only at aU;lia
   .cases h
  .intro hy
   have h_:=o.ok.lt _ hy;obtain⟨p1,p2⟩:=vk (n:=(cJ x).length) nd hy h_ (lt j (gT.mpr ⟨(i,j),hy,by simp⟩));exact⟨(i,j),(hz i j).mpr p1,by rw[aI h_]⟩
theorem RP{x:P3}(o:fJ x):sk x=abO (ah x):=by
 unfold sk abO Vanetc.linksText;have e:(((List.range (ah x).to.length).zip (ah x).to).filterMap λx=>if x.1<x.2 then some (M7 x.1++45::M7 x.2)else none)=x.2.2.map fD:=by
  conv=>rhs;rw[<-adX o]
  rw[List.map_filterMap];congr 1;funext z;split<;>rfl
 rw[e,yn];simp[df,ah]
noncomputable def xJ(pv qv:V):List (Str×V):=[("parts",pv),("points",qv)]
structure pj(A:aF)(Z:Addr->Prop)(H:Hp)(h:Addr)(x:P3)(dx:Addr)(pv qv:V):Prop where
 obj:H h=some (.ins A.ef dx (xJ pv qv))
 parts:c7 A (Wo (aL Z h) H) pv x
 points:bq A (Wo (aL Z h) H) qv (eh x)
 ok:fJ x
 aH:Hid Z H
inductive fo(A:aF)(Z:Addr->Prop)(H:Hp)(h:Addr)(x:P3):Prop
 |mk (dx:Addr) (pv qv:V):pj A Z H h x dx pv qv->fo A Z H h x
theorem pj.mono{A:aF}{Z:Addr->Prop}{H H':Hp}{h dx:Addr}{x:P3}{pv qv:V}(r:pj A Z H h x dx pv qv)(s:aa H H'):pj A Z H' h x dx pv qv:=⟨s _ _ r.obj,c7.mono _ _ _ _ (bV s) r.parts,bq.mono _ _ _ _ (bV s) r.points,r.ok,r.aH.mono s⟩
theorem pj.aQ{A:aF}{Z:Addr->Prop}{H:Hp}{h dx:Addr}{x:P3}{pv qv:V}(r:pj A Z H h x dx pv qv):bq A H qv (eh x):=bq.mono _ _ _ _ (bB _ _) r.points
theorem pj.HI{A:aF}{Z:Addr->Prop}{H:Hp}{h dx:Addr}{x:P3}{pv qv:V}(r:pj A Z H h x dx pv qv):c7 A H pv x:=c7.mono _ _ _ _ (bB _ _) r.parts
noncomputable def Bj(a:Vanetg.Answer):List V:=(VanetgNeutral.encode a).map V.int
def jm(A:aF)(Z:Addr->Prop)(H:Hp)(h:Addr)(x:P3)(c:Nk)(Q:VK):Prop:=∀x' l H',K1 h H H'->fo A Z H' h x'->ah x'=(Vanetg.step (ah x) c).1->H l=none->H' l=some (.lst (Bj (Vanetg.step (ah x) c).2))->Q (.ref l) H'
theorem mP{A:aF}{Z:Addr->Prop}{H:Hp}{h:Addr}{x:P3}{c:Nk}{Q:VK}{ns:List Nat}(q:jm A Z H h x c Q)(hh:fo A Z H h x)(e:does (ah x) c= .ok (ah x,ns)):iW H Q (ns.map nI):=by
 intro l H' s hl dH;have es:Vanetg.step (ah x) c=(ah x, .told ns):=by unfold Vanetg.step;rw[e]
 obtain⟨dx,pv,qv,r⟩:=hh;refine q x l H' (λb o e _=>s b o e) ⟨dx,pv,qv,r.mono s⟩ (by rw[es]) hl ?_;rw[es,dH];show _=some (HO.lst ((ns.map Int.ofNat).map V.int));rw[kL];rfl
theorem kI{A:aF}{Z:Addr->Prop}{H:Hp}{h:Addr}{x:P3}{c:Nk}{Q:VK}{n:Nat}(q:jm A Z H h x c Q)(hh:fo A Z H h x)(e:does (ah x) c= .error n):iW H Q [V.int (-(n:Int))]:=by
 intro l H' s hl dH;have es:Vanetg.step (ah x) c=(ah x, .refused n):=by unfold Vanetg.step;rw[e]
 obtain⟨dx,pv,qv,r⟩:=hh;refine q x l H' (λb o e _=>s b o e) ⟨dx,pv,qv,r.mono s⟩ (by rw[es]) hl ?_;rw[es,dH];rfl
theorem RQ{x:P3}(o:fJ x):sj x.1/\ sj x.2.1:=by have nb:=o.sL.nb;refine⟨⟨o.ok.cl,λF hF=>⟨(o.ok.c F hF).1,(o.ok.c F hF).2.1,nb F (nZ _ hF)⟩⟩,⟨o.ok.ul,λF hF=>⟨(o.ok.u F hF).1,(o.ok.u F hF).2.1,nb F (jN _ (gT.mpr ⟨F,hF,by simp⟩))⟩⟩⟩
theorem adZ{x:P3}(o:fJ x):(sk x).length<=300100:=by
 obtain⟨h1,h2⟩:=RQ o;have a:=AI h1;have b:=AI h2;have hl:=(qG o.nr).2.1;have c:=P_ o.ok.ll λy hy=>by have:=o.sL.lk y hy;lia
 unfold sk;simp only[df,cP,bj,lF];lia
inductive RR(A:aF)(vs:List V)(H:Hp)(Q:VK)(E:XK):Prop
 |mk (Z:Addr->Prop) (h:Addr) (x:P3):vs=[.ref h]->fo A Z H h x->jm A Z H h x .form Q->RR A vs H Q E
theorem ad0(T:Txt K mg A):Gd P w K mg base 6 A.FD A.d_Holder_answer_form ["self"] (RR A):=by
 refine T.aaD.go (N:=["self","form"]) ?_;rintro aC A' outer s H vs Q E hr nd ⟨Z,h,x,rfl,hh,q⟩;refine⟨_,(af (aN 1 nd (aP hr (abX T) T.YG (aj (ao (pv 0)))))
  (ag (aB (b_ gz (aS (aj (dw T.c6 (pv 1)))) (pv 1))))),?_⟩
 try dsimp only[A9]
 obtain⟨dx,pv,qv,r⟩:=id hh;have o:=r.ok;obtain⟨b1,b2⟩:=RQ o;have hl:=(qG o.nr).2.1;have qf:=mP q hh (c:= .form) (ns:=adC (abO (ah x))) U;rw[<-RP o]at qf;have ln:=adZ o;refine⟨_,U,h,_,_,_,_,U,r.obj,T.cy,T.wN,U,pv,x,U,r.HI,b1,b2,o.ok.ll,λy hy=>by have:=o.sL.lk y hy;lia,λl H1 s1 dY qp=>?_⟩;refine⟨_,U,l,_,U, .inl (ab.of qp),cu,λm hm=>?_⟩;have s2:=aa.new (o:= .lst [V.int (((sk x).map bI).length:Int)]) hm;refine⟨_,U,m,l,_,_,U,U,ae,s2 _ _ qp,fC (by simp;lia),λc hc=>?_⟩;refine qf c _ ((s1.trans s2).trans (aa.new hc)) (eU (s1.trans s2) hc) ?_;rw[ae];unfold adC;rw[aX,ez,kL];rfl
inductive RS(A:aF)(vs:List V)(H:Hp)(Q:VK)(E:XK):Prop
 |mk (Z:Addr->Prop) (h:Addr) (x:P3):vs=[.ref h]->fo A Z H h x->jm A Z H h x .size Q->RS A vs H Q E
theorem ad1(T:Txt K mg A):Gd P w K mg base 2 A.FE A.d_Holder_answer_size ["self"] (RS A):=by
 refine T.aaE.go (N:=["self"]) ?_;rintro aC A' outer s H vs Q E hr nd ⟨Z,h,x,rfl,hh,q⟩;refine⟨_,(ag (aB (aS (fM (dw T.c6 (ao (ao (pv 0)))) (aZ (ao (ao (pv 0))) (dO hr (Hd T) T.aE T.F_ (ao (pv 0)))))))),?_⟩
 try dsimp only[A9]
 obtain⟨dx,pv,qv,r⟩:=id hh;have o:=r.ok;have d:=o.kG;have hv:=r.aQ;obtain⟨a,vs,rfl,S,pp⟩:=id hv;have hln:vs.length=(aQ (ah x)).length:=by rw[ck pp,d.arr.ln]
 have qf:=mP q hh (c:= .size) (ns:=[(aQ (ah x)).length,(Mg (ah x)).length,MB (ah x)]) U;refine⟨_,U,h,_,_,_,_,U,r.obj,T.cy,T.fk,U,a.p,_,_,_,_,U,S.obj,T.aE,T.kj,U,a.l0,_,U, .inl (ab.of (S.get 0 U U)),_,U,h,_,_,_,_,U,r.obj,T.cy,T.fk,U,a.p,_,_,_,_,U,S.obj,T.aE,T.qo,U,_,U,h,_,_,_,_,U,r.obj,T.cy,T.fk,U,a.p,_,_,U,S.obj,U, .ref a.p,eh x,ah x,U,hv,d,(by show 3<=sizeLine;decide),λl hl=>?_⟩;refine qf l _ (aa.new hl) hl ?_;rw[ae,hln,d.arr.jc];rfl
noncomputable def uT(s:Net)(p:Int)(zs:List Int):Int:=if below p (MB s)=false then-4 else if pd s zs=false then-1 else 0
inductive RT(A:aF)(vs:List V)(H:Hp)(Q:VK)(E:XK):Prop
 |mk (Z:Addr->Prop) (h:Addr) (x:P3) (p:Int) (wa:Addr) (zs:List Int):vs=[.ref h, .int p, .ref wa]->fo A Z H h x->H wa=some (.lst (zs.map V.int))->zs.length<=10000->(∀H',aa H H'->Q (.int (uT (ah x) p zs)) H')->RT A vs H Q E
theorem HJ(T:Txt K mg A):Gd P w K mg base 3 A.FI A.d_Holder_travel_refusal ["self","passage","switching"] (RT A):=by
 refine T.aaI.go (N:=["self","passage","switching"]) ?_;rintro aC A' outer s H vs Q E hr nd ⟨Z,h,x,p,wa,zs,rfl,hh,fG,hlen,q⟩;refine⟨_,(af (a9 (ij (dC (bN hr (Hf T) T.aE T.F9 (ao (pv 0)) (aj (pv 1))))) (ag (aB (aW T.uo))) bt)
  (af (a9 (ij (dC (bN hr (acn T) T.aE T.YO (ao (pv 0)) (aj (pv 2))))) (ag (aB (aW T.Yb))) bt)
  (ag (aB ak)))),?_⟩
 try dsimp only[A9]
 obtain⟨dx,pv,qv,r⟩:=id hh;have d:=r.ok.kG;have hv:=r.aQ;obtain⟨a,vs,rfl,S,pp⟩:=id hv;unfold uT at q;refine⟨_,U,h,_,_,_,_,U,r.obj,T.cy,T.fk,U,a.p,_,_,U,S.obj,U,_,U, .ref a.p,eh x,ah x,p,U,hv,d,_,U,?_⟩;cases h1:below p (MB (ah x))with
 |false=>rw[aI h1]at q;exact aJ (q _ (aa.refl _))
 |true=>
  rw[ay (by rw[h1];simp)]at q;refine aA ⟨_,U,h,_,_,_,_,U,r.obj,T.cy,T.fk,U,a.p,_,_,U,S.obj,U,_,U, .ref a.p,eh x,ah x,wa,zs,U,hv,d,fG,hlen,λH1 s1=>⟨_,U,?_⟩⟩;have q:=q H1 s1;cases h2:pd (ah x) zs with
  |false=>rw[aI h2]at q;exact aJ q
  |true=>rw[ay (by rw[h2];simp)]at q;exact aA q
theorem HK{s:Net}{zs:List Int}(h:pd s zs=true):zs.map V.int=(zs.map λz=>z==1).map dy/\ (zs.map λz=>z==1).length=(Mg s).length:=by unfold pd at h;rw[bC]at h;refine⟨?_,by rw[aX];simpa using h.1⟩;rw[kL];refine sZ λz hz=>?_;have:=iZ.mp h.2 z hz;simp only[qP,beq_iff_eq]at this;rcases this with rfl|rfl<;>rfl
theorem qH{p:Int}{n:Nat}(h:below p n=true):∃k:Nat,p=(k:Int)/\ k<n:=by unfold below at h;simp only[bC,iB]at h;exact⟨p.toNat,by lia,by lia⟩
theorem HL{s:Net}{p:Int}{zs:List Int}{f:List Bool->Vanetg.Out}:(uT s p zs<0/\ ∃n:Nat,uT s p zs= -(n:Int)/\ Vanetg.after (below p (MB s)) 4 (abU s zs f)= .error n)\/
  (uT s p zs=0/\ below p (MB s)=true/\ pd s zs=true/\ Vanetg.after (below p (MB s)) 4 (abU s zs f)=f (zs.map λz=>z==1)):=by
 have e:abU s zs f=Vanetg.after (pd s zs) 1 (f (zs.map λz=>z==1)):=rfl;rw[e];unfold uT Vanetg.after;cases h1:below p (MB s)with
 |false=>exact .inl ⟨by rw[aI U];decide,4,U,U⟩
 |true=>
  cases h2:pd s zs with
  |false=>exact .inl ⟨by decide,1,U,U⟩
  |true=>exact .inr ⟨U,U,U,U⟩
inductive RU(A:aF)(vs:List V)(H:Hp)(Q:VK)(E:XK):Prop
 |mk (Z:Addr->Prop) (h:Addr) (x:P3) (p:Int) (wa:Addr) (zs:List Int):vs=[.ref h, .int p, .ref wa]->fo A Z H h x->H wa=some (.lst (zs.map V.int))->zs.length<=10000->jm A Z H h x (.next p zs) Q->RU A vs H Q E
theorem ad2(T:Txt K mg A):Gd P w K mg base 5 A.FF A.d_Holder_answer_next ["self","passage","switching"] (RU A):=by
 refine T.aaF.go (N:=["self","passage","switching","refusal"]) ?_;rintro aC A' outer s H vs Q E hr nd ⟨Z,h,x,p,wa,zs,rfl,hh,fG,hlen,q⟩;refine⟨_,(af (aN 3 nd (bN hr (HJ T) T.cy T.Gf (pv 0) (aZ (pv 1) (pv 2))))
  (af (a9 (aR iq (pv 3) ak) (ag (aB (aS (aj (pv 3))))) bt)
  (ag (aB (aS (aj (bN hr (Hg T) T.aE T.Ga (ao (pv 0)) (aZ (pv 1) (pv 2))))))))),?_⟩
 try dsimp only[A9]
 obtain⟨dx,pv,qv,r⟩:=id hh;have d:=r.ok.kG;refine⟨_,U,h,_,_,U,r.obj,U,_,U,_,U,Z,h,x,p,wa,zs,U,hh,fG,hlen,λH1 s1=>?_⟩;refine⟨_,U,_,_,U,U,_,U,?_⟩;rcases HL (s:=ah x) (p:=p) (zs:=zs) (f:=λv=> .ok (ah x,[(abu (ah x) (My (ah x) v)).getD p.toNat 0]))with⟨gS,n,hn,hd⟩|⟨h0,hb,hs,hd⟩
 .have qf:=kI q hh (n:=n) hd
  rw[bb gS];refine aJ ⟨_,U,cu,λl hl=>qf l _ (s1.trans (aa.new hl)) (eU s1 hl) ?_⟩;rw[ae,hn]
 .have qf:=mP q hh hd
  obtain⟨w1,w2⟩:=HK hs;obtain⟨k,rfl,hk⟩:=qH hb;have hk:k<2*(aQ (ah x)).length:=hk;rw[jO,IU _ _ hk]at qf;have r1:=r.mono s1;have hv:=r1.aQ;obtain⟨a,vs,rfl,S,pp⟩:=id hv;rw[h0,cO (by decide)];refine aA ⟨_,U,h,_,_,_,_,U,r1.obj,T.cy,T.fk,U,a.p,_,_,U,S.obj,U,_,U,_,U, .ref a.p,eh x,ah x,k,wa,_,U,hv,d,hk,by rw[<-w1];exact s1 _ _ fG,w2,cu,λl hl=>qf l _ (s1.trans (aa.new hl)) (eU s1 hl) ?_⟩;rw[ae];rfl
inductive RV(A:aF)(vs:List V)(H:Hp)(Q:VK)(E:XK):Prop
 |mk (Z:Addr->Prop) (h:Addr) (x:P3) (p:Int) (wa:Addr) (zs:List Int):vs=[.ref h, .int p, .ref wa]->fo A Z H h x->H wa=some (.lst (zs.map V.int))->zs.length<=10000->jm A Z H h x (.trip p zs) Q->RV A vs H Q E
theorem ad3(T:Txt K mg A):Gd P w K mg base 6 A.FG A.d_Holder_answer_trip ["self","passage","switching"] (RV A):=by
 refine T.aaG.go (N:=["self","passage","switching","refusal"]) ?_;rintro aC A' outer s H vs Q E hr nd ⟨Z,h,x,p,wa,zs,rfl,hh,fG,hlen,q⟩;refine⟨_,(af (aN 3 nd (bN hr (HJ T) T.cy T.Gf (pv 0) (aZ (pv 1) (pv 2))))
  (af (a9 (aR iq (pv 3) ak) (ag (aB (aS (aj (pv 3))))) bt)
  (ag (aB (aS (aj (dw T.c6 (bN hr (AW T) T.aE T.Ad (ao (pv 0)) (aZ (pv 1) (pv 2)))))))))),?_⟩
 try dsimp only[A9]
 obtain⟨dx,pv,qv,r⟩:=id hh;have d:=r.ok.kG;refine⟨_,U,h,_,_,U,r.obj,U,_,U,_,U,Z,h,x,p,wa,zs,U,hh,fG,hlen,λH1 s1=>?_⟩;refine⟨_,U,_,_,U,U,_,U,?_⟩;rcases HL (s:=ah x) (p:=p) (zs:=zs) (f:=λv=> .ok (ah x,[(Vanetg.trip (ah x) v p.toNat).length]))with⟨gS,n,hn,hd⟩|⟨h0,hb,hs,hd⟩
 .have qf:=kI q hh (n:=n) hd
  rw[bb gS];refine aJ ⟨_,U,cu,λl hl=>qf l _ (s1.trans (aa.new hl)) (eU s1 hl) ?_⟩;rw[ae,hn]
 .have qf:=mP q hh hd
  obtain⟨w1,w2⟩:=HK hs;obtain⟨k,rfl,hk⟩:=qH hb;have hk:k<2*(aQ (ah x)).length:=hk;rw[jO]at qf;have r1:=r.mono s1;have hv:=r1.aQ;obtain⟨a,vs,rfl,S,pp⟩:=id hv;rw[h0,cO (by decide)];refine aA ⟨_,U,h,_,_,_,_,U,r1.obj,T.cy,T.fk,U,a.p,_,_,U,S.obj,U,_,U,_,U, .ref a.p,eh x,ah x,k,wa,_,U,hv,d,hk,by rw[<-w1];exact s1 _ _ fG,w2,λt H2 s2 _ ht=>?_⟩;refine⟨t,_,U, .inl (ab.of ht),cu,λl hl=>qf l _ ((s1.trans s2).trans (aa.new hl)) (eU (s1.trans s2) hl) ?_⟩;rw[ae,aX];rfl
inductive RW(A:aF)(vs:List V)(H:Hp)(Q:VK)(E:XK):Prop
 |mk (Z:Addr->Prop) (h:Addr) (x:P3) (wa:Addr) (zs:List Int):vs=[.ref h, .ref wa]->fo A Z H h x->H wa=some (.lst (zs.map V.int))->zs.length<=10000->jm A Z H h x (.path zs) Q->RW A vs H Q E
theorem RX(s:Net):below 0 (MB s)= !(Vanetc.points s).isEmpty:=by
 unfold below MB;cases h:Vanetc.points s with
 |nil=>rfl
 |cons a r=>rw[bb (Int.le_refl 0),n6];exact bb (by rw[bj];lia)
theorem ad4{s:Net}{D:dn}(d:dF s D)(w:List Bool){p:Nat}(hp:p<2*(aQ s).length):(Vanetg.trip s w p).length<=500:=by obtain⟨k,k1,k2,k3,k4,k5⟩:=Cd d.good w hp;have:=d.bd;rw[k5];have k2:k<=2*(aQ s).length:=k2;simp;lia
theorem ad5(T:Txt K mg A):Gd P w K mg base 6 A.FH A.d_Holder_answer_path ["self","switching"] (RW A):=by
 refine T.aaH.go (N:=["self","switching","refusal","trip"]) ?_;rintro aC A' outer s H vs Q E hr nd ⟨Z,h,x,wa,zs,rfl,hh,fG,hlen,q⟩;refine⟨_,(af (aN 2 nd (bN hr (HJ T) T.cy T.Gf (pv 0) (aZ ak (pv 1))))
  (af (a9 (aR iq (pv 2) ak) (ag (aB (aS (aj (pv 2))))) bt)
  (af (aN 3 nd (bN hr (AW T) T.aE T.Ad (ao (pv 0)) (aZ ak (pv 1))))
  (ag (aB (b_ gz (aS (aj (dw T.c6 (pv 3)))) (pv 3))))))),?_⟩
 try dsimp only[A9]
 obtain⟨dx,pv,qv,r⟩:=id hh;have d:=r.ok.kG;refine⟨_,U,h,_,_,U,r.obj,U,_,U,Z,h,x,0,wa,zs,U,hh,fG,hlen,λH1 s1=>?_⟩;refine⟨_,U,_,_,U,U,_,U,?_⟩;have hc:=HL (s:=ah x) (p:=0) (zs:=zs) (f:=λv=> .ok (ah x,(Vanetg.trip (ah x) v 0).length::Vanetg.trip (ah x) v 0));have c8:does (ah x) (.path zs)=Vanetg.after (below 0 (MB (ah x))) 4 (abU (ah x) zs λv=> .ok (ah x,(Vanetg.trip (ah x) v 0).length::Vanetg.trip (ah x) v 0)):=by rw[RX];rfl
 rcases hc with⟨gS,n,hn,hd⟩|⟨h0,hb,hs,hd⟩
 .have qf:=kI q hh (n:=n) (c8.trans hd)
  rw[bb gS];refine aJ ⟨_,U,cu,λl hl=>qf l _ (s1.trans (aa.new hl)) (eU s1 hl) ?_⟩;rw[ae,hn]
 .have qf:=mP q hh (c8.trans hd)
  obtain⟨w1,w2⟩:=HK hs;obtain⟨k,DG,hk⟩:=qH hb;have ek:k=0:=by lia
  subst ek;have hk:0<2*(aQ (ah x)).length:=hk;have r1:=r.mono s1;have hv:=r1.aQ;obtain⟨a,vs,rfl,S,pp⟩:=id hv;have Av:=ad4 d (zs.map λz=>z==1) hk;rw[h0,cO (by decide)];refine aA ⟨_,U,h,_,_,_,_,U,r1.obj,T.cy,T.fk,U,a.p,_,_,U,S.obj,U,_,U, .ref a.p,eh x,ah x,0,wa,_,U,hv,d,hk,by rw[<-w1];exact s1 _ _ fG,w2,λt H2 s2 _ ht=>?_⟩;have bQ:=s1.trans s2;refine⟨_,U,t,_,U, .inl (ab.of ht),cu,λm hm=>?_⟩;have s3:=aa.new (o:= .lst [V.int (((Vanetg.trip (ah x) (zs.map λz=>z==1) 0).map nI).length:Int)]) hm;refine⟨_,U,m,t,_,_,U,U,ae,s3 _ _ ht,fC (by simp;lia),λc hc=>?_⟩;refine qf c _ ((bQ.trans s3).trans (aa.new hc)) (eU (bQ.trans s3) hc) ?_;rw[ae,aX];rfl
inductive RY(A:aF)(vs:List V)(H:Hp)(Q:VK)(E:XK):Prop
 |mk (Z:Addr->Prop) (h:Addr) (x:P3):vs=[.ref h]->fo A Z H h x->jm A Z H h x .test Q->RY A vs H Q E
theorem ad6(T:Txt K mg A):Gd P w K mg base 8 A.FJ A.d_Holder_answer_test ["self"] (RY A):=by
 refine T.aaJ.go (N:=["self"]) ?_;rintro aC A' outer s H vs Q E hr nd ⟨Z,h,x,rfl,hh,q⟩;refine⟨_,(af (a9 (aR rK (ao (ao (pv 0))) (aW T.NT)) (ag (aB (aS (aj (aW T.NU))))) bt)
  (ag (aB (aS (aj (kX (dC (aP hr (acF T) T.YX (aj (ao (pv 0))))) ak ak)))))),?_⟩
 try dsimp only[A9]
 obtain⟨dx,pv,qv,r⟩:=id hh;have d:=r.ok.kG;have hv:=r.aQ;obtain⟨a,vs,rfl,S,pp⟩:=id hv;refine⟨_,U,h,_,_,_,_,U,r.obj,T.cy,T.fk,U,a.p,_,_,_,_,U,S.obj,T.aE,T.qo,U,_,_,U,U,_,U,?_⟩;rw[d.arr.jc];have c8:does (ah x) .test=if(Mg (ah x)).length<=NH then .ok (ah x,[Vanetg.one (Nv (ah x))])else .error 7:=rfl;by_cases hj:(Mg (ah x)).length<=8
 .rw[aI (show(Mg (ah x)).length<=NH from hj)]at c8
  have qf:=mP q hh c8;rw[show decide ((8:Int)<((Mg (ah x)).length:Int))=false from cO (by lia)];refine aA ⟨_,U,h,_,_,_,_,U,r.obj,T.cy,T.fk,U, .ref a.p,eh x,ah x,U,hv,d,hj,λH1 s1=>⟨_,U,?_⟩⟩;cases eg:Nv (ah x)with
  |true=>rw[eg]at qf;exact aJ ⟨cu,λl hl=>qf l _ (s1.trans (aa.new hl)) (eU s1 hl) ae⟩
  |false=>rw[eg]at qf;exact aA ⟨cu,λl hl=>qf l _ (s1.trans (aa.new hl)) (eU s1 hl) ae⟩
 .rw[ay (show¬(Mg (ah x)).length<=NH from hj)]at c8
  have qf:=kI q hh c8;rw[show decide ((8:Int)<((Mg (ah x)).length:Int))=true from bb (by lia)];exact aJ ⟨cu,λl hl=>qf l _ (aa.new hl) hl ae⟩
inductive RZ(A:aF)(vs:List V)(H:Hp)(Q:VK)(E:XK):Prop
 |mk (Z:Addr->Prop) (h:Addr) (x:P3):vs=[.ref h]->fo A Z H h x->jm A Z H h x .draw Q->RZ A vs H Q E
theorem ad7(T:Txt K mg A):Gd P w K mg base 5 A.FP A.d_Holder_answer_draw ["self"] (RZ A):=by
 refine T.aaO.go (N:=["self"]) ?_;rintro aC A' outer s H vs Q E hr nd ⟨Z,h,x,rfl,hh,q⟩;refine⟨_,(ag (aB (aS (aj (kX (dC (aP hr (adK T) T.Yp (aj (ao (pv 0))))) ak ak))))),?_⟩
 try dsimp only[A9]
 obtain⟨dx,pv,qv,r⟩:=id hh;have d:=r.ok.kG;have hv:=r.aQ;have qf:=mP q hh (c:= .draw) (ns:=[Vanetg.one (abI (ah x))]) U;refine⟨_,U,h,_,_,_,_,U,r.obj,T.cy,T.fk,U,qv,eh x,ah x,U,hv,d,λH1 s1=>⟨_,U,?_⟩⟩;cases eg:abI (ah x)with
 |true=>rw[eg]at qf;exact aJ ⟨cu,λl hl=>qf l _ (s1.trans (aa.new hl)) (eU s1 hl) ae⟩
 |false=>rw[eg]at qf;exact aA ⟨cu,λl hl=>qf l _ (s1.trans (aa.new hl)) (eU s1 hl) ae⟩
theorem R_(b:Bool):nI (Vanetg.one b)=dy b:=by cases b<;>rfl
theorem ad8{s:Net}(g:Good s)(hp:0<(aQ s).length):adD s=(Ms (Mg s).length).find? (mM s):=by unfold adD;congr 1;funext w;rw[JB g w hp,Bool.not_not];rfl
inductive R'(A:aF)(vs:List V)(H:Hp)(Q:VK)(E:XK):Prop
 |mk (Z:Addr->Prop) (h:Addr) (x:P3):vs=[.ref h]->fo A Z H h x->jm A Z H h x .bad Q->R' A vs H Q E
theorem ad9(T:Txt K mg A):Gd P w K mg base 7 A.FK A.d_Holder_answer_bad ["self"] (R' A):=by
 refine T.aaK.go (N:=["self","switching"]) ?_;rintro aC A' outer s H vs Q E hr nd ⟨Z,h,x,rfl,hh,q⟩;refine⟨_,(af (a9 (aR rK (ao (ao (pv 0))) (aW T.NT)) (ag (aB (aS (aj (aW T.NU))))) bt)
  (af (a9 (ij (dC (bN hr (Hf T) T.aE T.F9 (ao (pv 0)) (aj ak)))) (ag (aB (aS (aj (aW T.uo))))) bt)
  (af (aN 1 nd (aP hr (Q0 T) T.Od (aj (ao (pv 0)))))
  (af (a9 (aR rL (pv 1) ja) (ag (aB (aS (aj (aW T.uo))))) bt)
  (ag (aB (b_ gz (b_ gz (aS (aj (dw T.c6 (pv 1)))) (pv 1)) (aS (aj (dw T.c6 (bN hr (AW T) T.aE T.Ad (ao (pv 0)) (aZ ak (pv 1))))))))))))),?_⟩
 try dsimp only[A9]
 obtain⟨dx,pv,qv,r⟩:=id hh;have d:=r.ok.kG;have hv:=r.aQ;obtain⟨a,vs,rfl,S,pp⟩:=id hv;refine⟨_,U,h,_,_,_,_,U,r.obj,T.cy,T.fk,U,a.p,_,_,_,_,U,S.obj,T.aE,T.qo,U,_,_,U,U,_,U,?_⟩;rw[d.arr.jc];have c8:does (ah x) .bad=if(Mg (ah x)).length<=NH then Vanetg.after (!(Vanetc.points (ah x)).isEmpty) 4 (given (adD (ah x)) 4 λw=> .ok (ah x,w.length::(w.map Vanetg.one++[(Vanetg.trip (ah x) w 0).length])))else .error 7:=rfl;by_cases hj:(Mg (ah x)).length<=8
 .rw[aI (show(Mg (ah x)).length<=NH from hj),<-RX]at c8
  rw[show decide ((8:Int)<((Mg (ah x)).length:Int))=false from cO (by lia)];refine aA ⟨_,U,h,_,_,_,_,U,r.obj,T.cy,T.fk,U,a.p,_,_,U,S.obj,U, .ref a.p,eh x,ah x,0,U,hv,d,_,U,?_⟩;cases hb:below 0 (MB (ah x))with
  |false=>rw[hb]at c8;have qf:=kI q hh (n:=4) c8;exact aJ ⟨cu,λl hl=>qf l _ (aa.new hl) hl ae⟩
  |true=>
   rw[hb]at c8;have hk:0<2*(aQ (ah x)).length:=by obtain⟨k,_,hk⟩:=qH hb;have hk:k<2*(aQ (ah x)).length:=hk;lia
   have hp:0<(aQ (ah x)).length:=by lia
   rw[ad8 d.good hp]at c8;refine aA ⟨_,U,h,_,_,_,_,U,r.obj,T.cy,T.fk,U, .ref a.p,eh x,ah x,U,hv,d,hp,hj,λv1 H1 s1 h1=>?_⟩;refine⟨_,U,U,_,U,?_⟩;have Bk:=xh (R:=nS) (λx h=>by obtain⟨g,rfl,_⟩:=h;intro z;cases z) h1;cases hf:(Ms (Mg (ah x)).length).find? (mM (ah x))with
   |none=>rw[hf]at c8 Bk;have qf:=kI q hh (n:=4) c8;rw[Bk];exact aJ ⟨cu,λl hl=>qf l _ (s1.trans (aa.new hl)) (eU s1 hl) ae⟩
   |some w=>rw[hf]at c8 Bk h1;obtain⟨g,rfl,hg⟩:=h1;have ke:=vG _ w (BJ hf);have qf:=mP q hh (ns:=w.length::(w.map Vanetg.one++[(Vanetg.trip (ah x) w 0).length])) c8;rw[Bk];refine aA ⟨_,U,g,_,U, .inl (ab.of hg),cu,λm hm=>?_⟩;have s2:=aa.new (o:= .lst [V.int ((w.map dy).length:Int)]) hm;have kz:=s2 _ _ hg;refine⟨_,U,m,g,_,_,U,U,ae,kz,fC (by simp;lia),λm2 oq=>?_⟩;have s3:=aa.new (o:= .lst ([V.int ((w.map dy).length:Int)]++w.map dy)) oq;have s123:=(s1.trans s2).trans s3;have r3:=r.mono s123;have hv3:=bq.mono _ _ _ _ s123 hv;refine⟨_,U,h,_,_,_,_,U,r3.obj,T.cy,T.fk,U,a.p,_,_,U,(S.mono s123).obj,U,_,U, .ref a.p,eh x,ah x,0,g,w,U,hv3,d,hk,s3 _ _ kz,ke,λt H4 s4 _ ht=>?_⟩;refine⟨t,_,U, .inl (ab.of ht),cu,λm5 hm5=>?_⟩;have s5:=aa.new (o:= .lst [V.int (((Vanetg.trip (ah x) w 0).map nI).length:Int)]) hm5;refine⟨m2,m5,_,_,U,U,s5 _ _ (s4 _ _ ae),ae,fC (by simp;lia),λc hc=>?_⟩;have sA:=(s123.trans s4).trans s5;refine qf c _ (sA.trans (aa.new hc)) (eU sA hc) ?_;rw[ae,aX,aX,ez,iD,kL];have e:(w.map (nI∘Vanetg.one))=w.map dy:=sZ λb _=>R_ b;rw[e];rfl
 .rw[ay (show¬(Mg (ah x)).length<=NH from hj)]at c8
  have qf:=kI q hh c8;rw[show decide ((8:Int)<((Mg (ah x)).length:Int))=true from bb (by lia)];exact aJ ⟨cu,λl hl=>qf l _ (aa.new hl) hl ae⟩
inductive Sa(A:aF)(vs:List V)(H:Hp)(Q:VK)(E:XK):Prop
 |mk (Z:Addr->Prop) (h:Addr) (x:P3) (i:Int):vs=[.ref h, .int i]->fo A Z H h x->jm A Z H h x (.place i) Q->Sa A vs H Q E
theorem aea(T:Txt K mg A):Gd P w K mg base 3 A.FO A.d_Holder_answer_place ["self","leaf"] (Sa A):=by
 refine T.aaN.go (N:=["self","leaf","leaves"]) ?_;rintro aC A' outer s H vs Q E hr nd ⟨Z,h,x,i,rfl,hh,q⟩;refine⟨_,(af (aN 2 nd (dO hr (GZ T) T.aE T.F7 (ao (pv 0))))
  (af (a9 (ij (Ve j7 iq ak (pv 1) (dw T.c6 (pv 2)))) (ag (aB (aS (aj (aW T.uo))))) bt)
  (ag (aB (aP hr (Hj T) T.F6 (aZ (ao (pv 0)) (aT (pv 2) (pv 1)))))))),?_⟩
 try dsimp only[A9]
 obtain⟨dx,pv,qv,r⟩:=id hh;have d:=r.ok.kG;have hv:=r.aQ;have uQ:=d.bd;obtain⟨a,vs,rfl,S,pp⟩:=id hv;have hln:=d.arr.ln;refine⟨_,U,h,_,_,_,_,U,r.obj,T.cy,T.fk,U,a.p,_,_,U,S.obj,U,a.p,(eh x).1.nodes,U,bq.Ba S pp,xq d,by rw[hln];show(aQ (ah x)).length<=100000;lia,λfb H1 s1 xC nU=>?_⟩;rw[yR d.arr]at nU;have hl:(cv (ah x)).length=(ah x).to.length:=by rw[d.good.len,gZ]
 have c8:does (ah x) (.place i)=Vanetg.after (below i (ah x).to.length) 4 (.ok (ah x,(Mr (tQ (ah x)) 0 i.toNat).1::MK (Mr (tQ (ah x)) 0 i.toNat).2)):=rfl;have bad:below i (ah x).to.length=false->iW H Q [V.int (-4)]:=λhb=>by rw[hb]at c8;exact kI q hh (n:=4) c8
 refine⟨_,U,_,_,U,U,_,U,b9 (λh0=>?_) (λh0=>?_)⟩
 .have h0:0<=i:=dJ h0
  refine⟨_,U,fb,_,U, .inl (ab.of nU),_,_,U,U,_,U,?_⟩;rw[aX,hl];by_cases h1:i<((ah x).to.length:Int)
  .rw[bb h1]
   have hb:below i (ah x).to.length=true:=by unfold below;rw[bb h0,bb h1];rfl
   rw[hb]at c8;obtain⟨k,rfl,hk⟩:=qH hb;rw[jO]at c8;have qf:=mP q hh c8;obtain⟨pt,fH⟩:∃pt,(cv (ah x))[k]? =some pt:=⟨_,cC (by lia)⟩
   have r1:=r.mono s1;refine aA ⟨_,U,h,_,_,_,_,U,r1.obj,T.cy,T.fk,U,_,U,_,U,fb,_,_,_,U,U,ab.of nU,bH (kC fH), .ref a.p,eh x,ah x,pt,k,U,r1.aQ,d,hk,fH,λl H2 s2 dY fh=>qf l H2 (s1.trans s2) (eU s1 dY) fh⟩
  .rw[cO h1]
   have qf:=bad (by unfold below;rw[cO h1,pz]);exact aJ ⟨cu,λl hl=>qf l _ (s1.trans (aa.new hl)) (eU s1 hl) ae⟩
 .have h0:¬0<=i:=λc=>h0 (bb c)
  have qf:=bad (by unfold below;rw[cO h0,om]);refine⟨_,U,?_⟩;exact aJ ⟨cu,λl hl=>qf l _ (s1.trans (aa.new hl)) (eU s1 hl) ae⟩
theorem Sb{s:Net}{i:Nat}(h:i<Vanete.outer s):Mr (tQ s) 0 i=Mr s.concl 0 i:=by obtain⟨f,k,A,a⟩:=yM s.concl i h;rw[a.tell 0,show tQ s=s.concl++cM s.cuts from rfl,(a.left (b:=cM s.cuts)).tell 0]
theorem Sd{s:Net}(g:Good s){c:Int}{zs:List Int}{n:Nat}(h:Mz s c zs=some n):n<Vanete.outer s/\ n<s.to.length:=by
 unfold Mz at h;split at h
 .cases h
 .obtain⟨q,hq,h2⟩:=cY.mp h
  unfold abQ at h2;obtain⟨A,hA,h3⟩:=cY.mp h2;have h0:¬c<0:=by assumption
  have hc:((c.toNat:Nat):Int)=c:=by lia
  have h':Mz s ((c.toNat:Nat):Int) zs=some n:=by rw[hc];unfold Mz;rw[ay h0];exact h
  obtain⟨k,d,bT,_⟩:=CA hA (g.mul A (nZ _ (cN hA))) h';have h1:=bT.tN;refine⟨h1,?_⟩;have ht:=g.total;rw[rf]at ht;have:Vanete.outer s=Vanete.sum (s.concl.map NO):=rfl;lia
theorem Se{s:Net}{D:dn}(d:dF s D){i:Nat}(hi:i<s.to.length):((Mr (tQ s) 0 i).1::MK (Mr (tQ s) 0 i).2).length<=10000:=by
 obtain⟨f,k,F,r,e,eD,h2,h3,h4,h5,h6⟩:=d.good.leaf hi;rw[eD.tell 0];have hk:k<(placesOf F).length:=by rw[places_len F (d.good.mul F (cN eD.fm))];exact eD.lt
 have h1:=xA F _ (BL hk);have h7:nodes F<=(aQ s).length:=by have e:(aQ s).length=bf (tQ s):=jV _ _ d.good.mul;have:=Q9 (cN eD.fm);lia
 have:=d.bd;unfold MK;simp only[bj];rw[og,cC hk];show(placesOf F)[k].length+1+1<=10000;lia
theorem Sf(o:Option Nat)(z:Int):C_ (mI o) (V.int z)=true:=by cases o<;>rfl
inductive Sg(A:aF)(vs:List V)(H:Hp)(Q:VK)(E:XK):Prop
 |mk (Z:Addr->Prop) (h:Addr) (x:P3) (c:Int) (pa:Addr) (zs:List Int):vs=[.ref h, .int c, .ref pa]->fo A Z H h x->H pa=some (.lst (zs.map V.int))->zs.length<=10000->jm A Z H h x (.token c zs) Q->Sg A vs H Q E
theorem aeb(T:Txt K mg A):Gd P w K mg base 4 A.FL A.d_Holder_answer_token ["self","conclusion","place"] (Sg A):=by
 refine T.aaL.go (N:=["self","conclusion","place","point","token"]) ?_;rintro aC A' outer s H vs Q E hr nd ⟨Z,h,x,c,pa,zs,rfl,hh,gR,hlen,q⟩;refine⟨_,(af (aN 3 nd (aP hr (Q6 T) T.Ob (fM (ao (pv 0)) (aZ (pv 1) (pv 2)))))
  (af (a9 (aR cj (pv 3) (il ip ak)) (ag (aB (aS (aj (aW T.uo))))) bt)
  (af (aN 4 nd (qi hr (Rb T) T.Of T.NV (aj (pv 3))))
  (af (bF (bN hr (Hl T) T.dX T.Ge (pv 4) (aj (ao (pv 0)))))
  (ag (aB (b_ gz (aP hr (Hj T) T.F6 (aZ (ao (pv 0)) (ao (pv 4)))) (aS (aj (ao (pv 4))))))))))),?_⟩
 try dsimp only[A9]
 obtain⟨dx,pv,qv,r⟩:=id hh;have d:=r.ok.kG;have hv:=r.aQ;have c8:does (ah x) (.token c zs)=given (Mz (ah x) c zs) 4 λn=> .ok (ah x,(Mr (ah x).concl 0 (L5 (ah x) n).1).1::(MK (Mr (ah x).concl 0 (L5 (ah x) n).1).2++[(L5 (ah x) n).2])):=rfl;refine⟨_,U,h,_,_,_,_,U,r.obj,T.cy,T.fk,U,_,U,_,U,qv,eh x,ah x,c,pa,zs,U,hv,d,gR,hlen,λH1 s1=>?_⟩;refine⟨_,U,_,U,Sf _ _,_,U,?_⟩;cases hl:Mz (ah x) c zs with
 |none=>rw[hl]at c8;have qf:=kI q hh (n:=4) c8;rw[show decide (mI ((none:Option Nat).bind λi=>(cv (ah x))[i]?)=V.int (-1))=true from bb U];exact aJ ⟨cu,λl hl=>qf l _ (s1.trans (aa.new hl)) (eU s1 hl) ae⟩
 |some n=>
  rw[hl]at c8;obtain⟨ho,hn⟩:=Sd d.good hl;have gw:(cv (ah x)).length=(ah x).to.length:=by rw[d.good.len,gZ]
  obtain⟨p,hp⟩:∃p,(cv (ah x))[n]? =some p:=⟨_,cC (by lia)⟩
  rw[dQ,hp];have b8:(mI (some p)=V.int (-1))->False:=λc=>by have:=V.int.inj c;lia
  rw[cO b8];refine aA ⟨_,U,?_⟩;have g:=d.good;have hco:=(g.out ho).2;have qf:=mP q hh (ns:=(Mr (ah x).concl 0 (L5 (ah x) n).1).1::(MK (Mr (ah x).concl 0 (L5 (ah x) n).1).2++[(L5 (ah x) n).2])) c8;rw[<-Sb hco.1]at qf;have bD:(L5 (ah x) n).1<(ah x).to.length:=by have ht:=g.total;rw[rf]at ht;lia
  intro t dt ht Bl htd;have s2:aa H1 (upd (upd H1 dt (.own t)) t (.ins A.eQ dt [])):=c5 (aa.new Bl) ht;refine⟨t,dt,p,U,ae,U,?_⟩;rw[jz];have s3:aa H1 (upd (upd H1 dt (.own t)) t (.ins A.eQ dt (kD p 0 false 0))):=c5 (aa.new Bl) ht;have w3:aa H1 (Wo (λb=>b=t) (upd (upd H1 dt (.own t)) t (.ins A.eQ dt (kD p 0 false 0)))):=λb o e=>by rw[cR (P:=λb=>b=t) (bS e ht)];exact s3 _ _ e
  have r1:=r.mono s1;have r3:=r1.mono s3;refine⟨_,U,t,_,_,U,ae,U,_,U,h,_,_,_,_,U,r3.obj,T.cy,T.fk,U,t,dt,qv,eh x,ah x,p,n,0,false,0,U,ae,bq.mono _ _ _ _ w3 r1.aQ,d,ho,hp,λH4 p4 k4 hp4 uS=>?_⟩;have s4:aa H1 H4:=λb o e=>k4 _ _ (s3 _ _ e) (bS e ht);have r4:=r1.mono s4;refine⟨_,U,h,_,_,_,_,U,r4.obj,T.cy,T.fk,U,_,U,t,_,_,_,_,U,uS,T.dX,T.mv,U,qv,eh x,ah x,p4,(L5 (ah x) n).1,U,r4.aQ,d,bD,hp4,λl H5 s5 dY Bm=>?_⟩;refine⟨_,U,t,_,_,_,_,U,s5 _ _ uS,T.dX,T.Gj,U,cu,λm hm=>?_⟩;have s6:=aa.new (o:= .lst [nI (0+(L5 (ah x) n).2)]) hm;have sM:(((Mr (tQ (ah x)) 0 (L5 (ah x) n).1).1::MK (Mr (tQ (ah x)) 0 (L5 (ah x) n).1).2)).length<=10000:=Se d bD;refine⟨l,m,_,_,U,U,s6 _ _ Bm,ae,fC (by simp only[cP,aX]at sM⊢;simp at sM⊢;lia),λc' i_=>?_⟩;have sA:=((s1.trans s4).trans s5).trans s6;refine qf c' _ (sA.trans (aa.new i_)) (eU sA i_) ?_;rw[ae,afZ];simp
theorem aef(o:Option P3):refusal o<=0:=by
 unfold refusal;split
 .decide
 .split
  .decide
  .split
   .decide
   .split<;>decide
theorem aeg{α:Type}{R:Hp->V->α->Prop}(m:eP R){H H':Hp}{v:V}{o:Option α}(s:aa H H')(h:gP R H v o):gP R H' v o:=by
 cases o with
 |none=>exact h
 |some x=>exact m _ _ _ _ s h
theorem aeh{α:Type}{t:Text}{f:Net->Except Nat α}(h:Mx t=none):M8 t f= .error 1:=by unfold M8;rw[h];rfl
theorem Sh{α:Type}{t:Text}{x:P3}{f:Net->Except Nat α}(hlen:t.length<=4000)(h:Mx t=some x):M8 t f=if refusal (some x)=0 then f (ah x)else .error (-(refusal (some x))).toNat:=by unfold M8;rw[h];exact adT (AB hlen h) f
theorem HM{α:Type}{t:Text}{f:Net->Except Nat α}(hlen:t.length<=4000)(h:refusal (Mx t)<0):∃n:Nat,refusal (Mx t)= -(n:Int)/\ M8 t f= .error n:=by
 cases hp:Mx t with
 |none=>exact⟨1,U,aeh hp⟩
 |some x=>rw[hp]at h;refine⟨(-(refusal (some x))).toNat,by lia,?_⟩;rw[Sh hlen hp,ay (by lia)]
theorem HN{α:Type}{t:Text}{f:Net->Except Nat α}(hlen:t.length<=4000)(h:¬refusal (Mx t)<0):∃x,Mx t=some x/\ fJ x/\ M8 t f=f (ah x):=by
 have h0:refusal (Mx t)=0:=by have:=aef (Mx t);lia
 cases hp:Mx t with
 |none=>rw[hp]at h0;exact absurd h0 (by decide)
 |some x=>rw[hp]at h0;exact⟨x,U,RK hlen hp h0,by rw[Sh hlen hp,aI h0]⟩
theorem Bn{H:Hp}{h:Addr}{o:HO}(e:H h=some o):Hid (λb=>b=h) H:=λb hb z=>by rw[hb,e]at z;cases z
inductive Si(A:aF)(vs:List V)(H:Hp)(Q:VK)(E:XK):Prop
 |mk (Z:Addr->Prop) (h:Addr) (x:P3) (v:V) (t:Text):vs=[.ref h,v]->fo A Z H h x->bG H v t->t.length<=4000->jm A Z H h x (.set t) Q->Si A vs H Q E
theorem aei(T:Txt K mg A):Gd P w K mg base 10 A.FC A.d_Holder_answer_set ["self","text"] (Si A):=by
 refine T.aaC.go (N:=["self","text","parts","refusal"]) ?_;rintro aC A' outer s H vs Q E hr nd ⟨Z,h,x,v,t,rfl,hh,ht,hlen,q⟩;refine⟨_,(af (aN 2 nd (aP hr (GP T) T.F5 (aj (pv 1))))
  (af (aN 3 nd (aP hr (PR T) T.N' (aj (pv 2))))
  (af (a9 (aR iq (pv 3) ak) (ag (aB (aS (aj (pv 3))))) bt)
  (af (cn (pv 0) (pv 2))
  (af (cn (pv 0) (qi hr (G9 T) T.Gh T.FZ (aj (pv 2))))
  (ag (aB (aS (aj (dw T.c6 (dO hr (PF T) T.gN T.N7 (pv 2)))))))))))),?_⟩
 try dsimp only[A9]
 obtain⟨dx,pv,qv,r⟩:=id hh;refine⟨_,U,(aL Z h),v,t,U,ht,hlen,r.aH.lq r.obj,λv1 H1 s1 h1=>?_⟩;refine⟨_,U,v1,Mx t,U,aeg c7.mono (bB _ _) h1,λy hy=>AB hlen hy,λH2 s2=>?_⟩;have bQ:=s1.trans s2;refine⟨_,U,_,_,U,U,_,U,?_⟩;by_cases gS:refusal (Mx t)<0
 .obtain⟨n,hn,hd⟩:=HM (f:=λo=> .ok (o,[o.to.length])) hlen gS
  have qf:=kI q hh (n:=n) hd;rw[bb gS];refine aJ ⟨_,U,cu,λl hl=>qf l _ (bQ.trans (aa.new hl)) (eU bQ hl) ?_⟩;rw[ae,hn]
 .obtain⟨x2,hp,o2,hd⟩:=HN (f:=λo=> .ok (o,[o.to.length])) hlen gS
  rw[cO gS];rw[hp]at h1;have h1:c7 A (Wo (aL Z h) H1) v1 x2:=h1;have r2:=r.mono bQ;refine aA ⟨_,U,_,U,h,_,_,_,U,r2.obj,T.cy,T.wN,(by show 2<1000;decide),?_⟩;have w2:∀o,Wo (aL Z h) (upd H2 h o)=Wo (aL Z h) H2:=λo=>dP (.inr U);have wz:=c7.mono _ _ _ _ (bV s2) h1;generalize oQ:upd H2 h (.ins A.ef dx (bA "parts" v1 (xJ pv qv)))=H3;have o3:H3 h=some (.ins A.ef dx (xJ v1 qv)):=by rw[<-oQ,ae];rfl
  have p3:c7 A (Wo (aL Z h) H3) v1 x2:=by rw[<-oQ,w2];exact wz
  have k3:K1 h H H3:=λb o e hb=>by rw[<-oQ,aD hb];exact bQ _ _ e
  refine⟨_,U,?_⟩;intro p pdx gQ xK Sj;have nph:¬p=h:=λc=>by rw[c,o3]at gQ;cases gQ
  have z3:Hid Z H3:=by rw[<-oQ];exact(r.aH.mono bQ).upd
  have nZp:¬(aL Z h) p:=by rintro(c|c);exact z3 p c gQ;exact nph c
  have s4:aa H3 (upd (upd H3 pdx (.own p)) p (.ins A.bM pdx [])):=c5 (aa.new xK) gQ;refine⟨(aL Z h),p,pdx,v1,x2,U,ae,nZp,c7.mono _ _ _ _ (qg gQ s4) p3,o2.sL,(z3.mono s4).lq (s4 _ _ o3),λH5 k5 h5=>⟨U,?_⟩⟩;have s5:aa H3 H5:=λb o e=>k5 _ _ (s4 _ _ e) (bS e gQ);refine⟨_,U,h,_,_,_,U,s5 _ _ o3,T.cy,T.fk,(by show 2<1000;decide),?_⟩;have w6:∀o,Wo (aL Z h) (upd H5 h o)=Wo (aL Z h) H5:=λo=>dP (.inr U);have p5:=c7.mono _ _ _ _ (bV s5) p3;generalize xM:upd H5 h (.ins A.ef dx (bA "points" (.ref p) (xJ v1 qv)))=H6;have o6:H6 h=some (.ins A.ef dx (xJ v1 (.ref p))):=by rw[<-xM,ae];rfl
  have r6:pj A Z H6 h x2 dx v1 (.ref p):=⟨o6,by rw[<-xM,w6];exact p5,by rw[<-xM,w6];exact h5,o2,by rw[<-xM];exact(z3.mono s5).upd⟩
  have k6:K1 h H H6:=λb o e hb=>by rw[<-xM,aD hb];exact s5 _ _ (k3 _ _ e hb)
  obtain⟨ap,adx,ac,au,al,rfl,sD,_⟩:=id r6.HI;refine⟨_,U,ap,adx,_,U,sD,U,(aL Z h), .ref ap,x2,U,r6.parts,o2.ok,r6.aH.lq o6,λv7 H7 s7 h7=>?_⟩;obtain⟨la,lvs,rfl,jk,uH⟩:=h7;have gw:=ck uH;rw[GU,aX]at gw;refine⟨la,_,U, .inl (ab.of (bB _ _ _ _ jk)),cu,λl hl=>?_⟩;have es:Vanetg.step (ah x) (.set t)=(ah x2, .told [(ah x2).to.length]):=by unfold Vanetg.step;have:does (ah x) (.set t)= .ok (ah x2,[(ah x2).to.length]):=hd;rw[this]
  have s8:=s7.trans (aa.new (o:= .lst [V.int (lvs.length:Int)]) hl);refine q x2 l _ (λb o e hb=>s8 _ _ (k6 _ _ e hb)) ⟨dx,_,_,r6.mono s8⟩ (by rw[es]) ?_ ?_
  .cases e:H l with
   |none=>rfl
   |some o=>
    have nlh:l≠h:=λc=>by rw[c,s7 _ _ o6]at hl;cases hl
    rw[s7 _ _ (k6 _ _ e nlh)]at hl;cases hl
  .rw[ae,es,gw,xI];rfl
theorem aej:codes "a, ~a ; ; 0-1"=t0.map bI:=by decide+kernel
inductive Sk(A:aF)(vs:List V)(H:Hp)(Q:VK)(E:XK):Prop
 |mk (h dx:Addr):vs=[.ref h]->H h=some (.ins A.ef dx [])->(∀H',K1 h H H'->fo A (λ_=>False) H' h x0->Q .aO H')->Sk A vs H Q E
theorem aek(T:Txt K mg A):Gd P w K mg base 10 A.z7 A.d_Holder_init ["self"] (Sk A):=by
 refine T.aaA.go (N:=["self"]) ?_;rintro aC A' outer s H vs Q E hr nd ⟨h,dx,rfl,hh,q⟩;refine⟨_,(af (cn (pv 0) (aP hr (GP T) T.F5 (aj (aP hr (wO T) T.wJ (aj (Xu T.XX))))))
  (ag (cn (pv 0) (qi hr (G9 T) T.Gh T.FZ (aj (ao (pv 0))))))),?_⟩
 try dsimp only[A9]
 refine⟨_,U,by decide+kernel,λH1 ta s1 ta0 Sl=>?_⟩;rw[aej]at Sl;refine⟨(λb=>b=h), .ref ta,t0,U,⟨ta,U,Sl⟩,by decide,Bn (s1 _ _ hh),λv1 H2 s2 h2=>?_⟩;rw[RL]at h2;have h2:c7 A (Wo (λb=>b=h) H2) v1 x0:=h2;have bQ:=s1.trans s2;refine⟨_,U,h,_,_,_,U,bQ _ _ hh,T.cy,T.wN,(by show 0<1000;decide),?_⟩;have w2:∀o,Wo (λb=>b=h) (upd H2 h o)=Wo (λb=>b=h) H2:=λo=>dP U;generalize oQ:upd H2 h (.ins A.ef dx (bA "parts" v1 []))=H3;have o3:H3 h=some (.ins A.ef dx [("parts",v1)]):=by rw[<-oQ,ae];rfl
 have p3:c7 A (Wo (λb=>b=h) H3) v1 x0:=by rw[<-oQ,w2];exact h2
 have k3:K1 h H H3:=λb o e hb=>by rw[<-oQ,aD hb];exact bQ _ _ e
 refine⟨_,U,h,_,_,_,_,U,o3,T.cy,T.wN,U,?_⟩;intro p pdx gQ xK Sj;have nph:¬p=h:=λc=>by rw[c,o3]at gQ;cases gQ
 have s4:aa H3 (upd (upd H3 pdx (.own p)) p (.ins A.bM pdx [])):=c5 (aa.new xK) gQ;refine⟨(λb=>b=h),p,pdx,v1,x0,U,ae,nph,c7.mono _ _ _ _ (qg gQ s4) p3,RM.sL,Bn (s4 _ _ o3),λH5 k5 h5=>⟨U,?_⟩⟩;have s5:aa H3 H5:=λb o e=>k5 _ _ (s4 _ _ e) (bS e gQ);refine⟨_,U,h,_,_,_,U,s5 _ _ o3,T.cy,T.fk,(by show 1<1000;decide),?_⟩;have w6:∀o,Wo (λb=>b=h) (upd H5 h o)=Wo (λb=>b=h) H5:=λo=>dP U;have p5:=c7.mono _ _ _ _ (bV s5) p3;have woF:∀Hx:Hp,Wo (aL (λ_=>False) h) Hx=Wo (λb=>b=h) Hx:=λHx=>by congr 1;funext b;exact propext ⟨λz=>z.elim False.elim id,λz=> .inr z⟩
 refine q _ (λb o e hb=>by rw[aD hb];exact s5 _ _ (k3 _ _ e hb)) ⟨dx,v1, .ref p,?_,by rw[woF,w6];exact p5,by rw[woF,w6];exact h5,RM,Hid.none _⟩;rw[ae];rfl
theorem enc_inj:∀(A B:Formula),multiplicative A=true->multiplicative B=true->∀r q:List Node,enc A++r=enc B++q->A=B/\ r=q
 | .atom n a,B,hA,hB,r,q,h=>by
  cases B with
  |atom m b=>have h:((if n=true then 1 else 0,a):Node)::r=(if m=true then 1 else 0,b)::q:=h;obtain⟨h1,h2⟩:=mU h;obtain⟨h3,h4⟩:=kJ h1;refine⟨?_,h2⟩;rw[h4];cases n<;>cases m<;>simp at h3⊢
  |tensor C D=>have h:((if n=true then 1 else 0,a):Node)::r=(2,[])::((enc C++enc D)++q):=h;have:=(kJ (mU h).1).1;cases n<;>simp at this
  |par C D=>have h:((if n=true then 1 else 0,a):Node)::r=(3,[])::((enc C++enc D)++q):=h;have:=(kJ (mU h).1).1;cases n<;>simp at this
  |wth C D|plus C D|ofc C|whn C=>simp[multiplicative]at hB
 | .tensor C D,B,hA,hB,r,q,h=>by
  simp only[multiplicative,bC]at hA;cases B with
  |atom m b=>have h:((2,[]):Node)::((enc C++enc D)++r)=(if m=true then 1 else 0,b)::q:=h;have:=(kJ (mU h).1).1;cases m<;>simp at this
  |tensor C' D'=>simp only[multiplicative,bC]at hB;have h:((2,[]):Node)::((enc C++enc D)++r)=(2,[])::((enc C'++enc D')++q):=h;have h:=(mU h).2;rw[gC,gC]at h;obtain⟨e1,h⟩:=enc_inj C C' hA.1 hB.1 _ _ h;obtain⟨e2,h⟩:=enc_inj D D' hA.2 hB.2 _ _ h;rw[e1,e2];exact⟨U,h⟩
  |par C' D'=>have h:((2,[]):Node)::((enc C++enc D)++r)=(3,[])::((enc C'++enc D')++q):=h;have:=(kJ (mU h).1).1;simp at this
  |wth C D|plus C D|ofc C|whn C=>simp[multiplicative]at hB
 | .par C D,B,hA,hB,r,q,h=>by
  simp only[multiplicative,bC]at hA;cases B with
  |atom m b=>have h:((3,[]):Node)::((enc C++enc D)++r)=(if m=true then 1 else 0,b)::q:=h;have:=(kJ (mU h).1).1;cases m<;>simp at this
  |par C' D'=>simp only[multiplicative,bC]at hB;have h:((3,[]):Node)::((enc C++enc D)++r)=(3,[])::((enc C'++enc D')++q):=h;have h:=(mU h).2;rw[gC,gC]at h;obtain⟨e1,h⟩:=enc_inj C C' hA.1 hB.1 _ _ h;obtain⟨e2,h⟩:=enc_inj D D' hA.2 hB.2 _ _ h;rw[e1,e2];exact⟨U,h⟩
  |tensor C' D'=>have h:((3,[]):Node)::((enc C++enc D)++r)=(2,[])::((enc C'++enc D')++q):=h;have:=(kJ (mU h).1).1;simp at this
  |wth C D|plus C D|ofc C|whn C=>simp[multiplicative]at hB
 | .wth C D,_,hA,_,_,_,_| .plus C D,_,hA,_,_,_,_| .ofc C,_,hA,_,_,_,_| .whn C,_,hA,_,_,_,_=>by simp[multiplicative]at hA
theorem ael{A B:Formula}(hA:multiplicative A=true)(hB:multiplicative B=true):enc A=enc B↔A=B:=⟨λh=>(enc_inj A B hA hB [] [] (by rw[h])).1,λh=>by rw[h]⟩
inductive Sm(A:aF)(vs:List V)(H:Hp)(Q:VK)(E:XK):Prop
 |mk (ba ca:Addr) (v0 v1:V) (D0 D1:dn) (s o:Net) (i j:Int):vs=[.ref ba, .ref ca]->H ba=some (.lst [v0,v1])->H ca=some (.lst [.int i, .int j])->bq A H v0 D0->bq A H v1 D1->dF s D0->dF o D1->(∀H',aa H H'->Q (.bl (below i s.concl.length&&below j o.concl.length)) H')->Sm A vs H Q E
theorem aem(T:Txt K mg A):Gd P w K mg base 2 A.FQ A.d_all_there ["boards","conclusions"] (Sm A):=by
 refine T.aaP.go (N:=["boards","conclusions","points","number"]) ?_;rintro aC A' outer s H vs Q E hr nd ⟨ba,ca,v0,v1,D0,D1,s,o,i,j,rfl,mO,fc,fW,jj,d0,d1,q⟩;refine⟨_,(ag (aB (pY (Du U) (by rfl) T.FV DX (aj (ml U nd (Lx (by rfl) T.NR (aZ (pv 0) (pv 1))) (jF (own:=[("points",2),("number",3)]) (by show iT ["boards","conclusions","points","number"] (d5 (top 115)) _ _=true;decide+kernel)) (λ_ _ _ _ _=>(zV (K:=K) (n:=2) U U (kZ (cx 2 nd) (kZ (cx 3 nd) tW)))) (λ_ _ _ _ _=>oP) (λ_ _ _ _ _=>(bN hr (He T) T.aE T.F8 (pv 2) (aj (pv 3))))))))),?_⟩
 try dsimp only[A9]
 obtain⟨a0,w8,rfl,S0,pp0⟩:=id fW;obtain⟨a1,Au,rfl,S1,pp1⟩:=id jj;refine⟨_,U,_,U,ba,ca,_,_,U,ab.of mO,ab.of fc,λL hL=>LW (α:=Nat) (γ:=Nat) (λ_=>False) j3 j3.mono (λk=>[below i s.concl.length,below j o.concl.length][k]?) hL (Hid.none _) (by show 2<=100000;decide) (ab.of mO) (ab.of fc) U (λu v=>rfl) ?_ ?_⟩
 .intro k' H2 x y hx hy s2 aH Ky Kn h1 h2
  refine oZ ?_;match k',hx,hy with
  |0,hx,hy=>have ex:V.ref a0.p=x:=aM hx;have ey:V.int i=y:=aM hy;subst ex ey;exact⟨_,U,a0.p,_,_,U,s2 _ _ S0.obj,U,_,U, .ref a0.p,D0,s,i,U,bq.mono _ _ _ _ s2 fW,d0,h1 _ _ _ U (aa.refl _) U⟩
  |1,hx,hy=>have ex:V.ref a1.p=x:=aM hx;have ey:V.int j=y:=aM hy;subst ex ey;exact⟨_,U,a1.p,_,_,U,s2 _ _ S1.obj,U,_,U, .ref a1.p,D1,o,j,U,bq.mono _ _ _ _ s2 jj,d1,h1 _ _ _ U (aa.refl _) U⟩
  |k'+2,hx,hy=>simp at hx
 .intro H2 acc s2 cH aH bh
  have ea:=AF bh;have ea:acc=[V.bl (below i s.concl.length),V.bl (below j o.concl.length)]:=ea;subst ea;refine⟨L,[below i s.concl.length,below j o.concl.length],U,ab.of cH,?_⟩;have:=q _ s2;rw[show[below i s.concl.length,below j o.concl.length].all id=(below i s.concl.length&&below j o.concl.length) by simp];exact this
theorem Sn{s:Net}{c:Int}{zs:List Int}{n:Nat}(h:Mz s c zs=some n):below c s.concl.length=true:=by
 unfold Mz at h;split at h
 .cases h
 .obtain⟨q,hq,h2⟩:=cY.mp h
  unfold abQ at h2;obtain⟨A,hA,h3⟩:=cY.mp h2;have:=dm hA;unfold below;rw[bb (by lia),bb (by lia)];rfl
theorem aen{s:Net}(g:Good s){c:Nat}{zs:List Int}{n:Nat}(h:Mz s (c:Int) zs=some n):∃k A,At s.concl n c k A:=by
 have h0:=h;unfold Mz at h;split at h
 .cases h
 .obtain⟨q,hq,h2⟩:=cY.mp h
  unfold abQ at h2;obtain⟨A,hA,h3⟩:=cY.mp h2;rw[jO]at hA;obtain⟨k,d,bT,_⟩:=CA hA (g.mul A (nZ _ (cN hA))) h0;exact⟨k,A,bT⟩
noncomputable def nV(s o:Net)(i j c:Int)(zs:List Int):Vanetg.Out:=
 Vanetg.after (below i s.concl.length&&(below j o.concl.length&&(below c s.concl.length&&c !=i))) 4 (given (Mz s c zs) 4 λn=>
  given (s.concl[i.toNat]?) 4 λA=>Vanetg.after (o.concl[j.toNat]? ==some (L7 A)) 8
   (.ok (s,Vanetg.one (Vanetg.play s o i.toNat j.toNat A n).1::(Mr (if(Vanetg.play s o i.toNat j.toNat A n).1=true then o.concl else s.concl) 0 (Vanetg.play s o i.toNat j.toNat A n).2.1).1::(MK (Mr (if(Vanetg.play s o i.toNat j.toNat A n).1=true then o.concl else s.concl) 0 (Vanetg.play s o i.toNat j.toNat A n).2.1).2++[(Vanetg.play s o i.toNat j.toNat A n).2.2]))))
theorem So(s:Net)(i j c:Int)(t:Text)(zs:List Int):does s (.play i j c t zs)=M8 t λo=>nV s o i j c zs:=rfl
theorem HP{s o:Net}{i j c:Int}{zs:List Int}(h:Mz s c zs=none\/c=i\/(below i s.concl.length&&below j o.concl.length)=false):nV s o i j c zs= .error 4:=by
 unfold nV Vanetg.after;rcases h with h|h|h
 .rw[h];split<;>rfl
 .rw[show(c !=i)=false by simp[h],pz,pz,pz];rfl
 .rw[<-BO,h,om];rfl
theorem aeo{s o:Net}{i j:Nat}{c:Int}{zs:List Int}{n:Nat}{F G:Formula}(h1:Mz s c zs=some n)(h2:c≠(i:Int))(hF:s.concl[i]? =some F)(hG:o.concl[j]? =some G):nV s o (i:Int) (j:Int) c zs=Vanetg.after (some G==some (L7 F)) 8
   (.ok (s,Vanetg.one (Vanetg.play s o i j F n).1::(Mr (if(Vanetg.play s o i j F n).1=true then o.concl else s.concl) 0 (Vanetg.play s o i j F n).2.1).1::(MK (Mr (if(Vanetg.play s o i j F n).1=true then o.concl else s.concl) 0 (Vanetg.play s o i j F n).2.1).2++[(Vanetg.play s o i j F n).2.2]))):=by
 unfold nV;have hi:=dm hF;have hj:=dm hG;have b1:below (i:Int) s.concl.length=true:=by unfold below;rw[bb (by lia),bb (by lia)];rfl
 have b2:below (j:Int) o.concl.length=true:=by unfold below;rw[bb (by lia),bb (by lia)];rfl
 rw[b1,b2,Sn h1,show(c !=(i:Int))=true by simpa using h2,h1,jO,jO,hF,hG];rfl
inductive Sq(A:aF)(vs:List V)(H:Hp)(Q:VK)(E:XK):Prop
 |mk (Z:Addr->Prop) (h:Addr) (x:P3) (na:Addr) (i j c:Int) (v:V) (t:Text) (pa:Addr) (zs:List Int):vs=[.ref h, .ref na,v, .ref pa]->fo A Z H h x->H na=some (.lst [.int i, .int j, .int c])->bG H v t->t.length<=4000->H pa=some (.lst (zs.map V.int))->zs.length<=10000->jm A Z H h x (.play i j c t zs) Q->Sq A vs H Q E
theorem aep(T:Txt K mg A):Gd P w K mg base 10 A.FN A.d_Holder_answer_play ["self","numbers","text","place"] (Sq A):=by
 refine T.aaM.go (N:=["self","numbers","text","place","parts","refusal","boards","meeting","entered","point","token"]) ?_;rintro aC A' outer s H vs Q E hr nd ⟨Z,h,x,na,i,j,c,v,t,pa,zs,rfl,hh,mL,ht,hlen,gR,nE,q⟩;refine⟨_,(af (aN 4 nd (aP hr (GP T) T.F5 (aj (pv 2))))
  (af (aN 5 nd (aP hr (PR T) T.N' (aj (pv 4))))
  (af (a9 (aR iq (pv 5) ak) (ag (aB (aS (aj (pv 5))))) bt)
  (af (aN 6 nd (aS (aZ (ao (pv 0)) (qi hr (G9 T) T.Gh T.FZ (aj (pv 4))))))
  (af (aN 7 nd (oJ oK (pv 1) Dj (je ak)))
  (af (aN 8 nd (aT (pv 1) ak))
  (af (aN 9 nd (aP hr (Q6 T) T.Ob (fM (ao (pv 0)) (aZ (pv 8) (pv 3)))))
  (af (a9 (PW.pt (kW (aR cj (pv 9) (il ip ak)) (kW (aR cj (pv 8) (aT (pv 7) ak)) (oE (ij (dC (aP hr (aem T) T.Za (aZ (pv 6) (pv 7))))))))) (ag (aB (aS (aj (aW T.uo))))) bt)
  (af (a9 (aR (Dx hr.units) (aT (ao (pv 4)) (aT (pv 7) ak)) (aP hr (wU T) T.wK (aj (aT (ao (ao (pv 0))) (aT (pv 7) ak))))) (ag (aB (aS (aj (aW T.Yc))))) bt)
  (af (aN 10 nd (qi hr (Rb T) T.Of T.NV (aj (pv 9))))
  (af (bF (aP hr (ac4 T) T.YV (fM (pv 10) (aZ (pv 6) (pv 7)))))
  (ag (aB (b_ gz (b_ gz (aS (aj (ao (pv 10)))) (aP hr (Hj T) T.F6 (aZ (aT (pv 6) (ao (pv 10))) (ao (pv 10))))) (aS (aj (ao (pv 10)))))))))))))))))),?_⟩
 try dsimp only[A9]
 obtain⟨dx,pv,qv,r⟩:=id hh;have d:=r.ok.kG;have c8:=So (ah x) i j c t zs;refine⟨_,U,(λ_=>False),v,t,U,ht,hlen,Hid.none _,λv1 H1 s1 h1=>?_⟩;rw[mq]at h1;refine⟨_,U,v1,Mx t,U,h1,λy hy=>AB hlen hy,λH2 s2=>?_⟩;have bQ:=s1.trans s2;refine⟨_,U,_,_,U,U,_,U,?_⟩;by_cases gS:refusal (Mx t)<0
 .obtain⟨n,hn,hd⟩:=HM (f:=λo=>nV (ah x) o i j c zs) hlen gS
  have qf:=kI q hh (n:=n) (c8.trans hd);rw[bb gS];refine aJ ⟨_,U,cu,λl hl=>qf l _ (bQ.trans (aa.new hl)) (eU bQ hl) ?_⟩;rw[ae,hn]
 .obtain⟨x2,hp,o2,hd⟩:=HN (f:=λo=>nV (ah x) o i j c zs) hlen gS
  rw[cO gS];rw[hp]at h1;have c8:=c8.trans hd;clear hd;have h1:c7 A H1 v1 x2:=h1;have h2:=c7.mono _ _ _ _ s2 h1;have r2:=r.mono bQ;have d2:=o2.kG;refine aA ⟨_,U,h,_,_,_,_,U,r2.obj,T.cy,T.fk,U,_,U,?_⟩;intro p pdx gQ xK Sj;have s3:aa H2 (upd (upd H2 pdx (.own p)) p (.ins A.bM pdx [])):=c5 (aa.new xK) gQ;have e3:aa H2 (Wo (aL (λ_=>False) p) (upd (upd H2 pdx (.own p)) p (.ins A.bM pdx []))):=λb o e=>by rw[cR (by rintro(z|z);exact z;exact bS e gQ z)];exact s3 _ _ e
  refine⟨(λ_=>False),p,pdx,v1,x2,U,ae,(λz=>z),c7.mono _ _ _ _ e3 h2,o2.sL,Hid.none _,λH4 k4 h4=>⟨U,?_⟩⟩;rw[mq]at h4;have s4:aa H2 H4:=λb o e=>k4 _ _ (s3 _ _ e) (bS e gQ);refine⟨gm,λba mO=>?_⟩;have s5:=aa.new (o:= .lst [qv, .ref p]) mO;have HQ:=(bQ.trans s4).trans s5;have Sr:upd H4 ba (.lst [qv, .ref p]) ba=some (.lst [qv, .ref p]):=ae;have Ss:=bq.mono _ _ _ _ s5 h4;have A1:=c7.mono _ _ _ _ (s4.trans s5) h2;generalize upd H4 ba (.lst [qv, .ref p])=H5 at HQ Sr Ss A1;refine⟨_,U,_,U,na,_,U,ab.of (HQ _ _ mL),λma hma=>?_⟩;have ecut:fU [V.int i,V.int j,V.int c] none (some 2)=[V.int i,V.int j]:=rfl;rw[ecut];have s6:=aa.new (o:= .lst [V.int i,V.int j]) hma;have xN:=HQ.trans s6;have Su:upd H5 ma (.lst [V.int i,V.int j]) ma=some (.lst [V.int i,V.int j]):=ae;have Sv:=s6 _ _ Sr;have Sw:=bq.mono _ _ _ _ s6 Ss;have Sx:=c7.mono _ _ _ _ s6 A1;generalize upd H5 ma (.lst [V.int i,V.int j])=H6 at xN Su Sv Sw Sx;have r6:=r.mono xN;refine⟨_,U,na,_,_,_,U,U,ab.of (xN _ _ mL),at2,?_⟩;refine⟨_,U,h,_,_,_,_,U,r6.obj,T.cy,T.fk,U,_,U,_,U,qv,eh x,ah x,c,pa,zs,U,r6.aQ,d,xN _ _ gR,nE,λH7 s7=>?_⟩;have Bo:=xN.trans s7;have r7:=r.mono Bo;have HR:=s7 _ _ Su;have Sy:=s7 _ _ Sv;have SA:=bq.mono _ _ _ _ s7 Sw;have hp7:=c7.mono _ _ _ _ s7 Sx;have bad:∀{H8:Hp},aa H H8->nV (ah x) (ah x2) i j c zs= .error 4->∀l,H8 l=none->Q (.ref l) (upd H8 l (.lst [V.int (-4)])):=λ{H8} s8 e l hl=>kI q hh (n:=4) (c8.trans e) l _ (s8.trans (aa.new hl)) (eU s8 hl) ae
  refine⟨_,U,_,U,Sf _ _,_,U,?_⟩;cases mK:Mz (ah x) c zs with
  |none=>rw[show decide (mI ((none:Option Nat).bind λi=>(cv (ah x))[i]?)=V.int (-1))=true from bb U];exact aJ (aJ ⟨cu,bad Bo (HP (.inl mK))⟩)
  |some n=>
   obtain⟨ho,hn⟩:=Sd d.good mK;have gw:(cv (ah x)).length=(ah x).to.length:=by rw[d.good.len,gZ]
   obtain⟨pt,fH⟩:∃p,(cv (ah x))[n]? =some p:=⟨_,cC (by lia)⟩
   rw[dQ,fH];have b8:(mI (some pt)=V.int (-1))->False:=λc=>by have:=V.int.inj c;lia
   rw[cO b8];refine aA ⟨_,U,_,U,ma,_,_,_,U,U,ab.of HR,bT,U,_,U,?_⟩;have HS:decide (V.int c=V.int i)=decide (c=i):=decide_eq_decide.mpr ⟨λz=>V.int.inj z,λz=>by rw[z]⟩;rw[HS];by_cases q0:c=i
   .rw[bb q0]
    exact aJ (aJ ⟨cu,bad Bo (HP (.inr (.inl q0)))⟩)
   .rw[cO q0]
    refine aA ⟨_,U,_,U,ba,ma,qv, .ref p,eh x,eh x2,ah x,ah x2,i,j,U,Sy,HR,r7.aQ,SA,d,d2,λH8 s8=>⟨_,U,?_⟩⟩;have HU:=Bo.trans s8;cases eD:(below i (ah x).concl.length&&below j (ah x2).concl.length)with
    |false=>exact aJ ⟨cu,bad HU (HP (.inr (.inr eD)))⟩
    |true=>
     rw[bC]at eD;obtain⟨i',rfl,uR⟩:=qH eD.1;obtain⟨j',rfl,vD⟩:=qH eD.2;have uR:i'<x.1.length:=uR;have vD:j'<x2.1.length:=vD;obtain⟨F,hF⟩:∃F,x.1[i']? =some F:=⟨_,cC uR⟩
     obtain⟨G,hG⟩:∃G,x2.1[j']? =some G:=⟨_,cC vD⟩
     have iV:=aeo (s:=ah x) (o:=ah x2) (i:=i') (j:=j') mK q0 hF hG;have r8:=r.mono HU;have HV:=s8 _ _ HR;have hb8:=s8 _ _ Sy;have hv8:=bq.mono _ _ _ _ s8 SA;obtain⟨ap,adx,ac,au,al,rfl,sD,G_,_,_⟩:=c7.mono _ _ _ _ s8 hp7;obtain⟨ca,cs,rfl,fc,eT⟩:=G_;obtain⟨gv,hgv,rG⟩:=oT eT hG;obtain⟨bp,bdx,bc,bu,bl,rfl,hbp,sG,_,_⟩:=r8.HI;obtain⟨cb,ds,rfl,gY,hds⟩:=sG;obtain⟨fv,su,rF⟩:=oT hds hF;have mF:=rF.1;have mG:=rG.1;have okF:=((xi r.ok.ok).1 F (nZ _ (cN hF)))
     refine aA ⟨_,U,ap,_,_,_,_,U,sD,T.gN,T.uu,U,_,U,ma,_,_,_,U,U,ab.of HV,fP,ca,_,_,_,U,U,ab.of fc,bH hgv,_,U,h,_,_,_,_,U,r8.obj,T.cy,T.wN,U,bp,_,_,_,_,U,hbp,T.gN,T.uu,U,_,U,ma,_,_,_,U,U,ab.of HV,bT,cb,_,_,_,U,U,ab.of gY,bH su,(λ_=>False),fv,enc F,U,by rw[mq];exact rF.2,jt F mF,by rw[bJ];lia,Hid.none _,λv9 H9 s9 h9=>?_⟩;rw[mq,<-jS]at h9;have hG9:=cS.mono bZ.mono _ _ _ _ s9 rG.2;have Bp:=HU.trans s9;refine⟨_,_,qu hG9,qu h9,(qt _).shaped (by decide),(qt _).shaped (by decide),_,U,?_⟩;have eqn:PyData.eqv (nN (enc G)) (nN (enc (L7 F)))=decide (enc G=enc (L7 F)):=Gv _ _;rw[eqn];by_cases hd:G=L7 F
     .subst hd
      rw[bb U];rw[show(some (L7 F)==some (L7 F))=true from beq_self_eq_true _]at iV;have qf:=mP q hh (c8.trans iV);have meet:Meet (ah x) (ah x2) i' j' F:=⟨d.good,d2.good,hF,hG⟩
      have gY:below c (ah x).concl.length=true:=Sn mK;obtain⟨c',rfl,i_⟩:=qH gY;obtain⟨kk,AA,aey⟩:=aen d.good mK;have rh:¬ib (ah x) (ah x2) i' j' F false n:=λz=>by have e:=(meet.Jx false aey).mp z;have e:c'=i':=e;exact q0 (by rw[e])
      refine aA ⟨_,U,?_⟩;intro t dt sv Bl htd;refine⟨t,dt,pt,U,ae,U,?_⟩;rw[jz];have wk:aa H9 (upd (upd H9 dt (.own t)) t (.ins A.eQ dt (kD pt 0 false 0))):=c5 (aa.new Bl) sv;have w10:aa H9 (Wo (λb=>b=t) (upd (upd H9 dt (.own t)) t (.ins A.eQ dt (kD pt 0 false 0)))):=λb o e=>by rw[cR (P:=λb=>b=t) (bS e sv)];exact wk _ _ e
      have r9:=r.mono Bp;have SD:=s9 _ _ hb8;have hm9:=s9 _ _ HV;have SE:=bq.mono _ _ _ _ s9 hv8;refine⟨_,U,_,U,_,U,t,dt,ba,ma,qv, .ref p,eh x,eh x2,ah x,ah x2,i',j',pt,n,F,U,ae,wk _ _ SD,wk _ _ hm9,bq.mono _ _ _ _ w10 r9.aQ,bq.mono _ _ _ _ w10 SE,d,d2,meet,ho,fH,rh,λH11 p11 c11 k11 SF SG HW=>?_⟩;have wm:aa H9 H11:=λb o e=>k11 _ _ (wk _ _ e) (bS e sv);generalize Vanetg.play (ah x) (ah x2) i' j' F n=X at qf SF SG HW;have aeA:=Bp.trans wm;have aeB:=wm _ _ SD;obtain⟨vb,evb⟩:∃vb:Bool->V,vb=λb=>if b=true then .ref p else qv:=⟨_,U⟩
      obtain⟨Db,eDb⟩:∃Db:Bool->dn,Db=λb=>if b=true then eh x2 else eh x:=⟨_,U⟩
      have A0:∀b:Bool,gi [qv,V.ref p] (if b=true then 1 else 0)=some (vb b):=λb=>by rw[evb];cases b<;>rfl
      have uK:bq A H11 (vb X.1) (Db X.1):=by rw[evb,eDb];cases X.1;exact bq.mono _ _ _ _ wm r9.aQ;exact bq.mono _ _ _ _ wm SE
      have fN:dF (c4 (ah x) (ah x2) X.1) (Db X.1):=by rw[eDb];cases X.1;exact d;exact d2
      have bD:X.2.1<(c4 (ah x) (ah x2) X.1).to.length:=by have hg:=fN.good.total;rw[rf]at hg;lia
      have etl:Mr (if X.1=true then(ah x2).concl else(ah x).concl) 0 X.2.1=Mr (tQ (c4 (ah x) (ah x2) X.1)) 0 X.2.1:=by rw[Sb SG];cases X.1<;>rfl
      rw[etl]at qf;have sM:=Se fN bD;refine⟨_,U,t,_,_,_,_,U,HW,T.dX,T.nG,U,cu,λl1 qp=>?_⟩;have bQ:=aa.new (o:= .lst [dy X.1]) qp;have HX:=bQ _ _ HW;refine⟨_,U,_,U,t,_,_,_,_,U,HX,T.dX,T.nG,U,ba,_,_,_,U,U,ab.of (bQ _ _ aeB),A0 X.1,_,U,t,_,_,_,_,U,HX,T.dX,T.mv,U,vb X.1,Db X.1,c4 (ah x) (ah x2) X.1,p11,X.2.1,U,bq.mono _ _ _ _ bQ uK,fN,bD,SF,λl2 H13 cU afM fh=>?_⟩;refine⟨l1,l2,_,_,U,U,cU _ _ ae,fh,fC (by simp only[cP,aX,bj]at sM⊢;simp at sM⊢;lia),λl3 Qo=>?_⟩;have mH:=aa.new (o:= .lst ([dy X.1]++((Mr (tQ (c4 (ah x) (ah x2) X.1)) 0 X.2.1).1::MK (Mr (tQ (c4 (ah x) (ah x2) X.1)) 0 X.2.1).2).map nI)) Qo;refine⟨_,U,t,_,_,_,_,U,mH _ _ (cU _ _ HX),T.dX,T.Gk,U,cu,λl4 sx=>?_⟩;have wR:=aa.new (o:= .lst [nI X.2.2]) sx;refine⟨l3,l4,_,_,U,U,wR _ _ ae,ae,fC (by simp only[cP,aX,bj]at sM⊢;simp at sM⊢;lia),λl5 Bm=>?_⟩;have sA:=(((aeA.trans bQ).trans cU).trans mH).trans wR;refine qf l5 _ (sA.trans (aa.new Bm)) (eU sA Bm) ?_;rw[ae,<-R_];simp
     .rw[cO (λz=>hd ((ael mG (by rw[jT];exact mF)).mp z))]
      rw[show(some G==some (L7 F))=false from beq_eq_false_iff_ne.mpr λz=>hd (aM z)]at iV;have qf:=kI q hh (n:=8) (c8.trans iV);exact aJ ⟨cu,λl hl=>qf l _ (Bp.trans (aa.new hl)) (eU Bp hl) ae⟩
theorem K1.seq{K:FU}{c C dx:Addr}{fs:List (Str×V)}{H H':Hp}{a:Addr}{xs:List V}(k:K1 c H H')(hc:H c=some (.ins C dx fs))(h:ab K H a xs):ab K H' a xs:=by
 rcases h with(h|⟨o,h⟩)|h
 .exact .inl (.inl (k _ _ h (ig h hc (by intro z;cases z))))
 .exact .inl (.inr ⟨o,k _ _ h (ig h hc (by intro z;cases z))⟩)
 .exact .inr h
inductive sN(H:Hp)(v:V)(r:List Int):Prop
 |mk (a:Addr):v= .ref a->H a=some (.lst (r.map V.int))->sN H v r
theorem sN.mono:eP sN:=λ_ _ _ _ s ⟨a,e,h⟩=>⟨a,e,s _ _ h⟩
noncomputable def nW(k:Int)(e:Nat)(na ra:Addr):List (Str×V):=[("kind", .int k),("end",nI e),("numbers", .ref na),("rows", .ref ra)]
structure SH(A:aF)(H:Hp)(c dx na ra:Addr)(rvs:List V)(e:Nat)(k:Int)(nums:List Int)(rows:List (List Int)):Prop where
 obj:H c=some (.ins A.cX dx (nW k e na ra))
 hn:H na=some (.lst (nums.map V.int))
 hr:H ra=some (.lst rvs)
 each:Paired (sN H) rvs rows
noncomputable def NC:List V:=[.int 0, .int 0, .int 0, .int 1, .int 1, .int 0, .int 0, .int 0, .int 1, .int 3, .int 1, .int 0]
noncomputable def RC:List V:=[.int 1, .int 0, .int 0, .int 1, .int 1, .int 1, .int 0, .int 0, .int 1, .int 2, .int 0, .int 0]
theorem aeC{p:Int}{n k:Nat}(h:PyVanetg.shape p=some (n,k)):∃m:Nat,p=(m:Int)/\ NC[m]? =some (nI n)/\ RC[m]? =some (nI k)/\ n<=3/\ k<=2:=by
 unfold PyVanetg.shape at h
 repeat' split at h
 all_goals first
  |(obtain⟨rfl,rfl⟩:=kJ (aM h)
    first
    |exact⟨0,by assumption,U,U,by decide,by decide⟩
    |exact⟨1,by assumption,U,U,by decide,by decide⟩
    |exact⟨2,by assumption,U,U,by decide,by decide⟩
    |exact⟨3,by assumption,U,U,by decide,by decide⟩
    |exact⟨4,by assumption,U,U,by decide,by decide⟩
    |exact⟨5,by assumption,U,U,by decide,by decide⟩
    |exact⟨6,by assumption,U,U,by decide,by decide⟩
    |exact⟨7,by assumption,U,U,by decide,by decide⟩
    |exact⟨8,by assumption,U,U,by decide,by decide⟩
    |exact⟨9,by assumption,U,U,by decide,by decide⟩
    |exact⟨10,by assumption,U,U,by decide,by decide⟩
    |exact⟨11,by assumption,U,U,by decide,by decide⟩)
  |cases h
theorem SI:∀(k:Nat) (r:List Int) (xs:List (List Int)) (t:List Int),PyFlat.rows k r=some (xs,t)->xs.length=k
 |0,r,xs,t,h=>by obtain⟨h1,_⟩:=kJ (aM h);rw[<-h1];rfl
 |k+1,r,xs,t,h=>by
  unfold PyFlat.rows at h;split at h
  .cases h
  .split at h
   .cases h
   .rename_i ys t' hr
    obtain⟨h1,_⟩:=kJ (aM h);rw[<-h1,bj,SI k _ _ _ hr]
theorem aeD{k:Nat}{l:List Int}{e:Nat}{todo:List (List Int)}{rest:List Int}(h:PyFlat.rows (k+1) (l.drop e)=some (todo,rest)):∃(n:Nat) (xs:List (List Int)),l[e]? =some (n:Int)/\ e+1+n<=l.length/\ todo=(l.drop (e+1)).take n::xs/\ PyFlat.rows k (l.drop (e+1+n))=some (xs,rest):=by
 unfold PyFlat.rows at h;split at h
 .cases h
 .rename_i x s pk
  split at h
  .cases h
  .rename_i xs t sO
   obtain⟨h1,h2⟩:=kJ (aM h);subst h1 h2;cases hd:l.drop e with
   |nil=>rw[hd]at pk;cases pk
   |cons z r=>
    rw[hd]at pk;have pk:(if 0<=z/\ z.toNat<=r.length then some (r.take z.toNat,r.drop z.toNat)else none)=some (x,s):=pk;by_cases hz:0<=z/\ z.toNat<=r.length
    .rw[aI hz]at pk
     obtain⟨h3,h4⟩:=kJ (aM pk);have he:e<l.length:=by
      rcases pE e l.length with c|c
      .exact c
      .rw[afp c]at hd;cases hd
     have hd2:=hd;rw[kM he]at hd2;obtain⟨h5,h6⟩:=mU hd2;have hl:r.length=l.length-(e+1):=by rw[<-h6,jq]
     refine⟨z.toNat,xs,?_,by lia,?_,?_⟩
     .rw[cC he,h5];congr 1;lia
     .rw[h6,h3]
     .rw[<-sO,<-h4,<-h6,sW]
    .rw[ay hz]at pk;cases pk
theorem SJ{p:Int}{r:List Int}{c:List (List Int)}{t:List Int}(h:PyFlat.call PyVanetg.shape (p::r)=some (c,t)):∃n k xs,PyVanetg.shape p=some (n,k)/\ n<=r.length/\ PyFlat.rows k (r.drop n)=some (xs,t)/\ c=(p::r.take n)::xs:=by
 have h:(match PyVanetg.shape p with
  |none=>none
  |some (n,k)=>if r.length<n then none else match PyFlat.rows k (r.drop n)with
   |none=>none
   |some (xs,t)=>some ((p::r.take n)::xs,t))=some (c,t):=h
 cases hs:PyVanetg.shape p with
 |none=>rw[hs]at h;cases h
 |some nk=>
  obtain⟨n,k⟩:=nk;rw[hs]at h;simp only at h;by_cases hn:r.length<n
  .rw[aI hn]at h;cases h
  .rw[ay hn]at h
   cases hr:PyFlat.rows k (r.drop n)with
   |none=>rw[hr]at h;cases h
   |some xt=>obtain⟨xs,t'⟩:=xt;rw[hr]at h;obtain⟨h1,h2⟩:=kJ (aM h);subst h2;exact⟨n,k,xs,U,by lia,hr,h1.symm⟩
inductive SK(A:aF)(K:FU)(vs:List V)(H:Hp)(Q:VK)(E:XK):Prop
 |mk (c dx la:Addr) (l:List Int) (at_:Nat) (k:Int) (nums:List Int) (rows:List (List Int)) (rest:List Int):vs=[.ref c, .ref la,nI at_]->H c=some (.ins A.cX dx [])->ab K H la (l.map V.int)->l.length<=100000->PyFlat.call PyVanetg.shape (l.drop at_)=some ((k::nums)::rows,rest)->(∀H' na ra rvs e,K1 c H H'->SH A H' c dx na ra rvs e k nums rows->l.drop e=rest->at_<e->e<=l.length->Q .aO H')->SK A K vs H Q E
theorem aeE(T:Txt K mg A):Gd P w K mg base 1 A.z6 A.d_Call_init ["self","calls","at"] (SK A K):=by
 refine T.aaz.go (N:=["self","calls","at","row","begin"]) ?_;rintro aC A' outer s H vs Q E hr nd ⟨c,dx,la,l,at_,k,nums,rows,rest,rfl,hc,jk,hlen,hcall,q⟩;refine⟨_,(af (cn (pv 0) (aT (pv 1) (pv 2)))
  (af (cn (pv 0) (b_ jd (b_ jd (pv 2) ak) (cW (D3 T.X9) (ao (pv 0)))))
  (af (cn (pv 0) (oJ oK (pv 1) (je (b_ jd (pv 2) ak)) (je (ao (pv 0)))))
  (af (cn (pv 0) (aS bY))
  (ag (eZ PassesOwn.never U (Kk (by rfl) T.z9 (aj (cW (D3 T.X') (ao (pv 0))))) (cx 3 nd) (af (aN 4 nd (b_ jd (ao (pv 0)) ak))
  (af (cn (pv 0) (b_ jd (pv 4) (aT (pv 1) (b_ rJ (pv 4) ak))))
  (ag (bF (dD (ao (pv 0)) (oJ oK (pv 1) (je (pv 4)) (je (ao (pv 0))))))))))))))),?_⟩
 try dsimp only[A9]
 have he:at_<l.length:=by
  rcases pE at_ l.length with c|c
  .exact c
  .rw[afp c]at hcall;cases hcall
 rw[kM he]at hcall;obtain⟨n,m,xs,SM,hrn,hrows,tT⟩:=SJ hcall;obtain⟨h3,h4⟩:=mU tT;obtain⟨hk,hnums⟩:=mU h3;rw[<-hk]at SM;have hke:l[at_]? =some k:=by rw[cC he,hk]
 subst h4;rw[sW]at hrows;rw[jq]at hrn;have DT:at_+1+n<=l.length:=by lia
 obtain⟨mm,rfl,hnc,hrc,hn3,oq⟩:=aeC SM;refine⟨_,U,_,U,la,_,_,_,U,U,jk,bH (fY hke),_,U,c,_,_,_,U,hc,T.e_,T.Ah,(by show 0<1000;decide),?_⟩;have k1:∀{H':Hp},K1 c H H'->∀o,K1 c H (upd H' c o):=λk o b o' e hb=>by rw[aD hb];exact k _ _ e hb
 have kn:∀{H':Hp} {z:Addr} {o:HO},K1 c H H'->H' z=none->K1 c H (upd H' z o):=λk hz b o' e hb=>aa.new hz _ _ (k _ _ e hb);have o1:upd H c (.ins A.cX dx (bA "kind" (.int (mm:Int)) [])) c=some (.ins A.cX dx [("kind", .int (mm:Int))]):=by rw[ae];rfl
 have ka:=k1 (λb o e _=>e) (.ins A.cX dx (bA "kind" (.int (mm:Int)) []));generalize upd H c (.ins A.cX dx (bA "kind" (.int (mm:Int)) []))=H1 at o1 ka;refine⟨_,U,_,_,U,U,_,U,c,_,_,_,_,U,o1,T.e_,T.Ah,U,A.FR,_,_,_,U,U,T.X_ _,bH hnc,_,_,U,U,_,U,c,_,_,_,U,o1,T.e_,T.uw,(by show 1<1000;decide),?_⟩;have ee:V.int ((at_:Int)+1+(n:Int))=nI (at_+1+n):=by unfold nI;congr 1
 have o2:upd H1 c (.ins A.cX dx (bA "end" (V.int ((at_:Int)+1+(n:Int))) [("kind", .int (mm:Int))])) c=some (.ins A.cX dx [("kind", .int (mm:Int)),("end",nI (at_+1+n))]):=by rw[ae,ee];rfl
 have kb:=k1 ka (.ins A.cX dx (bA "end" (V.int ((at_:Int)+1+(n:Int))) [("kind", .int (mm:Int))]));generalize upd H1 c (.ins A.cX dx (bA "end" (V.int ((at_:Int)+1+(n:Int))) [("kind", .int (mm:Int))]))=H2 at o2 kb;refine⟨_,U,_,U,_,_,U,U,_,U,_,U,c,_,_,_,_,U,o2,T.e_,T.uw,U,_,U,la,_,U,kb.seq hc jk,λna mL=>?_⟩;have ecut:fU (l.map V.int) (some ((at_:Int)+1)) (some ((at_+1+n:Nat):Int))=nums.map V.int:=by
  have e1:((at_:Int)+1)=((at_+1:Nat):Int):=by lia
  rw[e1,uj _ (by lia) (by rw[aX];lia),hnums,<-pC,<-qO];congr 2;lia
 rw[show fU (l.map V.int) (some ((at_:Int)+1)) (some ((at_+1+n:Nat):Int))=nums.map V.int from ecut];have nac:na≠c:=λz=>by rw[z,o2]at mL;cases mL
 refine⟨_,U,c,_,_,_,U,aa.new mL _ _ o2,T.e_,T.ux,(by show 2<1000;decide),?_⟩;have o3:upd (upd H2 na (.lst (nums.map V.int))) c (.ins A.cX dx (bA "numbers" (.ref na) [("kind", .int (mm:Int)),("end",nI (at_+1+n))])) c=some (.ins A.cX dx [("kind", .int (mm:Int)),("end",nI (at_+1+n)),("numbers", .ref na)]):=by rw[ae];rfl
 have n3:upd (upd H2 na (.lst (nums.map V.int))) c (.ins A.cX dx (bA "numbers" (.ref na) [("kind", .int (mm:Int)),("end",nI (at_+1+n))])) na=some (.lst (nums.map V.int)):=by rw[aD nac,ae]
 have kc:=k1 (kn (o:= .lst (nums.map V.int)) kb mL) (.ins A.cX dx (bA "numbers" (.ref na) [("kind", .int (mm:Int)),("end",nI (at_+1+n))]));generalize upd (upd H2 na (.lst (nums.map V.int))) c (.ins A.cX dx (bA "numbers" (.ref na) [("kind", .int (mm:Int)),("end",nI (at_+1+n))]))=H3 at o3 n3 kc;refine⟨bL _,λra kE=>⟨_,U,c,_,_,_,U,aa.new kE _ _ o3,T.e_,T.oY,(by show 3<1000;decide),?_⟩⟩;have rac:ra≠c:=λz=>by rw[z,o3]at kE;cases kE
 have ran:ra≠na:=λz=>by rw[z,n3]at kE;cases kE
 have o4:upd (upd H3 ra (.lst [])) c (.ins A.cX dx (bA "rows" (.ref ra) [("kind", .int (mm:Int)),("end",nI (at_+1+n)),("numbers", .ref na)])) c=some (.ins A.cX dx (nW (mm:Int) (at_+1+n) na ra)):=by rw[ae];rfl
 have n4:upd (upd H3 ra (.lst [])) c (.ins A.cX dx (bA "rows" (.ref ra) [("kind", .int (mm:Int)),("end",nI (at_+1+n)),("numbers", .ref na)])) na=some (.lst (nums.map V.int)):=by rw[aD nac,aa.new kE _ _ n3]
 have r4:upd (upd H3 ra (.lst [])) c (.ins A.cX dx (bA "rows" (.ref ra) [("kind", .int (mm:Int)),("end",nI (at_+1+n)),("numbers", .ref na)])) ra=some (.lst []):=by rw[aD rac,ae]
 have kd:=k1 (kn (o:= .lst []) kc kE) (.ins A.cX dx (bA "rows" (.ref ra) [("kind", .int (mm:Int)),("end",nI (at_+1+n)),("numbers", .ref na)]));generalize upd (upd H3 ra (.lst [])) c (.ins A.cX dx (bA "rows" (.ref ra) [("kind", .int (mm:Int)),("end",nI (at_+1+n)),("numbers", .ref na)]))=H4 at o4 n4 r4 kd;have jh:=SI _ _ _ _ hrows;refine⟨_,U,c,_,_,_,_,U,o4,T.e_,T.Ah,U,A.FT,_,_,_,U,U,T.Ya _,bH hrc,(m:Int),U,by lia,by lia,?_⟩;rw[jO];refine Ko (n:=m) (λi σ' H'=>E6 λ(u v:Option V) (e:Nat) (rvs:List V) (done todo:List (List Int))=>D2 (σ'=[some (.ref c),some (.ref la),some (nI at_),u,v]) (K1 c H H') (H' c=some (.ins A.cX dx (nW (mm:Int) e na ra))) (H' na=some (.lst (nums.map V.int))) (H' ra=some (.lst rvs)) (Paired (sN (Wo (λb=>b=ra\/b=c) H')) rvs done) (rows=done++todo) (done.length=i) (PyFlat.rows (m-i) (l.drop e)=some (todo,rest)) (at_<e) (e<=l.length))
  ⟨none,none,at_+1+n,[],[],rows,U,kd,o4,n4,r4, .nil,U,U,hrows,by lia,DT⟩ ?_ ?_
 .rintro i σ' H' hi ⟨u,v,e,rvs,done,todo,rfl,kk,oc,nc,rc,bh,lD,SN,sO,HY,oS⟩
  rw[show m-i=(m-(i+1))+1 by lia]at sO;obtain⟨nn,xs2,g1,g2,g3,g4⟩:=aeD sO;have afO:=ck bh;refine⟨_,U,c,_,_,_,_,U,oc,T.e_,T.uw,U,_,_,U,U,?_⟩;have xp:gi (l.map V.int) ((e:Int)+1-1)=some (.int (nn:Int)):=by rw[show(e:Int)+1-1=(e:Int) by lia];exact bH (fY g1)
  refine⟨_,U,_,U,_,U,_,_,U,U,la,_,_,_,U,U,kk.seq hc jk,xp,_,_,U,U,_,U,c,_,_,_,U,oc,T.e_,T.uw,(by show 4<1000;decide),?_⟩;have ee2:V.int ((e:Int)+1+(nn:Int))=nI (e+1+nn):=by unfold nI;congr 1
  have xO:upd H' c (.ins A.cX dx (bA "end" (V.int ((e:Int)+1+(nn:Int))) (nW (mm:Int) e na ra))) c=some (.ins A.cX dx (nW (mm:Int) (e+1+nn) na ra)):=by rw[ae,ee2];rfl
  have SO:upd H' c (.ins A.cX dx (bA "end" (V.int ((e:Int)+1+(nn:Int))) (nW (mm:Int) e na ra))) na=some (.lst (nums.map V.int)):=by rw[aD nac];exact nc
  have Bq:upd H' c (.ins A.cX dx (bA "end" (V.int ((e:Int)+1+(nn:Int))) (nW (mm:Int) e na ra))) ra=some (.lst rvs):=by rw[aD rac];exact rc
  have SQ:Paired (sN (Wo (λb=>b=ra\/b=c) (upd H' c (.ins A.cX dx (bA "end" (V.int ((e:Int)+1+(nn:Int))) (nW (mm:Int) e na ra)))))) rvs done:=by rw[dP (P:=λb=>b=ra\/b=c) (.inr U)];exact bh
  have HZ:=k1 kk (.ins A.cX dx (bA "end" (V.int ((e:Int)+1+(nn:Int))) (nW (mm:Int) e na ra)));generalize upd H' c (.ins A.cX dx (bA "end" (V.int ((e:Int)+1+(nn:Int))) (nW (mm:Int) e na ra)))=H5 at xO SO Bq SQ HZ;refine⟨_,U,c,_,_,_,_,U,xO,T.e_,T.oY,U, .inl ⟨U,_,ab.of Bq⟩,_,U,_,U,_,U,_,U,c,_,_,_,_,U,xO,T.e_,T.uw,U,_,U,la,_,U,HZ.seq hc jk,λz hz=>?_⟩;have ecut2:fU (l.map V.int) (some ((e:Int)+1)) (some ((e+1+nn:Nat):Int))=((l.drop (e+1)).take nn).map V.int:=by
   have e1:((e:Int)+1)=((e+1:Nat):Int):=by lia
   rw[e1,uj _ (by lia) (by rw[aX];lia),<-pC,<-qO];congr 2;lia
  rw[show fU (l.map V.int) (some ((e:Int)+1)) (some ((e+1+nn:Nat):Int))=((l.drop (e+1)).take nn).map V.int from ecut2];have sz:=aa.new (o:= .lst (((l.drop (e+1)).take nn).map V.int)) hz;have nzr:¬(z=ra\/z=c):=by rintro(q|q);rw[q,Bq]at hz;cases hz;rw[q,xO]at hz;cases hz
  refine⟨ra,_,_,U,U,sz _ _ Bq,dk (by lia),_,_,e+1+nn,_,done++[(l.drop (e+1)).take nn],xs2,U,?_,?_,?_,ae,?_,by rw[lD,g3];simp,by simp[SN],g4,by lia,g2⟩
  .intro b o' e' hb
   by_cases SR:b=ra
   .exfalso
    rw[SR]at e';have h0:=kc _ _ e' rac;rw[h0]at kE;cases kE
   .rw[aD SR];exact sz _ _ (HZ _ _ e' hb)
  .rw[aD (Ne.symm rac)];exact sz _ _ xO
  .rw[aD (Ne.symm ran)];exact sz _ _ SO
  .rw[dP (P:=λb=>b=ra\/b=c) (.inl U)]
   refine kf (bO (λ_ _ r=>sN.mono _ _ _ _ (bV sz) r) SQ) ⟨z,U,?_⟩;rw[cR (P:=λb=>b=ra\/b=c) nzr,ae]
 .rintro σ' H' ⟨u,v,e,rvs,done,todo,rfl,kk,oc,nc,rc,bh,lD,SN,sO,HY,oS⟩
  rw[sS]at sO;obtain⟨e1,e2⟩:=kJ (aM (show some (([]:List (List Int)),l.drop e)=some (todo,rest)from sO));rw[<-e1,i5]at lD;subst lD;exact q H' na ra rvs e kk ⟨oc,nc,rc,bO (λ_ _ r=>sN.mono _ _ _ _ (bB _ _) r) bh⟩ e2 HY oS
theorem SS:∀(l:List Formula),(∀F∈l,multiplicative F=true/\ nm (enc F))->((l.map form).map List.length).sum<=17*bf l
 |[],_=>bL _
 |F::r,h=>by have h1:=SS r λG hG=>h G (by simp[hG]);obtain⟨h2,h3⟩:=h F (by simp);have h4:=J6 h2;have h5:=yZ h3;rw[bJ]at h5;simp only[ez,BA,bf];lia
theorem SU{l:List Formula}(hl:l.length<=20)(h:∀F∈l,multiplicative F=true/\ nm (enc F)):(NN l).length<=60+17*bf l:=by rw[ym];have h1:=uy [44,32] (l.map form);have h2:=SS l h;rw[aX]at h1;have h1:(df [44,32] (l.map form)).length<=l.length*(2+1)+((l.map form).map List.length).sum:=h1;lia
theorem Br:∀(a b:List Formula),bf (a++b)=bf a+bf b
 |[],b=>by simp[bf]
 |F::r,b=>by simp only[mX,bf,Br r b];lia
theorem SV:∀(l:List Formula),bf l<=bf (l.flatMap λA=>[A,L7 A])
 |[]=>a_ _
 |F::r=>by have:=SV r;rw[iE,Br];simp only[bf];lia
theorem SW:∀(l:List (Nat×Nat)),(numsOf l).length=2*l.length
 |[]=>rfl
 |a::r=>by have:=SW r;unfold PM.numsOf at this⊢;rw[iE,cP,this];simp;lia
theorem aeL{l:List (Nat×Nat)}(hl:l.length<=60)(h:∀y∈l,y.1<120/\ y.2<120):(df [32] (l.map fD)).length<=1000:=by
 have h1:=uy [32] (l.map fD);have h2:((l.map fD).map List.length).sum<=(l.map fD).length*7:=by refine c_ (AG (b:=7) λx hx=>?_) (by rw[aX];exact a_ _);obtain⟨t,ht,rfl⟩:=eu.mp hx;obtain⟨y,hy,rfl⟩:=eu.mp ht;have h1:=qA y.1 (h y hy).1;have h2:=qA y.2 (h y hy).2;unfold fD;simp;lia
 rw[aX]at h1 h2;have h1:(df [32] (l.map fD)).length<=l.length*(1+1)+((l.map fD).map List.length).sum:=h1;lia
theorem aeM{x:P3}(o:fJ x):(abO (ah x)).length<=15000:=by
 rw[<-RP o];have a:=SU o.ok.cl λF hF=>⟨(o.ok.c F hF).1,(o.ok.c F hF).2.1⟩
 have b:=SU o.ok.ul λF hF=>⟨(o.ok.u F hF).1,(o.ok.u F hF).2.1⟩
 have hn:=Bi (bE x) o.mul;have hl:=(qG o.nr).2.1;have e1:bf (bE x)=bf x.1+bf (x.2.1.flatMap λA=>[A,L7 A]):=Br _ _;have e2:=SV x.2.1;have fh:((bE x).flatMap NM).length<=120:=hl;have h60:x.2.2.length<=60:=by have:=o.links.2.2;rw[SW]at this;lia
 have c:=aeL h60 λy hy=>by have:=o.sL.lk y hy;lia
 unfold sk;simp only[df,cP,bj,lF];lia
def mQ(b:Nat)(o:Vanetg.Out):Prop:=∀x,o= .ok x->x.2.length<=b
theorem mS{b:Nat}{s:Net}{l:List Nat}(h:l.length<=b):mQ b (.ok (s,l)):=λx e=>by have:=Except.ok.inj e;rw[<-this];exact h
theorem pw{b n:Nat}:mQ b (.error n):=λx e=>by cases e
theorem qI{b n:Nat}{c:Bool}{o:Vanetg.Out}(h:mQ b o):mQ b (Vanetg.after c n o):=by
 unfold Vanetg.after;split
 .exact h
 .exact pw
theorem Bs{α:Type}{b n:Nat}{a:Option α}{f:α->Vanetg.Out}(h:∀y,a=some y->mQ b (f y)):mQ b (given a n f):=by
 unfold given;cases a with
 |none=>exact pw
 |some y=>exact h y U
theorem aeO{b:Nat}{t:Text}{f:Net->Vanetg.Out}(h:∀o,mQ b (f o)):mQ b (M8 t f):=by
 unfold M8 Vanete.given;split
 .unfold ady Vanetc.after
  simp only;split
  .split
   .split
    .exact h _
    .exact pw
   .exact pw
  .exact pw
 .exact pw
theorem SX(next:List Nat)(first:Nat):∀(f p:Nat),(Vanetg.tripFrom next first f p).length<=f
 |0,p=>a_ _
 |f+1,p=>by
  unfold Vanetg.tripFrom;rw[bj];split
  .simp
  .have:=SX next first f (next.getD p 0);lia
theorem SY{α β:Type}(f g:α->β):∀l:List α,(l.flatMap λa=>[f a,g a]).length=2*l.length
 |[]=>rfl
 |a::r=>by rw[iE,cP,SY f g r];simp;lia
theorem Cc(s:Net)(w:Vanetg.Switches):(abu s w).length=2*(aQ s).length:=by unfold abu;simp only;rw[SY,afh]
theorem aeP(s:Net)(w:List Bool)(p:Nat):(Vanetg.trip s w p).length<=2*(aQ s).length:=by unfold Vanetg.trip Vanetg.tripIn;have:=SX (abu s (My s w)) p (abu s (My s w)).length p;rw[Cc]at this⊢;exact this
theorem xP:∀(fs:List Formula) (i n:Nat),(Mr fs i n).2.length<=bf fs
 |[],i,n=>bL _
 |A::r,i,n=>by
  unfold Mr;simp only[bf];split
  .show((placesOf A).getD n []).length<=_
   rw[og];cases h:(placesOf A)[n]? with
   |none=>exact bL _
   |some p=>have:=xA A p (cN h);show p.length<=_;lia
  .have:=xP r (i+1) (n-NO A);lia
theorem fJ.all{x:P3}(o:fJ x):bf (bE x)<=240/\ bf (ah x).concl<=240:=by have hn:=Bi (bE x) o.mul;have hl:((bE x).flatMap NM).length<=120:=(qG o.nr).2.1;have e1:bf (bE x)=bf x.1+bf (x.2.1.flatMap λA=>[A,L7 A]):=Br _ _;have:bf (ah x).concl=bf x.1:=rfl;lia
theorem aeQ{x:P3}(o:fJ x)(c:Nk)(hc:∀i j k t zs,c= .play i j k t zs->t.length<=4000):mQ 20000 (does (ah x) c):=by
 have uQ:=o.kG.bd;obtain⟨a1,a2⟩:=o.all;cases c with
 |set t=>exact aeO λo=>mS (by simp)
 |form=>refine mS ?_;have:=aeM o;unfold adC;simp;lia
 |size=>exact mS (by simp)
 |next p w|trip p w=>exact qI (qI (mS (by simp)))
 |path w=>refine qI (qI (mS ?_));have:=aeP (ah x) (w.map λz=>z==1) 0;rw[bj];lia
 |test=>
  show mQ 20000 (if _ then _ else _);split
  .exact mS (by simp)
  .exact pw
 |bad=>
  show mQ 20000 (if _ then _ else _);split
  .rename_i hj
   refine qI (Bs λw hw=>mS ?_);have hj:(Mg (ah x)).length<=8:=hj;have:=vG _ w (BJ hw);simp;lia
  .exact pw
 |token i p=>refine Bs λn hn=>mS ?_;have:=xP (ah x).concl 0 (L5 (ah x) n).1;unfold MK;simp;lia
 |play i j c t p=>
  have hlen:=hc i j c t p U;rw[So];by_cases gS:refusal (Mx t)<0
  .obtain⟨n,hn,hd⟩:=HM (f:=λo=>nV (ah x) o i j c p) hlen gS
   rw[hd];exact pw
  .obtain⟨x2,hp,o2,hd⟩:=HN (f:=λo=>nV (ah x) o i j c p) hlen gS
   rw[hd];obtain⟨b1,b2⟩:=o2.all;refine qI (Bs λn hn=>Bs λA hA=>qI (mS ?_));generalize Vanetg.play (ah x) (ah x2) i.toNat j.toNat A n=X;have hs:(Mr (if X.1=true then(ah x2).concl else(ah x).concl) 0 X.2.1).2.length<=240:=by
    split
    .have:=xP (ah x2).concl 0 X.2.1;lia
    .have:=xP (ah x).concl 0 X.2.1;lia
   unfold MK;simp only[bj,cP,lF];lia
 |place i=>refine qI (mS ?_);have:=xP (tQ (ah x)) 0 i.toNat;have e:bf (tQ (ah x))=bf (bE x):=rfl;unfold MK;simp only[bj];lia
 |draw=>exact mS (by simp)
theorem aeR{x:P3}(o:fJ x)(c:Nk)(hc:∀i j k t zs,c= .play i j k t zs->t.length<=4000):(Bj (Vanetg.step (ah x) c).2).length<=20000:=by
 have h:=aeQ o c hc;unfold Bj Vanetg.step;cases hd:does (ah x) c with
 |error n=>simp[VanetgNeutral.encode]
 |ok y=>have:=h y hd;simp only[VanetgNeutral.encode,aX];exact this
theorem aeS{z:Int}(h:VanetgNeutral.natural z 8=true):bI (UInt8.ofNat z.toNat)=V.int z:=by unfold VanetgNeutral.natural at h;simp only[bC,iB]at h;obtain⟨h1,h2⟩:=h;have h2:z<256:=h2;unfold bI;congr 1;rw[UInt8.toNat_ofNat'];lia
theorem S8{t:List Int}(h:t.all (λz=>VanetgNeutral.natural z 8)=true):VanetgNeutral.text? t=some (t.map λb=>UInt8.ofNat b.toNat)/\ (t.map λb=>UInt8.ofNat b.toNat).map bI=t.map V.int:=by
 constructor
 .unfold VanetgNeutral.text? NeutralIO.bytes
  rw[aI];rw[iZ]at h⊢;intro z hz;have:=h z hz;unfold VanetgNeutral.natural at this;simp only[bC,iB]at this⊢;have h2:z<256:=this.2;exact⟨this.1,by lia⟩
 .rw[kL]
  refine sZ λz hz=>?_;exact aeS (iZ.mp h z hz)
theorem HS(a b:Int):decide (V.int a=V.int b)=decide (a=b):=decide_eq_decide.mpr ⟨λz=>V.int.inj z,λz=>by rw[z]⟩
inductive jo:Int->List Int->List (List Int)->Nk->Prop
 |set {t:List Int} {b:Text}:b.map bI=t.map V.int->b.length<=4000->jo 0 [] [t] (.set b)
 |form:jo 1 [] [] .form
 |size:jo 2 [] [] .size
 |next {p:Int} {w:List Int}:w.length<=10000->jo 3 [p] [w] (.next p w)
 |trip {p:Int} {w:List Int}:w.length<=10000->jo 4 [p] [w] (.trip p w)
 |path {w:List Int}:w.length<=10000->jo 5 [] [w] (.path w)
 |test:jo 6 [] [] .test
 |bad:jo 7 [] [] .bad
 |token {i:Int} {p:List Int}:p.length<=10000->jo 8 [i] [p] (.token i p)
 |play {i j c:Int} {t p:List Int} {b:Text}:b.map bI=t.map V.int->b.length<=4000->p.length<=10000->jo 9 [i,j,c] [t,p] (.play i j c b p)
 |place {i:Int}:jo 10 [i] [] (.place i)
 |draw:jo 11 [] [] .draw
theorem aeT{k:Int}{nums:List Int}{rows:List (List Int)}{c:Nk}(h:jo k nums rows c):∀i j m t zs,c= .play i j m t zs->t.length<=4000:=by intro i j m t zs e;cases h<;>first|(cases e;assumption)|cases e
theorem agb{m:List (List Int)->Prop}(h0:∀t,m [[0],t])(h1:m [[1]])(h2:m [[2]])(h3:∀p w,m [[3,p],w])(h4:∀p w,m [[4,p],w])(h5:∀w,m [[5],w])(h6:m [[6]])(h7:m [[7]])(h8:∀i p,m [[8,i],p])(h9:∀i j c t p,m [[9,i,j,c],t,p])(GC:∀i,m [[10,i]])(h11:m [[11]])
  (hd:∀c,(∀(β:Type) f0 f1 f2 f3 f4 f5 f6 f7 f8 f9 f10 f11 d,VanetgNeutral.callOf.match_1 (λ_=>β) c f0 f1 f2 f3 f4 f5 f6 f7 f8 f9 f10 f11 d=d c)->m c) (c:List (List Int)):m c:=by
 rcases c with _|⟨_|⟨k,ns⟩,rs⟩
 .exact hd _ λ_ _ _ _ _ _ _ _ _ _ _ _ _ _=>rfl
 .exact hd _ λ_ _ _ _ _ _ _ _ _ _ _ _ _ _=>rfl
 .rcases k with(_|_|_|_|_|_|_|_|_|_|_|_|k)|k
  .rcases ns with _|⟨_,_⟩<;>rcases rs with _|⟨t,_|⟨_,_⟩⟩<;>first|exact h0 _|exact hd _ λ_ _ _ _ _ _ _ _ _ _ _ _ _ _=>rfl
  .rcases ns with _|⟨_,_⟩<;>rcases rs with _|⟨_,_⟩<;>first|exact h1|exact hd _ λ_ _ _ _ _ _ _ _ _ _ _ _ _ _=>rfl
  .rcases ns with _|⟨_,_⟩<;>rcases rs with _|⟨_,_⟩<;>first|exact h2|exact hd _ λ_ _ _ _ _ _ _ _ _ _ _ _ _ _=>rfl
  .rcases ns with _|⟨_,_|⟨_,_⟩⟩<;>rcases rs with _|⟨t,_|⟨_,_⟩⟩<;>first|exact h3 _ _|exact hd _ λ_ _ _ _ _ _ _ _ _ _ _ _ _ _=>rfl
  .rcases ns with _|⟨_,_|⟨_,_⟩⟩<;>rcases rs with _|⟨t,_|⟨_,_⟩⟩<;>first|exact h4 _ _|exact hd _ λ_ _ _ _ _ _ _ _ _ _ _ _ _ _=>rfl
  .rcases ns with _|⟨_,_⟩<;>rcases rs with _|⟨t,_|⟨_,_⟩⟩<;>first|exact h5 _|exact hd _ λ_ _ _ _ _ _ _ _ _ _ _ _ _ _=>rfl
  .rcases ns with _|⟨_,_⟩<;>rcases rs with _|⟨_,_⟩<;>first|exact h6|exact hd _ λ_ _ _ _ _ _ _ _ _ _ _ _ _ _=>rfl
  .rcases ns with _|⟨_,_⟩<;>rcases rs with _|⟨_,_⟩<;>first|exact h7|exact hd _ λ_ _ _ _ _ _ _ _ _ _ _ _ _ _=>rfl
  .rcases ns with _|⟨_,_|⟨_,_⟩⟩<;>rcases rs with _|⟨t,_|⟨_,_⟩⟩<;>first|exact h8 _ _|exact hd _ λ_ _ _ _ _ _ _ _ _ _ _ _ _ _=>rfl
  .rcases ns with _|⟨_,_|⟨_,_|⟨_,_|⟨_,_⟩⟩⟩⟩<;>rcases rs with _|⟨_,_|⟨_,_|⟨_,_⟩⟩⟩<;>first|exact h9 _ _ _ _ _|exact hd _ λ_ _ _ _ _ _ _ _ _ _ _ _ _ _=>rfl
  .rcases ns with _|⟨_,_|⟨_,_⟩⟩<;>rcases rs with _|⟨_,_⟩<;>first|exact GC _|exact hd _ λ_ _ _ _ _ _ _ _ _ _ _ _ _ _=>rfl
  .rcases ns with _|⟨_,_⟩<;>rcases rs with _|⟨_,_⟩<;>first|exact h11|exact hd _ λ_ _ _ _ _ _ _ _ _ _ _ _ _ _=>rfl
  .exact hd _ λ_ _ _ _ _ _ _ _ _ _ _ _ _ _=>rfl
  .exact hd _ λ_ _ _ _ _ _ _ _ _ _ _ _ _ _=>rfl
theorem aeU{k:Int}{nums:List Int}{rows:List (List Int)}(h:VanetgNeutral.asked1 ((k::nums)::rows)=true):∃c,VanetgNeutral.callOf ((k::nums)::rows)=some c/\ jo k nums rows c:=by
 refine agb (m:=λcl=>∀k nums rows,(k::nums)::rows=cl->VanetgNeutral.asked1 cl=true->∃c,VanetgNeutral.callOf cl=some c/\ jo k nums rows c) ?_ ?_ ?_ ?_ ?_ ?_ ?_ ?_ ?_ ?_ ?_ ?_ ?_ _ _ _ _ U h
 .rintro t _ _ _ ⟨⟩ h
  have h:(t.all (λ(z:Int)=>VanetgNeutral.natural z 8)&&decide (t.length<=4000))=true:=h;rw[bC,iB]at h;obtain⟨e1,e2⟩:=S8 h.1;exact⟨_,by show(VanetgNeutral.text? _).map _=_;rw[e1];rfl, .set e2 (by rw[aX];exact h.2)⟩
 .rintro _ _ _ ⟨⟩ _;exact⟨_,U, .form⟩
 .rintro _ _ _ ⟨⟩ _;exact⟨_,U, .size⟩
 .rintro _ _ _ _ _ ⟨⟩ h
  simp only[VanetgNeutral.asked1,bC,iB]at h;exact⟨_,U, .next (by lia)⟩
 .rintro _ _ _ _ _ ⟨⟩ h
  simp only[VanetgNeutral.asked1,bC,iB]at h;exact⟨_,U, .trip (by lia)⟩
 .rintro _ _ _ _ ⟨⟩ h
  simp only[VanetgNeutral.asked1,bC,iB]at h;exact⟨_,U, .path (by lia)⟩
 .rintro _ _ _ ⟨⟩ _;exact⟨_,U, .test⟩
 .rintro _ _ _ ⟨⟩ _;exact⟨_,U, .bad⟩
 .rintro _ _ _ _ _ ⟨⟩ h
  simp only[VanetgNeutral.asked1,bC,iB]at h;exact⟨_,U, .token (by lia)⟩
 .rintro _ _ _ _ _ _ _ _ ⟨⟩ h
  simp only[VanetgNeutral.asked1,bC,iB]at h;obtain⟨_,_,_,⟨h4,h5⟩,_,h6⟩:=h;obtain⟨e1,e2⟩:=S8 h4;exact⟨_,by show(VanetgNeutral.text? _).map _=_;rw[e1];rfl, .play e2 (by rw[aX];exact h5) (by lia)⟩
 .rintro _ _ _ _ ⟨⟩ _;exact⟨_,U, .place⟩
 .rintro _ _ _ ⟨⟩ _;exact⟨_,U, .draw⟩
 .intro c e _ _ _ _ h
  have z:VanetgNeutral.asked1 c=false:=e _ _ _ _ _ _ _ _ _ _ _ _ _ _;exact absurd (z.symm.trans h) gn
theorem sP{α β:Type}{R:α->β->Prop}{vs:List α}{y:β}{r:List β}(h:Paired R vs (y::r)):∃v vr,vs=v::vr/\ R v y/\ Paired R vr r:=by
 cases h with
 |cons h1 h2=>exact⟨_,_,U,h1,h2⟩
inductive S9(A:aF)(vs:List V)(H:Hp)(Q:VK)(E:XK):Prop
 |mk (Z:Addr->Prop) (h:Addr) (x:P3) (c dx na ra:Addr) (rvs:List V) (e:Nat) (k:Int) (nums:List Int) (rows:List (List Int)) (cc:Nk):vs=[.ref h, .ref c]->fo A Z H h x->SH A H c dx na ra rvs e k nums rows->jo k nums rows cc->jm A Z H h x cc Q->S9 A vs H Q E
theorem aeV(T:Txt K mg A):Gd P w K mg base 11 A.FA A.d_Holder_answer ["self","call"] (S9 A):=by
 refine T.aaB.go (N:=["self","call"]) ?_;rintro aC A' outer s H vs Q E hr nd ⟨Z,h,x,c,dx,na,ra,rvs,e,k,nums,rows,cc,rfl,hh,ca,ac,q⟩;refine⟨_,(af (a9 (aR cj (ao (pv 1)) (aW T.XY)) (ag (aB (bN hr (aei T) T.cy T.Y0 (pv 0) (aj (aT (ao (pv 1)) ak))))) bt)
  (af (a9 (aR cj (ao (pv 1)) (aW T.XZ)) (ag (aB (dO hr (ad0 T) T.cy T.Y1 (pv 0)))) bt)
  (af (a9 (aR cj (ao (pv 1)) (aW T.X0)) (ag (aB (dO hr (ad1 T) T.cy T.Y2 (pv 0)))) bt)
  (af (a9 (aR cj (ao (pv 1)) (aW T.X1)) (ag (aB (bN hr (ad2 T) T.cy T.Y3 (pv 0) (aZ (aT (ao (pv 1)) ak) (aT (ao (pv 1)) ak))))) bt)
  (af (a9 (aR cj (ao (pv 1)) (aW T.X2)) (ag (aB (bN hr (ad3 T) T.cy T.Y4 (pv 0) (aZ (aT (ao (pv 1)) ak) (aT (ao (pv 1)) ak))))) bt)
  (af (a9 (aR cj (ao (pv 1)) (aW T.X3)) (ag (aB (bN hr (ad5 T) T.cy T.Y5 (pv 0) (aj (aT (ao (pv 1)) ak))))) bt)
  (af (a9 (aR cj (ao (pv 1)) (aW T.X4)) (ag (aB (dO hr (ad6 T) T.cy T.Y6 (pv 0)))) bt)
  (af (a9 (aR cj (ao (pv 1)) (aW T.X5)) (ag (aB (dO hr (ad9 T) T.cy T.Y7 (pv 0)))) bt)
  (af (a9 (aR cj (ao (pv 1)) (aW T.X6)) (ag (aB (bN hr (aeb T) T.cy T.Y8 (pv 0) (aZ (aT (ao (pv 1)) ak) (aT (ao (pv 1)) ak))))) bt)
  (af (a9 (aR cj (ao (pv 1)) (aW T.X7)) (ag (aB (bN hr (aep T) T.cy T.Y9 (pv 0) (fM (ao (pv 1)) (aZ (aT (ao (pv 1)) ak) (aT (ao (pv 1)) ak)))))) bt)
  (af (a9 (aR cj (ao (pv 1)) (aW T.X8)) (ag (aB (bN hr (aea T) T.cy T.Y_ (pv 0) (aj (aT (ao (pv 1)) ak))))) bt)
  (ag (aB (dO hr (ad7 T) T.cy T.Y' (pv 0))))))))))))))),?_⟩
 try dsimp only[A9]
 obtain⟨Bh,hpv,hqv,r⟩:=id hh;have hn:=ca.hn;have lD:=ca.hr;have each:=ca.each;have test:∀{D:Ends} {t1 t2:TS} (j:Int),(if decide (k=j)=true then t1 D [some (.ref h),some (.ref c)] H else t2 D [some (.ref h),some (.ref c)] H)->rD (md (cw l_ (ir K (aY 1) "kind") (tC (.int j)))) t1 t2 D [some (.ref h),some (.ref c)] H:=λ{D t1 t2} j hj=>by refine⟨_,U,c,_,_,_,_,U,ca.obj,T.e_,T.Ah,U,U,_,U,?_⟩;rw[HS];exact hj
 cases ac with
 | @set t b e1 e2=>obtain⟨v,_,rfl,⟨a1,rfl,h1⟩,xQ⟩:=sP each;refine test 0 (aJ ?_);exact⟨_,U,h,_,_,U,r.obj,U,_,U,c,_,_,_,_,U,ca.obj,T.e_,T.oY,U,ra,_,_,_,U,U,ab.of lD,bT,Z,h,x, .ref a1,b,U,hh,⟨a1,U,by rw[h1,e1]⟩,e2,q⟩
 |form=>refine test 0 (aA ?_);refine test 1 (aJ ?_);exact⟨_,U,h,_,_,U,r.obj,U,Z,h,x,U,hh,q⟩
 |size=>refine test 0 (aA ?_);refine test 1 (aA ?_);refine test 2 (aJ ?_);exact⟨_,U,h,_,_,U,r.obj,U,Z,h,x,U,hh,q⟩
 | @next p w e1=>obtain⟨v,_,rfl,⟨a1,rfl,h1⟩,xQ⟩:=sP each;refine test 0 (aA ?_);refine test 1 (aA ?_);refine test 2 (aA ?_);refine test 3 (aJ ?_);exact⟨_,U,h,_,_,U,r.obj,U,_,U,c,_,_,_,_,U,ca.obj,T.e_,T.ux,U,na,_,_,_,U,U,ab.of hn,bT,_,U,c,_,_,_,_,U,ca.obj,T.e_,T.oY,U,ra,_,_,_,U,U,ab.of lD,bT,Z,h,x,p,a1,w,U,hh,h1,e1,q⟩
 | @trip p w e1=>obtain⟨v,_,rfl,⟨a1,rfl,h1⟩,xQ⟩:=sP each;refine test 0 (aA ?_);refine test 1 (aA ?_);refine test 2 (aA ?_);refine test 3 (aA ?_);refine test 4 (aJ ?_);exact⟨_,U,h,_,_,U,r.obj,U,_,U,c,_,_,_,_,U,ca.obj,T.e_,T.ux,U,na,_,_,_,U,U,ab.of hn,bT,_,U,c,_,_,_,_,U,ca.obj,T.e_,T.oY,U,ra,_,_,_,U,U,ab.of lD,bT,Z,h,x,p,a1,w,U,hh,h1,e1,q⟩
 | @path w e1=>obtain⟨v,_,rfl,⟨a1,rfl,h1⟩,xQ⟩:=sP each;refine test 0 (aA ?_);refine test 1 (aA ?_);refine test 2 (aA ?_);refine test 3 (aA ?_);refine test 4 (aA ?_);refine test 5 (aJ ?_);exact⟨_,U,h,_,_,U,r.obj,U,_,U,c,_,_,_,_,U,ca.obj,T.e_,T.oY,U,ra,_,_,_,U,U,ab.of lD,bT,Z,h,x,a1,w,U,hh,h1,e1,q⟩
 |test=>refine test 0 (aA ?_);refine test 1 (aA ?_);refine test 2 (aA ?_);refine test 3 (aA ?_);refine test 4 (aA ?_);refine test 5 (aA ?_);refine test 6 (aJ ?_);exact⟨_,U,h,_,_,U,r.obj,U,Z,h,x,U,hh,q⟩
 |bad=>refine test 0 (aA ?_);refine test 1 (aA ?_);refine test 2 (aA ?_);refine test 3 (aA ?_);refine test 4 (aA ?_);refine test 5 (aA ?_);refine test 6 (aA ?_);refine test 7 (aJ ?_);exact⟨_,U,h,_,_,U,r.obj,U,Z,h,x,U,hh,q⟩
 | @token i p e1=>obtain⟨v,_,rfl,⟨a1,rfl,h1⟩,xQ⟩:=sP each;refine test 0 (aA ?_);refine test 1 (aA ?_);refine test 2 (aA ?_);refine test 3 (aA ?_);refine test 4 (aA ?_);refine test 5 (aA ?_);refine test 6 (aA ?_);refine test 7 (aA ?_);refine test 8 (aJ ?_);exact⟨_,U,h,_,_,U,r.obj,U,_,U,c,_,_,_,_,U,ca.obj,T.e_,T.ux,U,na,_,_,_,U,U,ab.of hn,bT,_,U,c,_,_,_,_,U,ca.obj,T.e_,T.oY,U,ra,_,_,_,U,U,ab.of lD,bT,Z,h,x,i,a1,p,U,hh,h1,e1,q⟩
 | @play i j m t p b e1 e2 e3=>obtain⟨v,_,rfl,⟨a1,rfl,h1⟩,each2⟩:=sP each;obtain⟨v2,_,rfl,⟨a2,rfl,h2⟩,xQ⟩:=sP each2;refine test 0 (aA ?_);refine test 1 (aA ?_);refine test 2 (aA ?_);refine test 3 (aA ?_);refine test 4 (aA ?_);refine test 5 (aA ?_);refine test 6 (aA ?_);refine test 7 (aA ?_);refine test 8 (aA ?_);refine test 9 (aJ ?_);exact⟨_,U,h,_,_,U,r.obj,U,_,U,c,_,_,_,_,U,ca.obj,T.e_,T.ux,U,_,U,c,_,_,_,_,U,ca.obj,T.e_,T.oY,U,ra,_,_,_,U,U,ab.of lD,bT,_,U,c,_,_,_,_,U,ca.obj,T.e_,T.oY,U,ra,_,_,_,U,U,ab.of lD,fP,Z,h,x,na,i,j,m, .ref a1,b,a2,p,U,hh,hn,⟨a1,U,by rw[h1,e1]⟩,e2,h2,e3,q⟩
 | @place i=>refine test 0 (aA ?_);refine test 1 (aA ?_);refine test 2 (aA ?_);refine test 3 (aA ?_);refine test 4 (aA ?_);refine test 5 (aA ?_);refine test 6 (aA ?_);refine test 7 (aA ?_);refine test 8 (aA ?_);refine test 9 (aA ?_);refine test 10 (aJ ?_);exact⟨_,U,h,_,_,U,r.obj,U,_,U,c,_,_,_,_,U,ca.obj,T.e_,T.ux,U,na,_,_,_,U,U,ab.of hn,bT,Z,h,x,i,U,hh,q⟩
 |draw=>refine test 0 (aA ?_);refine test 1 (aA ?_);refine test 2 (aA ?_);refine test 3 (aA ?_);refine test 4 (aA ?_);refine test 5 (aA ?_);refine test 6 (aA ?_);refine test 7 (aA ?_);refine test 8 (aA ?_);refine test 9 (aA ?_);refine test 10 (aA ?_);exact⟨_,U,h,_,_,U,r.obj,U,Z,h,x,U,hh,q⟩
theorem aeW(c:List (List Int)):PyVanetg.whole c=c:=agb (m:=λc=>PyVanetg.whole c=c) (λ_=>rfl) U U (λ_ _=>rfl) (λ_ _=>rfl) (λ_=>rfl) U U (λ_ _=>rfl) (λ_ _ _ _ _=>rfl) (λ_=>rfl) U (λc h=>h _ _ _ _ _ _ _ _ _ _ _ _ _ _) c
theorem aeX(cs:List (List (List Int))):cs.map PyVanetg.whole=cs:=by rw[show PyVanetg.whole=id from funext aeW,List.map_id]
theorem aeY{f:Nat}{l:List Int}{cs:List (List (List Int))}(h:PyFlat.calls PyVanetg.shape f l=some cs)(hl:l≠ []):∃f' c t nX,PyFlat.call PyVanetg.shape l=some (c,t)/\ PyFlat.calls PyVanetg.shape f' t=some nX/\ cs=c::nX:=by
 cases l with
 |nil=>exact absurd U hl
 |cons p r=>
  cases f with
  |zero=>cases h
  |succ f=>
   have h:(match PyFlat.call PyVanetg.shape (p::r)with
    |none=>none
    |some (c,t)=>match PyFlat.calls PyVanetg.shape f t with
     |none=>none
     |some cs=>some (c::cs))=some cs:=h
   cases hc:PyFlat.call PyVanetg.shape (p::r)with
   |none=>rw[hc]at h;cases h
   |some ct=>
    obtain⟨c,t⟩:=ct;rw[hc]at h;simp only at h;cases eT:PyFlat.calls PyVanetg.shape f t with
    |none=>rw[eT]at h;cases h
    |some nX=>rw[eT]at h;exact⟨f,c,t,nX,U,eT,(aM h).symm⟩
theorem aeZ{f:Nat}{cs:List (List (List Int))}(h:PyFlat.calls PyVanetg.shape f []=some cs):cs=[]:=by
 cases f with
 |zero|succ f=>exact(aM h).symm
theorem ae0{l:List Int}(h:PyVanetg.answers_asked l=true):∃cs,PyFlat.calls PyVanetg.shape l.length l=some cs/\ cs.all VanetgNeutral.asked1=true/\ cs.length<=240/\ PyVanetg.answers l=PyFlat.told (PyFlat.played VanetgNeutral.step VanetgNeutral.start cs):=by
 unfold PyVanetg.answers_asked at h;unfold PyVanetg.answers;have e:PyVanetg.calls l=PyFlat.calls PyVanetg.shape l.length l:=by
  unfold PyVanetg.calls;cases PyFlat.calls PyVanetg.shape l.length l with
  |none=>rfl
  |some cs=>simp only[aeX]
 rw[e]at h⊢;cases hc:PyFlat.calls PyVanetg.shape l.length l with
 |none=>rw[hc]at h;cases h
 |some cs=>rw[hc]at h;simp only[bC,VanetgNeutral.asked,iB]at h;exact⟨cs,U,h.2.1,h.2.2.2,U⟩
theorem S_{n:Nat}(h:n<=10000000):n<sizeLine:=By h (by decide)
theorem ae1{A:aF}{H:Hp}{h g:Addr}{x:P3}{o:HO}(r:fo A (λ_=>False) H h x)(hg:H g=none):fo A (λb=>b=g) (upd H g o) h x:=by
 obtain⟨dx,pv,qv,r⟩:=r;have s:=aa.new (o:=o) hg;have w:aa (Wo (aL (λ_=>False) h) H) (Wo (aL (λb=>b=g) h) (upd H g o)):=λb u e=>by obtain⟨e1,e2⟩:=iU e;rw[cR (by rintro(z|z);exact bS e2 hg z;exact e1 (.inr z))];exact s _ _ e2
 exact⟨dx,pv,qv,s _ _ r.obj,c7.mono _ _ _ _ w r.parts,bq.mono _ _ _ _ w r.points,r.ok,Bn ae⟩
theorem ae2{A:aF}{H:Hp}{h g:Addr}{x:P3}{xs:List V}{o:HO}(r:fo A (λb=>b=g) H h x)(hg:H g=some (.lst xs)):fo A (λb=>b=g) (upd H g o) h x:=by obtain⟨dx,pv,qv,r⟩:=r;have ngh:h≠g:=ig r.obj hg (by intro z;cases z);have w:Wo (aL (λb=>b=g) h) (upd H g o)=Wo (aL (λb=>b=g) h) H:=dP (.inl U);exact⟨dx,pv,qv,by rw[aD ngh];exact r.obj,by rw[w];exact r.parts,by rw[w];exact r.points,r.ok,Bn ae⟩
inductive Bt(K:FU)(vs:List V)(H:Hp)(Q:VK)(E:XK):Prop
 |mk (la:Addr) (l:List Int):vs=[.ref la]->ab K H la (l.map V.int)->l.length<=100000->PyVanetg.answers_asked l=true->(∀H' p,H' p=some (.lst ((PyVanetg.answers l).map V.int))->Q (.ref p) H')->Bt K vs H Q E
theorem ae3(T:Txt K mg A):Gd P w K mg base 12 A.z5 A.d_answers ["calls"] (Bt K):=by
 refine T.Oe.go (N:=["calls","holder","given","at","call","answer"]) ?_;rintro aC A' outer s H vs Q E hr nd ⟨la,l,rfl,jk,hlen,H_,q⟩;refine⟨_,(af (aN 1 nd (LZ hr (aek T) T.aaU T.Yh))
  (af (aN 2 nd (aS bY))
  (af (aN 3 nd ak)
  (af (j4 PassesOwn.never (aR iq (pv 3) (dw T.c6 (pv 0))) (af (aN 4 nd (qi hr (aeE T) T.aaT T.Yg (aZ (pv 0) (pv 3))))
  (af (aN 5 nd (bN hr (aeV T) T.cy T.YZ (pv 1) (aj (pv 4))))
  (af (bF (dD (pv 2) (dw T.c6 (pv 5))))
  (af (bF (wc MM acz acJ zx (pv 2) (aj (pv 5))))
  (ag (aN 3 nd (ao (pv 4)))))))))
  (ag (aB (pv 2))))))),?_⟩
 try dsimp only[A9]
 obtain⟨cs0,ae5,ae6,RB,ae7⟩:=ae0 H_;intro h dx hh Bh hhd;have s1:aa H (upd (upd H dx (.own h)) h (.ins A.ef dx [])):=c5 (aa.new Bh) hh;refine⟨h,dx,U,ae,λH1 k1 ae8=>⟨U,?_⟩⟩;have Ta:aa H H1:=λb o e=>k1 _ _ (s1 _ _ e) (bS e hh);obtain⟨W,hW⟩:∃W:Addr->Nat->L2.St->Hp->Prop,W=λg m σ' H'=>∃(at_:Nat) (x:P3) (acc:List Int) (cs:List (List (List Int))) (f:Nat) (u v:Option V),m=l.length-at_/\ at_<=l.length/\ PyFlat.calls PyVanetg.shape f (l.drop at_)=some cs/\ cs.all VanetgNeutral.asked1=true/\ acc.length+20001*cs.length<=20001*240/\ σ'=[some (.ref la),some (.ref h),some (.ref g),some (nI at_),u,v]/\ aa H H'/\ fo A (λb=>b=g) H' h x/\ H' g=some (.lst (acc.map V.int))/\ acc++PyFlat.told (PyFlat.played VanetgNeutral.step (ah x) cs)=PyVanetg.answers l:=⟨_,U⟩
 refine⟨bL _,λg hg=>⟨W g,⟨_,by
  rw[hW];exact⟨0,x0,[],cs0,l.length,none,none,U,bL _,by rw[mT];exact ae5,ae6,by rw[lF];lia,U,Ta.trans (aa.new hg),ae1 ae8 hg,ae,by rw[nY,adW,ae7];rfl⟩⟩,λm σ' H' w'=>?_⟩⟩
 have AO:H g=none:=eU Ta hg;rw[hW]at w';obtain⟨at_,x,acc,cs,f,u,v,rfl,eD,eT,fw,eg,rfl,sm,hold,xg,heq⟩:=w';refine⟨_,U,_,U,la,_,U, .inl (sm.seq jk),_,_,U,U,_,U,?_⟩;rw[aX];by_cases aU:at_<l.length
 .rw[show decide ((at_:Int)<(l.length:Int))=true from bb (by lia)]
  refine aJ ?_;obtain⟨f',cl,rest,nX,e1,e2,e3⟩:=aeY eT (by intro z;have:=congrArg List.length z;simp at this;lia);subst e3;rw[iG,bC]at fw;obtain⟨qx,GJ⟩:=fw;obtain⟨k,nums,rows,ecl⟩:∃k nums rows,cl=(k::nums)::rows:=by
   cases hd:l.drop at_ with
   |nil=>rw[hd]at e1;cases e1
   |cons z r=>rw[hd]at e1;obtain⟨n,k,xs,_,_,_,e⟩:=SJ e1;exact⟨z,_,xs,e⟩
  subst ecl;obtain⟨cc,tT,ac⟩:=aeU qx;refine⟨_,U,_,U,?_⟩;intro c dc hc hdc kU;have s2:aa H' (upd (upd H' dc (.own c)) c (.ins A.cX dc [])):=c5 (aa.new hdc) hc;refine⟨c,dc,la,l,at_,k,nums,rows,rest,U,ae,(sm.trans s2).seq jk,hlen,e1,λH2 na ra rvs e k2 ca er HY oS=>⟨U,?_⟩⟩;have s3:aa H' H2:=λb o e=>k2 _ _ (s2 _ _ e) (bS e hc);have Tb:fo A (λb=>b=g) H2 h x:=by obtain⟨a1,a2,a3,r⟩:=hold;exact⟨a1,a2,a3,r.mono s3⟩
  obtain⟨a1,a2,a3,r2⟩:=id Tb;have nch:c≠h:=λz=>by obtain⟨_,_,_,r⟩:=hold;have:=r.obj;rw[<-z,hc]at this;cases this
  have ngc:g≠c:=bS xg hc;refine⟨_,U,h,_,_,U,r2.obj,U,_,U,(λb=>b=g),h,x,c,dc,na,ra,rvs,e,k,nums,rows,cc,U,Tb,ca,ac,λx' al H3 k3 ae_ ae' Tc Bu=>?_⟩;have Bv:=s3 _ _ xg;have ngh:g≠h:=ig Bv r2.obj (by intro z;cases z);have Ia:=k3 _ _ Bv ngh;have nga:g≠al:=λz=>by rw[z]at Bv;rw[Bv]at Tc;cases Tc
  have hln:=aeR r2.ok cc (aeT ac);have co3:=k3 _ _ ca.obj nch;have rZ:aa H H3:=λb o e=>k3 _ _ (s3 _ _ (sm _ _ e)) (bS e hh);have cD:VanetgNeutral.step (ah x) ((k::nums)::rows)=((Vanetg.step (ah x) cc).1,VanetgNeutral.encode (Vanetg.step (ah x) cc).2):=by unfold VanetgNeutral.step;rw[tT]
  unfold Bj at Bu hln;generalize hE:VanetgNeutral.encode (Vanetg.step (ah x) cc).2=En at Bu hln cD;rw[aX]at hln;rw[bj]at eg;have hstep:PyFlat.told (PyFlat.played VanetgNeutral.step (ah x) (((k::nums)::rows)::nX))=((En.length:Int)::En)++PyFlat.told (PyFlat.played VanetgNeutral.step (ah x') nX):=by have:PyFlat.played VanetgNeutral.step (ah x) (((k::nums)::rows)::nX)=(VanetgNeutral.step (ah x) ((k::nums)::rows)).2::PyFlat.played VanetgNeutral.step (VanetgNeutral.step (ah x) ((k::nums)::rows)).1 nX:=rfl;rw[this,cD,<-ae'];unfold PyFlat.told;rw[iE]
  rw[hstep]at heq;refine⟨_,U, .inl ⟨U,_,ab.of Ia⟩,_,U,al,_,U, .inl (ab.of Bu),g,_,_,U,U,Ia,S_ (by rw[aX];lia),?_⟩;refine⟨_,U, .inl ⟨U,_,ab.of ae⟩,_,U,g,al,_,_,U,U,ae,(by rw[aD (Ne.symm nga)];exact Bu),yg (S_ (by simp;lia)),?_⟩;refine⟨_,U,c,_,_,_,_,U,(by rw[aD (Ne.symm ngc),aD (Ne.symm ngc)];exact co3),T.e_,T.uw,U,l.length-e,by lia,?_⟩;rw[hW,jz];refine⟨e,x',acc++((En.length:Int)::En),nX,f',_,_,U,oS,by rw[er];exact e2,GJ,by rw[cP,bj];lia,U,c5 rZ AO,ae2 ae_ Ia,?_,by rw[gC];exact heq⟩;rw[ae];simp
 .have e:at_=l.length:=by lia
  rw[show decide ((at_:Int)<(l.length:Int))=false from cO (by lia)];rw[e,mY]at eT;have:=aeZ eT;subst this;refine aA ⟨_,U,q H' g ?_⟩;rw[xg,<-heq];simp[PyFlat.told,PyFlat.played]
theorem afb{P:Mb}{w:L9}{K:FU}{mg:Str->Option cp}{A:aF}(T:Txt K mg A){fa:Addr}(e:mg "answers"=some (.ref fa)):
  ∃fd:MG,(∀(s:me) (us:List cp),us.length=(["calls"]:List Str).length->BindsTo s fd ⟨us,[]⟩ ((["calls"]:List Str).zip us))/\ ∀base:Heap,K.In base->base.Ns ML mg->iu P w K mg base rS 12 fa fd ["calls"] (Bt K):=by
 have e1:=e.symm.trans T.YY;have e2:fa=A.z5:=Value.ref.inj (aM e1);subst e2;refine⟨A.d_answers,λs us hu=>?_,λbase _ _=>(ae3 (P:=P) (w:=w) (base:=base) T).ok⟩;obtain⟨oc,od,kV,doc,pm,an,aC,ct,osl,e,lk,kU⟩:=T.Oe.ex;rw[e];match us,hu with
 |[_],_=>exact .of_eq U
theorem int_mk{K:FU}{h:Heap}{mg:Str->Option cp}{x:Str}{i:Int}{t:Tok}(X:K.In h)(G:h.Ns ML mg)(a:PySem.W.nsIn K ML x=some (some (.int i t))):∃t,mg x=some (.int i t):=⟨t,PySem.W.mg_of X G a⟩
theorem str_mk{K:FU}{h:Heap}{mg:Str->Option cp}{x y:Str}{t:Tok}(X:K.In h)(G:h.Ns ML mg)(a:PySem.W.nsIn K ML x=some (some (.str y t))):∃t,mg x=some (.str y t):=⟨t,PySem.W.mg_of X G a⟩
theorem afc{xs:List V}{t:Addr}{o:Obj}{ai:Array cp}{n:Nat}(l:K.lookup t=some o)(hc:o.cls= .type "tuple")(hd:o.data= .seq ai n)(hz:ai.size<=sizeLine)(hv:Vals xs ai.toList):∀H:Hp,bx K H t xs:=λ_=> .inr ⟨o,ai,n,l,hc,hd,hz,hv⟩
end
end PP
open PySem PySem.W PyProof.Rows
set_option maxHeartbeats 0 in
theorem PySem.Challenge.cw_proofpaths_s01_answers_holds : PySem.Challenge.rw_proofpaths_s01_answers.Holds := by
 w_on;k_headS;(case hw=>exact⟨[.list [.int 1]],by decide+kernel,by decide+kernel⟩)
 k_fillS
 refine L2.Xf (r:=PySem.Challenge.rw_proofpaths_s01_answers) (k:=12) (CX:=L2.rS) (ps:=["calls"]) (sp:=PP.Bt) (by decide+kernel) rfl rfl ⟨rfl,by decide,by decide⟩ (λw h Y=>PySem.W.kIn_of Y) ?F ?S (λ_ _ _ _ z=>z)
 case F=>
  intro w mg fa h Y KX G DV
  refine' PP.afb (A:= .mk) ?T DV
  case T=>
   constructor
   all_goals try dsimp only
   all_goals first
   |exact PySem.W.mg_none_of KX G (by k_is)
   |exact PySem.W.mg_of KX G (by k_is)
   |exact PP.int_mk KX G (by k_is)
   |exact PP.str_mk KX G (by k_is)
   |(refine' L2.WQ ?l ?c ?k;(case l=>k_is);(case c=>k_is);(case k=>k_is))
   |(show PySem.W.findIn _ _ _=_;k_is)
   |(refine' PP.afc ?l ?a ?b ?z ?v;(case l=>k_is);(case a=>exact rfl);(case b=>exact rfl);(case z=>decide);(case v=>repeat (first|exact .nil|refine .cons ⟨_,rfl⟩ ?_)))
   |(constructor;all_goals k_is)
 case S=>
  intro K H xs a hO zS H_ hx
  cases hx with
  |cons h1 h2=>
   cases h2
   cases h1 with
   |lst hs ha=>
    have e:=L2.LB a.1 _ ha
    subst e
    have q:((Codec.inLen 0 17000 a.1&&a.1.all (Codec.inInt (-1000000000000000000) 1000000000000000000))&&true)=true:=zS
    rw[Bool.and_eq_true,Bool.and_eq_true]at q
    exact⟨_,a.1,rfl,hs,Nat.le_trans (Codec.inNat_iff.mp q.1.1).2 (by decide),H_,λH' p hp=> .lst (L2.ab.of hp) (L2.Lz _)⟩
