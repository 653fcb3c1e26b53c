import PyProof.Rows.All
import Wide.FinOn
import OpenK.KLine
import KE.IntText
import KE.KIntText
import KE.KIsAll
import KE.KSortAsk
import KE.KSortTup
import OpenK.KOwn
import OpenK.KRaise
import PyProof.EqAt
import PyProof.EqKinds
import PyProof.TupleCall
import PySem.Challenge.RW_trueline_k59_desk_refusals
set_option Elab.async false
set_option linter.all false
set_option maxRecDepth 100000
set_option bootstrap.genMatcherCode false
set_option genSizeOfSpec false
set_option genInjectivity false
set_option compiler.extract_closed false
section
set_option maxRecDepth 1000000
set_option synthInstance.maxHeartbeats 0
set_option synthInstance.maxSize 1000000
set_option maxSynthPendingDepth 1000
set_option maxHeartbeats 0
local macro_rules | `(command|universe $x)=>`(command|theorem $x:ident:True:=⟨⟩)
local macro_rules | `(command|universe $x $y $z*)=>`(theorem $x:ident:True:=⟨⟩ universe $y $z*)
namespace PySem.W.Fast
universe tw10008888017692933637 tw10086003163220627360 tw10104233869764756165 tw101124396942836418 tw10168084557863938263 tw10184674930661418789 tw10186711609031731694 tw10193582665800667994 tw10227017867190027071 tw10227307491030258390 tw10290301676673796964 tw10343652127194980284 tw10362758663402572458 tw10429525143821058805 tw10461640271035875769 tw10479684846292345036 tw10502857821323482500 tw10508810638422752609 tw10523951654744628050 tw10533697453630657286 tw10588928833138371407 tw10599394431282742313 tw10617037283285925309 tw10633706875021392592 tw1064420514155615678 tw1069022659948492142 tw10698237539786560340 tw10721943998576359240 tw10723291565635247965 tw10876312945507881236 tw10903619692023994805 tw10993143384188767347 tw10998069604110743127 tw11007982597318125966 tw11018826706735477777 tw11041884391504892546 tw11170992817727431940 tw11207541114548673157 tw11214422454306282365 tw1123017858160272690 tw11236496091593617692 tw11246985367130334631 tw11257690311307454382 tw11266209392915415839 tw11339936904525814458 tw11359677602416963938 tw11370662663214412185 tw11424298232083228275 tw11461618159194580770 tw1146325737723993674 tw1148788624332092320 tw11523663638713095515 tw11547380921999426240 tw11594351795632787850 tw11612420060317145572 tw11658317160011751003 tw11668838590130552018 tw11680490778330032873 tw11698060897246443975 tw11699043094796351334 tw11699371913084073913 tw11731602437511071841 tw11756659165663176147 tw11780442519394383831 tw11841604475586869638 tw11902377960177959012 tw11959328602943668631 tw11989642591083854098 tw11995425901403886403 tw12045311949110613066 tw12057244953117750733 tw12108569971522474028 tw12156056637522643402 tw12162110661984633277 tw12180324927478423173 tw12202794548398491288 tw12241885484947309160 tw12252937797054168137 tw12296028271239949274 tw1229632647876744074 tw12297867319467855037 tw12358410089502325486 tw12384161606614992327 tw12428549381260852923 tw12436155019875177653 tw12453939386623571453 tw12479679608545579176 tw12493981939334674235 tw12498221668428505238 tw12554014152238344663 tw12590760132008713221 tw12592799475994978122 tw12600086059492744824 tw12616105986684891972 tw12646284407413405556 tw12651404731159061836 tw12692762539587935244 tw12730319672907452960 tw12739658472001831232 tw12747744319528463647 tw12791073722173470208 tw12930417205380688228 tw12959008754115570556 tw13008189747937517641 tw13040266167755454997 tw13064783336013141435 tw13073297089018667567 tw13171994414287885991 tw13173017721003689270 tw13186128468775582390 tw13221292193353068693 tw13221873971332665071 tw13223430645116776360 tw13238178402548947571 tw13246728310740802945 tw13369973874637404238 tw13429953635626137838 tw13447906912045612799 tw13494976536345638376 tw13533482607866206629 tw13553950436365237013 tw13574282862479130474 tw13578310669151529189 tw13610846691483672566 tw13625974325003021382 tw13627460084971753664 tw1365268982848902164 tw13691058152551800287 tw13696885195617986597 tw13705465287225987034 tw13715060069293505472 tw13735676866230361416 tw13740019383040994529 tw1374395038667494748 tw13748419973542995550 tw13773250050212990978 tw13836999296400257180 tw13847504403283648210 tw1392366507843108529 tw13938625236039660091 tw13961179588912226833 tw13975068525254370021 tw14029645444350459743 tw14045017985638145127 tw14058171198476336887 tw14063537801528012827 tw14067999955230679082 tw14080292806459975246 tw1408413017069740734 tw1415431780890142313 tw14181516335791211231 tw14190497402162343689 tw14205317036430937530 tw14216583963468437078 tw14219862956456173061 tw14230078688005655721 tw14230368264375308364 tw14278865294057565559 tw1428376256667600415 tw14294232910338325891 tw14295681935350358021 tw14316368689047488881 tw14365044852568095960 tw14369013861167607389 tw14373389616736758853 tw14408898818308020527 tw14425056334615786005 tw14443121525713333673 tw14443842299319143731 tw14452052316050985044 tw14498160314585553968 tw14511467209670894966 tw14521627971884381811 tw14521701154649091187 tw14583482710402123428 tw14617056901499554684 tw14632046683499442134 tw14637830980132051546 tw146737696521394423 tw14704883641486342614 tw14718025562311920896 tw14739426199715716954 tw14788498847387631142 tw14793542881248944056 tw14798315704906392714 tw14811590765465515449 tw14849788967084147340 tw14862566611039834084 tw14881977805305382696 tw14944021410927048889 tw1494815403537409484 tw14973275042669500900 tw1498379232069061758 tw15030093876862993712 tw15038704556462131771 tw15079725528334829465 tw15093698225910390042 tw15094371760684691346 tw15124580258198591628 tw15127024003243936770 tw15129734694595636398 tw15134658178601772179 tw15151523259547991819 tw15177055459602030263 tw15210073659686245371 tw15232107007054978609 tw15283491579911303027 tw15286851196927000381 tw15313779743743200057 tw15356801895689064219 tw15368670211338913491 tw15410438528306686463 tw15525881657714380293 tw15574982009299445518 tw15653125322683835571 tw15733030309463926554 tw15802935034563625762 tw15812621675276520637 tw15848022336352522815 tw15850413780369060976 tw15865303668817815249 tw15920536495996734802 tw15925524937509187991 tw15970388115262302876 tw15971851370788485629 tw1597772596290109308 tw15978646349293669033 tw16005496372101511748 tw16084603688748965946 tw16108828851643267935 tw16120679935770487324 tw16133202033530306541 tw16133601669252048108 tw16166021283394342406 tw16170298111553429412 tw16179115260158136477 tw16210232882351058240 tw16232135474190778526 tw16263978974866405126 tw16265023361687508674 tw1627250777344097511 tw16294963408895198579 tw16358166555308442774 tw16358322652780673823 tw16379361478290282095 tw16427770015868665708 tw16516231505814155240 tw16518474681294344027 tw16548182402018197447 tw16570463183327499000 tw16571973503295258276 tw16585512905746678250 tw16616973186044089668 tw16753800419818218345 tw16785933925210645187 tw168026214316879056 tw16831501502922702872 tw16831679852839634818 tw16831848767942774722 tw16849358925463604066 tw16850478278579784837 tw16891887946379829573 tw16898730604797813477 tw16950730018902998607 tw16965975352996514899 tw17039055484259669102 tw17082710646636828549 tw17144811935396952755 tw17159606064982581909 tw17184316174398305627 tw17260281885036020785 tw17271496397677928286 tw17284593999644133436 tw17342069347855153752 tw17354015722156056057 tw17379761473053288869 tw1740734508188730552 tw17437018053100794342 tw17451032937088078091 tw17481503672614365653 tw17495773914604278357 tw17530092572167920763 tw17589792841866815069 tw1760876661487194648 tw17614110448244778183 tw17621439116149342778 tw17625006551068318727 tw17668210639322298785 tw17695388172690961983 tw17714524689132059555 tw17727514305313224142 tw17734330030300995541 tw17741489878602349291 tw17785656918931476608 tw17787655505106381414 tw1779496764640165018 tw17808411027644095098 tw17907368333389782449 tw17922139822120716904 tw17930070252185771886 tw18019712870668691082 tw18042286478285862094 tw18048234285717864330 tw18087795437255071405 tw18091187903737939836 tw18147408501833905418 tw18154586845974425783 tw1815916977346796822 tw18285293264349856559 tw18303585565644519141 tw18326374310868308057 tw18329264769489915514 tw18347533364698644723 tw18360585546106483127 tw18372323329489971068 tw18377957022643761456 tw18438083756399312069 tw18439014187969098869 tw1870007865514409424 tw1871108542252507073 tw1894104281296618053 tw1896498094505494757 tw1943162553964399082 tw1944300743197561481 tw1953705921585270704 tw1982362610815668157 tw2061206717815192828 tw2103852457559913239 tw2107359735338068102 tw219224051013920802 tw2269144985218891004 tw2280088266886660962 tw2308826117260492997 tw2311666029062185263 tw2337866563997123921 tw2357841882145561631 tw2431423303760201511 tw2475611176599219277 tw2486652355542720994 tw2528618043755653236 tw2528776851742435339 tw2553548332504209598 tw2590963071037060213 tw2608085560340073748 tw2610549048930328903 tw2659548235787210023 tw2673671987552192548 tw2683538631223537051 tw283954193616426547 tw2855092957251497275 tw289037290636332272 tw2918639900357139068 tw2932752666049672558 tw3007019867927034971 tw3025291340890311099 tw3027816473749355615 tw3042117812770764283 tw3043378600252885415 tw3065472725117796367 tw3071142772385777175 tw3139240162352654552 tw3148398869383340446 tw3162354990238886034 tw3165416467464665009 tw3181067554337442746 tw3183957783661303376 tw3196353781085178887 tw3202489989434277355 tw3214546748433110303 tw3229851193426445500 tw3230417897271318015 tw3290160767021624491 tw3304021549800711159 tw3353997966017553270 tw33685737248727817 tw3368579917250162766 tw3378651815332271939 tw3447527136074450093 tw3452170788223714504 tw3460799892524718439 tw3530810953938759127 tw3597141857396978134 tw3634488217755658291 tw3635416737185366129 tw3693046204148530131 tw3708617168762756432 tw3736611082475121960 tw3750172188725328760 tw3753447640008240949 tw3771529769788425020 tw3805782455051709116 tw3824102068040961205 tw3870235637029232112 tw3876770839905825228 tw3882663091735774430 tw3892922245358080712 tw3902093799151421011 tw3924828466699673924 tw393116201508596790 tw401927209464662499 tw404162084276658883 tw4087972249454194101 tw4088103172547680 tw4184049828660179283 tw4198286100950764399 tw4213157723860197573 tw4232501223276370904 tw4235079391402824230 tw4308059012267274884 tw4323097023082101803 tw43509692783174042 tw4355980223358445103 tw4405533407988951721 tw440614788101640944 tw442438607536255400 tw4428080682753350003 tw4438373766209874814 tw4491677323689556211 tw4493123151361013084 tw4533795302070364852 tw4537656483415206930 tw4546124623415331591 tw4581794245876320185 tw4657670548842151682 tw4687512185089043451 tw4688561433284807742 tw4736230566538228592 tw4740976587883910006 tw4747872234987343755 tw4756330735797956141 tw4884945755554326408 tw4922003419055280385 tw4963621451562200039 tw4971756920785097168 tw4975791411728918779 tw4983239590057417175 tw4995775744557930442 tw5001758435110368652 tw5008098209506525507 tw5031478973126900060 tw511866062615278743 tw5132754973766262576 tw513426831084411481 tw5161710074758624526 tw5170370634702776636 tw5216828355361140506 tw524126894169456018 tw5289638321508339083 tw5297035956172415198 tw5317259645370398395 tw5346034591495878336 tw5378038340086717 tw5393179068435460821 tw5406867683109299375 tw5450597863438210159 tw5463416497543002871 tw5474400795212644378 tw5488739268182870041 tw5540855226577559568 tw5557820503575654916 tw5562385015172471416 tw5582332488580900984 tw5587621563170349566 tw559153526286135203 tw5609332429234126810 tw5621998032436831596 tw5637043901927206254 tw5667072544834368105 tw5672240655470245646 tw5736932445972327929 tw576529211529835886 tw5769895283382983675 tw5777728077750512102 tw5809793458576853778 tw5839672161372720400 tw5846299656153744442 tw5872697890041339778 tw589143861243856447 tw5901536842869134527 tw5925888406995996972 tw5926957233987919022 tw5953457183195556035 tw5989950360587016449 tw6016238161595979893 tw6024455863369120443 tw6034510565416874386 tw6045723125484050963 tw6057758621361154318 tw6100857204656357792 tw6137363423228623802 tw6232721174010874430 tw624468742095779591 tw6253448632225008025 tw626270369327933752 tw6266123263584387248 tw6278057941593167526 tw6325187657355667056 tw6332306080603260424 tw6351270652797394884 tw6355339329420902819 tw6374360564431319938 tw6396382410339838622 tw6441255775676929903 tw6444917910751780073 tw6445576720692072992 tw6464994802378901239 tw648431949079313682 tw6498286780755440544 tw6504631609404609862 tw6528224883856805677 tw6539335122834849058 tw6561257482535126108 tw6577820686272517558 tw6608428857812813977 tw6609546207237594200 tw6616151571168916864 tw6644522347249507294 tw6652476768386092645 tw6721162213136311352 tw6741039406974005348 tw6766208023666529438 tw6823141395048171161 tw6839981649453191529 tw6886687445959519004 tw6919982387491842302 tw6943275202513804210 tw704009083922975635 tw706757222859020303 tw7118217555926199705 tw7172563843448009220 tw7191184716139094330 tw7191773166527326768 tw7200736544162113849 tw720311030267582542 tw7215604429643809216 tw7228334868956169523 tw7270033067639287705 tw729782764411365405 tw7297959964476712310 tw7313304818021951794 tw7333284553180069522 tw7393382727575598320 tw7395406951490315486 tw7404913819806376935 tw7426091585946977073 tw7477392856431017579 tw7516746302798879438 tw7537335952065973785 tw7552488918146982702 tw7576117780898119900 tw7698687818537186744 tw7802312246495979060 tw7821762650476386206 tw7863635612017570446 tw7886118700526008943 tw7893096533921462063 tw8051115497607756170 tw8060512778134911489 tw807123289533805796 tw8073816605634050098 tw8091456977052064600 tw8137078400377067126 tw8182561142994614067 tw8200339954524284560 tw8214092319082678968 tw8245776458559646426 tw8261495984329333358 tw8276480577199845965 tw8307223889864225086 tw8333361328191358695 tw8358557040463392632 tw8378107654755662693 tw8441422987873882264 tw8441642311189958155 tw8480109248145411012 tw8542204644776032762 tw8589883640956742389 tw8595640303804220774 tw8622305997291014549 tw8628299384339643770 tw8653746258057613581 tw8662095792140856479 tw8672428604386360226 tw8679281602942889614 tw8732163997725072959 tw8755113864749878756 tw8772515105363365567 tw8803412834050680012 tw8825571678681226218 tw8829285117925049074 tw8841973286226590213 tw884677450158549886 tw885009834866896208 tw8944310336326751713 tw8992946884463533380 tw8993054014328240969 tw9005248233027487935 tw9082981678461640592 tw9082999831423615544 tw9112624211139912518 tw912555205465043197 tw9140914753839535143 tw918974306404881641 tw9191700376013254393 tw9219216965030605861 tw9225212827045607992 tw9226518609525965110 tw9228376641952371529 tw9238201240192520288 tw9247265334010127101 tw9263154730647150659 tw9302102592095923712 tw93239546579785114 tw9356933765086524094 tw9363042467851193759 tw9390023307514280452 tw939413849828499375 tw9400428050357418743 tw9427561645504686469 tw9435345753961419083 tw9494093791250878159 tw9536061481753531795 tw9540036304170844499 tw9602784003833635885 tw963091090654867314 tw9669872709716310563 tw9679802095812267793 tw9681475572840194229 tw9700236026272259592 tw9730817101565746021 tw973639412793212278 tw9737387206900320123 tw9741218808788874007 tw9742827155896143049 tw9744401115446634165 tw9794645418231023346 tw9805116774988672678 tw9853727464072001719 tw9867229188499936177 tw9936795425424138116 tw9948044267968830630 tw9976653368924785846
end PySem.W.Fast
open PySem PySem.W PyProof.Rows
open_top hd9 for PySem.Challenge.rw_trueline_k59_desk_refusals
end
noncomputable section
open And renaming intro->sP
open Array renaming getElem?_eq_some_iff->gi,length_toList->nF,getElem?_setIfInBounds_ne->sF,all_toList->jg0,getElem?_toList->jhn,mem_toList_iff->jhx,toList_append->jhX,append_assoc->jh6,find?_toList->jh8,forIn_toList->jib,ext'->jie,toList_inj->jiS,toList->jjS
open Bool renaming and_eq_true->bz,noConfusion->bK,false_ne_true->df,false_eq_true->du,not_eq_true'->gS,or_eq_true->gX,or_true->jhd,or_eq_false_iff->jhI,eq_iff_iff->jjb,true->bh,false->bj
open False renaming elim->gu
open ForInStep renaming yield->ji4
open Function renaming comp->jjD
open Int renaming emod_lt_of_pos->pU,emod_nonneg->tN,fdiv_eq_ediv_of_nonneg->t8,fmod_eq_emod_of_nonneg->t9,ediv_one->jiD,ediv_nonneg->jjc,add_mul->jkl
open List renaming mem_cons_of_mem->bD,replicate->bE,mem_cons->bG,mem_cons_self->bJ,getElem?_eq_getElem->bO,getElem?_set_ne->bP,size_toArray->bQ,not_mem_nil->bV,length_map->bW,getElem?_eq_none->bZ,map_cons->b5,length_cons->b6,mem_append_right->b7,mem_singleton->dr,append_nil->dv,cons_append->dw,all_eq_true->dC,getElem?_eq_some_iff->dH,getElem?_set_self->dM,getElem?_map->dQ,length_append->dS,lookup_cons->dW,getElem?_append_left->d7,drop_eq_getElem_cons->d8,replicate_succ->gm,range->gq,mem_of_getElem?->gv,toArray->gy,flatten_cons->gB,mem_map->gD,getElem?_append_right->gI,nil_append->gJ,map_nil->gK,mem_append_left->gZ,mem_append->mj,filterMap_cons->mG,contains_cons->mU,getElem?_take_of_lt->nA,drop_zero->nG,nodup_cons->nL,forIn_cons->nP,length_set->nR,map_append->nU,all_cons->nV,lookup->n6,forIn_nil->n9,length_take->pz,length_pos_iff->pC,drop_succ_cons->pF,length_nil->pO,foldl_cons->pP,mem_filterMap->pS,getElem?_replicate->pW,mem_range->p8,drop_of_length_le->sk,drop_eq_nil_of_le->sv,length_replicate->sG,getElem_mem->sQ,filter_cons->sR,isEmpty_iff->td,of_mem_zip->tM,getD_eq_getElem?_getD->wm,getElem?_drop->wA,append_assoc->wF,any_cons->wL,mem_flatten->jg1,drop_length->jg3,map_map->jhf,mem_filter->jhh,take_append_drop->jhu,mem_of_mem_drop->jhD,mem_of_mem_take->jhE,mem_iff_getElem->jhF,getElem?_zipIdx->jhG,getElem?_of_mem->jhJ,map_congr_left->jhS,take_succ_cons->jhT,toList_toArray->jhU,mem_replicate->jih,length_drop->jiJ,zipIdx_cons->jiN,take_length->jiR,ext_getElem->jiT,any_eq_true->jiU,flatten_nil->jiW,range'->jiZ,zipIdx_nil->ji7,find?_cons->jjg,foldl->jjm,any_map->jjY,length->jke,map->jkh
open List.Pairwise renaming nil->jkv
open List.Perm renaming refl->jjx
open List.cons renaming injEq->tO
open Nat renaming le_refl->bN,lt_of_lt_of_le->bX,ne_of_lt->dB,le_trans->dU,lt_irrefl->dX,zero_le->gf,lt_or_ge->gL,lt_succ_self->g9,ne_of_gt->nh,lt_succ_of_lt->nY,le_of_eq->si,not_lt->sU,le_succ->tF,add_comm->tU,min_zero->tY,succ_le_succ->wX,le_of_lt->jg4,eq_or_lt_of_le->jia,lt_of_le_of_lt->jik,two_pow_pos->ji3,one_ne_zero->ji6,zero_lt_one->jja,zero_add->jjZ,sub_self->jj3,log2_lt->jkg
open Ne renaming symm->gC
open Option renaming bind_some->nJ,map_some->nM,isSome_iff_exists->wK,getD_none->wW,none->jkf,some->ba,none->bc
open Option.some renaming inj->dF,injEq->mh
open Prod.mk renaming injEq->tj
open PyProof renaming noPylong_small->jg5
open PyProof.Rows renaming callWith_type1->mJ,boot_str->nX,AllBare->p9,boot_list->sy,callWith_builtin1->sM,boot_tuple->jg2,subscriptTail_builtinR->jg7,get?_update_seq->jhj,boot_int->jhs,boot_max->jht,listUpdate_at->jh0,IntsAre->jis,seqEpoch_at->ji0,boot_isinstance->jjd,boot_divmod->jjF,boot_sorted->jjG,boot_bool->jj0,boot_abs->jj4,boot_min->jj5,boot_sum->jj6,boot_all->jj7,boot_any->jj8,firstMet->jj9,boot_set->jka
open PySem renaming wpAny_bind->bo,Value->bq,wpAny_pure->bA,Str->bF,Expr->bU,starEach->bY,Program->dg,mainGlobals->dh,wpAny_mono->dE,sizeLine_eq->dI,wpAny_field->dJ,wpAny_holding->dN,Heap->dR,Spec->dY,wpAny_setField_rec->dZ,Stmt->d9,wpAny_truthy_bool->gg,wpAny_loadPart_at->gh,ExceptHandler->gw,Around->gz,wpAny_seqItems->gE,excClassObj->gF,wpAny_nextOf_list_item->gM,wpAny_pyIter_list->gP,foldedSetIterable->gQ,compareOp->gU,FuncData->gV,wpAny_Call_Name_kw->gY,typeLookup->mf,swapsWith->mm,wpAny_call_entry->mn,wpAny_letGo->mz,wpAny_callSpecial?_slot->mC,Obj->mE,mem_of_lookup->mH,assignEach->mO,NameKind->mR,wpAny_tryCatch->mS,wpAny_nextOf_list_end->mV,wpAny_passesOwn->mY,letOwnedTupleGo->mZ,codeAny_builtin->m7,wpAny_updateSeq->m8,GenState->m9,wpAny_newObj_type->nk,codeAny_call_builtin->nu,wpAny_of_eq->nv,behindInMarks->nz,plainId_quiet->nE,wpAny_setField->nH,wpAny_standAt->nW,call_meets->n8,bootBuiltins->pf,codeAny->ph,codeAny_mono->pq,Builtin->pA,wpAny_isSubtype_exc->pE,attributeBase->pH,setField->pJ,wpAny_attempt->pK,wpAny_call->pT,sliceBounds->pX,DictEntry->pY,noteFrame->pZ,wpAny_assign_Name->se,wpAny_pyNext_list_item->sf,plainObj_wpAny_Assign_Attribute->sE,codeAny_handlers_test->sH,cellsFrom->sI,typeIs_str->sO,seqItems?->sV,checkBuiltinCall->sW,quietNames->tf,leaving->ti,wpAny_onRaise->tw,Builtin->tE,lookup_relabel_local->tG,wpAny_updateSeq_pair->tI,unbindBehindTheSuite->tK,wpAny_execs_nil->tL,CmpOp->tP,wpAny_handleBy_cons->tQ,Env->tR,relabel->tV,ExcBaseFacts->tW,setFlight->tZ,Operator->t5,binaryOp->t6,recursionLimit->wc,wpAny_newFunctionEnv_cells->we,wpAny_newTuple->wg,wpAny_excMatches_sub_self->wB,Paired->wJ,slot_listiter_next->wQ,wpAny_eqBool_int->wU,wpAny_isInstance->w5,handleBy->w9,callerA->jha,isInstance->jhc,wpAny_isTrue_Compare1->jhk,wpAny_pyNext_list_end->jhl,codeAny_call_function->jhm,exec_Assign_Name_used->jho,intText?->jhz,Moved->jhA,loadIfAlive->jhC,boot_len->jhH,getAttr->jhN,pushCells->jhO,comprehension->jhY,eval_ListComp->jhZ,Comprehension->jh1,sysModules->jh5,wpAny_rule->jic,fastLookup->jij,Within->jil,bindArgs->jiq,Keyword->jir,compPost->jit,firstIterPos->jiu,wpAny_pyIter_slot->jix,OsState->jiy,OwnTail->jiz,wpAny_execs_cons->jiF,wpAny_lookBehind->jiH,pastItsLine_dict->jiI,seqIndex?->jiK,updateSeq->jiL,Fin->jiO,ClassData->jiP,lookupAlong_cons->jiQ,entryFor_of_tree->jiV,lookupAlong->jiX,ExcAttrBase->jiY,wpAny_mroOf_exc->ji9,getAttrByItsOwn->jje,holding->jjh,builtinsNs->jjj,wpAny_Name->jjk,typeIs_int->jjl,call->jjn,compEnvC->jjp,closureFor->jjq,firstAsync->jjr,OwnTailQ->jjt,StoreFacts->jju,cStatics->jjA,lastMarks->jjH,firstIter->jjI,raiseStmt->jjJ,onTheHeap->jjK,specialOf->jjL,joinParts->jjO,getMethod->jjP,standAt->jjR,UnaryOp->jjT,setAttr->jjU,BindsTo->jjV,passOn->jj2
open PySem.Around renaming under_plainId->my,under->jio
open PySem.AutoSeq1 renaming wpAny_loadPart'->wN
open PySem.Bind renaming checkArgs->jhB
open PySem.Builtin renaming bitAnd->jhv
open PySem.Builtin.Builtins renaming bindParams->mK
open PySem.Builtin.Int renaming intBits->gN,intTooBig->jhq
open PySem.Builtin.List renaming listTooLong->mr,listFitsIndex->jjy
open PySem.Builtin.Range renaming rangeSize->p7,small->jhW,rangeFitsLong->jji
open PySem.Builtin.SmallTypes renaming ownedTupleIsFree->dO,nextOf->dP,ownedTupleHandOut->gO
open PySem.Builtin.Str renaming occurrences->gA,strSliceIndices->nZ,strKind->pB,partsBetween->wM,strSub->jii
open PySem.Calls renaming Name_function_global->t4,callWith_builtin->jg9,evalArgs_plain->jhy,Constant_str->jh7
open PySem.Code renaming quiet_builtin->jid,isFrame->jip,frames->jkd
open PySem.Data renaming fields->jkk
open PySem.EntryCells renaming newEntry->jhR
open PySem.Env renaming kindOf->jjz
open PySem.Expr renaming casesOn->jif,Name->jjQ
open PySem.F renaming plainAttrs_list->ma,excBase_ValueError->mi,plain_min_loop->mL,plain_max_loop->mM,slot_enumerate_next->mX,slot_list_append->pM,type_list_append->pN,slot_zip_next->pQ,plainAttrs_str->sC,slot_str_split->sZ,args_str_split_2->wj,entry_str_split->wI,slot_list_extend->wO,entry_min_loop->wY,entry_max_loop->wZ,args_enumerate_next_1->jgZ,entry_enumerate_next->jhe,slot_enumerate_iter->jhp,slot_int_rmul->jhr,args_zip_next_1->jiw,entry_zip_next->jiM,slot_zip_iter->ji8
open PySem.Heap renaming get?_push_of_some->bu,lt_size->bH,get?_push_size->bM,get?_update_other->b8,get?_update_self->gj,SameBut->mq,FlyingW->mw,get?_update_ne->mI,size_push->mQ,get?_none_of_le->n5,MadeExcOf->pd,get?_push_at->wG,get?_push_ne->jiE,ExtBut->jkm
open PySem.Heap.IsSliceOf renaming new->jkq
open PySem.Heap.Ns renaming of_isNs->jjf,new->jki
open PySem.Heap.Ns1 renaming of_empty->jin
open PySem.Heap.SameBut renaming refl->mB,update->jhV
open PySem.Heap.UpToSlots renaming of_keeps->jjM,refl->jko
open PySem.Manifest renaming signature?->jhQ
open PySem.Moved renaming trans->tH,drop_new->jjs
open PySem.NameKind renaming cell->pI,free->tm
open PySem.Obj renaming mapSeq->gH,mapFields->gW,isFreed_of_fields->mW,data_mapFields->pV,cls_mapFields->jiA
open PySem.PassesOwn renaming never->nS
open PySem.PyData renaming strOk->b9,eqvAll->tu,canLayAll0->jiv,depthAll->ji5,depth->jjX,eqv->jkt
open PySem.SeqAt renaming EqAt->jkr
open PySem.SeqAt.EqAt renaming int_str->jh2,str_int->jh3,int_int->jjE
open PySem.Stmt renaming casesOn->jig,casesOn->jj1
open PySem.Str renaming ofString->nK,length->jg8,join->jkn
open PySem.Txt renaming slice->jjN
open PySem.Value renaming ref->dG,none->gG,isStrOf->pG,builtin->pL,type->pR,int->wR,str->jhM,bool->jh4,bytes->jkb,float->jkc
open PySem.W renaming Frag->bx,nsIn->gc,emptyDict->gR,keepIn->me,instObj->mF,findIn->mP,fnOf->ni,mg_of->nB,kia_one->nQ,codeIn->sj,hideAll_get->tJ,mg_none_of->wo,methodObj->wC,hasDictIn->wD,hideAll->wH,plainGet->wV,nsMap_none_of_in->w8,cellsFrom_some->jg6,looks_findIn->jhg,takerIn->jhi,lookIn->jhw,callWith_K0->jhP,callWith_K->jh9,plainOver->jim,hideAll_none->jiB,handedIn->jiG,makesIn->ji1,OpenLaw->ji2,kIn_of->jjo,of_hideAll->jjv,isNs_of_in->jjw,nsOkIn->jjB,WalkO->jjC,isFn->jjW,Looks->jkj
open PySem.W.Looks renaming ld->jiC,here->jkp
open PySem.W.WData renaming int->jkw
open PySem.W.WShape renaming has->jks
open PySem.Walks renaming list->jhb
open PySem.Within renaming cons->jku
open Sum renaming inl->jhK,inr->jhL
open True renaming intro->wa
local macro_rules | `(command|def $i:declId $s:optDeclSig $v:declVal)=>`(command|noncomputable def $i:declId $s:optDeclSig $v:declVal)
theorem zff{P:Prop}(h:bj=bh):P:=nomatch h
namespace L2
open PySem PySem.Spec PyProof.Rows
abbrev Key:=Sum Int bF
def jdn:Key->bq->Bool
 |.inl k,v=>Value.isInt k v
 |.inr x,v=>pG x v
def jgj(w:World):Key->Int
 |.inl k=>hashInt k
 |.inr x=>hashStr w x
theorem j8:∀ {k:Key} {v:bq},jdn k v=bh->(∃i t,k=jhK i/\v=wR i t)\/(∃x t,k=jhL x/\v=jhM x t)
 |.inl i,v,h=>by
  obtain⟨t,e⟩:=Value.isInt_shape (k:=i) (v:=v) h
  exact .inl ⟨i,t,rfl,e⟩
 |.inr x,v,h=>by
  obtain⟨t,e⟩:=Value.isStrOf_shape (x:=x) (v:=v) h;exact .inr ⟨x,t,rfl,e⟩
theorem jdU(a b:Int):decide ((jhK a:Key)=jhK b)=(a == b):=by
 by_cases e:a=b
 ·subst e;simp
 ·have h:¬ (jhK a:Key)=jhK b:=λq=>e (Sum.inl.inj q)
  rw[decide_eq_false h];exact(beq_eq_false_iff_ne.mpr e).symm
theorem jd5(a b:bF):decide ((jhL a:Key)=jhL b)=decide (a=b):=by
 by_cases e:a=b
 ·subst e;simp
 ·have h:¬ (jhL a:Key)=jhL b:=λq=>e (Sum.inr.inj q)
  rw[decide_eq_false h,decide_eq_false e]
theorem jew(a:Int)(b:bF):decide ((jhK a:Key)=jhL b)=false:=decide_eq_false (λq=>nomatch q)
theorem jel(a:bF)(b:Int):decide ((jhL a:Key)=jhK b)=false:=decide_eq_false (λq=>nomatch q)
def YF(prog:dg)(w:World):PySem.KeyKind prog w Key where
 is:=jdn
 hash:=jgj w
 inj:=λv a b ha hb=>by
  rcases j8 ha with⟨i,t,rfl,rfl⟩|⟨x,t,rfl,rfl⟩
  ·rcases j8 hb with⟨j,u,rfl,e⟩|⟨y,u,rfl,e⟩
   ·injection e with e1 _;rw[e1]
   ·exact nomatch e
  ·rcases j8 hb with⟨j,u,rfl,e⟩|⟨y,u,rfl,e⟩
   ·exact nomatch e
   ·injection e with e1 _;rw[e1]
 byValue:=λk v h=>by
  rcases j8 h with⟨i,t,rfl,rfl⟩|⟨x,t,rfl,rfl⟩<;>rfl
 pyHash:=λhv h=>by
  rcases j8 hv with⟨i,t,rfl,rfl⟩|⟨x,t,rfl,rfl⟩
  ·exact wpAny_pyHash_int h
  ·exact wpAny_pyHash_str h
 eqBool:=λhu hv h=>by
  rcases j8 hu with⟨i,t,rfl,rfl⟩|⟨x,t,rfl,rfl⟩
  ·rcases j8 hv with⟨j,u,rfl,rfl⟩|⟨y,u,rfl,rfl⟩
   ·rw[jdU]at h;exact wU h
   ·rw[jew]at h;exact jh2 i t y u _ _ _ _ h
  ·rcases j8 hv with⟨j,u,rfl,rfl⟩|⟨y,u,rfl,rfl⟩
   ·rw[jel]at h;exact jh3 x t j u _ _ _ _ h
   ·rw[jd5]at h;exact wpAny_eqBool_str h
 «strs»:=λk x t v h=>by
  rcases j8 h with⟨i,u,rfl,e⟩|⟨y,u,rfl,e⟩
  ·exact nomatch e
  ·injection e with e1 _;subst e1
   cases v<;>rfl
set_option genInjectivity true in
inductive V where
 |non|bl (b:Bool)|int (i:Int)|str (x:bF)|byt (b:Array UInt8)|flt (b:UInt64)|ref (a:Addr)|ty (n:String)
 deriving DecidableEq
def jH:V->bq->Prop
 |.non,u=>u=gG
 |.bl b,u=>u=jh4 b
 |.int i,u=>∃t,u=wR i t
 |.str x,u=>∃t,u=jhM x t
 |.byt b,u=>∃t,u=jkb b t
 |.flt b,u=>∃t,u=jkc b t
 |.ref a,u=>u=dG a
 |.ty n,u=>u=pR n
abbrev jv:List V->List bq->Prop:=wJ jH
variable{xs:List V}{us:List bq}
theorem jv.length(r:jv xs us):xs.length=us.length:=Paired.length r
theorem jv.get:∀ {xs:List V} {us:List bq} {i:Nat} {x:V},jv xs us->xs[i]?=ba x->∃u,us[i]?=ba u/\jH x u
 |_,_,_,_,.nil,e=>by simp at e
 |_,_,0,_,.cons r _,e=>by simp at e;subst e;exact⟨_,rfl,r⟩
 |_,_,i+1,x,.cons _ t,e=>by
  obtain⟨u,h1,h2⟩:=jv.get (i:=i) (x:=x) t (by simpa using e);exact⟨u,by simpa using h1,h2⟩
theorem jv.set{x:V}{u:bq}(r:jH x u):∀ {xs:List V} {us:List bq} (i:Nat),jv xs us->jv (xs.set i x) (us.set i u)
 |_,_,_,.nil=>.nil
 |_,_,0,.cons _ t=>.cons r t
 |_,_,i+1,.cons q t=>.cons q (jv.set r i t)
theorem jv.append:∀ {xs ys:List V} {us ws:List bq},jv xs us->jv ys ws->jv (xs++ys) (us++ws)
 |_,_,_,_,.nil,s=>s
 |_,_,_,_,.cons r t,s=>.cons r (jv.append t s)
theorem jv.take:∀ {xs:List V} {us:List bq} (n:Nat),jv xs us->jv (xs.take n) (us.take n)
 |_,_,0,_=>.nil
 |_,_,_+1,.nil=>.nil
 |_,_,n+1,.cons r t=>.cons r (jv.take n t)
theorem jv.drop:∀ {xs:List V} {us:List bq} (n:Nat),jv xs us->jv (xs.drop n) (us.drop n)
 |_,_,0,r=>r
 |_,_,_+1,.nil=>.nil
 |_,_,n+1,.cons _ t=>jv.drop n t
def XB:Option V->Option bq->Prop
 |some v,ba u=>jH v u
 |none,bc=>True
 |_,_=>False
def KV{κ:Type}:List (κ×V)->List (κ×bq)->Prop:=wJ λ(p:κ×V) (q:κ×bq)=>p.1=q.1/\jH p.2 q.2
def kV:Key->V
 |.inl i=>.int i
 |.inr x=>.str x
inductive HO where
 |lst (xs:List V)
 |tup (xs:List V)
 |dK (kvs:List (Key×V))|dT (kvs:List (List Key×V))
 |set (S:Int->Bool) (n:Nat)
 |ins (C dx:Addr) (fs:List (bF×V))
 |own (x:Addr)
 |xd (fs:List (bF×V))
 |met (f x:Addr)
 |rng (lo hi:Int)
 |frz (o:mE) (u:HO)
 |tbl (ps:Array bq)
 |ext (φ:dR->Prop)
abbrev Hp:=Addr->Option HO
def upd(H:Hp)(a:Addr)(o:HO):Hp:=λb=>if b=a then ba o else H b
variable{H:Hp}{a:Addr}{o:HO}
theorem jh:upd H a o a=ba o:=by unfold upd;rw[if_pos rfl]
variable{b:Addr}
theorem je(h:b≠a):upd H a o b=H b:=by unfold upd;rw[if_neg h]
variable{u:HO}
theorem jcB:upd (upd H a o) a u=upd H a u:=by
 funext b;unfold upd;split<;>rfl
theorem YW(h:H a=ba o)(h':H b=ba u)(d:o≠u):a≠b:=by
 intro e;subst e;rw[h]at h';exact d (dF h')
theorem kE(h:H a=ba o)(h':H b=bc):a≠b:=by
 intro e;subst e;rw[h]at h';cases h'
section
variable (P:dg) (w:World)
def kO(H:Hp)(h:dR)(a:Addr):HO->Prop
 |.lst xs=>xs.length<=sizeLine/\∃(its:List bq) (n:Nat),jv xs its/\h.get? a=ba { cls:=.type "list",data:=.seq its.toArray n }
 |.tup xs=>xs.length<=sizeLine/\∃its:List bq,jv xs its/\IsTup h a its.toArray
 |.dK kvs=>kvs.length<=sizeLine/\(a == jh5)=bj/\∃vs,KV kvs vs/\h.DictOf (YF P w) a vs
 |.dT kvs=>kvs.length<=sizeLine/\(a == jh5)=bj/\∃xs:List (List Key×Addr×bq),
  wJ (λ(p:List Key×V) (q:List Key×Addr×bq)=>p.1=q.1/\H q.2.1=ba (.tup (p.1.map kV))/\jH p.2 q.2.2) kvs xs /\
  ∃o es ep,h.get? a=ba o/\o.ExactDict/\o.data=.dict es ep/\es.toList=xs.map (entryOfKey (tupleKind (YF P w)))/\(xs.map (·.1)).Nodup
 |.set S n=>h.SetOf (intKind P w) a S n
 |.ins C dx fs=>H dx=ba (.own a)/\fs.length<=1000/\dx≠a/\h.get? a=ba (mF C dx) /\
  ∃mA,h.Ns1 dx mA/\(∀f,XB (fs.lookup f) (mA f))/\jil mA (fs.map (·.1))
 |.own _=>∃o,h.get? a=ba o
 |.xd fs=>∃mA,h.Ns1 a mA/\∀f,XB (fs.lookup f) (mA f)
 |.rng lo hi=>∃t u v,h.get? a=ba { cls:=.type "range",data:=.fields #[.int lo t,.int hi u,.int 1 v] }
 |.frz o u=>h.get? a=ba o/\kO H h a u
 |.tbl ps=>h.get? a=ba { cls:=.none,data:=.fields ps }
 |.met f x=>h.get? a=ba (wC (.ref f) (.ref x))
 |.ext φ=>φ h/\(∃o,h.get? a=ba o)/\∀h1 h2:dR,φ h1->(∀o,h1.get? a=ba o->h2.get? a=ba o)->φ h2
def HOk(H:Hp)(h:dR):Prop:=∀a o,H a=ba o->kO P w H h a o
end
section
variable {P:dg} {w:World} {H H':Hp} {h h':dR} {a:Addr} {o:HO}
theorem kO.lt(x:kO P w H h a o):a<h.objs.size:=by
 cases o with
 |lst xs=>obtain⟨_,_,_,_,e⟩:=x;exact bH e
 |tup xs=>obtain⟨_,_,_,p⟩:=x;exact p.lt
 |dK kvs=>obtain⟨_,_,_,_,o,_,_,e,_⟩:=x;exact bH e
 |dT kvs=>obtain⟨_,_,_,_,o,_,_,e,_⟩:=x;exact bH e
 |set S n=>obtain⟨o,_,_,_,e,_⟩:=x;exact bH e
 |ins C dx fs=>obtain⟨_,_,_,e,_⟩:=x;exact bH e
 |own y=>obtain⟨_,e⟩:=x;exact bH e
 |xd fs=>obtain⟨_,⟨_,_,_,e,_⟩,_⟩:=x;exact bH e
 |rng lo hi=>obtain⟨_,_,_,e⟩:=x;exact bH e
 |frz ob u=>obtain⟨e,_⟩:=x;exact bH e
 |tbl ps=>exact bH (show h.get? a=ba _ from x)
 |met f y=>exact bH (show h.get? a=ba _ from x)
 |ext φ=>obtain⟨_,⟨_,e⟩,_⟩:=x;exact bH e
theorem Paired.mapP{α β:Type}{F G:α->β->Prop}:∀ {l₁:List α} {l₂:List β},wJ F l₁ l₂->(∀a b,F a b->G a b)->wJ G l₁ l₂
 |_,_,.nil,_=>.nil
 |_,_,.cons r t,f=>.cons (f _ _ r) (Paired.mapP t f)
theorem kO.stay(x:kO P w H h a o)(k:∀b u,(b=a\/H b=ba (.own a))->h.get? b=ba u->h'.get? b=ba u)
 (ho:∀b,H b=ba (.own a)->H' b=ba (.own a)) (ht:∀b xs,H b=ba (.tup xs)->H' b=ba (.tup xs)):kO P w H' h' a o:=by
 induction o with
 |lst xs=>obtain⟨z,its,n,r,e⟩:=x;exact⟨z,its,n,r,k _ _ (.inl rfl) e⟩
 |tup xs=>obtain⟨z,its,r,ob,e,c⟩:=x;exact⟨z,its,r,ob,k _ _ (.inl rfl) e,c⟩
 |dK kvs=>obtain⟨z,y,vs,r,ob,es,ep,e,c⟩:=x;exact⟨z,y,vs,r,ob,es,ep,k _ _ (.inl rfl) e,c⟩
 |dT kvs =>
  obtain⟨z,y,xs,r,ob,es,ep,e,c⟩:=x
  exact⟨z,y,xs,Paired.mapP r λp q z=>⟨z.1,ht _ _ z.2.1,z.2.2⟩,ob,es,ep,k _ _ (.inl rfl) e,c⟩
 |set S n=>obtain⟨ob,es,ep,t,e,c⟩:=x;exact⟨ob,es,ep,t,k _ _ (.inl rfl) e,c⟩
 |ins C dx fs =>
  obtain⟨d,z,ne,e,mA,⟨od,es,ep,e2,c⟩,r⟩:=x
  exact⟨ho _ d,z,ne,k _ _ (.inl rfl) e,mA,⟨od,es,ep,k _ _ (.inr d) e2,c⟩,r⟩
 |own y=>obtain⟨ob,e⟩:=x;exact⟨ob,k _ _ (.inl rfl) e⟩
 |xd fs=>obtain⟨mA,⟨od,es,ep,e,c⟩,r⟩:=x;exact⟨mA,⟨od,es,ep,k _ _ (.inl rfl) e,c⟩,r⟩
 |rng lo hi=>obtain⟨t,u,v,e⟩:=x;exact⟨t,u,v,k _ _ (.inl rfl) e⟩
 |frz ob u ih=>obtain⟨e,q⟩:=x;exact⟨k _ _ (.inl rfl) e,ih q⟩
 |tbl ps =>
  have e:h.get? a=ba { cls:=.none,data:=.fields ps }:=x;show h'.get? a=ba { cls:=.none,data:=.fields ps }
  exact k a _ (.inl rfl) e
 |met f y =>
  have e:h.get? a=ba (wC (.ref f) (.ref y)):=x;show h'.get? a=ba (wC (.ref f) (.ref y))
  exact k a _ (.inl rfl) e
 |ext φ=>obtain⟨p,⟨o,e⟩,st⟩:=x;exact⟨st _ _ p λo q=>k _ _ (.inl rfl) q,⟨o,k _ _ (.inl rfl) e⟩,st⟩
theorem HOk.lt(x:HOk P w H h)(e:H a=ba o):a<h.objs.size:=(x a o e).lt
theorem HOk.fresh(x:HOk P w H h)(e:h.objs.size<=a):H a=none:=by
 cases q:H a with
 |none=>rfl
 |some u=>exact absurd (bX (x.lt q) e) (dX _)
theorem HOk.kept(x:HOk P w H h)(k:∀b u,h.get? b=ba u->h'.get? b=ba u):HOk P w H h':=λa o e =>
 (x a o e).stay (λb u _ q=>k b u q) (λ_ q=>q) λ_ _ q=>q
theorem HOk.laid(x:HOk P w H h)(k:∀b u,h.get? b=ba u->h'.get? b=ba u)(hp:h.objs.size<=a)(new:kO P w (upd H a o) h' a o):HOk P w (upd H a o) h':=λb u e=>by
 have hn:=x.fresh hp;by_cases hb:b=a
 ·subst hb;rw[jh]at e;cases e;exact new
 ·rw[je hb]at e
  exact(x b u e).stay (λc v _ q=>k c v q) (λc q=>by rw[je (kE q hn)];exact q) λc xs q=>by rw[je (kE q hn)];exact q
end
def Rd(H:Hp)(a:Addr)(u:HO):Prop:=H a=ba u\/∃o,H a=ba (.frz o u)
variable{P:dg}{w:World}{h:dR}
theorem Rd.ok(r:Rd H a u)(x:HOk P w H h):kO P w H h a u:=by
 rcases r with r|⟨o,r⟩
 ·exact x a u r
 ·obtain⟨_,q⟩:=x a _ r;exact q
def Mut:Option HO->Prop
 |some (.lst _)=>True
 |some (.dK _)=>True
 |some (.dT _)=>True
 |some (.set _ _)=>True
 |some (.ins _ _ _)=>True
 |some (.ext _)=>True
 |_=>False
section
variable {P:dg} {w:World} {H:Hp} {h h':dR} {x e:Addr} {o':HO}
theorem HOk.write(ok:HOk P w H h)(mu:Mut (H x))(he:e=x\/H e=ba (.own x))(k:∀b u,b≠e->h.get? b=ba u->h'.get? b=ba u)(heo:∃u,h'.get? e=ba u)
 (new:kO P w (upd H x o') h' x o'):HOk P w (upd H x o') h':=λb u q=>by
 have nown:∀c y,H c=ba (.own y)->c≠x:=λc y r z=>by subst z;rw[r]at mu;exact mu
 have ntup:∀c xs,H c=ba (.tup xs)->c≠x:=λc xs r z=>by subst z;rw[r]at mu;exact mu
 by_cases hb:b=x
 ·subst hb;rw[jh]at q;cases q;exact new
 ·rw[je hb]at q;by_cases hbe:b=e
  ·have q':H b=ba (.own x):=by
    rcases he with z|z
    ·exact absurd (hbe.trans z) hb
    ·rw[hbe];exact z
   rw[q]at q';cases q';obtain⟨v,hv⟩:=heo;exact⟨v,by rw[hbe];exact hv⟩
  ·refine(ok b u q).stay (λc v hc r=>k c v ?_ r) (λc r=>by rw[je (nown c b r)];exact r) λc xs r=>by rw[je (ntup c xs r)];exact r
   rcases hc with rfl|hc
   ·exact hbe
   ·rintro rfl;rcases he with z|z
    ·exact nown c b hc z
    ·rw[hc]at z;cases z;exact hb rfl
end
structure Un (fs ex:List Addr) (H H':Hp) (h h':dR):Prop where
 keep:∀b o,h.get? b=ba o->H b=bc->b ∉ fs->b ∉ ex->h'.get? b=ba o
 slot:∀b o,h.get? b=ba o->H b=bc->b∈fs->b ∉ ex->∃sl,h'.get? b=ba { o with slots:=sl }
 free:∀b o,h.get? b=ba o->H b=bc->b ∉ ex->H' b=bc
 there:∀b o,h.get? b=ba o->b ∉ ex->∃o',h'.get? b=ba o'
 tups:∀b xs,H b=ba (.tup xs)->H' b=ba (.tup xs)
 frzs:∀b o u,H b=ba (.frz o u)->H' b=ba (.frz o u)
 tbls:∀b ps,H b=ba (.tbl ps)->∃more,H' b=ba (.tbl (ps++more))
section
variable {fs fs' ex ex':List Addr} {H H1 H2:Hp} {h h1 h2 h':dR} {a x e:Addr} {o:HO}
theorem Un.any(u:Un fs ex H H1 h h1){ob:mE}(q:h.get? b=ba ob)(n:H b=bc)(hx:b ∉ ex):∃sl,h1.get? b=ba { ob with slots:=sl }:=by
 by_cases hb:b∈fs
 ·exact u.slot b ob q n hb hx
 ·exact⟨ob.slots,u.keep b ob q n hb hx⟩
theorem Un.trans(a:Un fs ex H H1 h h1)(b:Un fs ex H1 H2 h1 h2):Un fs ex H H2 h h2 where
 keep:=λc ob q n hc hx=>b.keep c ob (a.keep c ob q n hc hx) (a.free c ob q n hx) hc hx
 slot:=λc ob q n hc hx=>by
  obtain⟨sl,e1⟩:=a.slot c ob q n hc hx;obtain⟨sl',e2⟩:=b.slot c _ e1 (a.free c ob q n hx) hc hx;exact⟨sl',e2⟩
 free:=λc ob q n hx=>by
  obtain⟨o',e1⟩:=a.there c ob q hx;exact b.free c o' e1 (a.free c ob q n hx) hx
 there:=λc ob q hx=>by
  obtain⟨o',e1⟩:=a.there c ob q hx;exact b.there c o' e1 hx
 tups:=λc xs q=>b.tups c xs (a.tups c xs q)
 frzs:=λc ob xs q=>b.frzs c ob xs (a.frzs c ob xs q)
 tbls:=λc ps q=>by
  obtain⟨m1,e1⟩:=a.tbls c ps q;obtain⟨m2,e2⟩:=b.tbls c _ e1;exact⟨m1++m2,by rw[e2,jh6]⟩
theorem Un.kept(k:∀b u,h.get? b=ba u->h'.get? b=ba u):Un fs ex H H h h' :=
 ⟨λb ob q _ _ _=>k b ob q,λb ob q _ _ _=>⟨ob.slots,k b ob q⟩,λ_ _ _ n _=>n,λb ob q _=>⟨ob,k b ob q⟩,λ_ _ q=>q,λ_ _ _ q=>q,λ_ ps q=>⟨#[],by rw[q];simp⟩⟩
theorem Un.refl:Un fs ex H H h h:=Un.kept λ_ _ q=>q
theorem Un.laid(k:∀b u,h.get? b=ba u->h'.get? b=ba u)(hp:h.objs.size<=a)(hn:H a=bc):Un fs ex H (upd H a o) h h' where
 keep:=λb u q _ _ _=>k b u q
 slot:=λb u q _ _ _=>⟨u.slots,k b u q⟩
 free:=λb u q n _=>by rw[je (dB (bX (bH q) hp))];exact n
 there:=λb u q _=>⟨u,k b u q⟩
 tups:=λb xs q=>by rw[je (kE q hn)];exact q
 frzs:=λb u xs q=>by rw[je (kE q hn)];exact q
 tbls:=λb ps q=>⟨#[],by rw[je (kE q hn),q];simp⟩
theorem Un.write(mu:Mut (H x))(he:e=x\/H e=ba (.own x))(k:∀b u,b≠e->h.get? b=ba u->h'.get? b=ba u)(heo:∃u,h'.get? e=ba u):Un fs ex H (upd H x o) h h':=by
 have hx:∀b,H b=bc->b≠x:=λb n z=>by subst z;rw[n]at mu;exact mu
 have hb:∀b,H b=bc->b≠e:=λb n z=>by
  subst z;rcases he with r|r
  ·exact hx b n r
  ·rw[n]at r;cases r
 have hm:∀b u,H b=ba u->¬ Mut (ba u)->b≠x:=λb u q nm z=>by subst z;rw[q]at mu;exact nm mu
 refine⟨λb u q n _ _=>k b u (hb b n) q,λb u q n _ _=>⟨u.slots,k b u (hb b n) q⟩,λb u q n _=>by rw[je (hx b n)];exact n,λb u q _=>?_,
  λb xs q=>by rw[je (hm b _ q λz=>z)];exact q,λb u xs q=>by rw[je (hm b _ q λz=>z)];exact q,λb ps q=>⟨#[],by rw[je (hm b _ q λz=>z),q];simp⟩⟩
 by_cases hbe:b=e
 ·subst hbe;exact heo
 ·exact⟨u,k b u hbe q⟩
theorem Un.mono(u:Un fs ex H H1 h h1)(hs:∀b∈fs,b∈fs')(hx:∀b∈ex,b∈ex'):Un fs' ex' H H1 h h1 :=
 ⟨λb ob q n hb he=>u.keep b ob q n (λz=>hb (hs b z)) λz=>he (hx b z),λ_ _ q n _ he=>u.any q n λz=>he (hx _ z),λb ob q n he=>u.free b ob q n λz=>he (hx b z),λb ob q he=>u.there b ob q λz=>he (hx b z),u.tups,u.frzs,u.tbls⟩
end
def trk(h:dR)(H:Hp):List Addr:=(gq h.objs.size).filter λa=>(H a).isSome
def KA(h:dR)(H:Hp):dR:=PySem.W.hideAll h (trk h H)
theorem UB(h:dR)(H:Hp):(KA h H).objs.size=h.objs.size:=PySem.W.hideAll_size _ _
variable{o:mE}
theorem jbp(e:h.get? b=ba o)(n:H b=bc):(KA h H).get? b=ba o :=
 PySem.W.hideAll_get _ e λhm=>by
  have q:(H b).isSome=true:=(jhh.mp hm).2;rw[n]at q;simp at q
theorem jcq(e:(KA h H).get? b=ba o):h.get? b=ba o/\H b=none:=by
 have e':h.get? b=ba o:=PySem.W.of_hideAll (trk h H) e;refine⟨e',?_⟩
 cases q:H b with
 |none=>rfl
 |some x =>
  have hm:b∈trk h H:=jhh.mpr ⟨p8.mpr (bH e'),by simp[q]⟩;have z:(KA h H).get? b=none:=PySem.W.hideAll_none (trk h H) hm;rw[z]at e;cases e
structure Mod (K:bx) (mg:bF->Option bq) (base:dR):Prop where
 kin:K.In base
 glob:base.Ns dh mg
 blt:∃mb,base.Ns jjj mb/\∀x:bF,x ≠ "__name__"->mb x=pf x
 nolimit:base.NoLimit/\base.NoDigits
structure Cx where
 prog:dg
 w:World
 K:bx
 mg:bF->Option bq
 base:dR
 A:gz
 N:List bF
 s₀:Shared
 H₀:Hp
 env:tR
 outer:List tR
 stack:List tR
 ex:List Addr
 fn:bF->Bool
 calm:Bool
 pn:List (Addr×mE)
 xe:bq->Shared->Prop
def frs(l:List tR):List Addr:=l.filterMap (·.frame)
abbrev Cx.fs(X:Cx):List Addr:=frs X.outer
def Vis(sc:Scope)(x:bF):Prop:=sc.names.lookup x=ba .local\/sc.names.lookup x=ba .cell\/sc.names.lookup x=ba .free
def Loc(sc:Scope)(x:bF):Prop:=sc.names.lookup x=ba .local\/sc.names.lookup x=ba .cell
def jgE(env:tR)(h:dR)(m:bF->Option bq)(x:bF)(u:bq):Prop :=
 (env.kindOf x=ba .local/\m x=ba u)\/((env.kindOf x=ba .cell\/env.kindOf x=ba .free)/\∃c,env.cells.lookup x=ba c/\h.IsCell c (ba u))
structure Cx.Ok (X:Cx):Prop where
 mod:Mod X.K X.mg X.base
 kind:X.env.scope.kind=.function
 glob:X.env.globals=dh
 blt:X.env.builtins=jjj
 above:X.s₀.heap.objs.size<=X.env.locals
 inj:∀x y c,X.env.cells.lookup x=ba c->X.env.cells.lookup y=ba c->x=y
 has:∀x,(X.env.kindOf x=ba .cell\/X.env.kindOf x=ba .free)->∃c,X.env.cells.lookup x=ba c
 cab:∀x c,X.fn x=bh->X.env.cells.lookup x=ba c->X.s₀.heap.objs.size<=c
 hd:X.calm=bh->X.A.handled=bc
 frames:X.A.frames=ba X.stack
 stk:X.stack=X.outer\/(X.stack=X.env::X.outer/\X.env.frame=ba X.env.locals)
 exf:∀b∈X.ex,b≠X.env.locals/\∀x c,X.env.cells.lookup x=ba c->c≠b
 bs:∀b o,X.base.get? b=ba o->X.s₀.heap.get? b=ba o/\X.H₀ b=bc
 bsz:X.base.objs.size<=X.s₀.heap.objs.size
 noex:∀b o,X.base.get? b=ba o->b ∉ X.ex
 exfs:∀b∈X.ex,b ∉ X.fs
 funs:X.s₀.heap.FunFrames X.base X.outer
 frf:∀b∈X.fs,X.H₀ b=bc
structure Inv (X:Cx) (pins:List (Addr×mE)) (σ:List (Option V)) (H:Hp) (s:Shared):Prop where
 ok:X.Ok
 os:s.os=X.s₀.os
 bare:p9 s.gens
 base:Un X.fs X.ex X.H₀ H X.s₀.heap s.heap
 loc:∃m,s.heap.Ns X.env.locals m/\∀(i:Nat) (x:bF) (v:V),X.N[i]?=ba x->σ[i]?=ba (ba v)->Vis X.env.scope x->∃u,jH v u/\jgE X.env s.heap m x u
 cell:∀x c,X.env.cells.lookup x=ba c->∃v,s.heap.IsCell c v
 free:H X.env.locals=bc
 freeC:∀x c,X.env.cells.lookup x=ba c->H c=bc
 pin:∀p∈X.pn++pins,s.heap.get? p.1=ba p.2/\H p.1=bc/\p.1≠X.env.locals/\p.1 ∉ X.fs/\∀v,p.2.data ≠ .cell v
 hok:HOk X.prog X.w H s.heap
 len:σ.length=X.N.length
variable{u:bq}{g':Array m9}{t' i j:Nat}{d':Drawn}{ch:List Addr}{it:Addr}{x:bF}{e:bU}{N:List bF}{M:Model}{A:gz}{E:bq->Shared->Prop}{Q:Unit->Shared->Prop}{s':Shared}
section
variable {X:Cx} {pins:List (Addr×mE)} {σ:List (Option V)} {H H':Hp} {s:Shared} {h':dR}
theorem Cx.Ok.nofr(ok:X.Ok)(e:X.base.get? b=ba o):b ∉ X.fs:=λhb=>by
 have:=(ok.funs.mem hb).1;rw[e]at this;cases this
theorem Inv.bs(I:Inv X pins σ H s):∀b o,X.base.get? b=ba o->s.heap.get? b=ba o/\H b=none:=λb o e =>
 ⟨I.base.keep b o (I.ok.bs b o e).1 (I.ok.bs b o e).2 (I.ok.nofr e) (I.ok.noex b o e),I.base.free b o (I.ok.bs b o e).1 (I.ok.bs b o e).2 (I.ok.noex b o e)⟩
theorem Inv.bk(I:Inv X pins σ H s):∀b o,X.base.get? b=ba o->s.heap.get? b=ba o:=λb o e=>(I.bs b o e).1
theorem Inv.mod(I:Inv X pins σ H s):Mod X.K X.mg X.base:=I.ok.mod
theorem Inv.kIn(I:Inv X pins σ H s):X.K.In s.heap:=I.ok.mod.kin.keeps I.bk
theorem Inv.lt(I:Inv X pins σ H s):X.env.locals<s.heap.objs.size:=let ⟨_,hn,_⟩:=I.loc;hn.lt
theorem Inv.sz(I:Inv X pins σ H s):X.s₀.heap.objs.size<=s.heap.objs.size:=dU I.ok.above (jg4 I.lt)
theorem Inv.nofs(I:Inv X pins σ H s)(h:s.heap.objs.size<=a):a ∉ X.fs:=λhb=>by
 obtain⟨_,o,ho,_⟩:=I.ok.funs.mem hb;exact absurd (bX (bH ho) (dU I.sz h)) (dX _)
theorem Inv.cne(I:Inv X pins σ H s):∀x c,X.env.cells.lookup x=ba c->c≠X.env.locals:=λx c e z=>by
 obtain⟨v,o,ho,hd⟩:=I.cell x c e;obtain⟨m,⟨o',es,ep,ho',hd',_⟩,_⟩:=I.loc;rw[z,ho']at ho;cases ho;rw[hd']at hd;cases hd
theorem Inv.funs(I:Inv X pins σ H s):s.heap.FunFrames X.base X.outer:=by
 have all:∀(l:List tR),(∀b∈frs l,b∈X.fs)->X.s₀.heap.FunFrames X.base l->s.heap.FunFrames X.base l:=by
  intro l
  induction l with
  |nil=>intro _ _;trivial
  |cons env r ih =>
   intro hs hl;obtain⟨hk,⟨L,o,hf,hn,ho,hd⟩,hr⟩:=hl;have hL:L∈X.fs:=hs L (by unfold frs;rw[mG,hf];exact bJ)
   obtain⟨sl,e⟩:=I.base.slot L o ho (I.ok.frf L hL) hL λz=>I.ok.exfs L z hL
   exact⟨hk,⟨L,_,hf,hn,e,hd⟩,ih (λb hb=>hs b (by unfold frs;rw[mG,hf];exact bD _ hb)) hr⟩
 exact all X.outer (λ_ hb=>hb) I.ok.funs
theorem Inv.stack(I:Inv X pins σ H s):s.heap.FunFrames X.base X.stack:=by
 rcases I.ok.stk with e|⟨e,hf⟩
 ·rw[e];exact I.funs
 ·rw[e];obtain⟨m,hn,_⟩:=I.loc;refine .cons (by rw[I.ok.kind];decide) hf hn ?_ I.funs;exact n5 (dU I.ok.bsz I.ok.above)
theorem Inv.stkSub(I:Inv X pins σ H s):∀b∈frs X.stack,b∈X.env.locals::X.fs:=λb hb=>by
 rcases I.ok.stk with e|⟨e,hf⟩
 ·rw[e]at hb;exact bD _ hb
 ·rw[e]at hb;unfold frs at hb;rw[mG,hf]at hb;exact hb
theorem Inv.stkFree(I:Inv X pins σ H s):∀b∈frs X.stack,H b=none:=λb hb=>by
 rcases bG.mp (I.stkSub b hb) with e|hb
 ·rw[e];exact I.free
 ·obtain⟨_,o,ho,_⟩:=I.ok.funs.mem hb
  exact I.base.free b o ho (I.ok.frf b hb) λz=>I.ok.exfs b z hb
theorem Inv.step(I:Inv X pins σ H s)
 (hch:∀b∈ch,(b∈X.ex\/X.s₀.heap.objs.size<=b)/\b≠X.env.locals/\(∀x c,X.env.cells.lookup x=ba c->c≠b)/\∀p∈X.pn++pins,p.1≠b)
 (keep:∀b o,b≠X.env.locals->b ∉ X.fs->b ∉ ch->s.heap.get? b=ba o->H b=bc->h'.get? b=ba o)
 (slot:∀b o,b≠X.env.locals->b∈X.fs->b ∉ ch->s.heap.get? b=ba o->H b=bc->∃sl,h'.get? b=ba { o with slots:=sl }) (free:∀b o,b ∉ ch->s.heap.get? b=ba o->H b=bc->H' b=bc)
 (there:∀b o,b ∉ ch->s.heap.get? b=ba o->∃o',h'.get? b=ba o')
 (tups:∀b xs,H b=ba (.tup xs)->H' b=ba (.tup xs)) (frzs:∀b o u,H b=ba (.frz o u)->H' b=ba (.frz o u)) (tbls:∀b ps,H b=ba (.tbl ps)->∃more,H' b=ba (.tbl (ps++more)))
 (ns:∀m,s.heap.Ns X.env.locals m->h'.Ns X.env.locals m) (hok:HOk X.prog X.w H' h') (hg:p9 g') :
 Inv X pins σ H' { s with heap:=h',gens:=g',drawn:=d',toks:=t' }:=by
 have neL:∀b o,X.s₀.heap.get? b=ba o->b≠X.env.locals:=λb o e=>dB (bX (bH e) I.ok.above)
 have neC:∀b o,X.s₀.heap.get? b=ba o->b ∉ X.ex->b ∉ ch:=λb o e hx hb=>by
  rcases(hch b hb).1 with z|z
  ·exact hx z
  ·exact absurd (bX (bH e) z) (dX _)
 have cellK:∀x c,X.env.cells.lookup x=ba c->∀v,s.heap.IsCell c v->h'.IsCell c v:=λx c e v ⟨o,ho,hd⟩=>by
  have nch:c ∉ ch:=λz=>(hch c z).2.2.1 x c e rfl
  by_cases hc:c∈X.fs
  ·obtain⟨sl,q⟩:=slot c o (I.cne x c e) hc nch ho (I.freeC x c e);exact⟨_,q,hd⟩
  ·exact⟨o,keep c o (I.cne x c e) hc nch ho (I.freeC x c e),hd⟩
 refine⟨I.ok,I.os,hg,⟨λb o e n hb hx=>?_,λb o e n hb hx=>?_,λb o e n hx=>?_,λb o e hx=>?_,λb xs e=>tups b xs (I.base.tups b xs e),λb o xs e=>frzs b o xs (I.base.frzs b o xs e),λb ps e=>?_⟩,?_,λx c e=>?_,?_,λx c e=>?_,λp hp=>?_,hok,I.len⟩
 ·exact keep b o (neL b o e) hb (neC b o e hx) (I.base.keep b o e n hb hx) (I.base.free b o e n hx)
 ·obtain⟨sl,e1⟩:=I.base.slot b o e n hb hx;obtain⟨sl',e2⟩:=slot b _ (neL b o e) hb (neC b o e hx) e1 (I.base.free b o e n hx);exact⟨sl',e2⟩
 ·obtain⟨o',e1⟩:=I.base.there b o e hx;exact free b o' (neC b o e hx) e1 (I.base.free b o e n hx)
 ·obtain⟨o',e1⟩:=I.base.there b o e hx;exact there b o' (neC b o e hx) e1
 ·obtain⟨m1,e1⟩:=I.base.tbls b ps e;obtain⟨m2,e2⟩:=tbls b _ e1;exact⟨m1++m2,by rw[e2,jh6]⟩
 ·obtain⟨m,hn,hl⟩:=I.loc;refine⟨m,ns m hn,λi x v e1 e2 e3=>?_⟩;obtain⟨u,r,l⟩:=hl i x v e1 e2 e3;refine⟨u,r,?_⟩;rcases l with l|⟨k,c,e,z⟩
  ·exact .inl l
  ·exact .inr ⟨k,c,e,cellK x c e _ z⟩
 ·obtain⟨v,z⟩:=I.cell x c e;exact⟨v,cellK x c e v z⟩
 ·obtain⟨m,⟨o,_,_,ho,_⟩,_⟩:=I.loc;exact free _ o (λz=>(hch _ z).2.1 rfl) ho I.free
 ·obtain⟨v,o,ho,hd⟩:=I.cell x c e;exact free c o (λz=>(hch c z).2.2.1 x c e rfl) ho (I.freeC x c e)
 ·obtain⟨e,n,ne,nf,d⟩:=I.pin p hp
  have nch:p.1 ∉ ch:=λz=>(hch p.1 z).2.2.2 p hp rfl
  exact⟨keep p.1 p.2 ne nf nch e n,free p.1 p.2 nch e n,ne,nf,d⟩
theorem Inv.un(I:Inv X pins σ H s)(u:Un X.fs [] H H' s.heap h')(hok:HOk X.prog X.w H' h'):Inv X pins σ H' { s with heap:=h',toks:=t' }:=by
 obtain⟨m,⟨o,es,ep,ho,r⟩,_⟩:=id I.loc;obtain⟨sl,hL⟩:=u.any ho I.free (by simp)
 exact I.step (g':=s.gens) (d':=s.drawn) (ch:=[]) (λ_ z=>nomatch z) (λb o _ hb _ e n=>u.keep b o e n hb (by simp)) (λb o _ hb _ e n=>u.slot b o e n hb (by simp)) (λb o _ e n=>u.free b o e n (by simp)) (λb o _ e=>u.there b o e (by simp)) u.tups u.frzs u.tbls (λm' hm=>by
  obtain⟨o',es',ep',ho',r'⟩:=hm;rw[ho]at ho';cases ho'
  exact⟨_,es',ep',hL,r'⟩) hok I.bare
theorem Inv.call(I:Inv X pins σ H s)(u:Un (frs X.stack) ch H H' s.heap h')(hok:HOk X.prog X.w H' h')(hg:p9 g')
 (hch:∀b∈ch,(b∈X.ex\/X.s₀.heap.objs.size<=b)/\b≠X.env.locals/\(∀x c,X.env.cells.lookup x=ba c->c≠b)/\∀p∈X.pn++pins,p.1≠b) :
 Inv X pins σ H' { s with heap:=h',gens:=g',drawn:=d',toks:=t' }:=by
 obtain⟨m,⟨o,es,ep,ho,r⟩,_⟩:=id I.loc
 obtain⟨sl,hL⟩:=u.any ho I.free λz=>(hch _ z).2.1 rfl
 exact I.step (ch:=ch) hch (λb o hL hb hc e n=>u.keep b o e n (λz=>(bG.mp (I.stkSub b z)).elim hL hb) hc) (λb o _ _ hc e n=>u.any e n hc) (λb o hc e n=>u.free b o e n hc) (λb o hc e=>u.there b o e hc) u.tups u.frzs u.tbls (λm' hm=>by
  obtain⟨o',es',ep',ho',r'⟩:=hm;rw[ho]at ho';cases ho'
  exact⟨_,es',ep',hL,r'⟩) hok hg
theorem Inv.turned(I:Inv X pins σ H s)(k:∀b o,b≠it->s.heap.get? b=ba o->h'.get? b=ba o)(hn:H it=bc)(hL:it≠X.env.locals)
 (h1:it∈X.ex\/X.s₀.heap.objs.size<=it) (h2:∀x c,X.env.cells.lookup x=ba c->c≠it) (h3:∀p∈X.pn++pins,p.1≠it):Inv X pins σ H { s with heap:=h',toks:=t' }:=by
 have nit:∀b u,H b=ba u->b≠it:=λb u e z=>by rw[z,hn]at e;cases e
 refine I.step (g':=s.gens) (d':=s.drawn) (ch:=[it]) (λb hb=>?_) (λb o _ _ hc e _=>k b o (λz=>hc (by simp[z])) e) (λb o _ _ hc e _=>⟨o.slots,k b o (λz=>hc (by simp[z])) e⟩) (λ_ _ _ _ n=>n)
  (λb o hc e=>⟨o,k b o (λz=>hc (by simp[z])) e⟩) (λ_ _ e=>e) (λ_ _ _ e=>e) (λb ps e=>⟨#[],by rw[e];simp⟩) (λm hm=>?_) (λb u e=>?_) I.bare
 ·have e:b=it:=by simpa using hb
  subst e;exact⟨h1,hL,h2,h3⟩
 ·obtain⟨o,es,ep,ho,r⟩:=hm;exact⟨o,es,ep,k _ o (gC hL) ho,r⟩
 ·refine(I.hok b u e).stay (λc v hc q=>k c v ?_ q) (λ_ q=>q) λ_ _ q=>q
  rcases hc with z|z
  ·rw[z];exact nit b u e
  ·exact nit c _ z
theorem Inv.tok(I:Inv X pins σ H s)(t:Nat):Inv X pins σ H { s with toks:=t }:=I.un (h':=s.heap) (t':=t) Un.refl I.hok
theorem Inv.kept(I:Inv X pins σ H s)(k:∀b u,s.heap.get? b=ba u->h'.get? b=ba u):Inv X pins σ H { s with heap:=h',toks:=t' }:=I.un (Un.kept k) (I.hok.kept k)
theorem Inv.laid{o:HO}(I:Inv X pins σ H s)(k:∀b u,s.heap.get? b=ba u->h'.get? b=ba u)(hp:s.heap.objs.size<=a)(new:kO X.prog X.w (upd H a o) h' a o) :
 Inv X pins σ (upd H a o) { s with heap:=h',toks:=t' }:=I.un (Un.laid k hp (I.hok.fresh hp)) (I.hok.laid k hp new)
theorem Inv.write{x e:Addr}{o:HO}(I:Inv X pins σ H s)(mu:Mut (H x))(he:e=x\/H e=ba (.own x))(k:∀b u,b≠e->s.heap.get? b=ba u->h'.get? b=ba u)(heo:∃u,h'.get? e=ba u)
 (new:kO X.prog X.w (upd H x o) h' x o):Inv X pins σ (upd H x o) { s with heap:=h',toks:=t' }:=I.un (Un.write mu he k heo) (I.hok.write mu he k heo new)
theorem Inv.pins_of{pins':List (Addr×mE)}(I:Inv X pins σ H s)(h:∀p∈pins',s.heap.get? p.1=ba p.2/\H p.1=bc/\p.1≠X.env.locals/\p.1 ∉ X.fs/\∀v,p.2.data ≠ .cell v):Inv X pins' σ H s :=
 ⟨I.ok,I.os,I.bare,I.base,I.loc,I.cell,I.free,I.freeC,λp hp=>(mj.mp hp).elim (λz=>I.pin p (gZ _ z)) (h p),I.hok,I.len⟩
theorem Xp(hN:N.Nodup)(a:N[i]?=ba x)(b:N[j]?=ba x):i=j:=by
 obtain⟨h1,e1⟩:=dH.mp a;obtain⟨h2,e2⟩:=dH.mp b;exact(List.getElem_inj hN).mp (e1.trans e2.symm)
theorem um{v:V}(I:Inv X pins σ H s)(hN:X.N.Nodup)(hi:X.N[i]?=ba x)(hx:Loc X.env.scope x)(r:jH v u)
 (h:∀s',Inv X pins (σ.set i (ba v)) H s'->(∃a,mq a s.heap s'.heap/\(a=X.env.locals\/X.env.cells.lookup x=ba a))->Q () s') (hf:X.fn x=bh\/X.env.scope.names.lookup x=ba .local:=by first|exact .inl rfl|exact .inr rfl|assumption):wpAny M A (storeName X.env x u) Q E s:=by
 obtain⟨m,hn,hl⟩:=id I.loc
 have hcls:(X.env.scope.kind == .class ||(X.env.scope.kind == .module&&X.env.locals != X.env.globals))=false:=by rw[I.ok.kind];rfl
 have hiσ:i<σ.length:=by rw[I.len];exact(dH.mp hi).1
 have cne:=I.cne
 have tracked:∀ {a:Addr} {h':dR},(∃o,s.heap.get? a=ba o/\H a=bc)->mq a s.heap h'->HOk X.prog X.w H h':=λ{a h'} ha hs b ob e=>by
  obtain⟨_,_,hfree⟩:=ha
  refine(I.hok b ob e).stay (λc w' hc q=>(hs.2 c ?_).trans q) (λ_ q=>q) λ_ _ q=>q
  rintro rfl;rcases hc with rfl|hc
  ·rw[hfree]at e;cases e
  ·rw[hfree]at hc;cases hc
 rcases hx with hk|hk
 ·refine wpAny_storeName_local hk hn (λh' hn' hs=>?_) hcls;obtain⟨oL,_,_,hoL,_⟩:=id hn;refine h _ ⟨I.ok,I.os,I.bare,⟨λb o e n hb hx=>?_,λb o e n hb hx=>?_,I.base.free,λb o e hx=>?_,I.base.tups,I.base.frzs,I.base.tbls⟩,⟨_,hn',λj y v' e1 e2 e3=>?_⟩,λy c e=>?_,I.free,I.freeC,λp hp=>?_,tracked ⟨oL,hoL,I.free⟩ hs,by simpa using I.len⟩ ⟨_,hs,.inl rfl⟩
  ·exact(hs.2 b (dB (bX (bH e) I.ok.above))).trans (I.base.keep b o e n hb hx)
  ·obtain⟨sl,e1⟩:=I.base.slot b o e n hb hx;exact⟨sl,(hs.2 b (dB (bX (bH e) I.ok.above))).trans e1⟩
  ·obtain⟨o',e1⟩:=I.base.there b o e hx;exact⟨o',(hs.2 b (dB (bX (bH e) I.ok.above))).trans e1⟩
  ·by_cases hj:j=i
   ·subst hj;rw[hi]at e1;cases e1;rw[dM hiσ]at e2;cases e2;exact⟨u,r,.inl ⟨hk,by simp⟩⟩
   ·rw[bP (gC hj)]at e2;obtain⟨u',r',q⟩:=hl j y v' e1 e2 e3;refine⟨u',r',?_⟩;rcases q with⟨k,e⟩|⟨k,c,e,z⟩
    ·refine .inl ⟨k,?_⟩
     have:y≠x:=λe=>hj (Xp hN e1 (e ▸ hi))
     simp[this,e]
    ·exact .inr ⟨k,c,e,z.sameBut hs (cne y c e)⟩
  ·obtain⟨w',z⟩:=I.cell y c e;exact⟨w',z.sameBut hs (cne y c e)⟩
  ·obtain⟨e,n,ne,nf,d⟩:=I.pin p hp;exact⟨(hs.2 p.1 ne).trans e,n,ne,nf,d⟩
 ·have hfn:X.fn x=true:=by
   rcases hf with z|z
   ·exact z
   ·rw[z]at hk;cases hk
  obtain⟨c,hc⟩:=I.ok.has x (.inl hk);obtain⟨w',z⟩:=I.cell x c hc;refine wpAny_storeName_cell I.ok.kind hk hc z (λh' hc' hs=>?_);obtain⟨oc,hoc,hocd⟩:=id z;refine h { s with heap:=h' } ⟨I.ok,I.os,I.bare,⟨λb o e n hb hx=>?_,λb o e n hb hx=>?_,I.base.free,λb o e hx=>?_,I.base.tups,I.base.frzs,I.base.tbls⟩,⟨m,hn.sameBut hs (gC (cne x c hc)),λj y v' e1 e2 e3=>?_⟩,λy c' e=>?_,I.free,I.freeC,λp hp=>?_,tracked ⟨oc,hoc,I.freeC x c hc⟩ hs,by simpa using I.len⟩ ⟨c,hs,.inr hc⟩
  ·exact(hs.2 b (dB (bX (bH e) (I.ok.cab x c hfn hc)))).trans (I.base.keep b o e n hb hx)
  ·obtain⟨sl,e1⟩:=I.base.slot b o e n hb hx;exact⟨sl,(hs.2 b (dB (bX (bH e) (I.ok.cab x c hfn hc)))).trans e1⟩
  ·obtain⟨o',e1⟩:=I.base.there b o e hx;exact⟨o',(hs.2 b (dB (bX (bH e) (I.ok.cab x c hfn hc)))).trans e1⟩
  ·by_cases hj:j=i
   ·subst hj;rw[hi]at e1;cases e1;rw[dM hiσ]at e2;cases e2;exact⟨u,r,.inr ⟨.inl hk,c,hc,hc'⟩⟩
   ·rw[bP (gC hj)]at e2;obtain⟨u',r',q⟩:=hl j y v' e1 e2 e3;refine⟨u',r',?_⟩;rcases q with q|⟨k,c',e,z'⟩
    ·exact .inl q
    ·refine .inr ⟨k,c',e,z'.sameBut hs ?_⟩;rintro rfl;exact hj (Xp hN e1 (I.ok.inj _ _ _ e hc ▸ hi))
  ·by_cases hcc:c'=c
   ·subst hcc;exact⟨_,hc'⟩
   ·obtain⟨w2,z2⟩:=I.cell y c' e;exact⟨w2,z2.sameBut hs hcc⟩
  ·obtain⟨e,n,ne,nf,d⟩:=I.pin p hp;refine⟨(hs.2 p.1 ?_).trans e,n,ne,nf,d⟩;intro q;rw[q,hoc]at e;have q':oc=p.2:=dF e;exact d w' (by rw[<- q'];exact hocd)
theorem zD{v:V}(I:Inv X pins σ H s)(hN:X.N.Nodup)(hi:X.N[i]?=ba x)(hx:Loc X.env.scope x)(r:jH v u)
 (h:∀s',Inv X pins (σ.set i (ba v)) H s'->Q () s') (hf:X.fn x=bh\/X.env.scope.names.lookup x=ba .local:=by first|exact .inl rfl|exact .inr rfl|assumption):wpAny M A (storeName X.env x u) Q E s :=
 um I hN hi hx r (λs' I' _=>h s' I') hf
theorem Inv.call'(I:Inv X pins σ H s)(ho:s'.os=s.os)(u:Un (frs X.stack) ch H H' s.heap s'.heap)(hok:HOk X.prog X.w H' s'.heap)(hg:p9 s'.gens)
 (hch:∀b∈ch,(b∈X.ex\/X.s₀.heap.objs.size<=b)/\b≠X.env.locals/\(∀x c,X.env.cells.lookup x=ba c->c≠b)/\∀p∈X.pn++pins,p.1≠b):Inv X pins σ H' s':=by
 obtain⟨h',g',d',t',o'⟩:=s';have e:o'=s.os:=ho;subst e;exact I.call (g':=g') (t':=t') (d':=d') u hok hg hch
end
abbrev XK:=bq->Option Addr->Hp->Prop
abbrev St:=List (Option V)
abbrev VK:=V->Hp->Prop
abbrev TE:=St->Hp->VK->Prop
abbrev TT:=St->Hp->(Bool->Hp->Prop)->Prop
abbrev TA:=St->Hp->(List V->Hp->Prop)->Prop
structure Ends where
 nx:St->Hp->Prop
 rt:VK
 bk:St->Hp->Prop:=λ_ _=>False
 ct:St->Hp->Prop:=λ_ _=>False
abbrev TS:=Ends->St->Hp->Prop
def EP(X:Cx)(pins:List (Addr×mE))(σ:St)(Q:VK)(u:bq)(s':Shared):Prop:=∃v H',Inv X pins σ H' s'/\jH v u/\Q v H'
def TP(X:Cx)(pins:List (Addr×mE))(σ:St)(Q:Bool->Hp->Prop)(b:Bool)(s':Shared):Prop:=∃H',Inv X pins σ H' s'/\Q b H'
def AP(X:Cx)(pins:List (Addr×mE))(σ:St)(Q:List V->Hp->Prop)(us:List bq)(s':Shared):Prop:=∃vs H',Inv X pins σ H' s'/\jv vs us/\Q vs H'
def SP(X:Cx)(pins:List (Addr×mE))(D:Ends)(f:Flow)(s':Shared):Prop :=
 match f with
 |.next=>∃σ' H',Inv X pins σ' H' s'/\D.nx σ' H'
 |.brk=>∃σ' H',Inv X pins σ' H' s'/\D.bk σ' H'
 |.cont=>∃σ' H',Inv X pins σ' H' s'/\D.ct σ' H'
 |.ret u=>∃v σ' H',Inv X pins σ' H' s'/\jH v u/\D.rt v H'
def PE(X:Cx)(e:bU)(t:TE):Prop :=
 ∀(pins:List (Addr×mE)) (s:Shared) (σ:St) (H:Hp) (Q:VK),Inv X pins σ H s->t σ H Q->wpAny (model X.prog X.w) X.A (eval e X.env) (EP X pins σ Q) X.xe s
def PT(X:Cx)(e:bU)(t:TT):Prop :=
 ∀(pins:List (Addr×mE)) (s:Shared) (σ:St) (H:Hp) (Q:Bool->Hp->Prop),Inv X pins σ H s->t σ H Q->wpAny (model X.prog X.w) X.A (isTrue e X.env (eval e X.env)) (TP X pins σ Q) X.xe s
def PW(X:Cx)(e:bU)(t:TT):Prop :=
 ∀(whole:Sem bq) (pins:List (Addr×mE)) (s:Shared) (σ:St) (H:Hp) (Q:Bool->Hp->Prop),Inv X pins σ H s->t σ H Q->wpAny (model X.prog X.w) X.A (isTrue e X.env whole) (TP X pins σ Q) X.xe s
variable{t:TE}
theorem PW.pt{X:Cx}{t:TT}(h:PW X e t):PT X e t:=h _
def PA(X:Cx)(es:List bU)(t:TA):Prop :=
 ∀(pos:Pos) (pins:List (Addr×mE)) (s:Shared) (σ:St) (H:Hp) (Q:List V->Hp->Prop),Inv X pins σ H s->t σ H Q->wpAny (model X.prog X.w) X.A (spliced (backTo pos (bY es X.env))) (AP X pins σ Q) X.xe s
def PS(X:Cx)(st:d9)(t:TS):Prop :=
 ∀(pins:List (Addr×mE)) (s:Shared) (σ:St) (H:Hp) (D:Ends),Inv X pins σ H s->t D σ H->wpAny (model X.prog X.w) X.A (exec st X.env) (SP X pins D) X.xe s
def PSs(X:Cx)(st:List d9)(t:TS):Prop :=
 ∀(pins:List (Addr×mE)) (s:Shared) (σ:St) (H:Hp) (D:Ends),Inv X pins σ H s->t D σ H->wpAny (model X.prog X.w) X.A (execs st X.env) (SP X pins D) X.xe s
theorem thn{α:Type}{t:Sem α}{Q Q':α->Shared->Prop}{s:Shared}(h:wpAny M A t Q E s)(hQ:∀a s,Q a s->Q' a s):wpAny M A t Q' E s:=dE h hQ λ_ _ x=>x
variable{Q:bq->Shared->Prop}{pos:Pos}{pins:List (Addr×mE)}{σ:St}{c:bU}
section
variable {X:Cx}
def Z5(i:Nat):TE:=λσ H Q=>∃v,σ[i]?=ba (ba v)/\Q v H
def tC(v:V):TE:=λ_ H Q=>Q v H
theorem jY(hN:X.N[i]?=ba x)(hv:Vis X.env.scope x)(hd:(x == ("__debug__":bF))=false:=by decide)(hcd:(x == ("__classdict__":bF))=false:=by decide):PE X (.Name x pos) (Z5 i):=by
 intro pins s σ H Q I h;obtain⟨v,e,h⟩:=h;obtain⟨m,hn,hl⟩:=I.loc;obtain⟨u,r,l⟩:=hl i x v hN e hv
 have fin:EP X pins σ Q u s:=⟨v,H,I,r,h⟩
 rcases l with⟨hk,hm⟩|⟨hk,c,hc,hcell⟩
 ·exact jjk (wpAny_loadName_local I.ok.kind hk hn hm fin) hd
 ·rcases hk with hk|hk
  ·exact jjk (wpAny_loadName_cell I.ok.kind hk hc hcell fin) hd
  ·exact jjk (wpAny_loadName_free I.ok.kind hk hc hcell fin hcd) hd
theorem K6{i j pos}:PE X (.Constant (.int i) j pos) (tC (.int i)):=λ_ _ _ H _ I h=>wpAny_Constant_int ⟨.int i,H,I.tok _,⟨_,rfl⟩,h⟩
theorem Zr{b j pos}:PE X (.Constant (.bool b) j pos) (tC (.bl b)):=λ_ _ _ H _ I h=>Constant_bool ⟨.bl b,H,I,rfl,h⟩
theorem jbm{j pos}:PE X (.Constant .none j pos) (tC .non):=λ_ _ _ H _ I h=>Constant_none ⟨.non,H,I,rfl,h⟩
theorem xH{x j pos}:PE X (.Constant (.str x) j pos) (tC (.str x)):=λ_ _ _ H _ I h=>jh7 ⟨.str x,H,I.tok _,⟨_,rfl⟩,h⟩
def Gl(X:Cx)(x:bF):Prop:=X.env.kindOf x=ba .globalImplicit
theorem qu{s:Shared}(I:Inv X pins σ H s)(hg:Gl X x)(hm:X.mg x=ba u)(h:Q u s)
 (hd:(x == ("__debug__":bF))=false:=by decide):wpAny (model X.prog X.w) X.A (eval (.Name x pos) X.env) Q E s :=
 t4 I.ok.kind hg (Calls.loadGlobal_global (by rw[I.ok.glob];exact I.mod.glob.keeps I.bk) hm h) hd
theorem uC{s:Shared}(I:Inv X pins σ H s)(hg:Gl X x)(hm:X.mg x=bc)(hv:pf x=ba u)(h:Q u s)
 (hn:x ≠ "__name__":=by decide) (hd:(x == ("__debug__":bF))=false:=by decide):wpAny (model X.prog X.w) X.A (eval (.Name x pos) X.env) Q E s:=by
 obtain⟨mb,h1,h2⟩:=I.mod.blt;exact t4 I.ok.kind hg (Calls.loadGlobal_builtin (by rw[I.ok.glob];exact I.mod.glob.keeps I.bk) hm (by rw[I.ok.blt];exact h1.keeps I.bk) ((h2 x hn).trans hv) h) hd
theorem u4{v:V}(hg:Gl X x)(hm:X.mg x=ba u)(r:jH v u)(hd:(x == ("__debug__":bF))=false:=by decide):PE X (.Name x pos) (tC v) :=
 λ_ _ _ H _ I h=>qu I hg hm ⟨v,H,I,r,h⟩ hd
theorem jbZ{v:V}(hg:Gl X x)(hm:X.mg x=bc)(hv:pf x=ba u)(r:jH v u)(hn:x ≠ "__name__":=by decide)(hd:(x == ("__debug__":bF))=false:=by decide):PE X (.Name x pos) (tC v) :=
 λ_ _ _ H _ I h=>uC I hg hm hv ⟨v,H,I,r,h⟩ hn hd
variable {a b:bU} {ta tb:TE} {pos:Pos}
def PC(X:Cx)(op:tP)(a b:bU)(t:TE):Prop :=
 ∀(pins:List (Addr×mE)) (s:Shared) (σ:St) (H:Hp) (Q:VK),Inv X pins σ H s->t σ H Q ->
  wpAny (model X.prog X.w) X.A (eval a X.env) (λv s₁=>wpAny (model X.prog X.w) X.A (eval b X.env) (λu s₂=>wpAny (model X.prog X.w) X.A (gU op v u) (EP X pins σ Q) X.xe s₂) X.xe s₁) X.xe s
theorem VU(b:bU){op:tP}(h:op ≠ .In)(h2:op ≠ .NotIn):nz op b=false:=by
 have e1:(op == CmpOp.In)=false:=by cases op<;>first|rfl|exact absurd rfl h
 have e2:(op == CmpOp.NotIn)=false:=by cases op<;>first|rfl|exact absurd rfl h2
 cases b<;>simp[nz,e1,e2]
def jgD(ta:TE):TE:=λσ H Q=>ta σ H λx H1=>Q (.bl (decide (x=.non))) H1
theorem jH.none_iff{x:V}{v:bq}(r:jH x v):(v == gG)=decide (x=.non):=by
 cases x with
 |non=>cases r;rfl
 |bl _=>cases r;rfl
 |int _=>obtain⟨t,rfl⟩:=r;rfl
 |str _=>obtain⟨t,rfl⟩:=r;rfl
 |byt _=>obtain⟨t,rfl⟩:=r;rfl
 |flt _=>obtain⟨t,rfl⟩:=r;rfl
 |ref _=>cases r;rfl
 |ty _=>cases r;rfl
theorem jez{j pos'}(ha:PE X a ta):PC X .Is a (.Constant .none j pos') (jgD ta):=by
 intro pins s σ H Q I h
 refine thn (ha pins s σ H _ I h) λv s1 ⟨x,H1,I1,r1,q1⟩=>?_
 exact Constant_none (is_none_gen ⟨.bl _,H1,I1,by rw[r1.none_iff];rfl,q1⟩)
def tB(t:TE):TT:=λσ H Q=>t σ H λx H1=>∃c,x=.bl c/\Q c H1
theorem jeg{op:tP}(h:PC X op a b t)(h1:nz op b=false:=by first|exact VU _ (by decide) (by decide)|rfl):PT X (.Compare a [op] [b] pos) (tB t):=by
 intro pins s σ H Q I hw;refine jhk (thn (h pins s σ H _ I hw) λv s1 h1=>thn h1 λu s2 h2=>thn h2 λc s3 ⟨x,H1,I1,r1,q1⟩=>?_) h1;obtain⟨d,rfl,q⟩:=q1;cases r1;exact gg ⟨H1,I1,q⟩
theorem jan(h:PE X e t)(he:∀whole,isTrue e X.env whole=(do let v <- whole;jjR e.pos;jjh [v] (truthy v)):=by intro _;rfl):PT X e (tB t):=by
 intro pins s σ H Q I hw;refine isTrue_plain (thn (h pins s σ H _ I hw) λv s1 ⟨x,H1,I1,r1,q1⟩=>?_) (he _);obtain⟨d,rfl,q⟩:=q1;cases r1;exact gg ⟨H1,I1,q⟩
variable {tA tB':TT} {rest:List bU}
def jgY(t u:TT):TT:=λσ H Q=>t σ H λc H1=>if c=bh then u σ H1 Q else Q bj H1
def tOr(t u:TT):TT:=λσ H Q=>t σ H λc H1=>if c=bh then Q bh H1 else u σ H1 Q
def jgv(t:TT):TT:=λσ H Q=>t σ H λc H1=>Q (!c) H1
theorem YO(ha:PT X a tA):PW X (.BoolOp .And [a] pos) tA:=by
 intro wh pins s σ H Q I h;refine isTrue_and (thn (ha pins s σ H Q I h) λc s1 e=>?_)
 cases c with
 |true=>exact isTrue_and_nil e
 |false=>exact e
theorem jeM(ha:PT X a tA):PW X (.BoolOp .Or [a] pos) tA:=by
 intro wh pins s σ H Q I h;refine isTrue_or (thn (ha pins s σ H Q I h) λc s1 e=>?_)
 cases c with
 |false=>exact isTrue_or_nil e
 |true=>exact e
theorem VT(ha:PT X a tA)(hb:PW X (.BoolOp .And (b::rest) pos) tB'):PW X (.BoolOp .And (a::b::rest) pos) (jgY tA tB'):=by
 intro wh pins s σ H Q I h;refine isTrue_and (thn (ha pins s σ H _ I h) λc s1 ⟨H1,I1,q1⟩=>?_)
 cases c with
 |true=>exact hb wh pins s1 σ H1 Q I1 q1
 |false=>exact⟨H1,I1,q1⟩
theorem jgd(ha:PT X a tA)(hb:PW X (.BoolOp .Or (b::rest) pos) tB'):PW X (.BoolOp .Or (a::b::rest) pos) (tOr tA tB'):=by
 intro wh pins s σ H Q I h;refine isTrue_or (thn (ha pins s σ H _ I h) λc s1 ⟨H1,I1,q1⟩=>?_)
 cases c with
 |true=>exact⟨H1,I1,q1⟩
 |false=>exact hb wh pins s1 σ H1 Q I1 q1
theorem jbu(ha:PT X a tA):PT X (.UnaryOp .Not a pos) (jgv tA):=by
 intro pins s σ H Q I h;exact isTrue_not (ha pins s σ H (λc H1=>Q (!c) H1) I h)
def jfM(ta tb:TE):TE:=λσ H Q=>ta σ H λx H1=>∃c,x=.bl c/\if c=bh then tb σ H1 Q else Q (.bl bj) H1
def jgB(ta tb:TE):TE:=λσ H Q=>ta σ H λx H1=>∃c,x=.bl c/\if c=bh then Q (.bl bh) H1 else tb σ H1 Q
def jfg(ta:TE):TE:=λσ H Q=>ta σ H λx H1=>∃c,x=.bl c/\Q (.bl (!c)) H1
theorem Yu{op}(h:PE X a t):PE X (.BoolOp op [a] pos) t:=λpins s σ H Q I hw=>BoolOp_one (h pins s σ H Q I hw)
theorem V2(ha:PE X a ta)(hb:PE X (.BoolOp .And (b::rest) pos) tb):PE X (.BoolOp .And (a::b::rest) pos) (jfM ta tb):=by
 intro pins s σ H Q I h;refine BoolOp_and (thn (ha pins s σ H _ I h) λv s1 ⟨x,H1,I1,r1,q1⟩=>?_);obtain⟨c,rfl,q1⟩:=q1;cases r1;refine gg ?_
 cases c with
 |true=>exact hb pins s1 σ H1 Q I1 q1
 |false=>exact⟨.bl bj,H1,I1,rfl,q1⟩
theorem jfh(ha:PE X a ta)(hb:PE X (.BoolOp .Or (b::rest) pos) tb):PE X (.BoolOp .Or (a::b::rest) pos) (jgB ta tb):=by
 intro pins s σ H Q I h;refine BoolOp_or (thn (ha pins s σ H _ I h) λv s1 ⟨x,H1,I1,r1,q1⟩=>?_);obtain⟨c,rfl,q1⟩:=q1;cases r1;refine gg ?_
 cases c with
 |false=>exact hb pins s1 σ H1 Q I1 q1
 |true=>exact⟨.bl bh,H1,I1,rfl,q1⟩
theorem jaO(ha:PE X a ta):PE X (.UnaryOp .Not a pos) (jfg ta):=by
 intro pins s σ H Q I h;refine UnaryOp_ (thn (ha pins s σ H _ I h) λv s1 ⟨x,H1,I1,r1,q1⟩=>?_);obtain⟨c,rfl,q1⟩:=q1;cases r1;exact not_of (gg ⟨.bl (!c),H1,I1,rfl,q1⟩)
def tIf(t:TT)(ta tb:TE):TE:=λσ H Q=>t σ H λc H1=>if c=bh then ta σ H1 Q else tb σ H1 Q
theorem Jp(hc:PT X c tA)(ha:PE X a ta)(hb:PE X b tb):PE X (.IfExp c a b pos) (tIf tA ta tb):=by
 intro pins s σ H Q I h;refine wpAny_IfExp (thn (hc pins s σ H _ I h) λd s1 ⟨H1,I1,q1⟩=>?_)
 cases d with
 |true=>exact ha pins s1 σ H1 Q I1 q1
 |false=>exact hb pins s1 σ H1 Q I1 q1
end
def SqL(K:bx)(H:Hp)(a:Addr)(xs:List V):Prop :=
 Rd H a (.lst xs) \/
  ∃(o:mE) (its:Array bq) (n:Nat),K.lookup a=ba o/\o.cls=.type "list" /\ o.dict=bc/\o.data=.seq its n/\its.size<=sizeLine/\jv xs its.toList
def SqT(K:bx)(H:Hp)(a:Addr)(xs:List V):Prop :=
 Rd H a (.tup xs) \/
  ∃(o:mE) (its:Array bq) (n:Nat),K.lookup a=ba o/\o.cls=.type "tuple" /\ o.data=.seq its n/\its.size<=sizeLine/\jv xs its.toList
def jgR:bq->Option V
 |.none=>ba .non
 |.bool b=>ba (.bl b)
 |.int i _=>ba (.int i)
 |.str x _=>ba (.str x)
 |.bytes b _=>ba (.byt b)
 |.float b _=>ba (.flt b)
 |.ref a=>ba (.ref a)
 |.type n=>ba (.ty n)
 |_=>bc
theorem jH.abs{x:V}(r:jH x u):jgR u=ba x:=by
 cases x with
 |non=>cases r;rfl
 |bl _=>cases r;rfl
 |int _=>obtain⟨t,rfl⟩:=r;rfl
 |str _=>obtain⟨t,rfl⟩:=r;rfl
 |byt _=>obtain⟨t,rfl⟩:=r;rfl
 |flt _=>obtain⟨t,rfl⟩:=r;rfl
 |ref _=>cases r;rfl
 |ty _=>cases r;rfl
variable{y:V}
theorem jH.inj{x:V}(r:jH x u)(q:jH y u):x=y:=dF (r.abs.symm.trans q.abs)
theorem jv.inj:∀ {xs ys:List V} {us:List bq},jv xs us->jv ys us->xs=ys
 |_,_,_,.nil,.nil=>rfl
 |_,_,_,.cons r t,.cons r' t'=>by rw[r.inj r',jv.inj t t']
variable{K:bx}
section
variable {X:Cx} {pins:List (Addr×mE)} {σ:St} {H:Hp} {s:Shared} {a:Addr} {xs ys:List V}
theorem SqL.of(h:H a=ba (.lst xs)):SqL K H a xs:=.inl (.inl h)
theorem SqT.of(h:H a=ba (.tup xs)):SqT K H a xs:=.inl (.inl h)
theorem Inv.list(I:Inv X pins σ H s)(h:SqL X.K H a xs):∃its:List bq,jv xs its/\PlainL s.heap a its.toArray/\xs.length<=sizeLine:=by
 rcases h with h|⟨o,its,n,hk,hc,hd,hs,hz,r⟩
 ·obtain⟨z,its,n,r,e⟩:=h.ok I.hok;exact⟨its,r,⟨_,n,e,rfl,rfl,rfl⟩,z⟩
 ·refine⟨its.toList,r,⟨o,n,I.kIn a o hk,hc,hd,by simpa using hs⟩,?_⟩;have e:=r.length;simp only[nF]at e;omega
theorem Inv.tuple(I:Inv X pins σ H s)(h:SqT X.K H a xs):∃its:List bq,jv xs its/\IsTup s.heap a its.toArray/\xs.length<=sizeLine:=by
 rcases h with h|⟨o,its,n,hk,hc,hs,hz,r⟩
 ·obtain⟨z,its,r,p⟩:=h.ok I.hok;exact⟨its,r,p,z⟩
 ·refine⟨its.toList,r,⟨o,I.kIn a o hk,hc,n,by simpa using hs⟩,?_⟩;have e:=r.length;simp only[nF]at e;omega
theorem Inv.list_inj(I:Inv X pins σ H s)(h:SqL X.K H a xs)(h':SqL X.K H a ys):xs=ys:=by
 obtain⟨its,r,⟨o,n,e,_,_,d⟩,_⟩:=I.list h;obtain⟨its',r',⟨o',n',e',_,_,d'⟩,_⟩:=I.list h';rw[e]at e';cases e';rw[d]at d';injection d' with d1 _
 have:its=its':=by simpa using congrArg jjS d1
 subst this;exact r.inj r'
theorem Inv.tuple_inj(I:Inv X pins σ H s)(h:SqT X.K H a xs)(h':SqT X.K H a ys):xs=ys:=by
 obtain⟨its,r,⟨o,e,_,n,d⟩,_⟩:=I.tuple h;obtain⟨its',r',⟨o',e',_,n',d'⟩,_⟩:=I.tuple h';rw[e]at e';cases e';rw[d]at d';injection d' with d1 _
 have:its=its':=by simpa using congrArg jjS d1
 subst this;exact r.inj r'
end
abbrev Cx.wish(X:Cx)(E:bq->Shared->Prop):Cx:={ X with xe:=E }
abbrev Cx.nox(X:Cx):Cx:=X.wish λ_ _=>False
theorem Cx.Ok.wish{X:Cx}(ok:X.Ok)(E:bq->Shared->Prop):(X.wish E).Ok :=
 ⟨ok.mod,ok.kind,ok.glob,ok.blt,ok.above,ok.inj,ok.has,ok.cab,ok.hd,ok.frames,ok.stk,ok.exf,ok.bs,ok.bsz,ok.noex,ok.exfs,ok.funs,ok.frf⟩
theorem Cx.Ok.unwish{X:Cx}(ok:(X.wish E).Ok):X.Ok :=
 ⟨ok.mod,ok.kind,ok.glob,ok.blt,ok.above,ok.inj,ok.has,ok.cab,ok.hd,ok.frames,ok.stk,ok.exf,ok.bs,ok.bsz,ok.noex,ok.exfs,ok.funs,ok.frf⟩
variable{f:bq->bq->Sem bq}
section
variable {X:Cx} {pins:List (Addr×mE)} {σ:St} {H:Hp} {s:Shared} {E:bq->Shared->Prop}
theorem Inv.wish(I:Inv X pins σ H s)(E:bq->Shared->Prop):Inv (X.wish E) pins σ H s:=⟨I.ok.wish E,I.os,I.bare,I.base,I.loc,I.cell,I.free,I.freeC,I.pin,I.hok,I.len⟩
theorem Inv.unwish(I:Inv (X.wish E) pins σ H s):Inv X pins σ H s:=⟨I.ok.unwish,I.os,I.bare,I.base,I.loc,I.cell,I.free,I.freeC,I.pin,I.hok,I.len⟩
theorem SP.unwish{D:Ends}{f:Flow}(h:SP (X.wish E) pins D f s'):SP X pins D f s':=by
 cases f with
 |next=>obtain⟨σ',H',I,q⟩:=h;exact⟨σ',H',I.unwish,q⟩
 |brk=>obtain⟨σ',H',I,q⟩:=h;exact⟨σ',H',I.unwish,q⟩
 |cont=>obtain⟨σ',H',I,q⟩:=h;exact⟨σ',H',I.unwish,q⟩
 |ret u=>obtain⟨v,σ',H',I,r,q⟩:=h;exact⟨v,σ',H',I.unwish,r,q⟩
theorem PE.nox(h:PE X.nox e t):PE X e t:=λpins s σ H Q I hw =>
 dE (h pins s σ H Q (I.wish _) hw) (λ_ _ ⟨v,H',I',r,q⟩=>⟨v,H',I'.unwish,r,q⟩) λ_ _ z=>gu z
theorem PT.nox{t:TT}(h:PT X.nox e t):PT X e t:=λpins s σ H Q I hw =>
 dE (h pins s σ H Q (I.wish _) hw) (λ_ _ ⟨H',I',q⟩=>⟨H',I'.unwish,q⟩) λ_ _ z=>gu z
theorem PSs.nox{st:List d9}{t:TS}(h:PSs X.nox st t):PSs X st t:=λpins s σ H D I hw =>
 dE (h pins s σ H D (I.wish _) hw) (λ_ _ q=>q.unwish) λ_ _ z=>gu z
end
variable{tc:TT}
section
variable {X:Cx} {st:d9} {rest:List d9} {t u:TS} {e:bU} {te:TE} {pos:Pos}
def jab:TS:=λD σ H=>D.nx σ H
def jfk(t u:TS):TS:=λD σ H=>t { D with nx:=u D } σ H
theorem jF:PSs X [] jab:=λ_ _ σ H _ I h=>tL ⟨σ,H,I,h⟩
theorem jl(h1:PS X st t)(h2:PSs X rest u):PSs X (st::rest) (jfk t u):=by
 intro pins s σ H D I h;refine jiF (thn (h1 pins s σ H { D with nx:=u D } I h) λf s1 q=>?_)
 cases f with
 |next =>
  obtain⟨σ',H',I',q⟩:=q
  exact h2 pins s1 σ' H' D I' q
 |ret v=>exact q
 |brk=>exact q
 |cont=>exact q
theorem jbC(h1:PS X st t):PSs X [st] t:=by
 intro pins s σ H D I h;refine jiF (thn (h1 pins s σ H D I h) λf s1 q=>?_)
 cases f with
 |next=>exact tL q
 |ret v=>exact q
 |brk=>exact q
 |cont=>exact q
def jeb:TS:=λD σ H=>D.bk σ H
def jfX:TS:=λD σ H=>D.ct σ H
theorem U3:PS X (.Break pos) jeb:=λ_ _ σ H _ I h=>wpAny_Break ⟨σ,H,I,h⟩
theorem Q9:PS X (.Continue pos) jfX:=λ_ _ σ H _ I h=>wpAny_Continue ⟨σ,H,I,h⟩
theorem Inv.quiet{s:Shared}(I:Inv X pins σ H s):interactive X.env=false:=by simp[interactive,I.ok.kind]
def jfU(te:TE):TS:=λD σ H=>te σ H λ_ H1=>D.nx σ H1
theorem xB(he:PE X e te)(hs:mm e bc pos.line X.env=pure false:=by rfl):PS X (.Expr e pos) (jfU te):=by
 intro pins s σ H D I h;exact wpAny_Expr_any (thn (he pins s σ H _ I h) λv s1 ⟨x,H1,I1,r1,q1⟩=>⟨σ,H1,I1,q1⟩) I.quiet hs
def jgf(te:TE):TS:=λD σ H=>te σ H D.rt
theorem qx(he:PE X e te):PS X (.Return (ba e) pos) (jgf te):=by
 intro pins s σ H D I h;exact wpAny_Return_some (thn (he pins s σ H _ I h) λv s1 ⟨x,H1,I1,r1,q1⟩=>⟨x,σ,H1,I1,r1,q1⟩)
def jf2(c:TT)(t u:TS):TS:=λD σ H=>c σ H λb H1=>if b=bh then t D σ H1 else u D σ H1
theorem uI{a b:List d9}(hc:PT X c tc)(ha:PSs X a t)(hb:PSs X b u):PS X (.If c a b pos) (jf2 tc t u):=by
 intro pins s σ H D I h;refine wpAny_If (thn (hc pins s σ H _ I h) λd s1 ⟨H1,I1,q1⟩=>?_)
 cases d with
 |true=>exact ha pins s1 σ H1 D I1 q1
 |false=>exact hb pins s1 σ H1 D I1 q1
def jdC:TS:=λ_ _ _=>False
theorem jbl:PS X st jdC:=λ_ _ _ _ _ _ h=>h.elim
end
abbrev TG:=V->St->Hp->(St->Hp->Prop)->Prop
abbrev TGs:=List V->St->Hp->(St->Hp->Prop)->Prop
def PG(X:Cx)(target:bU)(t:TG):Prop :=
 ∀(pins:List (Addr×mE)) (s:Shared) (σ:St) (H:Hp) (v:V) (u:bq) (Q:St->Hp->Prop),Inv X pins σ H s->jH v u->t v σ H Q ->
  wpAny (model X.prog X.w) X.A (assign target X.env u) (λ_ s'=>∃σ' H',Inv X pins σ' H' s'/\Q σ' H') X.xe s
def PGs(X:Cx)(ts:List bU)(t:TGs):Prop :=
 ∀(pins:List (Addr×mE)) (s:Shared) (σ:St) (H:Hp) (vs:List V) (us:List bq) (Q:St->Hp->Prop),Inv X pins σ H s->jv vs us->t vs σ H Q ->
  wpAny (model X.prog X.w) X.A (assignInOrder ((mO ts X.env).map (·.2)) us) (λ_ s'=>∃σ' H',Inv X pins σ' H' s'/\Q σ' H') X.xe s
variable{es:List bU}{k n:Nat}{tg:bU}{te:TE}{g:TG}
section
variable {X:Cx} {pos:Pos}
def qQ(i:Nat):TG:=λv σ H Q=>Q (σ.set i (ba v)) H
theorem yc(hN:X.N.Nodup)(hi:X.N[i]?=ba x)(hx:Loc X.env.scope x)(hf:X.fn x=bh\/X.env.scope.names.lookup x=ba .local:=by first|exact .inl rfl|exact .inr rfl|assumption):PG X (.Name x pos) (qQ i):=by
 intro pins s σ H v u Q I r h;exact se (zD I hN hi hx r (λs' I'=>⟨_,H,I',h⟩) hf)
def jdN:TGs:=λvs σ H Q=>vs=[]/\Q σ H
def Qu(t:TG)(u:TGs):TGs:=λvs σ H Q=>∃v r,vs=v::r/\t v σ H λσ' H'=>u r σ' H' Q
theorem Y5:PGs X [] jdN:=by
 intro pins s σ H vs us Q I r h;obtain⟨e,h⟩:=h;subst e;cases r;exact assignInOrder_nil ⟨σ,H,I,h⟩
theorem zF{t:TG}{u:TGs}(h1:PG X e t)(h2:PGs X es u)
 (hs:(mO (e::es) X.env).map (·.2)=assign e X.env::(mO es X.env).map (·.2):=by rfl):PGs X (e::es) (Qu t u):=by
 intro pins s σ H vs us Q I r h;obtain⟨v,vr,e1,h⟩:=h;subst e1
 cases r with
 |cons r rr =>
  rw[hs];refine assignInOrder_cons (thn (h1 pins s σ H _ _ _ I r h) λ_ s1 ⟨σ1,H1,I1,q1⟩=>?_);exact h2 pins s1 σ1 H1 _ _ Q I1 rr q1
def jex(K:bx)(n:Nat)(t:TGs):TG:=λv σ H Q=>∃a xs,v=.ref a/\SqT K H a xs/\xs.length=n/\t xs σ H Q
theorem Vo{t:TGs}(hc:X.calm=bh)(h:PGs X es t)
 (hn:(mO es X.env).length=n:=by rfl) (hst:(mO es X.env).findIdx? (·.1)=none:=by rfl):PG X (.Tuple es k pos) (jex X.K n t):=by
 intro pins s σ H v u Q I r hw;obtain⟨a,xs,e1,hq,hl,hw⟩:=hw;subst e1;cases r;obtain⟨its,rv,ht,hz⟩:=I.tuple hq
 refine assign_Tuple_tuple (I.ok.hd hc) ht (by simp[hn,<- hl,rv.length]) hst λh' hx=>?_
 have I1:Inv X pins σ H { s with heap:=h' }:=I.kept (t':=s.toks) λb o e=>hx b o (dB (bH e)) e
 exact h pins _ σ H xs _ Q I1 (by simpa using rv) hw
def Xb(te:TE)(g:TG):TS:=λD σ H=>te σ H λx H1=>g x σ H1 D.nx
theorem jai(he:PE X e te)(hg:PG X tg g)(hs:swapsWithSole [tg] e pos.line X.env=pure false:=by rfl)(hw:swappedStores [tg] e X.env=pure none:=by rfl)
 (h1:(mO [tg] X.env).map (·.2)=[assign tg X.env]:=by rfl):PS X (.Assign [tg] e pos) (Xb te g):=by
 intro pins s σ H D I h;refine wpAny_Assign_stores (thn (he pins s σ H _ I h) λv s1 ⟨x,H1,I1,r1,q1⟩=>?_) hs hw;rw[h1]
 exact thn (hg pins s1 σ H1 x v _ I1 r1 q1) λ_ s2 q=>q
theorem x9{pos':Pos}(hN:X.N.Nodup)(hi:X.N[i]?=ba x)(hx:Loc X.env.scope x)(he:PE X e te)(hs:mm e (ba (.Name x pos')) pos.line X.env=pure false:=by rfl)(hf:X.fn x=bh\/X.env.scope.names.lookup x=ba .local:=by first|exact .inl rfl|exact .inr rfl|assumption) :
 PS X (.Assign [.Name x pos'] e pos) (Xb te (qQ i)):=by
 intro pins s σ H D I h;refine wpAny_Assign_Name (thn (he pins s σ H _ I h) λv s1 ⟨y,H1,I1,r1,q1⟩=>?_) hs;exact zD I1 hN hi hx r1 (λs2 I2=>⟨_,H1,I2,q1⟩) hf
end
variable{body:List d9}
section
variable {X:Cx} {pos:Pos}
def je7(c:TT)(tb:TS):TS:=λD σ H=>∃W:Nat->St->Hp->Prop,(∃m,W m σ H)/\∀m σ H,W m σ H ->
 c σ H λb H1=>if b=bh then ∃N:St->Hp->Prop,(∀σ' H',N σ' H'->∃m',m'<m/\W m' σ' H')/\tb { D with nx:=N,ct:=N,bk:=D.nx } σ H1 else D.nx σ H1
theorem jbh{tb:TS}(hp:PassesOwn (model X.prog X.w) X.A X.env X.xe)(hc:PT X c tc)(hb:PSs X body tb):PS X (.While c body [] pos) (je7 tc tb):=by
 intro pins s σ H D I h;obtain⟨W,⟨m0,w0⟩,zT⟩:=h;refine wpAny_While (codeAny_whileLoop (λn s'=>∃σ' H',Inv X pins σ' H' s'/\W n σ' H') ?_ m0 ⟨σ,H,I,w0⟩);rintro n s1 ⟨σ1,H1,I1,w1⟩;refine mY hp (thn (hc pins s1 σ1 H1 _ I1 (zT n σ1 H1 w1)) λb s2 ⟨H2,I2,q2⟩=>?_)
 cases b with
 |true =>
  obtain⟨N,hN,q2⟩:=q2;rw[if_pos rfl];refine mY hp (thn (hb pins s2 σ1 H2 _ I2 q2) λf s3 q3=>?_)
  cases f with
  |next =>
   obtain⟨σ3,H3,I3,n3⟩:=q3;obtain⟨m',hm,w3⟩:=hN σ3 H3 n3
   exact⟨m',hm,σ3,H3,I3,w3⟩
  |cont =>
   obtain⟨σ3,H3,I3,n3⟩:=q3;obtain⟨m',hm,w3⟩:=hN σ3 H3 n3
   exact⟨m',hm,σ3,H3,I3,w3⟩
  |brk=>exact q3
  |ret v=>exact q3
 |false =>
  rw[if_neg df];exact tL ⟨σ1,H2,I2,q2⟩
end
structure It where
 go:Nat->Hp->Prop
 yld:Nat->Hp->V->Hp->Prop
 stop:Nat->Hp->Prop
def yh(X:Cx)(pins:List (Addr×mE))(H:Hp)(b:Addr):Prop :=
 H b=bc/\b≠X.env.locals/\b ∉ X.fs/\(b∈X.ex\/X.s₀.heap.objs.size<=b)/\(∀x c,X.env.cells.lookup x=ba c->c≠b)/\∀p∈X.pn++pins,p.1≠b
theorem Inv.fpOk{X:Cx}{H':Hp}{s:Shared}(I:Inv X pins σ H s)(hb:s.heap.objs.size<=b)(hn:H' b=bc):yh X pins H' b:=by
 refine⟨hn,nh (bX I.lt hb),I.nofs hb,.inr (dU I.sz hb),λx c e z=>?_,λp hp z=>?_⟩
 ·obtain⟨v,q⟩:=I.cell x c e;exact absurd (bX q.lt (by rw[z];exact hb)) (dX _)
 ·exact absurd (bX (bH (I.pin p hp).1) (by rw[z];exact hb)) (dX _)
structure Turn (P:dg) (w:World) (K:bx) (tg:bU) (J:It) (fp:List Addr) (it:Addr) (tn:Nat->dR->Prop):Prop where
 mem:it∈fp
 obj:∀i h,tn i h->∀b∈fp,∃o,h.get? b=ba o/\∀v,o.data ≠ .cell v
 keep:∀i h h',tn i h->(∀b∈fp,∀o,h.get? b=ba o->h'.get? b=ba o)->tn i h'
 item:∀(X:Cx),X.prog=P->X.w=w->X.K=K->X.calm=bh->∀(i:Nat) (pins:List (Addr×mE)) (s:Shared) (σ:St) (H:Hp) (E:bq->Shared->Prop),Inv X pins σ H s->(∀b∈fp,yh X pins H b)->tn i s.heap->J.go i H ->
  wpAny (model P w) X.A (pyNext (.ref it)) (λr s1=>∃u,r=ba u /\
   wpAny (model P w) X.A (mZ tg (.ref it) u) (λ_ s2=>∃x H',Inv X pins σ H' s2/\jH x u/\J.yld i H x H'/\tn (i+1) s2.heap/\∀b∈fp,H' b=bc) E s1) E s
 done:∀(X:Cx),X.prog=P->X.w=w->X.K=K->X.calm=bh->∀(i:Nat) (pins:List (Addr×mE)) (s:Shared) (σ:St) (H:Hp) (E:bq->Shared->Prop),Inv X pins σ H s->(∀b∈fp,yh X pins H b)->tn i s.heap->J.stop i H ->
  wpAny (model P w) X.A (pyNext (.ref it)) (λr s1=>r=bc/\Inv X pins σ H s1) E s
 self:∀(A:gz) (i:Nat) (s:Shared) (Q:bq->Shared->Prop) (E:bq->Shared->Prop),tn i s.heap->Q (.ref it) s->wpAny (model P w) A (pyIter (.ref it)) Q E s
abbrev TI:=St->Hp->(It->Hp->Prop)->Prop
def PIE(X:Cx)(pins:List (Addr×mE))(σ:St)(tg:bU)(R:It->Hp->Prop)(itv:bq)(s2:Shared):Prop :=
 ∃(it:Addr) (fp:List Addr) (tn:Nat->dR->Prop) (J:It) (H':Hp),itv=.ref it/\Inv X pins σ H' s2/\Turn X.prog X.w X.K tg J fp it tn/\tn 0 s2.heap/\(∀b∈fp,yh X pins H' b)/\R J H'
def PI(X:Cx)(tg iter:bU)(wi:TI):Prop :=
 ∀(pins:List (Addr×mE)) (s:Shared) (σ:St) (H:Hp) (R:It->Hp->Prop),Inv X pins σ H s->wi σ H R ->
  wpAny (model X.prog X.w) X.A (eval iter X.env) (λv s1=>wpAny (model X.prog X.w) X.A (pyIter v) (PIE X pins σ tg R) X.xe s1) X.xe s
variable{vs:List V}
theorem Xi{s:Shared}{n:String}{vs:Array bq}{Q:Unit->Shared->Prop}(ho:s.heap.get? it=ba o)(hc:o.cls=.type n)(hd:o.data=.fields vs)
 (hn:["enumerate","zip","dict_itemiterator","dict_reverseitemiterator","odict_iterator","itertools.zip_longest","itertools.pairwise"].contains n=bj) (hQ:Q () s):wpAny M A (mZ tg (.ref it) u) Q E s:=by
 unfold mZ
 cases tg<;>first
  |exact bA hQ
  |(cases u<;>first
   |exact bA hQ
   |(refine bo (wpAny_load ho ?_)
     rw[hc,hd];show wpAny M A (if (["enumerate","zip","dict_itemiterator","dict_reverseitemiterator","odict_iterator","itertools.zip_longest","itertools.pairwise"].contains n&&vs[0]? == ba (rawInt _))=bh then _ else _) Q E s;rw[if_neg (by intro h;rw[hn,Bool.false_and]at h;cases h)]
     exact bA hQ))
def Itl(K:bx)(a:Addr):It :=
 ⟨λi H=>∃xs x,SqL K H a xs/\xs[i]?=ba x,λi H x H'=>H'=H/\∀xs,SqL K H a xs->xs[i]?=ba x,λi H=>∃xs,SqL K H a xs/\xs.length<=i⟩
def Itt(K:bx)(a:Addr):It :=
 ⟨λi H=>∃xs x,SqT K H a xs/\xs[i]?=ba x,λi H x H'=>H'=H/\∀xs,SqT K H a xs->xs[i]?=ba x,λi H=>∃xs,SqT K H a xs/\xs.length<=i⟩
theorem xQ(a it:Addr):Turn P w K tg (Itl K a) [it] it (λi h=>h.IsListIter it a i) where
 mem:=by simp
 obj:=λi h st b hb=>by
  have e:b=it:=by simpa using hb
  subst e;obtain⟨o,e,c,d⟩:=st;exact⟨o,e,λv z=>by rw[d]at z;cases z⟩
 keep:=λi h h' st k=>st.at λo e=>k it (by simp) o e
 item:=by
  intro X hP hw hK hc i pins s σ H E I hf st hg;subst hP hw hK;obtain⟨xs,x,hq,hx⟩:=hg;obtain⟨its,rv,p,hz⟩:=I.list hq;obtain⟨u,hu,ru⟩:=rv.get hx;obtain⟨f0,f1,f2,f3,f4,f5⟩:=hf it (by simp)
  refine sf st p.isList (x:=u) (by simpa using hu) λh' st' sb=>?_
  have I1:Inv X pins σ H { s with heap:=h' }:=I.turned (t':=s.toks) (λb o hb e=>(sb.2 b hb).trans e) f0 f1 f3 f4 f5;obtain⟨o,e,c,d⟩:=id st';exact⟨u,rfl,Xi (s:={ s with heap:=h' }) e c d (by decide) ⟨x,H,I1,ru,⟨rfl,λys hy=>by rw[I.list_inj hy hq];exact hx⟩,st',λb hb=>(hf b hb).1⟩⟩
 done:=by
  intro X hP hw hK hc i pins s σ H E I hf st hg;subst hP hw hK;obtain⟨xs,hq,hx⟩:=hg;obtain⟨its,rv,p,hz⟩:=I.list hq;obtain⟨f0,f1,f2,f3,f4,f5⟩:=hf it (by simp);have hl:=rv.length
  exact jhl (I.ok.hd hc) st p.isList (by simp;omega) λh' eb=>⟨rfl,I.turned (t':=s.toks) (λb o hb e=>eb b o hb e) f0 f1 f3 f4 f5⟩
 self:=λ_ _ _ _ _ st h=>wpAny_pyIter_listiter st h
theorem XR(a it:Addr):Turn P w K tg (Itt K a) [it] it (λi h=>h.IsTupleIter it a i) where
 mem:=by simp
 obj:=λi h st b hb=>by
  have e:b=it:=by simpa using hb
  subst e;obtain⟨o,e,c,d⟩:=st;exact⟨o,e,λv z=>by rw[d]at z;cases z⟩
 keep:=λi h h' st k=>st.at λo e=>k it (by simp) o e
 item:=by
  intro X hP hw hK hc i pins s σ H E I hf st hg;subst hP hw hK;obtain⟨xs,x,hq,hx⟩:=hg;obtain⟨its,rv,p,hz⟩:=I.tuple hq;obtain⟨u,hu,ru⟩:=rv.get hx;obtain⟨f0,f1,f2,f3,f4,f5⟩:=hf it (by simp)
  refine wpAny_pyNext_tuple_item st (show s.heap.IsTuple a its.toArray from p) (x:=u) (by simpa using hu) λh' st' sb=>?_
  have I1:Inv X pins σ H { s with heap:=h' }:=I.turned (t':=s.toks) (λb o hb e=>(sb.2 b hb).trans e) f0 f1 f3 f4 f5;obtain⟨o,e,c,d⟩:=id st';exact⟨u,rfl,Xi (s:={ s with heap:=h' }) e c d (by decide) ⟨x,H,I1,ru,⟨rfl,λys hy=>by rw[I.tuple_inj hy hq];exact hx⟩,st',λb hb=>(hf b hb).1⟩⟩
 done:=by
  intro X hP hw hK hc i pins s σ H E I hf st hg;subst hP hw hK;obtain⟨xs,hq,hx⟩:=hg;obtain⟨its,rv,p,hz⟩:=I.tuple hq;obtain⟨f0,f1,f2,f3,f4,f5⟩:=hf it (by simp);have hl:=rv.length
  exact wpAny_pyNext_tuple_end (I.ok.hd hc) st (show s.heap.IsTuple a its.toArray from p) (by simp;omega) λh' eb=>⟨rfl,I.turned (t':=s.toks) (λb o hb e=>eb b o hb e) f0 f1 f3 f4 f5⟩
 self:=λ_ _ _ _ _ st h=>wpAny_pyIter_tupleiter st h
variable{fp:List Addr}
section
variable {X:Cx} {tg:bU}
def jc7(K:bx)(tl:TE):TI:=λσ H R=>tl σ H λx H1=>∃a,x=.ref a/\(∃xs,SqL K H1 a xs)/\R (Itl K a) H1
theorem jcc{l:bU}{tl:TE}(hl:PE X l tl):PI X tg l (jc7 X.K tl):=by
 intro pins s σ H R I h
 refine thn (hl pins s σ H _ I h) λv s1 ⟨x,H1,I1,r1,q1⟩=>?_
 obtain⟨a,e,⟨xs,hq⟩,q⟩:=q1;subst e;cases r1;obtain⟨its,rv,p,hz⟩:=I1.list hq;refine gP p.isList ?_;refine⟨s1.heap.objs.size,[s1.heap.objs.size],_,_,H1,rfl,I1.kept (t':=s1.toks) λb o e=>bu _ e,xQ a _,⟨_,bM _ rfl,rfl,rfl⟩,λb hb=>?_,q⟩
 have e:b=s1.heap.objs.size:=by simpa using hb
 subst e;exact I1.fpOk (bN _) (I1.hok.fresh (bN _))
def jgN(wi:TI)(g:TG)(tb:TS):TS:=λD σ H=>wi σ H λJ H1=>∃W:Nat->Nat->St->Hp->Prop,(∃m,W 0 m σ H1)/\∀i m σ H,W i m σ H ->
 (J.stop i H/\D.nx σ H)\/(J.go i H/\∃N:St->Hp->Prop,(∀σ' H',N σ' H'->∃m',m'<m/\W (i+1) m' σ' H')/\∀x H',J.yld i H x H'->g x σ H' λσ2 H2=>tb { D with nx:=N,ct:=N,bk:=D.nx } σ2 H2)
def KY(fp:List Addr)(h:dR):List (Addr×mE):=fp.filterMap λb=>(h.get? b).map λo=>(b,o)
theorem qB(hb:b∈fp)(e:h.get? b=ba o):(b,o)∈KY fp h:=pS.mpr ⟨b,hb,by rw[e];rfl⟩
theorem Z3{p:Addr×mE}(hp:p∈KY fp h):p.1∈fp/\h.get? p.1=ba p.2:=by
 obtain⟨b,hb,e⟩:=pS.mp hp
 cases q:h.get? b with
 |none=>rw[q]at e;cases e
 |some o =>
  rw[q]at e;have e':(b,o)=p:=dF e;subst e';exact⟨hb,q⟩
theorem Inv.pinned{s:Shared}(I:Inv X pins σ H s)(hf:∀b∈fp,yh X pins H b)(ho:∀b∈fp,∃o,s.heap.get? b=ba o/\∀v,o.data ≠ .cell v):Inv X (pins++KY fp s.heap) σ H s :=
 I.pins_of λp hp=>(mj.mp hp).elim (λz=>I.pin p (b7 _ z)) λz=>by
  obtain⟨hb,e⟩:=Z3 z;obtain⟨f0,f1,f2,_⟩:=hf p.1 hb;obtain⟨o,e',d⟩:=ho p.1 hb;rw[e]at e';cases e';exact⟨e,f0,f1,f2,d⟩
theorem Inv.unpinned{pl:List (Addr×mE)}{s:Shared}(I:Inv X (pins++pl) σ H s):Inv X pins σ H s:=I.pins_of λp hp=>I.pin p (b7 _ (gZ _ hp))
theorem Jc{iter:bU}{wi:TI}{tb:TS}(hp:PassesOwn (model X.prog X.w) X.A X.env X.xe)(hc:X.calm=bh)(hi:PI X tg iter wi)(hg:PG X tg g)(hb:PSs X body tb)
 (hs:∀x,gQ iter X.env x=pure x:=by intro _;rfl):PS X (.For tg iter body [] pos) (jgN wi g tb):=by
 intro pins s σ H D I h;refine wpAny_For (thn (hi pins s σ H _ I h) λv s1 h1=>thn h1 λitv s2 h2=>?_) hs;obtain⟨it,fp,tn,J,H2,e,I2,T,st2,f2,W,⟨m0,w0⟩,zT⟩:=h2;subst e
 have stat:∀ {H':Hp},(∀b∈fp,H' b=bc)->∀b∈fp,yh X pins H' b:=λhn b hb=>⟨hn b hb,(f2 b hb).2⟩
 refine codeAny_forLoop_any (λn s'=>∃i σ' H',Inv X pins σ' H' s'/\tn i s'.heap/\(∀b∈fp,H' b=bc)/\W i n σ' H') ?_ m0 ⟨0,σ,H2,I2,st2,λb hb=>(f2 b hb).1,w0⟩;rintro n s3 ⟨i,σ3,H3,I3,st3,fr3,w3⟩;rcases zT i n σ3 H3 w3 with⟨stop,qn⟩|⟨go,N,hN,step⟩
 ·refine mY hp (thn (T.done X rfl rfl rfl hc i pins s3 σ3 H3 X.xe I3 (stat fr3) st3 stop) λr s4 ⟨hr,I4⟩=>?_);subst hr;exact tL ⟨σ3,H3,I4,qn⟩
 ·refine mY hp (thn (T.item X rfl rfl rfl hc i pins s3 σ3 H3 X.xe I3 (stat fr3) st3 go) λr s4 ⟨u,hr,h4⟩=>?_);subst hr;refine mY hp (thn h4 λ_ s5 ⟨x,H5,I5,r5,y5,st5,fr5⟩=>?_);have I5':=I5.pinned (stat fr5) (T.obj _ _ st5);refine mY hp (thn (hg _ s5 σ3 H5 x u _ I5' r5 (step x H5 y5)) λ_ s6 ⟨σ6,H6,I6,q6⟩=>?_);refine mY hp (thn (hb _ s6 σ6 H6 _ I6 q6) λf s7 q7=>?_)
  have again:∀ {σ7:St} {H7:Hp},Inv X (pins++KY fp s5.heap) σ7 H7 s7->N σ7 H7->∃m,m<n/\∃i σ' H',Inv X pins σ' H' s7/\tn i s7.heap/\(∀b∈fp,H' b=bc)/\W i m σ' H':=λ{σ7 H7} I7 n7=>by
   obtain⟨m',hm,w7⟩:=hN σ7 H7 n7;refine⟨m',hm,i+1,σ7,H7,I7.unpinned,T.keep _ _ _ st5 λb hb o e=>(I7.pin (b,o) (b7 _ (b7 _ (qB hb e)))).1,λb hb=>?_,w7⟩;obtain⟨o,e,d⟩:=T.obj _ _ st5 b hb;exact(I7.pin (b,o) (b7 _ (b7 _ (qB hb e)))).2.1
  cases f with
  |next=>obtain⟨σ7,H7,I7,n7⟩:=q7;exact again I7 n7
  |cont=>obtain⟨σ7,H7,I7,n7⟩:=q7;exact again I7 n7
  |brk=>obtain⟨σ7,H7,I7,q7⟩:=q7;exact⟨σ7,H7,I7.unpinned,q7⟩
  |ret v=>obtain⟨x7,σ7,H7,I7,r7,q7⟩:=q7;exact⟨x7,σ7,H7,I7.unpinned,r7,q7⟩
end
theorem ja4{tb:TS}{D:Ends}(Pv:Nat->St->Hp->Prop)(h0:Pv 0 σ H)(hl:∀i σ H,i<=xs.length->Pv i σ H->SqL K H a xs)
 (hs:∀i x σ H,xs[i]?=ba x->Pv i σ H->g x σ H λσ2 H2=>tb { D with nx:=Pv (i+1),ct:=Pv (i+1),bk:=D.nx } σ2 H2) (hd:∀σ H,Pv xs.length σ H->D.nx σ H) :
 ∃W:Nat->Nat->St->Hp->Prop,(∃m,W 0 m σ H)/\∀i m σ H,W i m σ H ->
  ((Itl K a).stop i H/\D.nx σ H)\/((Itl K a).go i H/\∃N:St->Hp->Prop,(∀σ' H',N σ' H'->∃m',m'<m/\W (i+1) m' σ' H')/\∀x H',(Itl K a).yld i H x H'->g x σ H' λσ2 H2=>tb { D with nx:=N,ct:=N,bk:=D.nx } σ2 H2):=by
 refine⟨λi m σ H=>m=xs.length-i/\i<=xs.length/\Pv i σ H,⟨xs.length,by simp,gf _,h0⟩,?_⟩;rintro i m σ H ⟨rfl,hi,p⟩;have q:=hl i σ H hi p;by_cases hlt:i<xs.length
 ·refine .inr ⟨⟨xs,xs[i],q,by simp[hlt]⟩,Pv (i+1),λσ' H' p'=>⟨xs.length-(i+1),by omega,rfl,hlt,p'⟩,λx H' y=>?_⟩;obtain⟨e,y⟩:=y;subst e;exact hs i x σ _ (y xs q) p
 ·have e:i=xs.length:=by omega
  subst e;exact .inl ⟨⟨xs,q,bN _⟩,hd σ H p⟩
abbrev R2:=V->V->Hp->VK->Prop
def OpR(X:Cx)(f:bq->bq->Sem bq)(r:R2):Prop :=
 ∀(pins:List (Addr×mE)) (s:Shared) (σ:St) (H:Hp) (x y:V) (v u:bq) (Q:VK),Inv X pins σ H s->jH x v->jH y u->r x y H Q ->
  wpAny (model X.prog X.w) X.A (f v u) (EP X pins σ Q) X.xe s
def UnR(X:Cx)(f:bq->Sem bq)(r:V->Hp->VK->Prop):Prop :=
 ∀(pins:List (Addr×mE)) (s:Shared) (σ:St) (H:Hp) (x:V) (v:bq) (Q:VK),Inv X pins σ H s->jH x v->r x H Q ->
  wpAny (model X.prog X.w) X.A (f v) (EP X pins σ Q) X.xe s
def kJ(X:Cx)(f:bq)(r:List V->Hp->VK->Prop):Prop :=
 ∀(pins:List (Addr×mE)) (s:Shared) (σ:St) (H:Hp) (xs:List V) (us:List bq) (Q:VK),Inv X pins σ H s->jv xs us->r xs H Q ->
  wpAny (model X.prog X.w) X.A (call f us) (EP X pins σ Q) X.xe s
def tOp(r:R2)(ta tb:TE):TE:=λσ H Q=>ta σ H λx H1=>tb σ H1 λy H2=>r x y H2 Q
def tUn(r:V->Hp->VK->Prop)(ta:TE):TE:=λσ H Q=>ta σ H λx H1=>r x H1 Q
def rI0(g:Int->Int->V):R2:=λx y H Q=>∃i j,x=.int i/\y=.int j/\Q (g i j) H
def rU(g:Int->V):V->Hp->VK->Prop:=λx H Q=>∃i,x=.int i/\Q (g i) H
variable{r:R2}
section
variable {X:Cx} {a b c:bU} {ta tb tc:TE} {pos:Pos}
theorem jd9(ha:PE X a ta)(hb:PE X b tb){s:Shared}{R:V->V->Hp->Prop}(I:Inv X pins σ H s)
 (h:ta σ H λx H1=>tb σ H1 λy H2=>R x y H2)  
 (hf:∀v u s2 x y H2,Inv X pins σ H2 s2->jH x v->jH y u->R x y H2->wpAny (model X.prog X.w) X.A (f v u) Q X.xe s2) :
 wpAny (model X.prog X.w) X.A (eval a X.env) (λv s₁=>wpAny (model X.prog X.w) X.A (eval b X.env) (λu s₂=>wpAny (model X.prog X.w) X.A (f v u) Q X.xe s₂) X.xe s₁) X.xe s:=by
 refine thn (ha pins s σ H _ I h) λv s1 ⟨x,H1,I1,r1,q1⟩=>?_
 refine thn (hb pins s1 σ H1 _ I1 q1) λu s2 ⟨y,H2,I2,r2,q2⟩=>?_
 exact hf v u s2 x y H2 I2 r1 r2 q2
theorem jdf{op:t5}(ho:OpR X (t6 op) r)(ha:PE X a ta)(hb:PE X b tb):PE X (.BinOp a op b pos) (tOp r ta tb):=by
 intro pins s σ H Q I h;exact wpAny_BinOp (jd9 ha hb I h λv u s2 x y H2 I2 rx ry q=>ho pins s2 σ H2 x y v u Q I2 rx ry q)
theorem jfr{op:jjT}{r:V->Hp->VK->Prop}(ho:UnR X (unaryOp op) r)(ha:PE X a ta):PE X (.UnaryOp op a pos) (tUn r ta):=by
 intro pins s σ H Q I h;exact UnaryOp_ (thn (ha pins s σ H _ I h) λv s1 ⟨x,H1,I1,r1,q1⟩=>ho pins s1 σ H1 x v Q I1 r1 q1)
theorem jgK{g:Int->Int->Int}
 (rule:∀(i j:Int) (t u:Tok) (s:Shared) (Q:bq->Shared->Prop) (E:bq->Shared->Prop),Q (.int (g i j) s.toks) { s with toks:=s.toks+1 }->wpAny (model X.prog X.w) X.A (f (.int i t) (.int j u)) Q E s) :
 OpR X f (rI0 λi j=>.int (g i j)):=by
 intro pins s σ H x y v u Q I rx ry h;obtain⟨i,j,rfl,rfl,q⟩:=h;obtain⟨t,rfl⟩:=rx;obtain⟨t',rfl⟩:=ry;exact rule i j t t' s _ _ ⟨.int (g i j),H,I.tok _,⟨_,rfl⟩,q⟩
theorem jbL{g:Int->Int->Bool}
 (rule:∀(i j:Int) (t u:Tok) (s:Shared) (Q:bq->Shared->Prop) (E:bq->Shared->Prop),Q (.bool (g i j)) s->wpAny (model X.prog X.w) X.A (f (.int i t) (.int j u)) Q E s) :
 OpR X f (rI0 λi j=>.bl (g i j)):=by
 intro pins s σ H x y v u Q I rx ry h;obtain⟨i,j,rfl,rfl,q⟩:=h;obtain⟨t,rfl⟩:=rx;obtain⟨t',rfl⟩:=ry;exact rule i j t t' s _ _ ⟨.bl (g i j),H,I,rfl,q⟩
def jgC(i j:Int):Prop:=0<j/\j<1073741824
theorem jd8:OpR X (t6 .BitAnd) (rI0 λi j=>.int (jhv i j)):=jgK λ_ _ _ _ _ _ _ q=>and_int q
theorem unI{f:bq->Sem bq}{g:Int->Int}
 (rule:∀(i:Int) (t:Tok) (s:Shared) (Q:bq->Shared->Prop) (E:bq->Shared->Prop),Q (.int (g i) s.toks) { s with toks:=s.toks+1 }->wpAny (model X.prog X.w) X.A (f (.int i t)) Q E s) :
 UnR X f (rU λi=>.int (g i)):=by
 intro pins s σ H x v Q I rx h;obtain⟨i,rfl,q⟩:=h;obtain⟨t,rfl⟩:=rx;exact rule i t s _ _ ⟨.int (g i),H,I.tok _,⟨_,rfl⟩,q⟩
theorem jdD:UnR X (unaryOp .USub) (rU λi=>.int (-i)):=unI λ_ _ _ _ _ q=>neg_int q
end
variable{op':tP}{r':R2}
section
variable {X:Cx} {a b c:bU} {ta tb tc:TE} {pos:Pos}
theorem UW{s:Shared}{Q:VK}{k k':Bool}(I:Inv X pins σ H s)(q:Q (.bl k) H)(e:k=k'):EP X pins σ Q (.bool k') s:=by
 subst e;exact⟨.bl k,H,I,rfl,q⟩
theorem jf0:OpR X (gU .Lt) (rI0 λi j=>.bl (decide (i<j))):=jbL λ_ _ _ _ _ _ _ q=>lt_int q
theorem jfQ:OpR X (gU .LtE) (rI0 λi j=>.bl (decide (i<=j))):=jbL λ_ _ _ _ _ _ _ q=>le_int q
theorem jfo:OpR X (gU .Gt) (rI0 λi j=>.bl (decide (j<i))):=jbL λ_ _ _ _ _ _ _ q=>gt_int q
theorem jfZ:OpR X (gU .GtE) (rI0 λi j=>.bl (decide (j<=i))):=jbL λ_ _ _ _ _ _ _ q=>ge_int q
theorem Uc:OpR X (gU .In) (λx y H Q=>∃i j,x=.str i/\y=.str j/\Q (.bl (!(gA j i 0 j.length 1).isEmpty)) H):=by
 intro pins s σ H x y v u Q I rx ry h;obtain⟨i,j,rfl,rfl,q⟩:=h;obtain⟨t,rfl⟩:=rx;obtain⟨t',rfl⟩:=ry;exact in_str (UW I q rfl)
theorem Kn:OpR X (gU .NotIn) (λx y H Q=>∃i j,x=.str i/\y=.str j/\Q (.bl (!(!(gA j i 0 j.length 1).isEmpty))) H):=by
 intro pins s σ H x y v u Q I rx ry h;obtain⟨i,j,rfl,rfl,q⟩:=h;obtain⟨t,rfl⟩:=rx;obtain⟨t',rfl⟩:=ry;exact notIn_str (UW I q rfl)
theorem Ko{op:tP}(ho:OpR X (gU op) r)(ha:PE X a ta)(hb:PE X b tb)(hm:nz op b=bj):PE X (.Compare a [op] [b] pos) (tOp r ta tb):=by
 intro pins s σ H Q I h;exact wpAny_Compare1 (jd9 ha hb I h λv u s2 x y H2 I2 rx ry q=>ho pins s2 σ H2 x y v u Q I2 rx ry q) hm
def jc4(t:TE):TT:=λσ H Q=>t σ H λx H'=>∃k,x=.bl k/\Q k H'
theorem KS{op:tP}(ho:OpR X (gU op) r)(ha:PE X a ta)(hb:PE X b tb)(hm:nz op b=bj):PT X (.Compare a [op] [b] pos) (jc4 (tOp r ta tb)):=by
 intro pins s σ H Q I h
 refine jhk (thn (ha pins s σ H _ I h) λv s1 ⟨x,H1,I1,r1,q1⟩=>thn (hb pins s1 σ H1 _ I1 q1) λu s2 ⟨y,H2,I2,r2,q2⟩ =>
  thn (ho pins s2 σ H2 x y v u _ I2 r1 r2 q2) λc s3 ⟨z,H3,I3,r3,k,e,q3⟩=>?_) hm
 subst e;cases r3;exact gg ⟨H3,I3,q3⟩
def tChain(r r':R2)(ta tb tc:TE):TE:=λσ H Q=>ta σ H λx H1=>tb σ H1 λy H2=>r x y H2 λz H3=>∃k,z=.bl k /\
 (if k=bh then tc σ H3 λw' H4=>r' y w' H4 Q else Q (.bl bj) H3)
theorem jaS{op:tP}(ho:OpR X (gU op) r)(ho':OpR X (gU op') r')(ha:PE X a ta)(hb:PE X b tb)(hc:PE X c tc)
 (hm:jjH [op,op'] [b,c]=false:=by with_unfolding_all rfl):PE X (.Compare a [op,op'] [b,c] pos) (tChain r r' ta tb tc):=by
 intro pins s σ H Q I h
 refine Compare_chain (thn (ha pins s σ H _ I h) λv s1 ⟨x,H1,I1,r1,q1⟩=>chain_link (thn (hb pins s1 σ H1 _ I1 q1) λu s2 ⟨y,H2,I2,r2,q2⟩ =>
  thn (ho pins s2 σ H2 x y v u _ I2 r1 r2 q2) λd s3 ⟨z,H3,I3,r3,k,e,q3⟩=>?_)) hm
 subst e;cases r3;refine gg ?_
 cases k with
 |false=>exact ite_ff ⟨.bl bj,H3,I3,rfl,q3⟩
 |true=>exact ite_tt (chain_last (thn (hc pins s3 σ H3 _ I3 q3) λw' s4 ⟨z',H4,I4,r4,q4⟩=>ho' pins s4 σ H4 y z' u w' Q I4 r2 r4 q4))
theorem VX{op:tP}(ho:OpR X (gU op) r)(ho':OpR X (gU op') r')(ha:PE X a ta)(hb:PE X b tb)(hc:PE X c tc)
 (hm:jjH [op,op'] [b,c]=false:=by with_unfolding_all rfl):PT X (.Compare a [op,op'] [b,c] pos) (jc4 (tChain r r' ta tb tc)):=by
 intro pins s σ H Q I h
 refine isTrue_chain (thn (ha pins s σ H _ I h) λv s1 ⟨x,H1,I1,r1,q1⟩=>test_link (thn (hb pins s1 σ H1 _ I1 q1) λu s2 ⟨y,H2,I2,r2,q2⟩ =>
  thn (ho pins s2 σ H2 x y v u _ I2 r1 r2 q2) λd s3 ⟨z,H3,I3,r3,k,e,q3⟩=>?_)) hm
 subst e;cases r3;refine gg ?_
 cases k with
 |false =>
  obtain⟨k',e',q'⟩:=q3;cases e'
  exact ite_ff ⟨H3,I3,q'⟩
 |true =>
  refine ite_tt (test_last (thn (hc pins s3 σ H3 _ I3 q3) λw' s4 ⟨z',H4,I4,r4,q4⟩=>thn (ho' pins s4 σ H4 y z' u w' _ I4 r2 r4 q4) λd' s5 ⟨z2,H5,I5,r5,k2,e2,q5⟩=>?_));subst e2;cases r5;exact gg ⟨H5,I5,q5⟩
theorem vI:(sizeLine:Nat)<2^63:=by rw[dI];decide
theorem Yv:OpR X (t6 .Add) (λx y H Q=>∃i j,x=.str i/\y=.str j/\i.length+j.length<=sizeLine/\Q (.str (i++j)) H):=by
 intro pins s σ H x y v u Q I rx ry h;obtain⟨i,j,rfl,rfl,hz,q⟩:=h;obtain⟨t,rfl⟩:=rx;obtain⟨t',rfl⟩:=ry;exact add_str (λt' tk=>⟨.str (i++j),H,I.tok _,⟨_,rfl⟩,q⟩) hz
theorem qf{x:V}(r:jv [x] us):∃u,us=[u]/\jH x u:=by
 cases r with
 |cons r1 r2=>cases r2;exact⟨_,rfl,r1⟩
theorem JO{x:V}(r:jv [x,y] us):∃u w',us=[u,w']/\jH x u/\jH y w':=by
 cases r with
 |cons r1 r2 =>
  cases r2 with
  |cons r3 r4=>cases r4;exact⟨_,_,rfl,r1,r3⟩
theorem jbb:kJ X (.builtin "abs") (λxs H Q=>∃i,xs=[.int i]/\Q (.int (if i<0 then -i else i)) H):=by
 intro pins s σ H xs us Q I r h;obtain⟨i,rfl,q⟩:=h;obtain⟨u,rfl,t,rfl⟩:=qf r
 exact call_abs_int λu tk=>⟨.int (if i<0 then -i else i),H,I.tok _,⟨_,rfl⟩,q⟩
theorem UT(hc:X.calm=bh):kJ X (.builtin "max") (λxs H Q=>∃i j,xs=[.int i,.int j]/\Q (.int (if j > i then j else i)) H):=by
 intro pins s σ H xs us Q I r h;obtain⟨i,j,rfl,q⟩:=h;obtain⟨u,w',rfl,⟨t,rfl⟩,⟨t',rfl⟩⟩:=JO r
 refine max_two_ints (I.ok.hd hc) λh' tk k=>⟨_,H,I.kept k,?_,q⟩
 by_cases hj:j > i
 ·rw[if_pos hj,if_pos hj];exact⟨_,rfl⟩
 ·rw[if_neg hj,if_neg hj];exact⟨_,rfl⟩
theorem Uw(hc:X.calm=bh):kJ X (.builtin "min") (λxs H Q=>∃i j,xs=[.int i,.int j]/\Q (.int (if j<i then j else i)) H):=by
 intro pins s σ H xs us Q I r h;obtain⟨i,j,rfl,q⟩:=h;obtain⟨u,w',rfl,⟨t,rfl⟩,⟨t',rfl⟩⟩:=JO r
 refine min_two_ints (I.ok.hd hc) λh' tk k=>⟨_,H,I.kept k,?_,q⟩
 by_cases hj:j<i
 ·rw[if_pos hj,if_pos hj];exact⟨_,rfl⟩
 ·rw[if_neg hj,if_neg hj];exact⟨_,rfl⟩
theorem JT:kJ X (.type "int") (λxs H Q=>(∃i,xs=[.int i]/\Q (.int i) H)\/∃k,xs=[.bl k]/\Q (.int (if k then 1 else 0)) H):=by
 intro pins s σ H xs us Q I r h;rcases h with⟨i,rfl,q⟩|⟨k,rfl,q⟩
 ·obtain⟨u,rfl,t,rfl⟩:=qf r;exact call_int_int ⟨.int i,H,I,⟨_,rfl⟩,q⟩
 ·obtain⟨u,rfl,r1⟩:=qf r;cases r1;exact call_int_bool ⟨.int (if k then 1 else 0),H,I.tok _,⟨_,rfl⟩,q⟩
theorem zY:kJ X (.type "str") (λxs H Q=>∃i,xs=[.int i]/\i.natAbs.log2<1920/\Q (.str (toString i)) H):=by
 intro pins s σ H xs us Q I r h;obtain⟨i,rfl,hz,q⟩:=h;obtain⟨u,rfl,t,rfl⟩:=qf r;exact PySem.P.str_of_int hz ⟨.str _,H,I.tok _,⟨_,rfl⟩,q⟩
theorem Qx:kJ X (.builtin "divmod") (λxs H Q=>∃i j,xs=[.int i,.int j]/\jgC i j/\∀p,H p=bc->Q (.ref p) (upd H p (.tup [.int (i / j),.int (i%j)]))):=by
 intro pins s σ H xs us Q I r h;obtain⟨i,j,rfl,⟨h1,h2⟩,q⟩:=h;obtain⟨u,w',rfl,⟨t,rfl⟩,⟨t',rfl⟩⟩:=JO r;refine divmod_int (by omega) ?_ (.inl (jg5 (by omega)));rw[t8 i (by omega),t9 i (by omega)];have hn:H s.heap.objs.size=none:=I.hok.fresh (bN _);refine⟨.ref s.heap.objs.size,_,?_,rfl,q _ hn⟩;refine I.laid (λb o e=>bu _ e) (bN _) ⟨by simp only[b6,pO];rw[dI];decide,[.int (i / j) s.toks,.int (i%j) (s.toks+1)],.cons ⟨_,rfl⟩ (.cons ⟨_,rfl⟩ .nil),?_⟩;exact⟨_,bM s.heap rfl,rfl,0,rfl⟩
end
structure ObjM (h:dR) (x dx C:Addr) (mA:bF->Option bq):Prop where
 obj:h.get? x=ba (mF C dx)
 ns:h.Ns1 dx mA
 ne:dx≠x
variable{dx:Addr}{mA:bF->Option bq}
theorem ZQ(n:h.Ns1 dx mA):∃od,h.get? dx=ba od/\∀name,jhw name od=ba (mA name):=by
 obtain⟨o,es,ep,ho,hd,hk,_,hm⟩:=n;refine⟨o,ho,λname=>?_⟩;have e:=hm name;unfold nsFind findBy at e;rw[<- jh8]at e;unfold jhw;rw[hd];dsimp only;split
 ·rename_i y q;rw[q]at e;exact congrArg ba e
 ·rename_i q;rw[q]at e
  have a:es.toList.any (·.refKey)=false:=by
   rw[List.any_eq_false];intro y hy;obtain⟨z,t,hkey⟩:=hk y (jhx.mp hy);simp[DictEntry.refKey,hkey]
  have a':¬ es.toList.any (·.refKey)=true:=by rw[a];exact df
  rw[if_neg a'];exact congrArg ba e
theorem ObjM.look{x C:Addr}(I:ObjM h x dx C mA):∃od,PySem.W.InstAt h x (mF C dx) C (ba od)/\∀name,jhw name od=ba (mA name) :=
 let ⟨od,ho,hl⟩:=ZQ I.ns
 ⟨od,⟨I.obj,rfl,rfl,ho⟩,hl⟩
variable{kw:List (bF×bq)}
section
variable {prog:dg} {w:World} {A:gz} {E:bq->Shared->Prop} {s:Shared} {K:bx} {x dx C f:Addr} {mA:bF->Option bq} {name:bF} {v:bq}
theorem jc1{expr:Bool}(X:K.In s.heap)(I:ObjM s.heap x dx C mA)(hg:wV K C name=bh)(hh:wD K C=bh)
 (ha:mP K (.ref C) name=ba bc) (hv:mA name=ba v) (hv':jiG v=bh) (h:Q v { s with toks:=s.toks+1 }) :
 wpAny (model prog w) A (jhN (.ref x) name expr) Q E s:=by
 obtain⟨od,J,hl⟩:=I.look;exact PySem.W.get_value X J (PySem.W.plainGet_of hg).1 (PySem.W.findObj_own hh ha rfl (by rw[hl,hv])) hv' h
theorem jb9{ns:List bF}{Q:Unit->Shared->Prop}(X:K.In s.heap)(I:ObjM s.heap x dx C mA)
 (hs:mP K (.ref C) "__setattr__"=ba (ba (.builtin "object.__setattr__"))) (hp:jim K C=bh) (ht:jhi K C name=ba bc) (hh:wD K C=bh)
 (hw:jil mA ns) (hsz:ns.length<=sizeLine)
 (h:∀h',ObjM h' x dx C (λy=>if y=name then ba v else mA y)->mq dx s.heap h'->Q () { s with heap:=h',toks:=s.toks+2 }) :
 wpAny (model prog w) A (jjU (.ref x) name v) Q E s:=by
 obtain⟨od,J,hl⟩:=I.look;refine PySem.W.set_plain X J hs (PySem.W.osa_open (s:={ s with toks:=s.toks+1 }) (r:=bc) X J hp ht λb=>?_);obtain⟨cd,hc,hd'⟩:=PySem.W.any_some hh;have hx:s.heap.get? x=ba ⟨.ref C,ba dx,.plain,#[]⟩:=I.obj;refine bo (bA (bo (bo (wpAny_loadPart hx (bo (jkp (s:={ s with toks:=s.toks+1 }) (PySem.W.looks_clsIn X hc) ?_))))));rw[hd'];refine bA (a:=ba dx) (bo (bA (bo ?_)))
 refine wpAny_nsSet1 (s:={ s with toks:=s.toks+1 }) I.ns λh' hn2 hs2=>?_
 obtain⟨oD,esD,epD,hoD,hdD,hcD⟩:=hn2.count (jku name v hw);refine bo (jiH hoD (by rw[hdD];exact jiI (dU hcD (by rw[b6];omega))) ?_);exact bA (h _ ⟨(hs2.2 _ (gC I.ne)).trans I.obj,hn2,I.ne⟩ hs2)
theorem jaW{R:Result->Shared->Prop}{vs:List bq}(X:K.In s.heap)(hm:ji1 K C=bh)
 (hi:mP K (.ref C) "__init__"=ba (ba (.ref f))) (hf:PySem.W.typeIn K (.ref f)=ba (.type "function"))
 (h:ph (model prog w) (A.under (.builtin "type.__call__" ⟨.ref C::vs,kw⟩)) (.call (.ref f) ⟨.ref (s.heap.objs.size+1)::vs,kw⟩) (PySem.W.InitBack (s.heap.objs.size+1) R)
  { s with heap:=(s.heap.push gR).push (mF C s.heap.objs.size) }) :
 ph (model prog w) A (.call (.ref C) ⟨vs,kw⟩) R s:=by
 obtain⟨hh,g,d,t,os⟩:=s;exact PySem.W.make_core (PySem.W.makes_of X hm) (PySem.W.looks_findIn X hi) (λself=>PySem.W.bind_fn X self hf) (.inl rfl) h
end
def xI(f:bF)(v:V):List (bF×V)->List (bF×V)
 |[]=>[(f,v)]
 |(g,x)::r=>if g=f then (g,v)::r else (g,x)::xI f v r
theorem qG(f g:bF)(v:V):∀fs:List (bF×V),(xI f v fs).lookup g=if g=f then ba v else fs.lookup g
 |[]=>by
  show n6 g [(f,v)]=_;by_cases h:g=f
  ·have hb:(g == f)=true:=beq_iff_eq.mpr h;simp only[n6,hb,if_pos h]
  ·have hb:(g == f)=false:=beq_eq_false_iff_ne.mpr h
   simp only[n6,hb,if_neg h]
 |(k,x)::r=>by
  have ih:=qG f g v r;rw[show xI f v ((k,x)::r)=(if k=f then (k,v)::r else (k,x)::xI f v r) from rfl];by_cases hk:k=f
  ·rw[if_pos hk];by_cases h:g=k
   ·have hb:(g == k)=true:=beq_iff_eq.mpr h;simp only[n6,hb,if_pos (h.trans hk)]
   ·have hb:(g == k)=false:=beq_eq_false_iff_ne.mpr h;simp only[n6,hb,if_neg (λe:g=f=>h (e.trans hk.symm))]
  ·rw[if_neg hk];by_cases h:g=k
   ·have hb:(g == k)=true:=beq_iff_eq.mpr h;simp only[n6,hb,if_neg (λe:g=f=>hk (h.symm.trans e))]
   ·have hb:(g == k)=false:=beq_eq_false_iff_ne.mpr h;simp only[n6,hb];exact ih
theorem uA(f:bF)(v:V):∀fs:List (bF×V),f∈(xI f v fs).map (·.1)/\∀g,g∈fs.map (·.1)->g∈(xI f v fs).map (·.1)
 |[]=>⟨by simp[xI],λg h=>by simp at h⟩
 |(k,x)::r=>by
  obtain⟨i1,i2⟩:=uA f v r;rw[show xI f v ((k,x)::r)=(if k=f then (k,v)::r else (k,x)::xI f v r) from rfl];by_cases hk:k=f
  ·rw[if_pos hk];subst hk;exact⟨by simp,λg h=>by simpa using h⟩
  ·rw[if_neg hk];refine⟨?_,λg h=>?_⟩
   ·rw[b5];exact bD _ i1
   ·rw[b5]at h ⊢;rcases bG.mp h with e|e
    ·exact bG.mpr (.inl e)
    ·exact bD _ (i2 g e)
theorem uL(f:bF)(v:V):∀fs:List (bF×V),(xI f v fs).length<=fs.length+1
 |[]=>by simp[xI]
 |(k,x)::r=>by
  have ih:=uL f v r;rw[show xI f v ((k,x)::r)=(if k=f then (k,v)::r else (k,x)::xI f v r) from rfl];by_cases hk:k=f
  ·rw[if_pos hk,b6,b6];omega
  ·rw[if_neg hk,b6,b6];omega
theorem XB.some_of{v:V}{o:Option bq}(r:XB (ba v) o):∃u,o=ba u/\jH v u:=by
 cases o with
 |none=>exact(show False from r).elim
 |some u=>exact⟨u,rfl,r⟩
theorem Uv{v:V}(r:jH v u):jiG u=true:=by
 cases v with
 |non=>cases (show u=gG from r);rfl
 |bl b=>cases (show u=jh4 b from r);rfl
 |int i=>obtain⟨t,e⟩:=(show ∃t,u=wR i t from r);cases e;rfl
 |str x=>obtain⟨t,e⟩:=(show ∃t,u=jhM x t from r);cases e;rfl
 |byt b=>obtain⟨t,e⟩:=(show ∃t,u=jkb b t from r);cases e;rfl
 |flt b=>obtain⟨t,e⟩:=(show ∃t,u=jkc b t from r);cases e;rfl
 |ref a=>cases (show u=dG a from r);rfl
 |ty n=>cases (show u=pR n from r);rfl
section
variable {P:dg} {w:World} {H H':Hp} {h h':dR} {a C dx:Addr} {fs fs':List (bF×V)}
theorem YT(hok:HOk P w H h)(e:H a=ba (.ins C dx fs)):∃mA,ObjM h a dx C mA/\(∀f,XB (fs.lookup f) (mA f))/\jil mA (fs.map (·.1))/\fs.length<=1000/\H dx=ba (.own a):=by
 obtain⟨d,z,ne,ob,mA,n,r,q⟩:=(show kO P w H h a (.ins C dx fs) from hok a _ e)
 exact⟨mA,⟨ob,n,ne⟩,r,q,z,d⟩
end
structure Cls (K:bx) (C:Addr):Prop where
 pg:wV K C Str.empty=bh
 hd:wD K C=bh
 po:jim K C=bh
 sa:mP K (.ref C) "__setattr__"=ba (ba (.builtin "object.__setattr__"))
theorem Cls.get{C:Addr}(c:Cls K C)(f:bF):wV K C f=true:=c.pg
def zf(K:bx)(C:Addr)(f:bF):Prop:=mP K (.ref C) f=ba bc
variable{f:Addr}
theorem zf.taker{C:Addr}{f:bF}(n:zf K C f):jhi K C f=ba none:=by
 unfold jhi;rw[show mP K (.ref C) f=ba bc from n];rfl
section
variable {X:Cx} {pins:List (Addr×mE)} {σ:St} {H:Hp} {s:Shared} {a C dx:Addr} {fs:List (bF×V)} {f:bF} {v:V} {A:gz} {E:bq->Shared->Prop}
theorem YC{b:Bool}(I:Inv X pins σ H s)(e:H a=ba (.ins C dx fs))(c:Cls X.K C)(n:zf X.K C f)(l:fs.lookup f=ba v)
 (h:∀u s',Inv X pins σ H s'->jH v u->Q u s'):wpAny (model X.prog X.w) A (jhN (.ref a) f b) Q E s:=by
 obtain⟨mA,O,r,_,_,_⟩:=YT I.hok e;obtain⟨u,hu,ru⟩:=XB.some_of (v:=v) (o:=mA f) (by rw[<- l];exact r f);exact jc1 I.kIn O (c.get f) c.hd n hu (Uv ru) (h u _ (I.tok _) ru)
theorem Yt{Q:Unit->Shared->Prop}(I:Inv X pins σ H s)(e:H a=ba (.ins C dx fs))(c:Cls X.K C)(n:zf X.K C f)(hl:fs.length<1000)(ry:jH y u)
 (h:∀s',Inv X pins σ (upd H a (.ins C dx (xI f y fs))) s'->Q () s'):wpAny (model X.prog X.w) A (jjU (.ref a) f u) Q E s:=by
 obtain⟨mA,O,r,wi,_,ho⟩:=YT I.hok e
 have hz:(fs.map (·.1)).length<=sizeLine:=by rw[bW,dI];omega
 refine jb9 I.kIn O c.sa c.po n.taker c.hd wi hz λh' O' sb=>h _ ?_
 have hd:∃o,h'.get? dx=ba o:=let ⟨o,_,_,e',_⟩:=O'.ns;⟨o,e'⟩;refine I.write (x:=a) (e:=dx) (by rw[e];exact wa) (.inr ho) (λb q hb z=>(sb.2 b hb).trans z) hd ?_;refine⟨by rw[je O.ne];exact ho,?_,O.ne,O'.obj,_,O'.ns,λg=>?_,λg hg=>?_⟩
 ·have:=uL f y fs;omega
 ·show XB ((xI f y fs).lookup g) (if g=f then ba u else mA g);rw[qG];by_cases q:g=f
  ·rw[if_pos q,if_pos q];exact ry
  ·rw[if_neg q,if_neg q];exact r g
 ·by_cases q:g=f
  ·rw[q];exact(uA f y fs).1
  ·refine(uA f y fs).2 g (wi g λz=>hg ?_);show (if g=f then ba u else mA g)=bc;rw[if_neg q];exact z
theorem Inv.made(I:Inv X pins σ H s):Inv X pins σ (upd (upd H s.heap.objs.size (.own (s.heap.objs.size+1))) (s.heap.objs.size+1) (.ins C s.heap.objs.size []))
 { s with heap:=(s.heap.push gR).push (mF C s.heap.objs.size) }:=by
 have e1:(s.heap.push gR).get? s.heap.objs.size=ba gR:=bM s.heap rfl
 have e2:((s.heap.push gR).push (mF C s.heap.objs.size)).get? (s.heap.objs.size+1)=ba (mF C s.heap.objs.size):=by
  have:=bM (s.heap.push gR) (o:=mF C s.heap.objs.size) rfl
  rwa [mQ]at this
 have e3:(s.heap.push gR).Ns s.heap.objs.size (λ_=>bc):=⟨gR,#[],_,e1,rfl,(λe he=>absurd he (by simp)),λ_=>rfl⟩
 have I1:=I.laid (a:=s.heap.objs.size) (o:=.own (s.heap.objs.size+1)) (h':=s.heap.push gR) (t':=s.toks) (λb u q=>bu _ q) (bN _) ⟨_,e1⟩;refine I1.laid (a:=s.heap.objs.size+1) (o:=.ins C s.heap.objs.size []) (t':=s.toks) (λb u q=>bu _ q) (si (mQ _ _)) ?_;have ne:s.heap.objs.size≠s.heap.objs.size+1:=dB (g9 _);refine⟨by rw[je ne,jh],gf _,ne,e2,λ_=>bc,(jin e3).at λo q=>bu _ q,λ_=>wa,λy hy=>absurd rfl hy⟩
theorem YM{prog:dg}{env:tR}{f:bF}{s:Shared}(hb:pH e f env (eval e env)=eval e env)
 (h:wpAny (model prog w) A (eval e env) (λo s₁=>wpAny (model prog w) A (jhN o f bh) Q E s₁) E s):wpAny (model prog w) A (eval (.Attribute e f pos) env) Q E s :=
 Attribute_any_ h (by rw[arm_eval_Attribute,hb])
end
def jgu(K:bx)(ta:TE)(f:bF):TE:=λσ H Q=>ta σ H λx H1=>∃a C dx fs v,x=.ref a/\H1 a=ba (.ins C dx fs)/\Cls K C/\zf K C f/\fs.lookup f=ba v/\Q v H1
def jgQ(K:bx)(ta tv:TE)(f:bF):TS:=λD σ H=>tv σ H λy H1=>ta σ H1 λx H2=>∃a C dx fs,x=.ref a/\H2 a=ba (.ins C dx fs)/\Cls K C/\zf K C f/\fs.length<1000 /\
 D.nx σ (upd H2 a (.ins C dx (xI f y fs)))
section
variable {X:Cx} {o e value:bU} {f:bF} {pos pos' tpos:Pos} {ta tv:TE}
theorem Yf(he:PE X e ta)(hb:pH e f X.env (eval e X.env)=eval e X.env):PE X (.Attribute e f pos) (jgu X.K ta f):=by
 intro pins s σ H Q I h;refine YM hb (thn (he pins s σ H _ I h) λu s1 ⟨x,H1,I1,rx,a,C,dx,fs,v,ex,ea,c,n,l,q⟩=>?_);subst ex;obtain rfl:u=dG a:=rx
 exact YC I1 ea c n l λu' s2 I2 ru=>⟨v,H1,I2,ru,q⟩
theorem vX(ha:PE X o ta)(hv:PE X value tv)(hs:mm value (ba (.Attribute o f pos')) pos.line X.env=pure bj):PS X (.Assign [.Attribute o f pos'] value pos) (jgQ X.K ta tv f):=by
 intro pins s σ H D I h;refine sE (thn (hv pins s σ H _ I h) λu s1 ⟨y,H1,I1,ry,q⟩=>thn (ha pins s1 σ H1 _ I1 q) λov s2 ⟨x,H2,I2,rx,a,C,dx,fs,ex,ea,c,n,l,q2⟩=>?_) hs;subst ex;obtain rfl:ov=dG a:=rx
 exact Yt I2 ea c n l ry λs3 I3=>⟨σ,_,I3,q2⟩
end
structure Room (k:Nat) (A:gz):Prop where
 hd:2<=k->A.handled=bc
 dp:A.depth+3*k+5<wc
 un:A.units+16*k+200<cLine
theorem Room.mono(r:Room k A)(h:j<=k):Room j A:=⟨λz=>r.hd (by omega),by have:=r.dp;omega,by have:=r.un;omega⟩
theorem Room.deeper(r:Room (k+1) A)(env:tR):Room k (A.deeper env) :=
 ⟨λz=>r.hd (by omega),by have:=r.dp;show A.depth+1+3*k+5<_;omega,by have:=r.un;show A.units+3+16*k+200<_;omega⟩
theorem XH{C:Addr}:(A.under (.builtin "type.__call__" ⟨.ref C::us,kw⟩)).depth=A.depth+1:=by
 first|rfl|simp[jio,Code.weight,Code.isCreation,Code.isGuard,Code.isCaller,jkd,jip,guardIds]
theorem Yd{C:Addr}:(A.under (.builtin "type.__call__" ⟨.ref C::us,kw⟩)).units=A.units+1:=by
 first|rfl|simp[jio,Code.cUnits,jkd,jip]
theorem Room.make(r:Room (k+1) A)(C:Addr)(us:List bq)(kw:List (bF×bq)):Room k (A.under (.builtin "type.__call__" ⟨.ref C::us,kw⟩)) :=
 ⟨λz=>r.hd (by omega),by have:=r.dp;rw[XH];omega,by have:=r.un;rw[Yd];omega⟩
theorem Room.depth(r:Room k A):A.depth<wc:=by have:=r.dp;omega
def jbU:TA:=λ_ H Q=>Q [] H
def jdc(ta:TE)(tr:TA):TA:=λσ H Q=>ta σ H λx H1=>tr σ H1 λxs H2=>Q (x::xs) H2
section
variable {X:Cx} {e:bU} {es:List bU} {te:TE} {t:TA} {pos:Pos}
theorem jB:PA X [] jbU:=λ_ _ _ _ H Q I h=>Calls.spliced_nil ⟨[],H,I,.nil,h⟩
theorem jj(ha:PE X e te)(hr:PA X es t)(hs:bY (e::es) X.env=(bj,eval e X.env)::bY es X.env:=by rfl):PA X (e::es) (jdc te t):=by
 intro pos pins s σ H Q I h;rw[hs];show wpAny _ _ (spliced ((bj,eval e X.env)::backTo pos (bY es X.env))) _ _ s;refine Calls.spliced_cons (thn (ha pins s σ H _ I h) λu s1 ⟨x,H1,I1,r1,q1⟩=>?_)
 exact thn (hr pos pins s1 σ H1 _ I1 q1) λus s2 ⟨xs,H2,I2,r2,q2⟩=>⟨x::xs,H2,I2,.cons r1 r2,q2⟩
def jgW(t:TA):TE:=λσ H Q=>t σ H λxs H1=>xs.length<=sizeLine/\∀p,H1 p=bc->Q (.ref p) (upd H1 p (.tup xs))
def jgp(t:TA):TE:=λσ H Q=>t σ H λxs H1=>xs.length<=sizeLine/\∀p,H1 p=bc->Q (.ref p) (upd H1 p (.lst xs))
theorem XG{x1}(h:PA X es t):PE X (.Tuple es x1 pos) (jgW t):=by
 intro pins s σ H Q I hq;refine wpAny_Tuple_spliced (thn (h pos pins s σ H _ I hq) λus s1 ⟨xs,H1,I1,r,z,q⟩=>⟨by rw[<- r.length];exact z,?_⟩);have hf:H1 s1.heap.objs.size=none:=I1.hok.fresh (bN _);refine⟨.ref s1.heap.objs.size,upd H1 s1.heap.objs.size (.tup xs),I1.laid (t':=s1.toks) (λb u e=>bu _ e) (bN _) ?_,rfl,q _ hf⟩;exact⟨z,us,r,⟨_,bM _ rfl,rfl,_,rfl⟩⟩
theorem xb(h:PA X es t):PE X (.List es pos) (jgp t):=by
 intro pins s σ H Q I hq;refine wpAny_List_spliced (thn (h pos pins s σ H _ I hq) λus s1 ⟨xs,H1,I1,r,z,q⟩=>⟨by rw[<- r.length];exact z,?_⟩);have hf:H1 s1.heap.objs.size=none:=I1.hok.fresh (bN _);refine⟨.ref s1.heap.objs.size,upd H1 s1.heap.objs.size (.lst xs),I1.laid (t':=s1.toks) (λb u e=>bu _ e) (bN _) ?_,rfl,q _ hf⟩;exact⟨z,us,0,r,bM _ rfl⟩
end
abbrev Sp:=List V->Hp->VK->XK->Prop
abbrev CXT:=List tR->Hp->Shared->XK->bq->Shared->Prop
structure Env0 (P:dg) (w:World) (K:bx) (mg:bF->Option bq) (base:dR) (A:gz) (outer:List tR) (s:Shared) (H:Hp):Prop where
 frames:A.frames=ba outer
 mod:Mod K mg base
 bs:∀b o,base.get? b=ba o->s.heap.get? b=ba o/\H b=bc
 bsz:base.objs.size<=s.heap.objs.size
 funs:s.heap.FunFrames base outer
 frf:∀b∈frs outer,H b=bc
 hok:HOk P w H s.heap
 bare:p9 s.gens
def CE(outer:List tR)(P:dg)(w:World)(H:Hp)(s:Shared)(Q:VK)(u:bq)(s':Shared):Prop :=
 ∃v H',s'.os=s.os/\p9 s'.gens/\Un (frs outer) [] H H' s.heap s'.heap/\HOk P w H' s'.heap/\jH v u/\Q v H'
def CR(CX:CXT)(outer:List tR)(P:dg)(w:World)(H:Hp)(s:Shared)(Q:VK)(E:XK)(r:Result)(s':Shared):Prop :=
 match r with
 |.ok (.ret u)=>CE outer P w H s Q u s'
 |.ok _=>False
 |.error e=>CX outer H s E e s'
structure FnOk (P:dg) (w:World) (K:bx) (mg:bF->Option bq) (base:dR) (CX:CXT) (k:Nat) (f:Addr) (fd:gV) (ps:List bF) (sp:Sp):Prop where
 len:∀vs H Q E,sp vs H Q E->vs.length=ps.length
 run:∀(A:gz) (outer:List tR) (s:Shared) (H:Hp) (args:Args) (us:List bq) (vs:List V) (Q:VK) (E:XK),Room k A->Env0 P w K mg base A outer s H->jjV s fd args (ps.zip us)->jv vs us->sp vs H Q E ->
  ph (model P w) A (.call (.ref f) args) (CR CX outer P w H s Q E) s
variable{mg:bF->Option bq}{base:dR}{CX:CXT}{fd:gV}{ps:List bF}{sp:Sp}
theorem FnOk.mono(F:FnOk P w K mg base CX j f fd ps sp)(h:j<=k) :
 FnOk P w K mg base CX k f fd ps sp:=⟨F.len,λA outer s H args us vs Q E hr=>F.run A outer s H args us vs Q E (hr.mono h)⟩
theorem FnOk.imp{sp':Sp}(F:FnOk P w K mg base CX k f fd ps sp)
 (h:∀vs H Q E,sp' vs H Q E->sp vs H Q E):FnOk P w K mg base CX k f fd ps sp' :=
 ⟨λvs H Q E q=>F.len vs H Q E (h _ _ _ _ q),λA outer s H args us vs Q E hr he hb hv hs=>F.run A outer s H args us vs Q E hr he hb hv (h _ _ _ _ hs)⟩
theorem Env0.make{outer:List tR}{s:Shared}(e:Env0 P w K mg base A outer s H)(C:Addr)(us:List bq)(kw:List (bF×bq)) :
 Env0 P w K mg base (A.under (.builtin "type.__call__" ⟨.ref C::us,kw⟩)) outer s H:=⟨by first|exact e.frames|(simpa[jio,Code.envs,jip,pushEnvs]using e.frames),e.mod,e.bs,e.bsz,e.funs,e.frf,e.hok,e.bare⟩
variable{Q:VK}
section
variable {X:Cx} {pins:List (Addr×mE)} {σ:St} {H:Hp} {s s':Shared}
theorem Inv.env0(I:Inv X pins σ H s):Env0 X.prog X.w X.K X.mg X.base X.A X.stack s H :=
 ⟨I.ok.frames,I.ok.mod,I.bs,dU I.ok.bsz I.sz,I.stack,I.stkFree,I.hok,I.bare⟩
theorem Inv.after(I:Inv X pins σ H s)(h:CE X.stack X.prog X.w H s Q u s'):EP X pins σ Q u s':=by
 obtain⟨v,H',os,bare,un,hok,r,q⟩:=h;obtain⟨hh,g,d,t,os'⟩:=s';obtain rfl:os'=s.os:=os;exact⟨v,H',I.call (h':=hh) (g':=g) (d':=d) (t':=t) (ch:=[]) un hok bare (λb z=>absurd z (by simp)),r,q⟩
end
def V9(sp:Sp)(dvs:List V)(E:XK)(t:TA):TE:=λσ H Q=>t σ H λvs H1=>sp (vs++dvs) H1 Q E
def jfH(C:Addr)(sp:Sp)(dvs:List V)(E:XK)(t:TA):TE:=λσ H Q=>t σ H λvs H1=>∀x dx,H1 x=bc->H1 dx=bc->dx≠x ->
 sp (.ref x::(vs++dvs)) (upd (upd H1 dx (.own x)) x (.ins C dx [])) (λv H2=>v=.non/\Q (.ref x) H2) E
def kP(K:bx)(fd:gV)(ps:List bF)(ds:List bq):Prop :=
 ∀(s:Shared) (us:List bq),K.In s.heap->(us++ds).length=ps.length->jjV s fd ⟨us,[]⟩ (ps.zip (us++ds))
theorem kP.all(h:∀us:List bq,us.length=ps.length->jiq fd ⟨us,[]⟩=pure (ps.zip us)):kP K fd ps []:=λs us _ hl=>by
 rw[dv]at hl ⊢;exact .of_eq (h us hl)
def xm(CX:CXT)(X:Cx)(E:XK):Prop:=∀(pins:List (Addr×mE)) (σ:St) (H:Hp) (s:Shared) (e:bq) (s':Shared),Inv X pins σ H s->CX X.stack H s E e s'->X.xe e s'
section
variable {X:Cx} {CX:CXT} {k:Nat} {f C:Addr} {fd:gV} {ps:List bF} {sp:Sp} {dvs:List V} {ds:List bq} {E:XK} {x m:bF} {p pos apos:Pos} {e o:bU} {es:List bU} {ta:TE} {t:TA}
theorem X5{s:Shared}(F:FnOk X.prog X.w X.K X.mg X.base CX k f fd ps sp)(hr:Room k X.A)(hb:kP X.K fd ps ds)(hd:jv dvs ds)(hx:xm CX X E)
 (I:Inv X pins σ H s) (r:jv vs us) (h:sp (vs++dvs) H Q E):wpAny (model X.prog X.w) X.A (call (.ref f) us) (EP X pins σ Q) X.xe s:=by
 have r2:jv (vs++dvs) (us++ds):=r.append hd
 have hl:(us++ds).length=ps.length:=by rw[<- r2.length];exact F.len _ _ _ _ h
 refine pT (pq (F.run X.A X.stack s H ⟨us,[]⟩ (us++ds) (vs++dvs) Q E hr I.env0 (hb s us I.kIn hl) r2 h) λr s' hq=>?_)
 cases r with
 |error e=>exact hx pins σ H s e s' I hq
 |ok fl =>
  cases fl with
  |ret u=>exact I.after hq
  |next=>exact gu hq
  |brk=>exact gu hq
  |cont=>exact gu hq
theorem qC(F:FnOk X.prog X.w X.K X.mg X.base CX k f fd ps sp)(hr:Room k X.A)(hg:Gl X x)(hm:X.mg x=ba (.ref f))(hk:me X.K (.ref f)=bh)(hb:kP X.K fd ps ds)(hd:jv dvs ds)(hx:xm CX X E)
 (ha:PA X (e::es) t) (hdb:(x == ("__debug__":bF))=false:=by decide) (he:bY (e::es) X.env=(bj,eval e X.env)::bY es X.env:=by rfl) (hpl:(backTo pos (bY es X.env)).any (·.1)=false:=by rfl) :
 PE X (.Call (.Name x p) (e::es) [] pos) (V9 sp dvs E t):=by
 intro pins s σ H Q I h;refine gY (qu I hg hm ?_ hdb);refine jh9 (h₀:=X.base) I.ok.mod.kin hk (thn (ha pos pins s σ H _ I h) λus s1 ⟨vs,H1,I1,r,q⟩=>⟨I1.kIn,?_⟩) he hpl;exact X5 F hr hb hd hx I1 r q
theorem VM(F:FnOk X.prog X.w X.K X.mg X.base CX k f fd ps sp)(hr:Room k X.A)(hg:Gl X x)(hm:X.mg x=ba (.ref f))(hk:me X.K (.ref f)=bh)(hb:kP X.K fd ps ds)(hd:jv dvs ds)(hx:xm CX X E)
 (hdb:(x == ("__debug__":bF))=false:=by decide):PE X (.Call (.Name x p) [] [] pos) (V9 sp dvs E jbU):=by
 intro pins s σ H Q I h;refine gY (qu I hg hm ?_ hdb);exact jhP I.kIn hk (X5 (us:=[]) F hr hb hd hx I .nil h)
structure Mk (K:bx) (C f:Addr):Prop where
 makes:ji1 K C=bh
 init:mP K (.ref C) "__init__"=ba (ba (.ref f))
 fn:jjW K (.ref f)=bh
 kp:me K (.ref C)=bh
theorem jaX{s:Shared}(M:Mk X.K C f)(F:FnOk X.prog X.w X.K X.mg X.base CX k f fd ps sp)(hr:Room (k+1) X.A)(hb:kP X.K fd ps ds)(hd:jv dvs ds)
 (hx:xm CX X E) (I:Inv X pins σ H s) (r:jv vs us)
 (h:∀x dx,H x=bc->H dx=bc->dx≠x->sp (.ref x::(vs++dvs)) (upd (upd H dx (.own x)) x (.ins C dx [])) (λv H2=>v=.non/\Q (.ref x) H2) E) :
 wpAny (model X.prog X.w) X.A (call (.ref C) us) (EP X pins σ Q) X.xe s:=by
 have hq:=h (s.heap.objs.size+1) s.heap.objs.size (I.hok.fresh (tF _)) (I.hok.fresh (bN _)) (dB (g9 _));have I2:=Inv.made (C:=C) I;have r2:jv (V.ref (s.heap.objs.size+1)::(vs++dvs)) (dG (s.heap.objs.size+1)::(us++ds)):=.cons rfl (r.append hd)
 have hl:(dG (s.heap.objs.size+1)::us++ds).length=ps.length:=by
  have e:=r2.length;rw[F.len _ _ _ _ hq]at e;exact e.symm
 refine pT (jaW (f:=f) I.kIn M.makes M.init (beq_iff_eq.mp M.fn) (pq (F.run _ X.stack _ _ ⟨dG (s.heap.objs.size+1)::us,[]⟩ (dG (s.heap.objs.size+1)::(us++ds)) _ _ E (hr.make C us [])
  (I2.env0.make C us []) (hb _ (dG (s.heap.objs.size+1)::us) I2.kIn hl) r2 hq) λr s' hq'=>?_))
 cases r with
 |error e=>exact hx pins σ _ _ e s' I2 hq'
 |ok fl =>
  cases fl with
  |ret u =>
   obtain⟨v,H',I3,rv,ev,q3⟩:=I2.after hq';subst ev
   exact⟨rv,⟨V.ref (s.heap.objs.size+1),H',I3,rfl,q3⟩⟩
  |next=>exact gu hq'
  |brk=>exact gu hq'
  |cont=>exact gu hq'
theorem VH(M:Mk X.K C f)(F:FnOk X.prog X.w X.K X.mg X.base CX k f fd ps sp)(hr:Room (k+1) X.A)(hg:Gl X x)(hm:X.mg x=ba (.ref C))(hb:kP X.K fd ps ds)(hd:jv dvs ds)(hx:xm CX X E)
 (hdb:(x == ("__debug__":bF))=false:=by decide):PE X (.Call (.Name x p) [] [] pos) (jfH C sp dvs E jbU):=by
 intro pins s σ H Q I h;refine gY (qu I hg hm ?_ hdb);exact jhP I.kIn M.kp (jaX (us:=[]) M F hr hb hd hx I .nil h)
end
structure FnScope (N P:List bF) (sc:Scope):Prop where
 kind:sc.kind=.function
 co:sc.isCoroutine=bj
 gen:sc.isGenerator=bj
 nd:N.Nodup
 pre:N.take P.length=P
 par:∀x∈P,sc.names.lookup x=ba .local\/sc.names.lookup x=ba .cell
 nofree:∀y∈sc.names,y.2 ≠ .free
theorem Kj{kindOf:bF->Option mR}{x:bF}:∀ {binds:List (bF×bq)} {m:bF->Option bq},(∀v,(x,v) ∉ binds)->bindL kindOf binds m x=m x
 |[],_,_=>rfl
 |(n,v)::r,m,h=>by
  unfold bindL;rw[Kj λw hw=>h w (bD _ hw)];split
  ·have:x≠n:=by rintro rfl;exact h v bJ
   simp[this]
  ·rfl
theorem Ka{kindOf:bF->Option mR}{x:bF}:∀ {binds:List (bF×bq)} {m:bF->Option bq},(∀v,(x,v) ∉ binds)->bindC kindOf binds m x=m x
 |[],_,_=>rfl
 |(n,v)::r,m,h=>by
  unfold bindC;rw[Ka λw hw=>h w (bD _ hw)];split
  ·rfl
  ·have:x≠n:=by rintro rfl;exact h v bJ
   simp[this]
theorem JI{kindOf:bF->Option mR}{x:bF}{v:bq}:∀ {P:List bF} {vs:List bq} {i:Nat} {m:bF->Option bq},P.Nodup->P[i]?=ba x->vs[i]?=ba v->kindOf x=ba .local ->
 bindL kindOf (P.zip vs) m x=ba v
 |[],_,_,_,_,h,_,_=>by simp at h
 |_::_,[],_,_,_,_,h,_=>by simp at h
 |p::P,w::vs,0,m,nd,h1,h2,hk=>by
  simp at h1 h2;subst h1;subst h2;show bindL kindOf ((p,w)::P.zip vs) m p=_;unfold bindL;rw[Kj λv hv=>(nL.mp nd).1 (tM hv).1,if_pos hk]
  simp
 |p::P,w::vs,i+1,m,nd,h1,h2,hk=>by
  show bindL kindOf ((p,w)::P.zip vs) m x=_;unfold bindL;exact JI (i:=i) (nL.mp nd).2 (by simpa using h1) (by simpa using h2) hk
theorem JK{kindOf:bF->Option mR}{x:bF}{v:bq}:∀ {P:List bF} {vs:List bq} {i:Nat} {m:bF->Option bq},P.Nodup->P[i]?=ba x->vs[i]?=ba v->kindOf x≠ba .local ->
 bindC kindOf (P.zip vs) m x=ba v
 |[],_,_,_,_,h,_,_=>by simp at h
 |_::_,[],_,_,_,_,h,_=>by simp at h
 |p::P,w::vs,0,m,nd,h1,h2,hk=>by
  simp at h1 h2;subst h1;subst h2;show bindC kindOf ((p,w)::P.zip vs) m p=_;unfold bindC;rw[Ka λv hv=>(nL.mp nd).1 (tM hv).1,if_neg hk]
  simp
 |p::P,w::vs,i+1,m,nd,h1,h2,hk=>by
  show bindC kindOf ((p,w)::P.zip vs) m x=_;unfold bindC;exact JK (i:=i) (nL.mp nd).2 (by simpa using h1) (by simpa using h2) hk
def start(N:List bF)(vs:List V):St:=vs.map ba++bE (N.length-vs.length) bc
def qN(CX:CXT)(P:dg)(w:World)(K:bx)(mg:bF->Option bq)(base:dR)(N:List bF)(qual:bF)(scope:Scope)(f:Addr)(cd:bq)(A:gz)(outer:List tR)(s:Shared)(H:Hp)(E:XK):Cx where
 prog:=P
 w:=w
 K:=K
 mg:=mg
 base:=base
 A:=A.deeper (envOfC qual scope s.heap.objs.size f cd)
 N:=N
 s₀:=s
 H₀:=H
 env:=envOfC qual scope s.heap.objs.size f cd
 outer:=outer
 stack:=envOfC qual scope s.heap.objs.size f cd::outer
 ex:=[]
 calm:=A.handled.isNone
 fn:=λ_=>bh
 pn:=[]
 xe:=λe s'=>wpAny (model P w) (A.deeper (envOfC qual scope s.heap.objs.size f cd)) (ti (envOfC qual scope s.heap.objs.size f cd) e) (λ_ s''=>CX outer H s E e s'') (λe' s''=>CX outer H s E e' s'') s'
theorem QB{sc:Scope}(h:sc.names.lookup x=ba .cell):∃c,(sI n sc.names []).lookup x=ba c:=by
 have q:=jg6 sc.names n [] (.inl h);exact wK.mp q
variable{qual:bF}
theorem J2{scope:Scope}{cd:bq}{outer:List tR}{s s1:Shared}{E:XK}
 (S:FnScope N ps scope) (hd:A.handled.isNone=bh->A.handled=bc) (e0:Env0 P w K mg base A outer s H) (hl:vs.length=ps.length) (r:jv vs us)
 (x:InCallC s s.heap.objs.size (bindL (envOfC qual scope s.heap.objs.size f cd).kindOf (ps.zip us) λ_=>bc) (sI (s.heap.objs.size+1) scope.names []) (bindC (envOfC qual scope s.heap.objs.size f cd).kindOf (ps.zip us) λ_=>bc) s1) :
 Inv (qN CX P w K mg base N qual scope f cd A outer s H E) [] (start N vs) H s1:=by
 have hpl:ps.length<=N.length:=by have:=congrArg jke S.pre;rw[pz]at this;omega
 obtain⟨h1,tk,rfl,hk⟩:=x.done
 have noA:∀b:Addr,b ∉ (qN CX P w K mg base N qual scope f cd A outer s H E).ex:=λb z=>absurd (show b∈([]:List Addr) from z) (by simp)
 refine⟨⟨e0.mod,S.kind,rfl,rfl,bN _,λy z c h1 h2=>?_,λy hy=>?_,λy c _ h=>?_,hd,Around.frames_deeper e0.frames,.inr ⟨rfl,rfl⟩,λb z=>absurd z (noA b),e0.bs,e0.bsz,λb _ _=>noA b,λb z=>absurd z (noA b),e0.funs,e0.frf⟩,
  rfl,e0.bare,Un.kept hk,⟨_,x.toInCall.ns,λi y v h1 h2 h3=>?_⟩,λy c h=>⟨_,x.cell y c h⟩,e0.hok.fresh (bN _),λy c h=>?_,λp hp=>absurd (show p∈([]:List (Addr×mE)) from hp) (by simp),e0.hok.kept hk,?_⟩
 ·exact name_of_addr x.apart (mH h1) (mH h2)
 ·have hy:scope.names.lookup y=ba .cell\/scope.names.lookup y=ba .free:=hy;rcases hy with hy|hy
  ·exact QB hy
  ·exact absurd rfl (S.nofree _ (mH hy))
 ·exact jg4 (x.above y c (mH h))
 ·have hi:i<vs.length:=by
   unfold start at h2;by_cases hi:i<vs.length
   ·exact hi
   ·rw[gI (by simpa using hi)]at h2;rw[pW]at h2
    split at h2<;>cases h2
  have ha:vs[i]?=ba v:=by
   unfold start at h2;rw[d7 (by simpa using hi),dQ]at h2
   cases e:vs[i]? with
   |none=>rw[e]at h2;cases h2
   |some a=>rw[e]at h2;cases h2;rfl
  obtain⟨u,hu,rv⟩:=r.get ha
  have hp:ps[i]?=ba y:=by
   rw[<- S.pre,nA (by omega)];exact h1
  have ndP:ps.Nodup:=by rw[<- S.pre];exact S.nd.sublist (List.take_sublist _ _)
  refine⟨u,rv,?_⟩;rcases S.par y (gv hp) with k|k
  ·exact .inl ⟨k,JI ndP hp hu k⟩
  ·obtain⟨c,e⟩:=QB (n:=s.heap.objs.size+1) k;refine .inr ⟨.inl k,c,e,?_⟩;have q:=x.cell y c e;rw[JK ndP hp hu (by show scope.names.lookup y≠_;rw[k];decide)]at q;exact q
 ·exact e0.hok.fresh (jg4 (x.above y c (mH h)))
 ·unfold start;show _=N.length;rw[dS,bW,sG];omega
theorem jc3{name:bF}{params:Arguments}{scope:Scope}{dV kV doc pm cdv ct oc:bq}{an od:Option Addr}
 {osl:Array (Option bq)}   (lk:K.lookup f=ba ⟨oc,od,.func (ni name qual params body scope dV kV doc pm an cdv ct),osl⟩) (hcd:sj K cdv qual=bh) (S:FnScope N ps scope)
 (len:∀vs H Q E,sp vs H Q E->vs.length=ps.length)
 (hbody:∀(A:gz) (outer:List tR) (s:Shared) (H:Hp) (vs:List V) (Q:VK) (E:XK),Room k (A.deeper (envOfC qual scope s.heap.objs.size f cdv))->sp vs H Q E ->
  ∃t,PSs (qN CX P w K mg base N qual scope f cdv A outer s H E) body t/\t { nx:=λ_ H'=>Q .non H',rt:=Q } (start N vs) H) :
 FnOk P w K mg base CX (k+1) f (ni name qual params body scope dV kV doc pm an cdv ct) ps sp:=by
 refine⟨len,λA outer s H args us vs Q E hr e0 hb r hsp=>?_⟩;have hl:=len _ _ _ _ hsp
 have KX:K.In s.heap:=e0.mod.kin.keeps λb o e=>(e0.bs b o e).1
 have lim:s.heap.NoLimit:=e0.mod.nolimit.1.keeps λb o e=>(e0.bs b o e).1
 have hkind:∀y∈ps.zip us,scope.names.lookup y.1=ba .local\/(scope.names.lookup y.1=ba .cell/\((sI (s.heap.objs.size+1) scope.names []).lookup y.1).isSome=bh):=λ⟨n,v⟩ hy=>by
  rcases S.par n (tM hy).1 with q|q
  ·exact .inl q
  ·exact .inr ⟨q,jg6 _ _ _ (.inl q)⟩
 refine jhm hr.depth (KX _ _ lk) rfl S.co S.gen rfl (PySem.W.codeRec_of KX hcd) (hb _ _ _ _ ?_)
 refine we S.kind hkind λenv he s1 x=>?_
 subst he;refine⟨lim.keeps x.toInCall.keep,codeAny_func ?_⟩;obtain⟨t,ht,hq⟩:=hbody A outer s H vs Q E (hr.deeper _) hsp;have I:Inv (qN CX P w K mg base N qual scope f cdv A outer s H E) [] (start N vs) H s1:=J2 S (λz=>by simpa using z) e0 hl r x
 refine dE (ht [] s1 (start N vs) H _ I hq) (λfl s' hs=>?_) λe s' hs=>hs
 have fin:∀ {σ':St} {H':Hp} {v:V} {u:bq},Inv (qN CX P w K mg base N qual scope f cdv A outer s H E) [] σ' H' s'->jH v u->Q v H'->CE outer P w H s Q u s' :=
  λ{σ' H' v u} J rv q=>⟨v,H',J.os,J.bare,J.base,J.hok,rv,q⟩
 cases fl with
 |ret u =>
  obtain⟨v,σ',H',J,rv,q⟩:=hs
  exact fin J rv q
 |next =>
  obtain⟨σ',H',J,q⟩:=hs
  exact fin (v:=V.non) (u:=gG) J rfl q
 |brk =>
  obtain⟨_,_,_,q⟩:=hs
  exact gu q
 |cont =>
  obtain⟨_,_,_,q⟩:=hs;exact gu q
section
variable {X:Cx} {x:bF} {p pos:Pos} {e:bU} {es:List bU} {t:TA} {id T:String} {r:List V->Hp->VK->Prop}
def tCB(r:List V->Hp->VK->Prop)(t:TA):TE:=λσ H Q=>t σ H λvs H1=>r vs H1 Q
theorem kj(hc:kJ X (.builtin id) r)(hg:Gl X x)(hm:X.mg x=bc)(hv:pf x=ba (.builtin id))(ha:PA X (e::es) t)(hn:x ≠ "__name__":=by decide)(hdb:(x == ("__debug__":bF))=false:=by decide)
 (he:bY (e::es) X.env=(bj,eval e X.env)::bY es X.env:=by rfl) (hpl:(backTo pos (bY es X.env)).any (·.1)=false:=by rfl):PE X (.Call (.Name x p) (e::es) [] pos) (tCB r t):=by
 intro pins s σ H Q I h;refine gY (uC I hg hm hv ?_ hn hdb);exact sM (thn (ha pos pins s σ H _ I h) λus s1 ⟨vs,H1,I1,r1,q1⟩=>hc pins s1 σ H1 vs us Q I1 r1 q1) he hpl
theorem k8(hc:kJ X (.type T) r)(hg:Gl X x)(hm:X.mg x=bc)(hv:pf x=ba (.type T))(ha:PA X (e::es) t)(hn:x ≠ "__name__":=by decide)(hdb:(x == ("__debug__":bF))=false:=by decide)
 (he:bY (e::es) X.env=(bj,eval e X.env)::bY es X.env:=by rfl) (hpl:(backTo pos (bY es X.env)).any (·.1)=false:=by rfl):PE X (.Call (.Name x p) (e::es) [] pos) (tCB r t):=by
 intro pins s σ H Q I h;refine gY (uC I hg hm hv ?_ hn hdb);exact mJ (thn (ha pos pins s σ H _ I h) λus s1 ⟨vs,H1,I1,r1,q1⟩=>hc pins s1 σ H1 vs us Q I1 r1 q1) he hpl
end
end L2
namespace HT
open PySem PyProof.Rows
section
open PySem.SeqAt
open PySem.AutoSeq1 (wpAny_loadPart')
open PySem.MeetsSeq PySem.MeetsSeq2 PySem.MeetsSeq3
end
section
variable {prog:dg} {w:World} {A:gz} {E:bq->Shared->Prop} {s:Shared}
def sIx(n d:Nat):Option Int->Nat
 |none=>d
 |some v=>if v<0 then (v+(n:Int)).toNat else min v.toNat n
end
end HT
namespace L2
open PySem PySem.Spec PyProof.Rows
abbrev TO:=St->Hp->(Option Int->Hp->Prop)->Prop
def PO(X:Cx)(e:Option bU)(t:TO):Prop :=
 ∀(pins:List (Addr×mE)) (s:Shared) (σ:St) (H:Hp) (Q:Option Int->Hp->Prop),Inv X pins σ H s->t σ H Q ->
  wpAny (model X.prog X.w) X.A (evalPart e X.env) (λu s'=>∃o H',Inv X pins σ H' s'/\IsPart u o/\Q o H') X.xe s
def jb4:TO:=λ_ H Q=>Q bc H
def jfF(t:TE):TO:=λσ H Q=>t σ H λx H1=>∃i,x=.int i/\Q (ba i) H1
variable{r:V->Option Int->Option Int->Hp->VK->Prop}
section
variable {X:Cx} {e:bU} {te:TE} {lo hi:Option bU} {tl th:TO} {pos p2:Pos}
theorem jcd:PO X bc jb4:=by
 intro pins s σ H Q I h;rw[evalPart_none];exact bA ⟨bc,H,I,.none,h⟩
theorem jcl(h:PE X e te):PO X (ba e) (jfF te):=by
 intro pins s σ H Q I hw;rw[evalPart_some]
 refine thn (h pins s σ H _ I hw) λu s1 ⟨x,H1,I1,r1,q1⟩=>?_
 obtain⟨i,rfl,q⟩:=q1;obtain⟨t,rfl⟩:=r1;exact⟨ba i,H1,I1,.int i t,q⟩
def SlR(X:Cx)(r:V->Option Int->Option Int->Hp->VK->Prop):Prop :=
 ∀(pins:List (Addr×mE)) (s:Shared) (σ:St) (H:Hp) (x:V) (v vl vu:bq) (lo hi:Option Int) (sl:Addr) (Q:VK),Inv X pins σ H s->jH x v->s.heap.IsSliceOf sl vl vu .none->IsPart vl lo->IsPart vu hi->r x lo hi H Q ->
  ∃T id,mf (.type T) "__getitem__"=pure (ba (.builtin id))/\s.TypeIs v T/\wpAny (model X.prog X.w) X.A (getItem v (.ref sl)) (EP X pins σ Q) X.xe s
theorem SlR.or{r':V->Option Int->Option Int->Hp->VK->Prop}(h:SlR X r)(h':SlR X r'):SlR X (λx lo hi H Q=>r x lo hi H Q\/r' x lo hi H Q):=by
 intro pins s σ H x v vl vu lo hi sl Q I rx hs pl pu q;rcases q with q|q
 ·exact h pins s σ H x v vl vu lo hi sl Q I rx hs pl pu q
 ·exact h' pins s σ H x v vl vu lo hi sl Q I rx hs pl pu q
def tSl(r:V->Option Int->Option Int->Hp->VK->Prop)(te:TE)(tl th:TO):TE:=λσ H Q=>te σ H λx H1=>tl σ H1 λl H2=>th σ H2 λu H3=>r x l u H3 Q
theorem V6(hr:SlR X r)(he:PE X e te)(hl:PO X lo tl)(hu:PO X hi th):PE X (.Subscript e (.Slice lo hi bc p2) pos) (tSl r te tl th):=by
 intro pins s σ H Q I h;refine Subscript_ (thn (he pins s σ H _ I h) λv s1 ⟨x,H1,I1,r1,q1⟩=>?_);refine wpAny_Slice (thn (hl pins s1 σ H1 _ I1 q1) λvl s2 ⟨l,H2,I2,pl,q2⟩=>thn (hu pins s2 σ H2 _ I2 q2) λvu s3 ⟨u,H3,I3,pu,q3⟩=>?_);rw[evalPart_none];refine bA ?_
 have I4:Inv X pins σ H3 { s3 with heap:=s3.heap.push { cls:=.type "slice",data:=.fields #[vl,vu,.none] } }:=I3.kept (t':=s3.toks) λb ob q=>bu _ q
 obtain⟨T,id,hT,ht,hg⟩:=hr pins { s3 with heap:=s3.heap.push { cls:=.type "slice",data:=.fields #[vl,vu,.none] } } σ H3 x v vl vu l u s3.heap.objs.size Q I4 r1 (jkq ..) pl pu q3;show wpAny (model X.prog X.w) X.A (subscriptTail e (.Slice lo hi bc p2) v (.ref s3.heap.objs.size)) (EP X pins σ Q) X.xe { s3 with heap:=s3.heap.push { cls:=.type "slice",data:=.fields #[vl,vu,.none] } };exact tail_any (ops:=[.ref s3.heap.objs.size,v]) ht hT hg (by with_unfolding_all rfl)
def Z7(xs:List V)(lo hi:Option Int):List V:=(xs.drop (HT.sIx xs.length 0 lo)).take (HT.sIx xs.length xs.length hi-HT.sIx xs.length 0 lo)
theorem QE(xs:List V)(lo hi:Option Int):(Z7 xs lo hi).length<=xs.length:=by
 unfold Z7;rw[pz,jiJ];omega
end
def ixN(n:Nat)(i:Int):Option Nat:=if 0<=i then (if i<n then ba i.toNat else bc) else if -(n:Int)<=i then ba (i+n).toNat else bc
variable{α:Type}
def atI(xs:List α)(i:Int):Option α:=(ixN xs.length i).bind λj=>xs[j]?
variable{n:Nat}{i:Int}
theorem jbw{j:Nat}(h:ixN n i=ba j):jiK i n=ba j/\j<n /\ -(n:Int)<=i/\i<n:=by
 unfold ixN at h;by_cases h0:0<=i
 ·rw[if_pos h0]at h;by_cases h1:i<n
  ·rw[if_pos h1]at h;have e:i.toNat=j:=dF h;exact⟨by rw[seqIndex_of h0 h1,e],by omega,by omega,h1⟩
  ·rw[if_neg h1]at h;cases h
 ·rw[if_neg h0]at h;by_cases h1:-(n:Int)<=i
  ·rw[if_pos h1]at h;have e:(i+n).toNat=j:=dF h;exact⟨by rw[seqIndex_neg (by omega) h1,e],by omega,h1,by omega⟩
  ·rw[if_neg h1]at h;cases h
theorem K4{xs:List α}{v:α}(h:atI xs i=ba v):∃j,jiK i xs.length=ba j/\xs[j]?=ba v/\j<xs.length /\ -(xs.length:Int)<=i/\i<xs.length:=by
 unfold atI at h
 cases e:ixN xs.length i with
 |none=>rw[e]at h;cases h
 |some j =>
  rw[e]at h;obtain⟨h1,h2,h3,h4⟩:=jbw e;exact⟨j,h1,h,h2,h3,h4⟩
def Zf(b:bU):Prop:=∀o i,subscripted b bj o i=operate [o,i] (getItem o i)
def IxR(X:Cx)(r:R2):Prop :=
 ∀(value slice:bU) (pins:List (Addr×mE)) (s:Shared) (σ:St) (H:Hp) (x y:V) (v u:bq) (Q:VK),Inv X pins σ H s->jH x v->jH y u->r x y H Q ->
  subscripted slice bj v u=operate [v,u] (getItem v u)->wpAny (model X.prog X.w) X.A (subscriptTail value slice v u) (EP X pins σ Q) X.xe s
def MtR(X:Cx)(id:String)(r:V->List V->Hp->VK->Prop):Prop :=
 ∀(pins:List (Addr×mE)) (s:Shared) (σ:St) (H:Hp) (x:V) (xs:List V) (v:bq) (us:List bq) (Q:VK),Inv X pins σ H s->jH x v->jv xs us->r x xs H Q ->
  wpAny (model X.prog X.w) X.A (call (.builtin id) (v::us)) (EP X pins σ Q) X.xe s
variable{pins:List (Addr×mE)}{σ:St}{H:Hp}{y x:V}{u:bq}
section
variable {X:Cx} {a b:bU} {ta tb:TE} {pos:Pos}
theorem YL{r:R2}(hr:IxR X r)(ha:PE X a ta)(hb:PE X b tb)(hs:Zf b):PE X (.Subscript a b pos) (tOp r ta tb):=by
 intro pins s σ H Q I h;exact Subscript_ (jd9 ha hb I h λv u s2 x y H2 I2 rx ry q=>hr a b pins s2 σ H2 x y v u Q I2 rx ry q (hs _ _))
def jgV(K:bx):R2:=λx y H Q=>∃p xs i v,x=.ref p/\y=.int i/\SqL K H p xs/\atI xs i=ba v/\Q v H
def jgx(K:bx):R2:=λx y H Q=>∃p xs i v,x=.ref p/\y=.int i/\SqT K H p xs/\atI xs i=ba v/\Q v H
def jgz:R2:=λx y H Q=>∃z i c,x=.str z/\y=.int i/\z.length<=sizeLine/\atI z.cps.toList i=ba c/\Q (.str ⟨#[c]⟩) H
theorem ix_list:IxR X (jgV X.K):=by
 intro value slice pins s σ H x y v u Q I rx ry h hs;obtain⟨p,xs,i,z,rfl,rfl,hq,he,q⟩:=h;cases rx;obtain⟨t,rfl⟩:=ry;obtain⟨its,r,pl,hz⟩:=I.list hq;obtain⟨j,h1,h2,h3,h4,h5⟩:=K4 he;obtain⟨w,ew,rw'⟩:=r.get h2;have hl:=r.length;have hn:=vI
 have fin:EP X pins σ Q w s:=⟨z,H,I,rw',q⟩
 by_cases h0:0<=i
 ·have hj:i.toNat=j:=by
   rw[seqIndex_of h0 h5]at h1;exact dF h1
  exact item_listR pl.isList h0 (by omega) (by rw[hj];simpa using ew) fin hs
 ·have hj:(i+(its.toArray.size:Int)).toNat=j:=by
   rw[seqIndex_neg (by omega) h4]at h1;rw[bQ,<- hl];exact dF h1
  exact jg7 (x:=w) pl.isList.typeIs slot_list_getitem.lookup
   (wpAny_getItem_list_neg (Q:=λr s'=>r=w/\EP X pins σ Q r s') pl.isList (by omega) (by rw[bQ]<;>omega) (by omega) (by rw[hj];simpa using ew) ⟨rfl,fin⟩) hs
theorem ix_tup:IxR X (jgx X.K):=by
 intro value slice pins s σ H x y v u Q I rx ry h hs;obtain⟨p,xs,i,z,rfl,rfl,hq,he,q⟩:=h;cases rx;obtain⟨t,rfl⟩:=ry;obtain⟨its,r,pl,hz⟩:=I.tuple hq;obtain⟨j,h1,h2,h3,h4,h5⟩:=K4 he;obtain⟨w,ew,rw'⟩:=r.get h2;have hl:=r.length;have hn:=vI
 have fin:EP X pins σ Q w s:=⟨z,H,I,rw',q⟩
 exact jg7 (x:=w) pl.typeIs slot_tuple_getitem.lookup
  (getItem_tuple (j:=j) (Q:=λr s'=>r=w/\EP X pins σ Q r s') pl (by omega) (by omega) (by rw[bQ,<- hl];exact h1) (by simpa using ew) ⟨rfl,fin⟩) hs
theorem ix_str:IxR X jgz:=by
 intro value slice pins s σ H x y v u Q I rx ry h hs;obtain⟨z,i,c,rfl,rfl,hz,he,q⟩:=h;obtain⟨t,rfl⟩:=rx;obtain⟨t',rfl⟩:=ry;obtain⟨j,h1,h2,h3,h4,h5⟩:=K4 he
 have hl:z.cps.toList.length=z.length:=by simp[jg8]
 rw[hl]at h1 h4 h5;have hn:=vI
 exact tail_any (sO s z t) slot_str_getitem.lookup (getItem_str (c:=c) (by
  have e1:decide (i < -(2^63:Int))=false:=decide_eq_false (by omega);have e2:decide (i ≥ 2^63)=false:=decide_eq_false (by omega)
  rw[e1,e2,Bool.or_false]) (by rw[h1];simpa using h2) ⟨.str ⟨#[c]⟩,H,I.tok _,⟨_,rfl⟩,q⟩) hs
theorem Inv.lst{s:Shared}{p:Addr}{xs:List V}(I:Inv X pins σ H s)(h:H p=ba (.lst xs)) :
 ∃(its:List bq) (n:Nat),jv xs its/\s.heap.get? p=ba { cls:=.type "list",data:=.seq its.toArray n }/\xs.length<=sizeLine:=by
 obtain⟨z,its,n,r,e⟩:=I.hok p _ h;exact⟨its,n,r,e,z⟩
theorem KP(lo hi:Option Int)(n:Nat):(pX lo hi bc n).1=((HT.sIx n 0 lo:Nat):Int)/\(pX lo hi bc n).2.1=((HT.sIx n n hi:Nat):Int)/\(pX lo hi bc n).2.2=1:=by
 refine⟨?_,?_,rfl⟩
 ·cases lo with
  |none=>simp[pX,HT.sIx]
  |some i =>
   simp only[pX,HT.sIx,wW,show (1:Int) > 0 by decide,if_true];by_cases h:i<0
   ·simp only[h,if_true]<;>omega
   ·simp only[h,if_false]<;>omega
 ·cases hi with
  |none=>simp[pX,HT.sIx]
  |some i =>
   simp only[pX,HT.sIx,wW,show (1:Int) > 0 by decide,if_true];by_cases h:i<0
   ·simp only[h,if_true]<;>omega
   ·simp only[h,if_false]<;>omega
theorem JC(its:List bq)(lo hi:Option Int):slicePick its.toArray lo hi bc=((its.drop (HT.sIx its.length 0 lo)).take (HT.sIx its.length its.length hi-HT.sIx its.length 0 lo)).toArray:=by
 obtain⟨h1,h2,h3⟩:=KP lo hi its.toArray.size;unfold slicePick;rw[h1,h2,h3]
 simp only[sliceRange_one,pick_run,bQ]<;>rfl
def jgG(K:bx):V->Option Int->Option Int->Hp->VK->Prop:=λx lo hi H Q=>∃a xs,x=.ref a/\SqL K H a xs/\∀p,H p=bc->Q (.ref p) (upd H p (.lst (Z7 xs lo hi)))
theorem jcs:SlR X (jgG X.K):=by
 intro pins s σ H x v vl vu lo hi sl Q I rx hs pl pu h;obtain⟨a,xs,rfl,hx,q⟩:=h;cases rx;obtain⟨its,r,ht,hz⟩:=I.list hx;have hlen:=r.length;refine⟨"list",_,slot_list_getitem.lookup,ht.isList.typeIs,?_⟩;refine wpAny_getItem_list_slice ht.isList hs pl pu .none (by simp) ?_ (by rw[bQ]<;>omega);rw[JC,<- hlen];refine⟨.ref s.heap.objs.size,_,I.laid (t':=s.toks) (o:=.lst (Z7 xs lo hi)) (λb ob q=>bu _ q) (bN _) ?_,rfl,q _ (I.hok.fresh (bN _))⟩;exact⟨dU (QE xs lo hi) hz,_,0,(r.drop (HT.sIx xs.length 0 lo)).take (HT.sIx xs.length xs.length hi-HT.sIx xs.length 0 lo),bM _ rfl⟩
def yW:V->Bool
 |.non=>bh
 |.bl _=>bh
 |.int _=>bh
 |.str _=>bh
 |_=>bj
def eqV:V->V->Bool
 |.non,.non=>bh
 |.bl a,.bl b=>a == b
 |.bl a,.int b=>(if a then 1 else 0) == b
 |.int a,.bl b=>a == (if b then 1 else 0)
 |.int a,.int b=>a == b
 |.str a,.str b=>a == b
 |_,_=>bj
theorem jfc{A:gz}{s:Shared}{v:bq}(ry:jH y u)(rx:jH x v)(fy:yW y=bh)(fx:yW x=bh):jkr A s u v (eqV y x):=by
 cases y with
 |non =>
  cases ry
  cases x with
  |non=>cases rx;exact SeqAt.EqAt.same _
  |bl b=>cases rx;exact SeqAt.EqAt.none_bool b
  |int b=>obtain⟨t,rfl⟩:=rx;exact SeqAt.EqAt.none_int b t
  |str b=>obtain⟨t,rfl⟩:=rx;exact SeqAt.EqAt.none_str b t
  |_=>exact absurd (show bj=bh from fx) df
 |bl a =>
  cases ry
  cases x with
  |non=>cases rx;exact SeqAt.EqAt.bool_none a
  |bl b=>cases rx;exact SeqAt.EqAt.bool_bool a b
  |int b=>obtain⟨t,rfl⟩:=rx;exact SeqAt.EqAt.bool_int a b t
  |str b=>obtain⟨t,rfl⟩:=rx;exact SeqAt.EqAt.bool_str a b t
  |_=>exact absurd (show bj=bh from fx) df
 |int a =>
  obtain⟨t',rfl⟩:=ry
  cases x with
  |non=>cases rx;exact SeqAt.EqAt.int_none a t'
  |bl b=>cases rx;exact SeqAt.EqAt.int_bool a t' b
  |int b=>obtain⟨t,rfl⟩:=rx;exact SeqAt.EqAt.int_int a t' b t
  |str b=>obtain⟨t,rfl⟩:=rx;exact jh2 a t' b t
  |_=>exact absurd (show bj=bh from fx) df
 |str a =>
  obtain⟨t',rfl⟩:=ry
  cases x with
  |non=>cases rx;exact SeqAt.EqAt.str_none a t'
  |bl b=>cases rx;exact SeqAt.EqAt.str_bool a t' b
  |int b=>obtain⟨t,rfl⟩:=rx;exact jh3 a t' b t
  |str b=>obtain⟨t,rfl⟩:=rx;exact SeqAt.EqAt.str_str a t' b t
  |_=>exact absurd (show bj=bh from fx) df
 |_=>exact absurd (show bj=bh from fy) df
def eqU(x:V)(u:bq):Bool:=match u with
 |.none=>eqV .non x
 |.bool b=>eqV (.bl b) x
 |.int i _=>eqV (.int i) x
 |.str z _=>eqV (.str z) x
 |_=>bj
theorem V8(r:jH y u)(f:yW y=bh):eqU x u=eqV y x:=by
 cases y with
 |non=>cases r;rfl
 |bl b=>cases r;rfl
 |int i=>obtain⟨t,rfl⟩:=r;rfl
 |str z=>obtain⟨t,rfl⟩:=r;rfl
 |_=>exact absurd (show bj=bh from f) df
theorem ua{x:V}:∀ {xs:List V} {us:List bq},jv xs us->xs.all yW=bh->us.any (eqU x)=xs.any λy=>eqV y x
 |_,_,.nil,_=>rfl
 |y::xs,u::us,.cons r t,f=>by
  rw[nV,bz]at f;rw[wL,wL,V8 r f.1,ua t f.2]
theorem yo{A:gz}{s:Shared}{x:V}{v:bq}(rx:jH x v)(fx:yW x=bh):∀ {xs:List V} {us:List bq},jv xs us->xs.all yW=bh->∀u∈us,jkr A s u v (eqU x u)
 |_,_,.nil,_=>λu hu=>by cases hu
 |y::xs,u::us,.cons r t,f=>λu' hu=>by
  rw[nV,bz]at f;rcases bG.mp hu with rfl|hu
  ·rw[V8 r f.1];exact jfc r rx f.1 fx
  ·exact yo rx fx t f.2 u' hu
def inV(x:V)(xs:List V):Bool:=xs.any λy=>eqV y x
def rIn(K:bx)(neg:Bool):R2:=λx y H Q=>∃p xs,y=.ref p/\(SqL K H p xs\/SqT K H p xs)/\yW x=bh/\xs.all yW=bh/\Q (.bl (if neg then !inV x xs else inV x xs)) H
theorem yM:OpR X (gU .In) (rIn X.K bj):=by
 intro pins s σ H x y v u Q I rx ry h;obtain⟨p,xs,rfl,hq,fx,fs,q⟩:=h;cases ry;rcases hq with hq|hq
 ·obtain⟨its,r,pl,hz⟩:=I.list hq;refine SeqAt.in_listAt (eqU x) pl.isList (λw hw=>yo rx fx r fs w (by simpa using hw)) ⟨.bl _,H,I,rfl,?_⟩;rw[show its.toArray.any (eqU x)=its.any (eqU x) by simp,ua r fs];exact q
 ·obtain⟨its,r,pl,hz⟩:=I.tuple hq;refine SeqAt.in_tupleAt (eqU x) pl (λw hw=>yo rx fx r fs w (by simpa using hw)) ⟨.bl _,H,I,rfl,?_⟩;rw[show its.toArray.any (eqU x)=its.any (eqU x) by simp,ua r fs];exact q
theorem qV:OpR X (gU .NotIn) (rIn X.K bh):=by
 intro pins s σ H x y v u Q I rx ry h;obtain⟨p,xs,rfl,hq,fx,fs,q⟩:=h;cases ry;rcases hq with hq|hq
 ·obtain⟨its,r,pl,hz⟩:=I.list hq;refine SeqAt.notIn_listAt (eqU x) pl.isList (λw hw=>yo rx fx r fs w (by simpa using hw)) ⟨.bl _,H,I,rfl,?_⟩;rw[show its.toArray.any (eqU x)=its.any (eqU x) by simp,ua r fs];exact q
 ·obtain⟨its,r,pl,hz⟩:=I.tuple hq;refine SeqAt.notIn_tupleAt (eqU x) pl (λw hw=>yo rx fx r fs w (by simpa using hw)) ⟨.bl _,H,I,rfl,?_⟩;rw[show its.toArray.any (eqU x)=its.any (eqU x) by simp,ua r fs];exact q
theorem zG:kJ X (.builtin "len") (λxs H Q=>∃p ys,xs=[.ref p]/\(SqL X.K H p ys\/SqT X.K H p ys)/\Q (.int ys.length) H):=by
 intro pins s σ H xs us Q I r h;obtain⟨p,ys,rfl,hq,q⟩:=h;obtain⟨u,rfl,rx⟩:=qf r;cases rx;have hn:=vI;rcases hq with hq|hq
 ·obtain⟨its,r',pl,hz⟩:=I.list hq;have hlen:=r'.length;exact Calls.call_len_list pl.isList (by simp only[bQ]<;>omega) ⟨.int ys.length,H,I.tok _,⟨s.toks+1,by rw[bQ,hlen]⟩,q⟩
 ·obtain⟨its,r',pl,hz⟩:=I.tuple hq;have hlen:=r'.length;exact len_tuple pl (by simp only[bQ]<;>omega) ⟨.int ys.length,H,I.tok _,⟨s.toks+1,by rw[bQ,hlen]⟩,q⟩
theorem KN:kJ X (.builtin "len") (λxs H Q=>∃z,xs=[.str z]/\z.length<=sizeLine/\Q (.int z.length) H):=by
 intro pins s σ H xs us Q I r h;obtain⟨z,rfl,hz,q⟩:=h;obtain⟨u,rfl,t,rfl⟩:=qf r;have hn:=vI;exact len_str (by omega) ⟨.int z.length,H,I.tok _,⟨_,rfl⟩,q⟩
theorem yb:kJ X (.type "list") (λxs H Q=>∃p ys,xs=[.ref p]/\(SqL X.K H p ys\/SqT X.K H p ys)/\∀l,H l=bc->Q (.ref l) (upd H l (.lst ys))):=by
 intro pins s σ H xs us Q I r h;obtain⟨p,ys,rfl,hq,q⟩:=h;obtain⟨u,rfl,rx⟩:=qf r;cases rx
 have fin:∀(its:List bq),jv ys its->ys.length<=sizeLine->∀(h':dR) (c':Nat),(∀b o',s.heap.get? b=ba o'->h'.get? b=ba o') ->
  h'.get? s.heap.objs.size=ba { cls:=.type "list",dict:=bc,data:=.seq its.toArray c',slots:=#[] }->EP X pins σ Q (.ref s.heap.objs.size) { s with heap:=h' }:=λits r' hz h' c' kp e =>
  ⟨.ref s.heap.objs.size,_,I.laid (t':=s.toks) kp (bN _) (show kO X.prog X.w _ h' _ (.lst ys) from ⟨hz,its,c',r',e⟩),rfl,q _ (I.hok.fresh (bN _))⟩
 rcases hq with hq|hq
 ·obtain⟨its,r',pl,hz⟩:=I.list hq;have hlen:=r'.length;obtain⟨o,ho,hc,n,hd⟩:=pl.isList;exact call_list_seq p (.inl rfl) ho hc hd (λh' c' kp e=>fin its r' hz h' c' kp e) (by simp only[bQ]<;>omega)
 ·obtain⟨its,r',pl,hz⟩:=I.tuple hq;have hlen:=r'.length;obtain⟨o,ho,hc,n,hd⟩:=pl;exact call_list_seq p (.inr rfl) ho hc hd (λh' c' kp e=>fin its r' hz h' c' kp e) (by simp only[bQ]<;>omega)
theorem yX:kJ X (.type "tuple") (λxs H Q=>∃p ys,xs=[.ref p]/\((SqL X.K H p ys/\∀l,H l=bc->Q (.ref l) (upd H l (.tup ys)))\/(SqT X.K H p ys/\Q (.ref p) H))):=by
 intro pins s σ H xs us Q I r h;obtain⟨p,ys,rfl,h⟩:=h;obtain⟨u,rfl,rx⟩:=qf r;cases rx;rcases h with⟨hq,q⟩|⟨hq,q⟩
 ·obtain⟨its,r',pl,hz⟩:=I.list hq;have hlen:=r'.length;refine call_tuple_list pl.isList (λh' kp=>?_) (by simp only[bQ]<;>omega);have I1:Inv X pins σ H { s with heap:=h' }:=I.kept (t':=s.toks) kp
  have I2:Inv X pins σ (upd H h'.objs.size (.tup ys)) { s with heap:=h'.push { cls:=.type "tuple",data:=.seq its.toArray } } :=
   I1.laid (t':=s.toks) (λb o e=>bu _ e) (bN _) (show kO X.prog X.w _ _ _ (.tup ys) from ⟨hz,its,r',IsTup.new _ _⟩)
  exact⟨.ref h'.objs.size,_,I2,rfl,q _ (I1.hok.fresh (bN _))⟩
 ·obtain⟨its,r',pl,hz⟩:=I.tuple hq;exact call_tuple_same pl ⟨.ref p,H,I,rfl,q⟩
def tyV(K:bx)(T:String)(x:V)(H:Hp):Prop:=match x with
 |.str _=>T="str"
 |.int _=>T="int"
 |.ref p=>(T="list" /\ ∃xs,SqL K H p xs)\/(T="tuple" /\ ∃o,K.lookup p=ba o/\o.cls=.type "tuple" /\ o.dict=bc) \/
  (T="dict" /\ ((∃kvs,H p=ba (.dK kvs))\/∃kvs,H p=ba (.dT kvs)))\/(T="set" /\ ∃S n,H p=ba (.set S n))
 |_=>False
theorem jav{s:Shared}{T:String}{v:bq}(I:Inv X pins σ H s)(r:jH x v)(ty:tyV X.K T x H) :
 s.TypeIs v T/\∀a,v=.ref a->∃ob,s.heap.get? a=ba ob/\ob.dict=none:=by
 cases x with
 |str z =>
  obtain⟨t,rfl⟩:=r;cases (show T="str" from ty)
  exact⟨sO s z t,λ_ e=>nomatch e⟩
 |int i =>
  obtain⟨t,rfl⟩:=r;cases (show T="int" from ty)
  exact⟨jjl s i t,λ_ e=>nomatch e⟩
 |ref p =>
  cases r;rcases ty with⟨rfl,xs,hq⟩|⟨rfl,o,hk,hc,hd⟩|⟨rfl,hk⟩|⟨rfl,S,n,hk⟩
  ·obtain⟨its,_,pl,_⟩:=I.list hq;refine⟨pl.isList.typeIs,λa e=>?_⟩;cases e;obtain⟨o,n,e,c,hd,_⟩:=pl;exact⟨o,e,hd⟩
  ·refine⟨⟨o,I.kIn p o hk,hc⟩,λa e=>?_⟩;cases e;exact⟨o,I.kIn _ o hk,hd⟩
  ·have z:∃o,s.heap.get? p=ba o/\o.ExactDict:=by
    rcases hk with⟨kvs,hk⟩|⟨kvs,hk⟩
    ·obtain⟨_,_,_,_,o,_,_,e,ex,_⟩:=I.hok p _ hk;exact⟨o,e,ex⟩
    ·obtain⟨_,_,_,_,o,_,_,e,ex,_⟩:=I.hok p _ hk;exact⟨o,e,ex⟩
   obtain⟨o,e,ex⟩:=z;refine⟨⟨o,e,ex.1⟩,λa e2=>?_⟩;cases e2;exact⟨o,e,ex.2.1⟩
  ·obtain⟨o,_,_,_,e,ex,_⟩:=I.hok p _ hk;refine⟨⟨o,e,ex.1⟩,λa e2=>?_⟩;cases e2
   exact⟨o,e,ex.2.1⟩
 |_=>exact gu ty
def jgH(K:bx)(T:String)(r:V->List V->Hp->VK->Prop)(to:TE):TE:=λσ H Q=>to σ H λx H1=>tyV K T x H1/\r x [] H1 Q
def tBM(K:bx)(T:String)(r:V->List V->Hp->VK->Prop)(to:TE)(t:TA):TE:=λσ H Q=>to σ H λx H1=>tyV K T x H1/\t σ H1 λxs H2=>r x xs H2 Q
variable {o e:bU} {es:List bU} {to:TE} {t:TA} {name:bF} {apos cpos:Pos} {T id:String} {r:V->List V->Hp->VK->Prop}
theorem jdA(pa:PlainAttrs T)(slot:Slot T name id)(hty:typeOf (.builtin id)=pure (.type "method_descriptor"))(hm:MtR X id r)(ho:PE X o to)
 (hbase:pH o name X.env (eval o X.env)=eval o X.env:=by rfl) (hline:(apos.endLine == cpos.line)=true:=by rfl):PE X (.Call (.Attribute o name apos) [] [] cpos) (jgH X.K T r to):=by
 intro pins s σ H Q I h;refine wpAny_Call_method0_late hbase hline (thn (ho pins s σ H _ I h) λv s1 ⟨x,H1,I1,r1,ty,q1⟩=>?_);obtain⟨h1,h2⟩:=jav I1 r1 ty;exact⟨T,id,pa,slot,hty,h1,h2,jg9 rfl (PySem.evalArgs_none (hm pins s1 σ H1 x [] v [] Q I1 r1 .nil q1))⟩
theorem zR(pa:PlainAttrs T)(slot:Slot T name id)(hty:typeOf (.builtin id)=pure (.type "method_descriptor"))(hm:MtR X id r)(ho:PE X o to)(ha:PA X (e::es) t)
 (hbase:pH o name X.env (eval o X.env)=eval o X.env:=by rfl)
 (hfew:((backTo cpos (bY (e::es) X.env)).all (λx=>!x.1)&&(backToKw cpos (keywordEach [] X.env)).all (λx=>x.1.isSome)
  && decide ((e::es).length+([]:List jir).length+(if ([]:List jir).isEmpty then 0 else 1)<30))=true:=by rfl)
 (hline:(apos.endLine == cpos.line)=true:=by rfl) (hs:bY (e::es) X.env=(bj,eval e X.env)::bY es X.env:=by rfl) (hplain:(backTo cpos (bY es X.env)).any (·.1)=false:=by rfl) :
 PE X (.Call (.Attribute o name apos) (e::es) [] cpos) (tBM X.K T r to t):=by
 intro pins s σ H Q I h;refine wpAny_Call_method_late hbase hfew hline rfl (thn (ho pins s σ H _ I h) λv s1 ⟨x,H1,I1,r1,ty,q1⟩=>?_);obtain⟨h1,h2⟩:=jav I1 r1 ty;refine⟨T,id,pa,slot,hty,h1,h2,?_⟩;have hA:=ha cpos pins s1 σ H1 _ I1 q1;rw[hs]at hA ⊢;refine jg9 (by show (bj ||(backTo cpos (bY es X.env)).any (·.1))=bj;rw[hplain]<;>rfl) (jhy ?_)
 exact thn hA λus s2 ⟨vs,H2,I2,r2,q2⟩=>hm pins s2 σ H2 x vs v us Q I2 r1 r2 q2
/- xs.append(e),list.index on a module's tuple .. are MtR facts of 06m -/
end
def MtM(X:Cx)(id:String)(r:V->List V->Hp->VK->Prop):Prop :=
 ∀(pins:List (Addr×mE)) (s:Shared) (σ:St) (H:Hp) (x:V) (xs:List V) (v:bq) (us:List bq) (Q:VK),Inv X pins σ H s->jH x v->jv xs us->r x xs H Q ->
  wpAny (model X.prog X.w) X.A (call (.builtin id) (v::us)) (EP X pins σ Q) X.xe s
theorem jv.one{us:List bq}(h:jv [x] us):∃u,us=[u]/\jH x u:=by
 cases h with|cons r t=>cases t;exact⟨_,rfl,r⟩
theorem jv.eraseIdx:∀ {xs:List V} {us:List bq} (i:Nat),jv xs us->jv (xs.eraseIdx i) (us.eraseIdx i)
 |_,_,_,.nil=>.nil
 |_,_,0,.cons _ t=>t
 |_,_,i+1,.cons r t=>.cons r (jv.eraseIdx i t)
theorem jv.rep{xs:List V}{us:List bq}(h:jv xs us):∀k:Nat,jv (bE k xs).flatten (bE k us).flatten
 |0=>.nil
 |k+1=>by
  rw[gm,gm,gB,gB];exact jv.append h (jv.rep h k)
theorem Ke{α:Type}:∀(l:List α) (i:Nat),(l.eraseIdx i).length<=l.length
 |[],_=>bN _
 |_::_,0=>tF _
 |_::r,i+1=>wX (Ke r i)
theorem foldl_rep(its:List bq):∀(k:Nat) (acc:List bq),
 jjm (λx1 x2=>x1++x2) acc.toArray (bE k its.toArray)=(acc++(bE k its).flatten).toArray
 |0,acc=>by simp
 |k+1,acc=>by
  have e:acc.toArray++its.toArray=(acc++its).toArray:=by simp
  have e2:(acc++its)++(bE k its).flatten=acc++(bE (k+1) its).flatten:=by
   rw[gm,gB,wF]
  rw[<- e2,<- foldl_rep its k (acc++its),<- e,gm,pP]
variable{its:List bq}{t':Nat}
section
variable {X:Cx} {pins:List (Addr×mE)} {σ:St} {H:Hp} {s:Shared} {l b:Addr} {xs ys zs:List V}
theorem Inv.lset{its':List bq}{f:Array bq->Array bq}(I:Inv X pins σ H s)(hH:H l=ba (.lst xs))
 (e:s.heap.get? l=ba { cls:=.type "list",data:=.seq its.toArray n }) (hf:f its.toArray=its'.toArray) (hv:jv ys its') (hz:ys.length<=sizeLine) :
 Inv X pins σ (upd H l (.lst ys)) { s with heap:=s.heap.update l (gH f),toks:=t' }:=by
 have q:=PySem.IsL.update e f;rw[hf]at q;refine I.write (x:=l) (e:=l) (by rw[hH];exact trivial) (.inl rfl) (λb' u hb hu=>(b8 s.heap (gH f) (gC hb)).trans hu) ⟨_,q⟩ ?_;exact⟨hz,its',_,hv,q⟩
theorem Inv.lnew(I:Inv X pins σ H s)(hv:jv ys its)(hz:ys.length<=sizeLine) :
 Inv X pins σ (upd H s.heap.objs.size (.lst ys)) { s with heap:=s.heap.push { cls:=.type "list",data:=.seq its.toArray },toks:=t' } :=
 I.laid (λ_ _ q=>bu _ q) (bN _) ⟨hz,its,0,hv,bM _ rfl⟩
theorem Inv.fresh(I:Inv X pins σ H s):H s.heap.objs.size=none:=I.hok.fresh (bN _)
theorem Inv.lstM(I:Inv X pins σ H s)(hH:H l=ba (.lst xs)):xs.length<=sizeLine/\∃(its:List bq) (n:Nat),jv xs its/\xs.length=its.length/\s.heap.get? l=ba { cls:=.type "list",data:=.seq its.toArray n }:=by
 obtain⟨z,its,n,r,e⟩:=I.hok l _ hH;exact⟨z,its,n,r,r.length,e⟩
theorem notLongL(h:n<=sizeLine):mr n=false:=by
 unfold mr;exact decide_eq_false (by omega)
end
section
variable {X:Cx}
def jcu:V->List V->Hp->VK->Prop:=λx vs H Q=>∃l xs y,x=.ref l/\vs=[y]/\H l=ba (.lst xs)/\xs.length<sizeLine/\Q .non (upd H l (.lst (xs ++ [y])))
theorem ud:MtM X "list.append" jcu:=by
 intro pins s σ H x vs v us Q I rx rv h;obtain⟨l,xs,y,rfl,rfl,hH,hz,q⟩:=h;cases rx;obtain⟨u,rfl,ru⟩:=rv.one;obtain⟨z,its,n,r,hl,e⟩:=I.lstM hH;refine n8 F.slot_list_append ⟨_,e,rfl⟩ F.entry_list_append (F.args_list_append_2 _ _) (PySem.list_append l its.toArray n u (by rw[bQ];omega)) ⟨e,?_⟩;refine⟨.non,_,I.lset (its':=its ++ [u]) hH e (by simp) (r.append (.cons ru .nil)) ?_,rfl,q⟩;rw[dS,List.length_singleton];omega
def jd3:V->List V->Hp->VK->Prop:=λx vs H Q=>∃l xs i k y,x=.ref l/\vs=[.int i]/\H l=ba (.lst xs) /\ -(2^63)<=i/\i<2^63/\jiK i xs.length=ba k/\xs[k]?=ba y/\Q y (upd H l (.lst (xs.eraseIdx k)))
theorem jbc:MtM X "list.pop" jd3:=by
 intro pins s σ H x vs v us Q I rx rv h;obtain⟨l,xs,i,k,y,rfl,rfl,hH,h1,h2,hk,hy,q⟩:=h;cases rx;obtain⟨u,rfl,ru⟩:=rv.one;obtain⟨t,rfl⟩:=ru;obtain⟨z,its,n,r,hl,e⟩:=I.lstM hH;obtain⟨w,hw,rw'⟩:=r.get hy
 refine n8 F.slot_list_pop ⟨_,e,rfl⟩ F.entry_list_pop (F.args_list_pop_2 _ _)
  (MeetsSeq.list_pop_at l its.toArray n i t k w (fitsIndex_both h1 h2) (by rw[bQ,<- hl];exact hk) (by rw[<- jhn];exact hw) (by rw[bQ];omega)) ⟨e,?_⟩
 refine⟨y,_,I.lset (its':=its.eraseIdx k) hH e ?_ (r.eraseIdx k) ?_,rw',q⟩
 ·show its.toArray.eraseIdxIfInBounds k=(its.eraseIdx k).toArray;rw[List.eraseIdxIfInBounds_toArray]
 ·have:=Ke xs k;omega
theorem len_rep(xs:List α)(k:Nat):(bE k xs).flatten.length=k*xs.length:=by
 induction k with
 |zero=>simp
 |succ k ih=>rw[gm,gB,dS,ih,Nat.succ_mul,tU]
end
section
variable {prog:dg} {w:World} {A:gz} {E:bq->Shared->Prop} {s:Shared}
set_option maxRecDepth 100000 in
end
end L2
namespace Att
open PySem PySem.W PySem.Calls PyProof.Rows
variable{P:Params}{h:dR}
theorem uU:∀(ns:List Int) (vs:List bq),WellAll P h vs (ns.map jkw)->jis vs ns:=by
 intro ns
 induction ns with
 |nil =>
  intro vs w;rw[gK]at w;cases w
  exact .nil
 |cons n ns ih =>
  intro vs w;rw[b5]at w
  cases w with
  |cons a b =>
   cases a;exact .cons _ _ (ih _ b)
variable{l:OpenLaw}{n:Nat}
theorem ZW(hn:l.most=ba n){args:List WData}{vals:List bq}
 (hpre:l.row.toRowW.claim.pre args=bh) (hwl:WellAll P h vals args) :
 ∃a vs ns,vals=[dG a]/\args=[WData.list (ns.map jkw)]/\h.get? a=ba { cls:=.type "list",data:=.seq vs.toArray }/\jis vs ns/\ns.length<=n:=by
 have hsh:WShape.hasAll [] args [.list .int]=true:=(pre_splitW hpre).1;have hc:l.pre.holds [] { args:=args }=true:=(pre_splitW hpre).2;obtain⟨d,r,rfl,h1,h2⟩:=hasAllW_cons hsh;obtain rfl:=hasAllW_nil h2;obtain⟨xs,rfl,h3⟩:=hasW_list h1;obtain⟨ns,rfl⟩:=items_int h3
 have hlen:ns.length<=n:=by
  unfold OpenLaw.pre at hc
  have h4:(WTm.not (.lt (.lit (.int (n:Int))) (.len (.arg 0)))).holds [] { args:=[.list (ns.map .int)] }=true:=by
   have h4:=(holds_andW hc).1;rw[hn]at h4;exact h4
  have h5:=condW_of h4 (w_not (w_lt w_lit (w_len_list (w_arg rfl))));rw[bW]at h5
  refine Nat.le_of_not_lt λq=>?_
  have q':(n:Int)<((ns.length:Nat):Int):=by omega
  first
   |(rw[decide_eq_true q']at h5;exact absurd h5 (by decide))
   |(simp at h5;omega)
 cases hwl with
 |cons w1 w2 =>
  cases w2
  cases w1 with
  |list ho hall=>exact⟨_,_,ns,rfl,rfl,ho,uU ns _ hall,hlen⟩
theorem UF(l:OpenLaw)(args:List WData):l.row.toRowW.claim.post args (.bool bh) args=true :=
 postW_of (r:=l.row.toRowW) (X:=(bh == bh))
  (show jks [] (.bool bh) .bool=bh by first|rfl|decide|simp[jks,WShape.arms,WShape.armsAll])
  (show (WTm.eq .res (.lit (.bool bh))).value [] { args:=args,res:=ba (.bool bh),after:=args }=ba (.bool (bh == bh)) from w_eq_bool (w_res rfl) w_lit) rfl
theorem attach_call{q:dg}{loose:List bF}{XP:(bF->Option bq)->dR->Prop}{YP:World->dR->Prop}{d:DefRec}
 (hn:l.most=ba n) (hdf:d.params.defaults=[])
 (call:∀(w:World) (s₀ s₁:Shared) (mg mb:bF->Option bq) (fa:Addr) (o:mE) (pm cd doc:bq) (a:Addr) (vs:List bq) (ns:List Int),
  Ground q loose [] XP w s₀ mg mb s₁.heap->YP w s₁.heap ->
  s₁.heap.get? fa=ba o->o.data=.func (docDef d.name d.params d.body d.scope pm cd doc)->s₁.heap.CodeRec cd d.name->mg d.name=ba (.ref fa) ->
  s₁.heap.get? a=ba { cls:=.type "list",data:=.seq vs.toArray }->jis vs ns->ns.length<=n->s₁.gens=#[] ->
  ph (model l.prog w) jha (.call (.ref fa) ⟨[.ref a],[]⟩) (λr s'=>r=.ok (.ret (.bool bh))/\OldK s₁.heap s'.heap/\s'.os=s₁.os/\p9 s'.gens) s₁) :
 WalkO q loose XP YP l.row.toRowW d [] (λf vs=>jjn f vs):=by
 intro w s₀ s₁ mg mb G Y fa o pm cd doc dV kV ho hd hcd hD hmg hg args vals as hpre hlay hrd hwl hlo;obtain rfl:dV=.none:=Dflts.none hD hdf;obtain rfl:kV=.none:=Dflts.noKw hD;obtain⟨a,vs,ns,rfl,rfl,hobj,hints,hlen⟩:=ZW hn hpre hwl;refine enter_call (pq (call w s₀ s₁ mg mb fa o pm cd doc a vs ns G Y ho (fd_plain hd) hcd hmg hobj hints hlen hg) λr s' hq=>?_);obtain⟨rfl,h2,h3,h4⟩:=hq;exact⟨.inl ⟨.bool bh,.bool bh,[],rfl,λ_=>rfl,.bool bh,UF l _,λ_=>⟨jkv,λ_ hm=>(nomatch hm)⟩⟩,h2,h3,h4⟩
end Att
namespace L2
open PySem PySem.Spec PyProof.Rows
theorem xO:∀ {vs:List bq} {ns:List Int},jis vs ns->jv (ns.map V.int) vs
 |_,_,.nil=>.nil
 |_,_,.cons n t h=>.cons ⟨t,rfl⟩ (xO h)
def jeT(H:Hp):Prop:=∀b,H b=bc\/∃o xs,H b=ba (.frz o (.lst xs))
variable{k:Nat}{x:bF}
theorem Vk{P:dg}{w:World}{K:bx}{mg mb:bF->Option bq}{CX:CXT}{fa a:Addr}{fd:gV}{sp:Sp}{s₁:Shared}{vs:List bq}{ns:List Int}
 (KX:K.In s₁.heap) (hns:s₁.heap.Ns dh mg) (hb:s₁.heap.Ns jjj mb) (hbb:∀x:bF,x ≠ "__name__"->mb x=pf x) (hlim:s₁.heap.NoLimit/\s₁.heap.NoDigits) (hg:s₁.gens=#[])
 (ha:s₁.heap.get? a=ba { cls:=.type "list",data:=.seq vs.toArray }) (hi:jis vs ns) (hl:ns.length<=sizeLine) (hr:Room k jha)
 (F:∀base:dR,K.In base->base.Ns dh mg->FnOk P w K mg base CX k fa fd [x] sp) (hbind:∀(s:Shared) (u:bq),jjV s fd ⟨[u],[]⟩ [(x,u)])
 (hsp:∀H:Hp,jeT H->SqL K H a (ns.map V.int)->sp [.ref a] H (λv _=>v=.bl bh) λ_ _ _=>False)
 (hCX:∀H e s',CX [] H s₁ (λ_ _ _=>False) e s'->False) :
 ph (model P w) jha (.call (.ref fa) ⟨[.ref a],[]⟩) (λr s'=>r=.ok (.ret (.bool bh))/\OldK s₁.heap s'.heap/\s'.os=s₁.os/\p9 s'.gens) s₁:=by
 have rv:=xO hi;have lenV:=hi.length
 have core:∀H:Hp,jeT H->SqL K H a (ns.map V.int)->HOk P w H s₁.heap->(∀b,H b≠bc->b=a)->(H a≠bc->K.lookup a=bc) ->
  ph (model P w) jha (.call (.ref fa) ⟨[.ref a],[]⟩) (λr s'=>r=.ok (.ret (.bool bh))/\OldK s₁.heap s'.heap/\s'.os=s₁.os/\p9 s'.gens) s₁:=by
  intro H hO hS hok hA hK
  have base_of:∀ {b:Addr} {o:mE},s₁.heap.get? b=ba o->H b=bc->(KA s₁.heap H).get? b=ba o:=λe n=>jbp e n
  have noA:∀ {b:Addr} {o:mE} {es:Array pY} {ep:Nat},s₁.heap.get? b=ba o->o.data=.dict es ep->H b=none:=λ{b o es ep} e d=>by
   cases q:H b with
   |none=>rfl
   |some u =>
    have e':b=a:=hA b (by rw[q];simp);subst e';rw[ha]at e;cases e;have d':Data.seq vs.toArray _=Data.dict es ep:=d;cases d'
  have nsK:∀ {b:Addr} {m:bF->Option bq},s₁.heap.Ns b m->(KA s₁.heap H).Ns b m:=λ{b m} ⟨o,es,ep,e,d,r⟩=>⟨o,es,ep,base_of e (noA e d),d,r⟩
  have hKb:K.In (KA s₁.heap H):=λb o e=>base_of (KX b o e) (by
   cases q:H b with
   |none=>rfl
   |some u =>
    have e':b=a:=hA b (by rw[q];simp);subst e'
    rw[hK (by rw[q];simp)]at e;cases e)
  have hM:Mod K mg (KA s₁.heap H):=⟨hKb,nsK hns,⟨mb,nsK hb,hbb⟩,(let ⟨mc,h1,h2⟩:=hlim.1;⟨mc,nsK h1,h2⟩),(let ⟨mc,h1,h2⟩:=hlim.2;⟨mc,nsK h1,h2⟩)⟩
  have e0:Env0 P w K mg (KA s₁.heap H) jha [] s₁ H:=⟨rfl,hM,λb o e=>jcq e,si (UB _ _),trivial,λb hb=>absurd (show b∈([]:List Addr) from hb) (by simp),hok,.of_eq hg⟩
  refine pq ((F _ hKb (nsK hns)).run jha [] s₁ H ⟨[.ref a],[]⟩ [.ref a] [.ref a] _ _ hr e0 (hbind s₁ (.ref a)) (.cons rfl .nil) (hsp H hO hS)) λr s' h=>?_
  cases r with
  |error e=>exact(hCX H e s' h).elim
  |ok fl =>
   cases fl with
   |next=>exact gu h
   |brk=>exact gu h
   |cont=>exact gu h
   |ret u =>
    obtain⟨v,H',os,bare,un,hok',r',q⟩:=h;have q':v=.bl true:=q;subst q';obtain rfl:u=jh4 true:=r';refine⟨rfl,OldK.of_keep λb o e=>?_,os,bare⟩
    cases q:H b with
    |none=>exact un.keep b o e q (by intro z;exact absurd (show b∈([]:List Addr) from z) (by simp)) (by simp)
    |some u =>
     rcases hO b with z|⟨ob,xs,z⟩
     ·rw[q]at z;cases z
     ·have z2:=un.frzs b ob _ z;obtain⟨e1,_⟩:=hok b _ z;obtain⟨e2,_⟩:=hok' b _ z2;rw[e]at e1;cases e1;exact e2
 cases hk:K.lookup a with
 |some o =>
  have e:=KX a o hk;rw[ha]at e;cases e
  refine core (λ_=>bc) (λ_=>.inl rfl) (.inr ⟨_,vs.toArray,_,hk,rfl,rfl,rfl,by rw[bQ,lenV];exact hl,by simpa using rv⟩) (λb u z=>by have z':(bc:Option HO)=ba u:=z;cases z') (λb z=>absurd rfl z) λz=>absurd rfl z
 |none =>
  refine core (λb=>if b=a then ba (.frz { cls:=.type "list",data:=.seq vs.toArray } (.lst (ns.map V.int))) else bc) (λb=>?_) (.inl (.inr ⟨{ cls:=.type "list",data:=.seq vs.toArray },if_pos rfl⟩)) (λb u z=>?_) (λb z=>?_) λ_=>hk
  ·by_cases hb:b=a
   ·exact .inr ⟨_,_,if_pos hb⟩
   ·exact .inl (if_neg hb)
  ·by_cases hb:b=a
   ·have z':=(if_pos hb).symm.trans z;cases z';subst hb;exact⟨ha,by rw[bW];exact hl,vs,_,rv,ha⟩
   ·have z':=(if_neg hb).symm.trans z;cases z'
  ·by_cases hb:b=a
   ·exact hb
   ·exact absurd (if_neg hb) z
theorem walk_of{l:ji2}{n:Nat}{q:dg}{loose:List bF}{XP:(bF->Option bq)->dR->Prop}{YP:World->dR->Prop}{d:DefRec}{K:Params->bx}{CX:World->CXT}{sp:World->Sp}
 (hn:l.most=ba n) (hn2:n<=sizeLine) (hdf:d.params.defaults=[]) (hr:Room k jha)
 (hY:∀(w:World) (h:dR),YP w h->(K w.params).In h)
 (F:∀(w:World) (mg:bF->Option bq) (fa:Addr) (h:dR),(K w.params).In h->h.Ns dh mg->mg d.name=ba (.ref fa) ->
  ∃fd:gV,(∀(s:Shared) (u:bq),jjV s fd ⟨[u],[]⟩ [(x,u)]) /\
   ∀base:dR,(K w.params).In base->base.Ns dh mg->FnOk l.prog w (K w.params) mg base (CX w) k fa fd [x] (sp w))
 (hsp:∀(w:World) (H:Hp) (a:Addr) (ns:List Int),ns.length<=n->jeT H->SqL (K w.params) H a (ns.map V.int)->sp w [.ref a] H (λv _=>v=.bl bh) λ_ _ _=>False)
 (hCX:∀(w:World) (H:Hp) (s:Shared) (e:bq) (s':Shared),CX w [] H s (λ_ _ _=>False) e s'->False) :
 jjC q loose XP YP l.row.toRowW d [] (λf vs=>jjn f vs):=by
 refine Att.attach_call hn hdf λw s₀ s₁ mg mb fa o pm cd doc a vs ns G Y ho hd hcd hmg hobj hints hlen hg=>?_
 have KX:=hY w _ Y;obtain⟨fd,hb,hF⟩:=F w mg fa _ KX G.T.g hmg
 exact Vk KX G.T.g G.T.b G.T.builtins ⟨G.T.nolimit,G.T.nodigits⟩ hg hobj hints (dU hlen hn2) hr hF hb (λH hO hS=>hsp w H a ns hlen hO hS) λH e s'=>hCX w H s₁ e s'
end L2
namespace L2
open PySem PySem.Spec PyProof.Rows
def qo(s:d9):Arguments:=match s with
 |.FunctionDef _ a _ _ _ _ _ _ _ _=>a
 |_=>{ posonlyargs:=[],args:=[],vararg:=bc,kwonlyargs:=[],kw_defaults:=[],kwarg:=bc,defaults:=[] }
def jm(s:d9):List d9:=match s with
 |.FunctionDef _ _ b _ _ _ _ _ _ _=>b
 |_=>[]
def jg(s:d9):Scope:=match s with
 |.FunctionDef _ _ _ _ _ _ sc _ _ _=>sc
 |_=>{ kind:=.function,names:=[],isGenerator:=bj,isCoroutine:=bj }
abbrev E0:XK:=λ_ _ _=>False
structure Fun (K:bx) (x qual:bF) (st:d9) (f:Addr) (fd:gV):Prop where
 ex:∃(oc:bq) (od:Option Addr) (kV doc pm:bq) (an:Option Addr) (cdv ct:bq) (osl:Array (Option bq)),
  fd=ni x qual (qo st) (jm st) (jg st) .none kV doc pm an cdv ct/\K.lookup f=ba ⟨oc,od,.func fd,osl⟩/\sj K cdv qual=bh
 kp:me K (.ref f)=bh
section
variable {P:dg} {w:World} {K:bx} {mg:bF->Option bq} {base:dR}
theorem jeJ{x qual:bF}{st:d9}{f:Addr}{oc:bq}{od an:Option Addr}{osl:Array (Option bq)}{kV doc pm cdv ct:bq}(l:K.lookup f=ba ⟨oc,od,.func (ni x qual (qo st) (jm st) (jg st) .none kV doc pm an cdv ct),osl⟩)
 (c:sj K cdv qual=bh) (k:me K (.ref f)=bh):Fun K x qual st f (ni x qual (qo st) (jm st) (jg st) .none kV doc pm an cdv ct):=⟨⟨oc,od,kV,doc,pm,an,cdv,ct,osl,rfl,l,c⟩,k⟩
end
def jd(H H':Hp):Prop:=∀b o,H b=ba o->H' b=ba o
theorem jd.refl(H:Hp):jd H H:=λ_ _ h=>h
variable{H:Hp}
theorem jd.trans{H1 H2:Hp}(a:jd H H1)(b:jd H1 H2):jd H H2:=λc o h=>b c o (a c o h)
variable{H':Hp}
theorem jd.free(e:jd H H'){l:Addr}(h:H' l=jkf):H l=jkf:=by
 cases q:H l with
 |none=>rfl
 |some o =>
  rw[e l o q]at h;cases h
theorem jd.seq{K:bx}{a:Addr}{xs:List V}(e:jd H H')(h:SqL K H a xs):SqL K H' a xs:=by
 rcases h with(h|⟨o,h⟩)|h
 ·exact .inl (.inl (e _ _ h))
 ·exact .inl (.inr ⟨o,e _ _ h⟩)
 ·exact .inr h
end L2
namespace Z
open PySem
variable{α:Type}{P:Prop}
theorem nn{d:α}(h:bc=ba d):P:=by cases h
theorem ft(h:bj=bh):P:=by cases h
theorem xne(c:α->Nat){a b:α}(h:ba a=ba b)(k:Nat.beq (c a) (c b)=bj):P:=by
 have e:c a=c b:=congrArg c (dF h);rw[e,Nat.beq_refl]at k;exact ft k.symm
set_option genInjectivity true in
inductive D where
 |non|bl (b:Bool)|int (i:Int)|str (x:bF)|tup (xs:List D)|lst (xs:List D)
mutual
noncomputable def eqD:D->D->Bool
 |.non,.non=>bh
 |.bl a,.bl b=>a == b
 |.bl a,.int j=>(if a then 1 else 0) == j
 |.int i,.bl b=>i == (if b then 1 else 0)
 |.int i,.int j=>i == j
 |.str x,.str y=>x == y
 |.tup xs,.tup ys=>ux xs ys
 |.lst xs,.lst ys=>ux xs ys
 |_,_=>bj
noncomputable def ux:List D->List D->Bool
 |[],[]=>bh
 |x::xs,y::ys=>eqD x y&&ux xs ys
 |_,_=>bj
end
mutual
noncomputable def qI:D->Nat
 |.tup xs=>yZ xs+1
 |.lst xs=>yZ xs+1
 |_=>0
noncomputable def yZ:List D->Nat
 |[]=>0
 |x::xs=>max (qI x) (yZ xs)
end
mutual
noncomputable def nol:D->Bool
 |.tup xs=>jfv xs
 |.lst _=>bj
 |_=>bh
noncomputable def jfv:List D->Bool
 |[]=>bh
 |x::xs=>nol x&&jfv xs
end
structure XD where
 c:Nat
 t:bF
 f:List D
inductive BOp where
 |add|sub|mul|fdiv|mod|shl|band
 deriving DecidableEq
inductive COp where
 |eq|ne|lt|le|gt|ge
 |inn|nin
 deriving DecidableEq
inductive Bi where
 |abs|max|min|len|int|list|sum|all|any|tuple|str
 |dvm
 |mxl
 |srt
 deriving DecidableEq
inductive Mt where
 |bitlen
 deriving DecidableEq
inductive Ty where
 |int|bool|tuple|list|str
 deriving DecidableEq
inductive SOp where
 |jn
 |spl
 deriving DecidableEq
def SOp.nm:SOp->bF
 |.jn=>"join"
 |.spl=>"split"
inductive Ex where
 |var (i:Nat)
 |cst (d:D)
 |con (k:Nat)
 |bin (o:BOp) (a b:Ex)
 |neg (a:Ex)
 |not (a:Ex)
 |cmp (o:COp) (a b:Ex)
 |chain (o p:COp) (a b c:Ex)
 |and (a b:Ex)
 |or (a b:Ex)
 |ife (c a b:Ex)
 |tup (es:List Ex)
 |lst (es:List Ex)
 |ix (a b:Ex)
 |call (f:Nat) (es:List Ex)
 |bi (f:Bi) (es:List Ex)
 |meth (m:Mt) (o:Ex)
 |isi (a:Ex) (t:Ty)
 |compR (es:List Ex) (e:Ex)
 |compE (a e:Ex)
 |compZ (a b e:Ex)
 |compN (a e:Ex)
 |compF (a c e:Ex)
 |slc (a l h:Ex)
 |lix (a b:Ex)
 |sm (o:SOp) (a b:Ex)
 |fst (es:List Ex)
inductive Sm where
 |nop
 |seq (a b:Sm)
 |set (i:Nat) (e:Ex)
 |unp (is:List Nat) (e:Ex)
 |ret (e:Ex)
 |ite (c:Ex) (a b:Sm)
 |whl (c:Ex) (b:Sm)
 |forR (i:Nat) (es:List Ex) (b:Sm)
 |forE (i:Nat) (e:Ex) (b:Sm)
 |brk|cnt
 |never
 |new (i:Nat)
 |app (i:Nat) (e:Ex)
 |shr (i:Nat)
 |raise (x:bF)
 |retX (fs:List (Nat×List Ex)) (f:Nat) (es:List Ex)
 |raiseA (x:bF) (e:Ex)
 |setX (i:Nat) (fs:List (Nat×List Ex)) (f:Nat) (es:List Ex)
 |ext (i:Nat) (e:Ex)
 |forU (i j s:Nat) (e:Ex)
 |forN (i:Nat) (e:Ex) (b:Sm)
inductive Sl where
 |sh (d:D)
 |ow (ds:List D)
 |ot (rows:List (List D))
theorem owi{a b:List D}(h:ba (Sl.ow a)=ba (Sl.ow b)):a=b:=by cases h;rfl
theorem shi{a b:D}(h:ba (Sl.sh a)=ba (Sl.sh b)):a=b:=by cases h;rfl
abbrev Sto:=List (Option Sl)
def ji:Sto->Nat->Option Sl
 |[],_=>bc
 |x::_,0=>x
 |_::r,i+1=>ji r i
def jC:Sto->Nat->Option Sl->Sto
 |[],_,_=>[]
 |_::r,0,v=>v::r
 |x::r,i+1,v=>x::jC r i v
abbrev xE(i:Int):Nat:=gN i
def lim:Nat:=16777216
def JH(i j:Int):Prop:=xE i<=64\/xE j<=64\/xE i+xE j<=134217728
def VP(i j:Int):Prop:=0<=j/\(xE i:Int)+j<=134217728
def uK(n:Nat)(k:Int):Prop:=(-9223372036854775808<=k/\k<9223372036854775808)/\n*k.toNat<=lim
def yw(f:Int->Int->(D->Prop)->Prop):D->D->(D->Prop)->Prop
 |.int i,.int j,Q=>f i j Q
 |_,_,_=>False
def jgy:D->D->(D->Prop)->Prop
 |.int i,.int j,Q=>Q (.int (i+j))
 |.str x,.str y,Q=>x.length+y.length<=lim/\Q (.str (x++y))
 |.lst xs,.lst ys,Q=>xs.length+ys.length<=lim/\Q (.lst (xs++ys))
 |_,_,_=>False
def jgl:D->D->(D->Prop)->Prop
 |.int i,.int j,Q=>JH i j/\Q (.int (i*j))
 |.lst xs,.int k,Q=>uK xs.length k/\Q (.lst (bE k.toNat xs).flatten)
 |.str x,.int k,Q=>uK x.length k/\Q (.str ⟨(bE k.toNat x.cps.toList).flatten.toArray⟩)
 |_,_,_=>False
def y6:BOp->D->D->(D->Prop)->Prop
 |.add=>jgy
 |.sub=>yw λi j Q=>Q (.int (i-j))
 |.mul=>jgl
 |.fdiv=>yw λi j Q=>(j≠0/\xE j<=9000)/\Q (.int (i.fdiv j))
 |.mod=>yw λi j Q=>j≠0/\Q (.int (i.fmod j))
 |.shl=>yw λi j Q=>VP i j/\Q (.int (i*2^j.toNat))
 |.band=>yw λi j Q=>Q (.int (jhv i j))
def qR(p q:Int×Int):Bool:=decide (p.1<q.1\/(p.1=q.1/\p.2<q.2))
def prD(p:Int×Int):D:=.tup [.int p.1,.int p.2]
def uD:D->(D->Prop)->Prop
 |.lst xs,Q=>xs.length<3/\∃ps:List (Int×Int),xs=ps.map prD/\∀qs:List (Int×Int),qs.Perm ps->qs.Pairwise (λa b=>qR b a=bj)->Q (.lst (qs.map prD))
 |_,_=>False
def inD(t:Bool):D->D->(D->Prop)->Prop
 |.str i,.str j,Q=>Q (.bl ((!(gA j i 0 j.length 1).isEmpty) == t))
 |.str i,.lst ys,Q=>∃ss:List bF,ys=ss.map .str/\ys.length<=lim/\Q (.bl (ss.contains i == t))
 |.str i,.tup ys,Q=>∃ss:List bF,ys=ss.map .str/\ys.length<=lim/\Q (.bl (ss.contains i == t))
 |.int i,.lst ys,Q=>∃ns:List Int,ys=ns.map .int/\ys.length<=lim/\Q (.bl (ns.contains i == t))
 |.int i,.tup ys,Q=>∃ns:List Int,ys=ns.map .int/\ys.length<=lim/\Q (.bl (ns.contains i == t))
 |_,_,_=>False
def zb:COp->D->D->(D->Prop)->Prop
 |.eq=>λx y Q=>min (qI x) (qI y)<=100/\Q (.bl (eqD x y))
 |.ne=>λx y Q=>min (qI x) (qI y)<=100/\Q (.bl (!eqD x y))
 |.lt=>yw λi j Q=>Q (.bl (decide (i<j)))
 |.le=>yw λi j Q=>Q (.bl (decide (i<=j)))
 |.gt=>yw λi j Q=>Q (.bl (decide (j<i)))
 |.ge=>yw λi j Q=>Q (.bl (decide (j<=i)))
 |.inn=>inD bh
 |.nin=>inD bj
def atD(xs:List D)(i:Int):Option D :=
 if 0<=i then xs[i.toNat]? else if -(xs.length:Int)<=i then xs[(i+xs.length).toNat]? else bc
def ixD:D->D->(D->Prop)->Prop
 |.lst xs,.int i,Q=>∃d,atD xs i=ba d/\Q d
 |.tup xs,.int i,Q=>∃d,atD xs i=ba d/\Q d
 |.str x,.int i,Q=>∃c,(x.length<=lim/\0<=i/\x.cps[i.toNat]?=ba c)/\Q (.str ⟨#[c]⟩)
 |_,_,_=>False
def tyD:Ty->D->Bool
 |.int,.int _=>bh
 |.int,.bl _=>bh
 |.bool,.bl _=>bh
 |.tuple,.tup _=>bh
 |.list,.lst _=>bh
 |.str,.str _=>bh
 |_,_=>bj
def yU(f:D->(D->Prop)->Prop):List D->(D->Prop)->Prop
 |[x],Q=>f x Q
 |_,_=>False
def UG(f:D->D->(D->Prop)->Prop):List D->(D->Prop)->Prop
 |[x,y],Q=>f x y Q
 |_,_=>False
def jgP:D->(D->Prop)->Prop
 |.int i,Q=>Q (.int (if i<0 then -i else i))
 |_,_=>False
def jgg:D->(D->Prop)->Prop
 |.lst xs,Q=>Q (.int xs.length)
 |.tup xs,Q=>Q (.int xs.length)
 |.str x,Q=>x.length<=lim/\Q (.int x.length)
 |_,_=>False
def jaa:D->(D->Prop)->Prop
 |.int i,Q=>Q (.int i)
 |.bl b,Q=>Q (.int (if b then 1 else 0))
 |.str x,Q=>∃v,(x.length<=640/\jhz x=ba v)/\Q (.int v)
 |_,_=>False
def jdH:D->(D->Prop)->Prop
 |.int i,Q=>i.natAbs.log2<1920/\Q (.str (toString i:String))
 |_,_=>False
def jby:D->(D->Prop)->Prop
 |.lst xs,Q=>Q (.lst xs)
 |.tup xs,Q=>Q (.lst xs)
 |_,_=>False
def jdJ:D->(D->Prop)->Prop
 |.lst xs,Q=>Q (.tup xs)
 |.tup xs,Q=>Q (.tup xs)
 |_,_=>False
def uH(f:List D->(D->Prop)->Prop):D->(D->Prop)->Prop
 |.lst xs,Q=>f xs Q
 |_,_=>False
def Jt(mx:Bool)(a b:Int):Int:=if mx then (if b > a then b else a) else (if b<a then b else a)
def mmF(mx:Bool)(d:Int):List Int->Int
 |[]=>d
 |n::ns=>ns.foldl (Jt mx) n
def Vz:List D->(D->Prop)->Prop
 |[x],Q=>uH (λxs Q=>∃ns:List Int,xs=ns.map .int/\ns ≠ []/\Q (.int (mmF bj 0 ns))) x Q
 |[x,y],Q=>yw (λi j Q=>Q (.int (if j<i then j else i))) x y Q
 |_,_=>False
def biD:Bi->List D->(D->Prop)->Prop
 |.abs=>yU jgP
 |.max=>UG (yw λi j Q=>Q (.int (if j > i then j else i)))
 |.min=>Vz
 |.mxl=>yU (uH λxs Q=>∃ns:List Int,xs=ns.map .int/\ns ≠ []/\Q (.int (mmF bh 0 ns)))
 |.len=>yU jgg
 |.int=>yU jaa
 |.list=>yU jby
 |.tuple=>yU jdJ
 |.str=>yU jdH
 |.srt=>yU uD
 |.sum=>yU (uH λxs Q=>∃ns:List Int,xs=ns.map .int/\Q (.int ns.sum))
 |.all=>yU (uH λxs Q=>∃bs:List Bool,xs=bs.map .bl/\Q (.bl (bs.all id)))
 |.any=>yU (uH λxs Q=>∃bs:List Bool,xs=bs.map .bl/\Q (.bl (bs.any id)))
 |.dvm=>UG (yw λi j Q=>(0<j/\j<1073741824)/\Q (.tup [.int (i / j),.int (i%j)]))
def sIx(n d:Nat):Option Int->Nat
 |none=>d
 |some v=>if v<0 then (v+(n:Int)).toNat else min v.toNat n
def jcF(xs:List D)(lo hi:Option Int):List D:=(xs.drop (sIx xs.length 0 lo)).take (sIx xs.length xs.length hi-sIx xs.length 0 lo)
def Xk(x:bF)(lo hi:Option Int):bF:=⟨((x.cps.toList.drop (sIx x.length 0 lo)).take (sIx x.length x.length hi-sIx x.length 0 lo)).toArray⟩
def slD:D->Option Int->Option Int->(D->Prop)->Prop
 |.lst xs,lo,hi,Q=>Q (.lst (jcF xs lo hi))
 |.str x,lo,hi,Q=>x.length<=lim/\Q (.str (Xk x lo hi))
 |_,_,_,_=>False
def xu(z:bF):List bF->List Nat
 |[]=>[]
 |x::l=>x.cps.toList++(l.map λp=>z.cps.toList++p.cps.toList).flatten
def jR(x y:bF):List bF :=
 if (decide (x.length<y.length) ||decide (pB x<pB y))=bh then [x] else
 if (gA x y 0 x.length (x.length+1)).isEmpty=bh then [x] else wM x (gA x y 0 x.length (x.length+1)) y.length
def smD:SOp->bF->D->(D->Prop)->Prop
 |.jn,x,.lst ys,Q=>∃ss:List bF,(ys=ss.map .str/\(ss.map (·.length)).sum+ss.length*x.length<=lim)/\Q (.str ⟨(xu x ss).toArray⟩)
 |.spl,x,.str y,Q=>(y.length≠0/\x.length<=lim/\(jR x y).length<=lim)/\Q (.lst ((jR x y).map .str))
 |_,_,_,_=>False
def xN:Ex->Bool
 |.cst .non=>bh
 |_=>bj
def jep(R:Option Int->Prop):D->Prop
 |.int i=>R (ba i)
 |_=>False
def prt(b:Bool)(w:(D->Prop)->Prop)(R:Option Int->Prop):Prop:=if b=bh then R bc else w (jep R)
def jdx(x:D)(f:bF->Prop):Prop:=match x with|.str xs=>f xs|_=>False
def jgS(x:D)(f:List D->Prop):Prop:=match x with|.lst xs=>f xs|_=>False
def jcA:D->D->(D->Prop)->Prop
 |.lst xs,.int k,Q=>∃(ns:List Int) (j:Nat),xs=ns.map .int/\(ns.length<=lim/\ns[j]?=ba k/\∀m,m<j->ns[m]? ≠ ba k)/\Q (.int j)
 |_,_,_=>False
def mtD:Mt->D->(D->Prop)->Prop
 |.bitlen,.int i,Q=>Q (.int (xE i))
 |_,_,_=>False
def jdF:D->Option bF
 |.str x=>ba x
 |.int i=>if i.natAbs.log2<1920 then ba (toString i:String) else bc
 |_=>bc
structure Ctr where
 pre:List D->Prop
 res:List D->D->Prop
 exn:List D->XD->Prop:=λ_ _=>False
structure Cfg where
 ct:Nat->Ctr
 cn:Nat->D
 fr:Nat->Bool:=λ_=>bj
 f2:Nat->Bool:=λ_=>bj
 E:XD->Prop:=λ_=>False
def Ctr.wp(c:Ctr)(ds:List D)(Q:D->Prop)(E:XD->Prop):Prop:=c.pre ds/\(∀d,c.res ds d->Q d)/\∀x,c.exn ds x->E x
def yt:D->Option (List D)
 |.lst xs=>ba xs
 |.tup xs=>ba xs
 |.str x=>ba (x.cps.toList.map λc=>.str ⟨#[c]⟩)
 |_=>bc
def ko(lo st:Int):Nat->List D
 |0=>[]
 |n+1=>.int lo::ko (lo+st) st n
def xC(i:Int):Prop:=-4611686018427387904<=i/\i<4611686018427387904
def rgD:List D->(List D->Prop)->Prop
 |[.int hi],Q=>xC hi/\Q (ko 0 1 hi.toNat)
 |[.int lo,.int hi],Q=>(xC lo/\xC hi)/\Q (ko lo 1 (hi-lo).toNat)
 |[.int lo,.int hi,.int st],Q=>(xC lo/\xC hi/\0<st/\st<1000)/\Q (ko lo st (if lo<hi then (hi-lo-1) / st+1 else 0).toNat)
 |_,_=>False
def yR(xs:List D):List D:=xs.zipIdx.map λp=>.tup [.int p.2,p.1]
def Jx(xs ys:List D):List D:=(xs.zip ys).map λp=>.tup [p.1,p.2]
def isL(f:List D->Prop):D->Prop
 |.lst xs=>f xs
 |_=>False
def Zu(rows:List (List D)):D:=.lst (rows.map .lst)
def isB(Q:Bool->Prop):D->Prop
 |.bl k=>Q k
 |_=>False
def qw(f:D->(D->Prop)->Prop):List D->(List D->Prop)->Prop
 |[],Q=>Q []
 |d::ds,Q=>f d λy=>qw f ds λys=>Q (y::ys)
def xl(p:D->(Bool->Prop)->Prop)(f:D->(D->Prop)->Prop):List D->(List D->Prop)->Prop
 |[],Q=>Q []
 |d::ds,Q=>p d λb=>if b=bh then f d λy=>xl p f ds λys=>Q (y::ys) else xl p f ds Q
mutual
noncomputable def apt(x:List D):D->Prop
 |.lst xs=>xs≠x/\jeS x xs
 |.tup xs=>jeS x xs
 |_=>True
noncomputable def jeS(x:List D):List D->Prop
 |[]=>True
 |d::ds=>apt x d/\jeS x ds
end
def isI(f:Int->Prop):D->Prop
 |.int n=>f n
 |_=>False
mutual
noncomputable def wpE(C:Cfg):Ex->Sto->(D->Prop)->Prop
 |.var i,σ,Q=>match ji σ i with|some (.sh d)=>Q d|_=>False
 |.cst d,_,Q=>Q d
 |.con k,_,Q=>Q (C.cn k)
 |.bin o a b,σ,Q=>wpE C a σ λx=>wpE C b σ λy=>y6 o x y Q
 |.neg a,σ,Q=>wpE C a σ λx=>match x with|.int i=>Q (.int (-i))|_=>False
 |.not a,σ,Q=>wpE C a σ λx=>match x with|.bl c=>Q (.bl (!c))|_=>False
 |.cmp o a b,σ,Q=>wpE C a σ λx=>wpE C b σ λy=>zb o x y Q
 |.chain o p a b c,σ,Q=>wpE C a σ λx=>wpE C b σ λy=>zb o x y λz=>match z with
  |.bl k=>if k=bh then wpE C c σ λu=>zb p y u Q else Q (.bl bj)
  |_=>False
 |.and a b,σ,Q=>wpE C a σ λx=>match x with|.bl k=>if k=bh then wpE C b σ Q else Q (.bl bj)|_=>False
 |.or a b,σ,Q=>wpE C a σ λx=>match x with|.bl k=>if k=bh then Q (.bl bh) else wpE C b σ Q|_=>False
 |.ife c a b,σ,Q=>wpE C c σ λx=>match x with|.bl k=>if k=bh then wpE C a σ Q else wpE C b σ Q|_=>False
 |.tup es,σ,Q=>j4 C es σ λds=>Q (.tup ds)
 |.lst es,σ,Q=>j4 C es σ λds=>Q (.lst ds)
 |.ix a b,σ,Q=>wpE C a σ λx=>wpE C b σ λy=>ixD x y Q
 |.call f es,σ,Q=>j4 C es σ λds=>(C.ct f).wp ds Q C.E
 |.bi f es,σ,Q=>j4 C es σ λds=>biD f ds Q
 |.meth m o,σ,Q=>wpE C o σ λx=>mtD m x Q
 |.isi a t,σ,Q=>wpE C a σ λx=>Q (.bl (tyD t x))
 |.compR es e,σ,Q=>j4 C es σ λds=>rgD ds λxs=>xs.length<=lim/\qw (λd Q=>wpE C e (σ ++ [ba (.sh d)]) Q) xs λys=>Q (.lst ys)
 |.compE a e,σ,Q=>wpE C a σ λd=>∃xs,yt d=ba xs/\xs.length<=lim/\qw (λd Q=>wpE C e (σ ++ [ba (.sh d)]) Q) xs λys=>Q (.lst ys)
 |.compZ a b e,σ,Q=>wpE C a σ λx=>wpE C b σ λy=>∃xs ys,(x=.lst xs/\y=.lst ys)/\(Jx xs ys).length<=lim/\qw (λd Q=>wpE C e (σ ++ [ba (.sh d)]) Q) (Jx xs ys) λzs=>Q (.lst zs)
 |.compN a e,σ,Q=>wpE C a σ λx=>∃xs,x=.lst xs/\(yR xs).length<=lim/\qw (λd Q=>wpE C e (σ ++ [ba (.sh d)]) Q) (yR xs) λzs=>Q (.lst zs)
 |.slc a l h,σ,Q=>wpE C a σ λx=>prt (xN l) (λR=>wpE C l σ R) λy=>prt (xN h) (λR=>wpE C h σ R) λz=>slD x y z Q
 |.lix a b,σ,Q=>wpE C a σ λx=>jgS x λxs=>wpE C b σ λy=>jcA (.lst xs) y Q
 |.sm o a b,σ,Q=>wpE C a σ λx=>jdx x λx=>wpE C b σ λy=>smD o x y Q
 |.fst es,σ,Q=>zd C es [] σ λl=>(∀c∈l,c<1114112)/\Q (.str ⟨l.toArray⟩)
 |.compF a c e,σ,Q=>wpE C a σ λd=>∃xs,yt d=ba xs/\xs.length<=lim/\xl (λd Q=>wpE C c (σ ++ [ba (.sh d)]) (isB Q)) (λd Q=>wpE C e (σ ++ [ba (.sh d)]) Q) xs λys=>Q (.lst ys)
noncomputable def zd(C:Cfg):List Ex->List Nat->Sto->(List Nat->Prop)->Prop
 |[],out,_,Q=>Q out
 |e::es,out,σ,Q=>wpE C e σ λd=>∃z,(jdF d=ba z/\out.length+z.length<=lim)/\zd C es (out++z.cps.toList) σ Q
noncomputable def j4(C:Cfg):List Ex->Sto->(List D->Prop)->Prop
 |[],_,Q=>Q []
 |e::es,σ,Q=>wpE C e σ λd=>j4 C es σ λds=>Q (d::ds)
end
section
variable {C:Cfg} {σ:Sto} {Q:D->Prop}
theorem jW:wpE C (.var i) σ Q=(match ji σ i with|some (.sh d)=>Q d|_=>False):=rfl
theorem kK:wpE C (.cst d) σ Q=(Q d):=rfl
theorem jdQ:wpE C (.con k) σ Q=(Q (C.cn k)):=rfl
theorem xr:wpE C (.bin o a b) σ Q=(wpE C a σ λx=>wpE C b σ λy=>y6 o x y Q):=rfl
theorem xG:wpE C (.cmp o a b) σ Q=(wpE C a σ λx=>wpE C b σ λy=>zb o x y Q):=rfl
theorem jeW:wpE C (.and a b) σ Q=(wpE C a σ λx=>match x with|.bl k=>if k=bh then wpE C b σ Q else Q (.bl bj)|_=>False):=rfl
theorem U2:wpE C (.lst es) σ Q=(j4 C es σ λds=>Q (.lst ds)):=rfl
theorem YY:wpE C (.ix a b) σ Q=(wpE C a σ λx=>wpE C b σ λy=>ixD x y Q):=rfl
theorem qU:wpE C (.call f es) σ Q=(j4 C es σ λds=>(C.ct f).wp ds Q C.E):=rfl
theorem Jd:wpE C (.bi f es) σ Q=(j4 C es σ λds=>biD f ds Q):=rfl
theorem jak:wpE C (.compR es e) σ Q=(j4 C es σ λds=>rgD ds λxs=>xs.length<=lim/\qw (λd Q=>wpE C e (σ ++ [ba (.sh d)]) Q) xs λys=>Q (.lst ys)):=rfl
theorem jbi:wpE C (.sm o a b) σ Q=(wpE C a σ λx=>jdx x λx=>wpE C b σ λy=>smD o x y Q):=rfl
end
structure DE where
 nx:Sto->Prop
 rt:D->Prop
 bk:Sto->Prop:=λ_=>False
 ct:Sto->Prop:=λ_=>False
 rf:List D->Prop:=λ_=>False
 xn:XD->Prop:=λ_=>False
 rg:List (List D)->Prop:=λ_=>False
def km:List Nat->List D->Sto->Option Sto
 |[],[],σ=>ba σ
 |i::is,d::ds,σ=>km is ds (jC σ i (ba (.sh d)))
 |_,_,_=>bc
def forL(body:DE->Sto->Prop)(i:Nat)(K:DE):List D->Sto->Prop
 |[],σ=>K.nx σ
 |d::ds,σ=>body { K with nx:=forL body i K ds,ct:=forL body i K ds,bk:=K.nx } (jC σ i (ba (.sh d)))
def jap(c:Sto->(Bool->Prop)->Prop)(body:DE->Sto->Prop)(K:DE)(σ:Sto):Prop :=
 ∃W:Nat->Sto->Prop,(∃m,W m σ)/\∀m σ,W m σ->c σ λt=>if t=bh then
  body { K with nx:=λσ'=>∃m',m'<m/\W m' σ',ct:=λσ'=>∃m',m'<m/\W m' σ',bk:=K.nx } σ else K.nx σ
def jgc(K:DE)(σ:Sto)(i:Nat)(ds:List D):D->Prop
 |.lst xs=>ds.length+xs.length<=lim/\K.nx (jC σ i (ba (.ow (ds++xs))))
 |_=>False
def jdo(x:bF)(d:D):Prop:=x="Dependent"->∃xs,d=.lst xs
def wpN(C:Cfg)(σ:Sto)(f:Nat)(es:List Ex):List (Nat×List Ex)->(D->Prop)->(XD->Prop)->Prop
 |[],Q,E=>j4 C es σ λds=>(C.ct f).wp ds Q E
 |gr::rest,Q,E=>wpN C σ f es rest (λd=>j4 C gr.2 σ λds=>(C.ct gr.1).wp (d::ds) Q C.E) E
def KU(f:List D->Prop):Option Sl->Prop
 |some (.ow ds)=>f ds
 |_=>False
def z8(c:Sto->(D->Prop)->Prop)(i s:Nat)(K:DE):List D->Sto->Prop
 |[],σ=>K.nx σ
 |d::ds,σ=>c (jC σ i (ba (.sh d))) λy=>z8 c i s K ds (jC (jC σ i (ba (.sh d))) s (ba (.sh y)))
def wpS(C:Cfg):Sm->DE->Sto->Prop
 |.nop,K,σ=>K.nx σ
 |.seq a b,K,σ=>wpS C a { K with nx:=λσ'=>wpS C b K σ' } σ
 |.set i e,K,σ=>wpE C e σ λd=>K.nx (jC σ i (ba (.sh d)))
 |.unp is e,K,σ=>wpE C e σ λd=>match d with|.tup ds=>∃σ',km is ds σ=ba σ'/\K.nx σ'|.lst ds=>∃σ',km is ds σ=ba σ'/\K.nx σ'|_=>False
 |.ret e,K,σ=>wpE C e σ K.rt
 |.ite c a b,K,σ=>wpE C c σ (isB λt=>if t=bh then wpS C a K σ else wpS C b K σ)
 |.whl c b,K,σ=>jap (λσ Q=>wpE C c σ (isB Q)) (λK σ=>wpS C b K σ) K σ
 |.forR i es b,K,σ=>j4 C es σ λds=>rgD ds λxs=>forL (λK σ=>wpS C b K σ) i K xs σ
 |.forE i e b,K,σ=>wpE C e σ λd=>∃xs,yt d=ba xs/\forL (λK σ=>wpS C b K σ) i K xs σ
 |.brk,K,σ=>K.bk σ
 |.cnt,K,σ=>K.ct σ
 |.never,_,_=>False
 |.new i,K,σ=>K.nx (jC σ i (ba (.ow [])))
 |.ext i e,K,σ=>match ji σ i with|some (.ow ds)=>wpE C e σ (jgc K σ i ds)|_=>False
 |.app i e,K,σ=>match ji σ i with|some (.ow ds)=>ds.length<lim/\wpE C e σ λd=>K.nx (jC σ i (ba (.ow (ds ++ [d]))))|_=>False
 |.shr i,K,σ=>match ji σ i with|some (.ow ds)=>K.nx (jC σ i (ba (.sh (.lst ds))))|_=>False
 |.raise x,K,_=>K.xn ⟨0,x,[]⟩
 |.raiseA x e,K,σ=>wpE C e σ λd=>jdo x d/\K.xn ⟨0,x,[d]⟩
 |.setX i fs f es,K,σ=>wpN C σ f es fs (λd=>K.nx (jC σ i (ba (.sh d)))) K.xn
 |.retX fs f es,K,σ=>wpN C σ f es fs K.rt K.xn
 |.forU i j s e,K,σ=>KU (λds=>z8 (λσ Q=>wpE C e σ Q) i s K ds σ) (ji σ j)
 |.forN i e b,K,σ=>wpE C e σ (isL λxs=>forL (λK σ=>wpS C b K σ) i K (yR xs) σ)
section
variable {C:Cfg} {K:DE} {σ:Sto}
theorem jen:wpS C (.seq a b) K σ=(wpS C a { K with nx:=λσ'=>wpS C b K σ' } σ):=rfl
theorem je2:wpS C (.unp is e) K σ=(wpE C e σ λd=>match d with|.tup ds=>∃σ',km is ds σ=ba σ'/\K.nx σ'|.lst ds=>∃σ',km is ds σ=ba σ'/\K.nx σ'|_=>False):=rfl
theorem Yj:wpS C (.whl c b) K σ=(jap (λσ Q=>wpE C c σ (isB Q)) (λK σ=>wpS C b K σ) K σ):=rfl
theorem jef:wpS C (.new i) K σ=(K.nx (jC σ i (ba (.ow [])))):=rfl
theorem jbj:wpS C (.ext i e) K σ=(match ji σ i with|some (.ow ds)=>wpE C e σ (jgc K σ i ds)|_=>False):=rfl
theorem Xt:wpS C (.app i e) K σ=(match ji σ i with|some (.ow ds)=>ds.length<lim/\wpE C e σ λd=>K.nx (jC σ i (ba (.ow (ds ++ [d]))))|_=>False):=rfl
theorem Xy:wpS C (.shr i) K σ=(match ji σ i with|some (.ow ds)=>K.nx (jC σ i (ba (.sh (.lst ds))))|_=>False):=rfl
theorem jbR:wpS C (.forU i j s e) K σ=(KU (λds=>z8 (λσ Q=>wpE C e σ Q) i s K ds σ) (ji σ j)):=rfl
end
variable{f:List D->Prop}{x y:D}{Q Q':D->Prop}
theorem qW{f:Int->Int->(D->Prop)->Prop}(hf:∀i j,f i j Q->f i j Q')(w:yw f x y Q):yw f x y Q':=by
 cases x<;>first|exact w.elim|(cases y<;>first|exact w.elim|exact hf _ _ w)
theorem JN{o:BOp}(h:∀d,Q d->Q' d)(w:y6 o x y Q):y6 o x y Q':=by
 cases o<;>first|exact qW (λi j z=>h _ z) w|exact qW (λi j z=>⟨z.1,h _ z.2⟩) w|skip
 ·cases x<;>first|exact w.elim|(cases y<;>first|exact w.elim|exact h _ w|exact⟨w.1,h _ w.2⟩)
 ·cases x<;>first|exact w.elim|(cases y<;>first|exact w.elim|exact h _ w|exact⟨w.1,h _ w.2⟩)
theorem QJ{t:Bool}(h:∀d,Q d->Q' d)(w:inD t x y Q):inD t x y Q':=by
 cases x<;>first|exact w.elim|(cases y<;>first|exact w.elim|exact h _ w|exact⟨w.choose,w.choose_spec.1,w.choose_spec.2.1,h _ w.choose_spec.2.2⟩)
theorem qd{o:COp}(h:∀d,Q d->Q' d)(w:zb o x y Q):zb o x y Q':=by
 cases o<;>first|exact qW (λi j z=>h _ z) w|exact⟨w.1,h _ w.2⟩|skip
 ·exact QJ h w
 ·exact QJ h w
theorem QK(h:∀d,Q d->Q' d)(w:ixD x y Q):ixD x y Q':=by
 cases x<;>first|exact w.elim|(cases y<;>first|exact w.elim|exact⟨w.choose,w.choose_spec.1,h _ w.choose_spec.2⟩)
variable{xs:List D}
theorem J0{f:D->(D->Prop)->Prop}(hf:∀x,f x Q->f x Q')(w:yU f xs Q):yU f xs Q':=by
 match xs,w with
 |[x],w=>exact hf x w
theorem Kb{f:D->D->(D->Prop)->Prop}(hf:∀x y,f x y Q->f x y Q')(w:UG f xs Q):UG f xs Q':=by
 match xs,w with
 |[x,y],w=>exact hf x y w
theorem Ux(h:∀d,Q d->Q' d):∀ {xs:List D},Vz xs Q->Vz xs Q'
 |[x],w=>by
  cases x<;>first|exact w.elim|exact⟨w.choose,w.choose_spec.1,w.choose_spec.2.1,h _ w.choose_spec.2.2⟩
 |[x,y],w=>qW (λi j z=>h _ z) w
theorem Yq(h:∀d,Q d->Q' d)(w:uD x Q):uD x Q':=by
 cases x<;>first|exact w.elim|skip
 obtain⟨a,w⟩:=w;obtain⟨ps,e,w⟩:=w;exact⟨a,ps,e,λms x y=>h _ (w ms x y)⟩
theorem QY{f:Bi}(h:∀d,Q d->Q' d)(w:biD f xs Q):biD f xs Q':=by
 cases f<;>first|exact Ux h w|exact J0 (f:=uD) (λx z=>Yq h z) w|exact Kb (λx y z=>qW (λi j z=>⟨z.1,h _ z.2⟩) z) w|exact Kb (λx y z=>qW (λi j z=>h _ z) z) w|refine J0 (λx z=>?_) w
 all_goals cases x<;>first|exact z.elim|exact h _ z|exact sP z.1 (h _ z.2)|exact⟨z.choose,z.choose_spec.1,h _ z.choose_spec.2⟩|exact⟨z.choose,z.choose_spec.1,z.choose_spec.2.1,h _ z.choose_spec.2.2⟩
theorem U1{f:Mt}(h:∀d,Q d->Q' d)(w:mtD f x Q):mtD f x Q':=by
 cases f
 cases x<;>first|exact w.elim|exact h _ w
variable{ds:List D}
theorem Ctr.wp_mono{c:Ctr}{E:XD->Prop}(h:∀d,Q d->Q' d)(w:c.wp ds Q E):c.wp ds Q' E:=⟨w.1,λd r=>h d (w.2.1 d r),w.2.2⟩
theorem jT{Q Q':Bool->Prop}(h:∀k,Q k->Q' k){d:D}(w:isB Q d):isB Q' d:=by
 cases d<;>first|exact h _ w|exact w.elim
theorem Q6{Q Q':List D->Prop}(h:∀d,Q d->Q' d)(w:rgD ds Q):rgD ds Q':=by
 cases ds with
 |nil=>exact w.elim
 |cons x r =>
  cases x<;>first|exact w.elim|skip
  cases r with
  |nil=>exact⟨w.1,h _ w.2⟩
  |cons y r =>
   cases y<;>first|exact w.elim|skip
   cases r with
   |nil=>exact⟨w.1,h _ w.2⟩
   |cons z r =>
    cases z<;>first|exact w.elim|skip
    cases r with
    |nil=>exact⟨w.1,h _ w.2⟩
    |cons _ _=>exact w.elim
theorem jO{f:D->(D->Prop)->Prop}(hf:∀d {Q Q':D->Prop},(∀y,Q y->Q' y)->f d Q->f d Q'):∀(xs:List D) {Q Q':List D->Prop},(∀ys,Q ys->Q' ys)->qw f xs Q->qw f xs Q'
 |[],Q,Q',h,w=>h _ w
 |d::ds,Q,Q',h,w=>hf d (λy wy=>jO hf ds (λys=>h _) wy) w
theorem qF{p:D->(Bool->Prop)->Prop}{f:D->(D->Prop)->Prop}(hp:∀d {Q Q':Bool->Prop},(∀y,Q y->Q' y)->p d Q->p d Q')(hf:∀d {Q Q':D->Prop},(∀y,Q y->Q' y)->f d Q->f d Q') :
 ∀(xs:List D) {Q Q':List D->Prop},(∀ys,Q ys->Q' ys)->xl p f xs Q->xl p f xs Q'
 |[],Q,Q',h,w=>h _ w
 |d::ds,Q,Q',h,w=>hp d (λb wb=>by
  cases b with
  |true=>exact hf d (λy wy=>qF hp hf ds (λys=>h _) wy) wb
  |false=>exact qF hp hf ds h wb) w
theorem jaf{l h:Option Int}(k:∀d,Q d->Q' d)(w:slD x l h Q):slD x l h Q':=by
 cases x<;>first|exact w.elim|exact k _ w|exact⟨w.1,k _ w.2⟩
theorem jbt{o:SOp}{x:bF}(k:∀d,Q d->Q' d)(w:smD o x y Q):smD o x y Q':=by
 cases o<;>(cases y<;>first|exact w.elim|exact⟨w.1,k _ w.2⟩|exact⟨w.choose,w.choose_spec.1,k _ w.choose_spec.2⟩|exact⟨w.choose,w.choose_spec.choose,w.choose_spec.choose_spec.1,k _ w.choose_spec.choose_spec.2⟩)
theorem UN(k:∀d,Q d->Q' d)(w:jcA x y Q):jcA x y Q':=by
 cases x<;>first|exact w.elim|(cases y<;>first|exact w.elim|skip)
 obtain⟨ns,j,e,a,q⟩:=w;exact⟨ns,j,e,a,k _ q⟩
variable{R':Option Int->Prop}
theorem Uk{R:Option Int->Prop}(h:∀o,R o->R' o){d:D}(w:jep R d):jep R' d:=by
 cases d<;>first|exact w.elim|exact h _ w
theorem zo{b:Bool}{w:(D->Prop)->Prop}(hw:∀ {Q Q':D->Prop},(∀d,Q d->Q' d)->w Q->w Q'){R:Option Int->Prop}(h:∀o,R o->R' o)(k:prt b w R):prt b w R':=by
 unfold prt at *;split
 ·next e=>rw[if_pos e]at k;exact h _ k
 ·next e=>rw[if_neg e]at k;exact hw (λd=>Uk h) k
mutual
theorem ja{C:Cfg}:∀(e:Ex) {σ:Sto} {Q Q':D->Prop},(∀d,Q d->Q' d)->wpE C e σ Q->wpE C e σ Q'
 |.var i,σ,Q,Q',h,w=>by
  rw[jW]at w ⊢
  cases g:ji σ i with
  |none=>rw[g]at w;exact w.elim
  |some z=>rw[g]at w;cases z<;>first|exact h _ w|exact w.elim
 |.cst d,σ,Q,Q',h,w=>by exact h _ w
 |.con k,σ,Q,Q',h,w=>by exact h _ w
 |.bin o a b,σ,Q,Q',h,w=>by
  exact ja a (λx wx=>ja b (λy wy=>JN h wy) wx) w
 |.neg a,σ,Q,Q',h,w=>by
  exact ja a (λx wx=>by cases x<;>first|exact h _ wx|exact wx.elim) w
 |.not a,σ,Q,Q',h,w=>by
  exact ja a (λx wx=>by cases x<;>first|exact h _ wx|exact wx.elim) w
 |.cmp o a b,σ,Q,Q',h,w=>by
  exact ja a (λx wx=>ja b (λy wy=>qd h wy) wx) w
 |.chain o p a b c,σ,Q,Q',h,w=>by
  refine ja a (λx wx=>ja b (λy wy=>qd (λz wz=>?_) wy) wx) w
  cases z with
  |bl k=>cases k with
   |true=>exact ja c (λu wu=>qd h wu) wz
   |false=>exact h _ wz
  |_=>exact wz.elim
 |.and a b,σ,Q,Q',h,w=>by
  refine ja a (λx wx=>?_) w
  cases x with
  |bl k=>cases k with
   |true=>exact ja b h wx
   |false=>exact h _ wx
  |_=>exact wx.elim
 |.or a b,σ,Q,Q',h,w=>by
  refine ja a (λx wx=>?_) w
  cases x with
  |bl k=>cases k with
   |true=>exact h _ wx
   |false=>exact ja b h wx
  |_=>exact wx.elim
 |.ife c a b,σ,Q,Q',h,w=>by
  refine ja c (λx wx=>?_) w
  cases x with
  |bl k=>cases k with
   |true=>exact ja a h wx
   |false=>exact ja b h wx
  |_=>exact wx.elim
 |.tup es,σ,Q,Q',h,w=>by exact jD es (λds=>h _) w
 |.lst es,σ,Q,Q',h,w=>by exact jD es (λds=>h _) w
 |.ix a b,σ,Q,Q',h,w=>by
  exact ja a (λx wx=>ja b (λy wy=>QK h wy) wx) w
 |.call f es,σ,Q,Q',h,w=>by exact jD es (λds=>Ctr.wp_mono h) w
 |.bi f es,σ,Q,Q',h,w=>by exact jD es (λds=>QY h) w
 |.meth m o,σ,Q,Q',h,w=>by exact ja o (λx=>U1 h) w
 |.isi a t,σ,Q,Q',h,w=>by exact ja a (λx=>h _) w
 |.compR es e,σ,Q,Q',h,w=>by
  exact jD es (λds=>Q6 λxs wx=>⟨wx.1,jO (f:=λd Q=>wpE C e (σ ++ [ba (.sh d)]) Q) (λd _ _ hq=>ja e hq) xs (λys=>h _) wx.2⟩) w
 |.compE a e,σ,Q,Q',h,w=>by
  exact ja a (λd ⟨xs,e1,wx⟩=>⟨xs,e1,wx.1,jO (f:=λd Q=>wpE C e (σ ++ [ba (.sh d)]) Q) (λd _ _ hq=>ja e hq) xs (λys=>h _) wx.2⟩) w
 |.slc a l u,σ,Q,Q',h,w=>by
  exact ja a (λx wx=>zo (λhq=>ja l hq) (λy wy=>zo (λhq=>ja u hq) (λz=>jaf h) wy) wx) w
 |.lix a b,σ,Q,Q',h,w=>by
  refine ja a (λx wx=>?_) w
  cases x<;>first|exact wx.elim|exact ja b (λy wy=>UN h wy) wx
 |.sm o a b,σ,Q,Q',h,w=>by
  refine ja a (λx wx=>?_) w
  cases x<;>first|exact wx.elim|exact ja b (λy wy=>jbt h wy) wx
 |.fst es,σ,Q,Q',h,w=>by exact yI es (λl q=>⟨q.1,h _ q.2⟩) w
 |.compZ a b e,σ,Q,Q',h,w=>by
  exact ja a (λx wx=>ja b (λy ⟨xs,ys,e1,wy⟩=>⟨xs,ys,e1,wy.1,jO (f:=λd Q=>wpE C e (σ ++ [ba (.sh d)]) Q) (λd _ _ hq=>ja e hq) _ (λys=>h _) wy.2⟩) wx) w
 |.compN a e,σ,Q,Q',h,w=>by
  exact ja a (λx ⟨xs,e1,wx⟩=>⟨xs,e1,wx.1,jO (f:=λd Q=>wpE C e (σ ++ [ba (.sh d)]) Q) (λd _ _ hq=>ja e hq) _ (λys=>h _) wx.2⟩) w
 |.compF a c e,σ,Q,Q',h,w=>by
  exact ja a (λd ⟨xs,e1,wx⟩=>⟨xs,e1,wx.1,qF (p:=λd Q=>wpE C c (σ ++ [ba (.sh d)]) (isB Q)) (f:=λd Q=>wpE C e (σ ++ [ba (.sh d)]) Q) (λd _ _ hq=>ja c λ_=>jT hq) (λd _ _ hq=>ja e hq) xs (λys=>h _) wx.2⟩) w
theorem yI{C:Cfg}:∀(es:List Ex) {out:List Nat} {σ:Sto} {Q Q':List Nat->Prop},(∀d,Q d->Q' d)->zd C es out σ Q->zd C es out σ Q'
 |[],out,σ,Q,Q',h,w=>by unfold zd at *;exact h _ w
 |e::es,out,σ,Q,Q',h,w=>by
  unfold zd at *;exact ja e (λd ⟨z,a,wd⟩=>⟨z,a,yI es h wd⟩) w
theorem jD{C:Cfg}:∀(es:List Ex) {σ:Sto} {Q Q':List D->Prop},(∀d,Q d->Q' d)->j4 C es σ Q->j4 C es σ Q'
 |[],σ,Q,Q',h,w=>by unfold j4 at *;exact h _ w
 |e::es,σ,Q,Q',h,w=>by
  unfold j4 at *;exact ja e (λd wd=>jD es (λds=>h _) wd) w
end
structure DE.le (K K':DE):Prop where
 nx:∀σ,K.nx σ->K'.nx σ
 rt:∀d,K.rt d->K'.rt d
 bk:∀σ,K.bk σ->K'.bk σ
 ct:∀σ,K.ct σ->K'.ct σ
 rf:∀ds,K.rf ds->K'.rf ds
 xn:∀x,K.xn x->K'.xn x:=by exact λ_ z=>z
 rg:∀rows,K.rg rows->K'.rg rows:=by exact λ_ z=>z
theorem k7{body:DE->Sto->Prop}(hb:∀K K' σ,DE.le K K'->body K σ->body K' σ){i:Nat}{K K':DE}(h:DE.le K K'):∀(xs:List D) {σ:Sto},forL body i K xs σ->forL body i K' xs σ
 |[],σ,w=>h.nx _ w
 |d::ds,σ,w=>by
  unfold forL at *;refine hb _ _ _ ?_ w;exact⟨λ_=>k7 hb h ds,h.rt,h.nx,λ_=>k7 hb h ds,h.rf,h.xn,h.rg⟩
theorem xR{C:Cfg}{σ:Sto}{f:Nat}{es:List Ex}:∀(fs:List (Nat×List Ex)) {Q Q':D->Prop} {E E':XD->Prop},(∀d,Q d->Q' d)->(∀y,E y->E' y)->wpN C σ f es fs Q E->wpN C σ f es fs Q' E'
 |[],Q,Q',E,E',h,h',w=>by
  unfold wpN at *
  exact jD es (λds wd=>⟨wd.1,λd r=>h _ (wd.2.1 d r),λy r=>h' _ (wd.2.2 y r)⟩) w
 |gr::rest,Q,Q',E,E',h,h',w=>by
  unfold wpN at *;exact xR rest (λd=>jD gr.2 λds=>Ctr.wp_mono h) h' w
variable{g:List D->Prop}
theorem yK{o:Option Sl}(h:∀ds,f ds->g ds)(w:KU f o):KU g o:=by
 match o,w with
 |some (.ow ds),w=>exact h ds w
theorem vm{c:Sto->(D->Prop)->Prop}(hc:∀σ {Q Q':D->Prop},(∀b,Q b->Q' b)->c σ Q->c σ Q'){i s:Nat}{K K':DE}(h:DE.le K K'):∀(xs:List D) {σ:Sto},z8 c i s K xs σ->z8 c i s K' xs σ
 |[],σ,w=>h.nx _ w
 |d::ds,σ,w=>hc _ (λy wy=>vm hc h ds wy) w
theorem jax(h:∀ds,f ds->g ds){d:D}(w:isL f d):isL g d:=by
 cases d<;>first|exact w.elim|exact h _ w
theorem js{C:Cfg}:∀(s:Sm) {K K':DE} {σ:Sto},DE.le K K'->wpS C s K σ->wpS C s K' σ
 |.nop,K,K',σ,h,w=>by exact h.nx _ w
 |.seq a b,K,K',σ,h,w=>by
  refine js a ?_ w
  exact⟨λ_=>js b h,h.rt,h.bk,h.ct,h.rf,h.xn,h.rg⟩
 |.set i e,K,K',σ,h,w=>by exact ja e (λ_=>h.nx _) w
 |.unp is e,K,K',σ,h,w=>by
  refine ja e (λd wd=>?_) w
  cases d<;>first|exact⟨wd.choose,wd.choose_spec.1,h.nx _ wd.choose_spec.2⟩|exact wd.elim
 |.ret e,K,K',σ,h,w=>by exact ja e h.rt w
 |.ite c a b,K,K',σ,h,w=>by
  refine ja c (λd=>jT λk wk=>?_) w
  cases k with
  |true=>exact js a h wk
  |false=>exact js b h wk
 |.whl c b,K,K',σ,h,w=>by
  obtain⟨W,w0,zT⟩:=w;refine⟨W,w0,λm σ hW=>ja c (λd=>jT λk wk=>?_) (zT m σ hW)⟩
  cases k with
  |true =>
   refine js b ?_ wk
   exact⟨λ_ z=>z,h.rt,h.nx,λ_ z=>z,h.rf,h.xn,h.rg⟩
  |false=>exact h.nx _ wk
 |.forR i es b,K,K',σ,h,w=>by
  exact jD es (λds=>Q6 λxs=>k7 (body:=λK σ=>wpS C b K σ) (λK K' σ h=>js b h) h xs) w
 |.forE i e b,K,K',σ,h,w=>by
  exact ja e (λd ⟨xs,e1,wx⟩=>⟨xs,e1,k7 (body:=λK σ=>wpS C b K σ) (λK K' σ h=>js b h) h xs wx⟩) w
 |.brk,K,K',σ,h,w=>by exact h.bk _ w
 |.cnt,K,K',σ,h,w=>by exact h.ct _ w
 |.never,K,K',σ,h,w=>by exact w.elim
 |.new i,K,K',σ,h,w=>by exact h.nx _ w
 |.ext i e,K,K',σ,h,w=>by exact yK (λds=>ja e λd wd=>by cases d<;>first|exact wd.elim|exact⟨wd.1,h.nx _ wd.2⟩) w
 |.app i e,K,K',σ,h,w=>by exact yK (λds w=>⟨w.1,ja e (λ_=>h.nx _) w.2⟩) w
 |.shr i,K,K',σ,h,w=>by exact yK (λds=>h.nx _) w
 |.raise x,K,K',σ,h,w=>by exact h.xn _ w
 |.retX fs f es,K,K',σ,h,w=>by
  exact xR fs (λd=>h.rt _) (λy=>h.xn _) w
 |.raiseA x e,K,K',σ,h,w=>by
  exact ja e (λd q=>⟨q.1,h.xn _ q.2⟩) w
 |.setX i fs f es,K,K',σ,h,w=>by
  exact xR fs (λd=>h.nx _) (λy=>h.xn _) w
 |.forU i j s e,K,K',σ,h,w=>by exact yK (λds=>vm (c:=λσ Q=>wpE C e σ Q) (λσ _ _ hq=>ja e hq) h ds) w
 |.forN i e b,K,K',σ,h,w=>by
  exact ja e (λd=>jax λxs=>k7 (body:=λK σ=>wpS C b K σ) (λK K' σ h=>js b h) h _) w
end Z
local macro_rules | `(tactic|cases $h:ident)=>`(tactic|first|exact Z.nn $h|exact Z.ft $h|exact absurd $h bV|exact Z.xne Z.Sl.ctorIdx $h rfl|exact Z.nn (Eq.symm $h)|((first|have q:=Z.owi $h|have q:=Z.shi $h|have q:=dF $h);clear $h;subst q)|cases ($h))
local macro_rules | `(nomatch $h:ident)=>`(by first|(cases $h:ident;done)|exact nomatch ($h))
local macro_rules | `(tactic|exists $f:ident,$h:ident,$xs,*)=>`(tactic|(refine $f $h ?_;clear $h;intro $[$xs]* q $h;subst q;try dsimp only at $h:ident))
local macro_rules | `(tactic|exists $f:ident,$m:num,$h:ident,$xs,*)=>`(tactic|(refine $f $m $h ?_;clear $h;intro $[$xs]*))
namespace Z
open PySem
theorem Vp(i:Int):xE i=if i=0 then 0 else i.natAbs.log2+1:=by
 unfold xE gN;by_cases h:i=0
 ·simp[h]
 ·simp[h]
variable{i:Int}{n:Nat}
theorem Qy:xE i<=n ↔ i.natAbs<2^n:=by
 rw[Vp];by_cases h:i=0
 ·subst h;simp[ji3]
 ·rw[if_neg h]
  have h0:i.natAbs≠0:=by omega
  rw[<- jkg h0];omega
theorem uM(h0:0<=i)(h:i<2^n):xE i<=n:=by
 rw[Qy]
 have:(i.natAbs:Int)<2^n:=by omega
 exact_mod_cast this
theorem two_pow_pos(n:Nat):(0:Int)<2^n:=by
 have:=ji3 n
 exact_mod_cast this
variable{a b:Int}
theorem jbf(h:0<=b):a.fdiv b=a / b:=t8 a h
theorem xK(h:0<=b):a.fmod b=a%b:=t9 a h
def jS(n:Nat)(ds:List D):Sto:=ds.map (λd=>ba (.sh d))++bE (n-ds.length) bc
def QI(C:Cfg)(n:Nat)(b:Sm)(c:Ctr):Prop:=∀ds,c.pre ds->wpS C b { nx:=λ_=>c.res ds .non,rt:=c.res ds } (jS n ds)
def jdB(C:Cfg)(n:Nat)(b:Sm)(c:Ctr):Prop:=∀ds,c.pre ds->wpS C b { nx:=λ_=>False,rt:=λ_=>False,rf:=λxs=>c.res ds (.lst xs) } (jS n ds)
def je4(C:Cfg)(n:Nat)(b:Sm)(c:Ctr):Prop:=∀ds,c.pre ds->wpS C b { nx:=λ_=>False,rt:=λ_=>False,rg:=λrows=>c.res ds (Zu rows) } (jS n ds)
def jac(C:Cfg)(n:Nat)(b:Sm)(c:Ctr):Prop:=∀ds,c.pre ds->wpS C b { nx:=λ_=>c.res ds .non,rt:=c.res ds,xn:=c.exn ds } (jS n ds)
def jeO(C:Cfg)(n:Nat)(b:Sm)(c:Ctr):Prop:=∀ds,c.pre ds->wpS C b { nx:=λ_=>False,rt:=λd=>nol d=bh/\c.res ds d,rg:=λrows=>c.res ds (Zu rows),xn:=c.exn ds } (jS n ds)
def jeV(C:Cfg)(n:Nat)(b:Sm)(c:Ctr):Prop:=∀ds,c.pre ds->wpS C b { nx:=λ_=>False,rt:=λ_=>False,rf:=λxs=>c.res ds (.lst xs),xn:=c.exn ds } (jS n ds)
variable{i:Nat}{a b:Sm}{e:Ex}{ds:List D}
section
variable {C:Cfg} {K:DE} {σ:Sto}
theorem xZ:wpS C .nop K σ=K.nx σ:=rfl
theorem xF:wpS C (.seq a b) K σ=wpS C a { K with nx:=λσ'=>wpS C b K σ' } σ:=rfl
theorem jaF:wpS C (.set i e) K σ=wpE C e σ λd=>K.nx (jC σ i (ba (.sh d))):=rfl
def jeo(is:List Nat)(K:DE)(σ:Sto):D->Prop
 |.tup ds=>∃σ',km is ds σ=ba σ'/\K.nx σ'
 |.lst ds=>∃σ',km is ds σ=ba σ'/\K.nx σ'
 |_=>False
theorem jeI{is:List Nat}:wpS C (.unp is e) K σ=wpE C e σ (jeo is K σ):=by
 rw[je2];congr 1
theorem Yn:wpS C (.ret e) K σ=wpE C e σ K.rt:=rfl
theorem Jj{c:Ex}:wpS C (.ite c a b) K σ=wpE C c σ (isB λt=>if t=bh then wpS C a K σ else wpS C b K σ):=rfl
def jcO(K:DE)(σ:Sto)(i:Nat)(w:(D->Prop)->Prop):Option Sl->Prop
 |some (.ow ds)=>ds.length<lim/\w λd=>K.nx (jC σ i (ba (.ow (ds ++ [d]))))
 |_=>False
theorem Zs{w:(D->Prop)->Prop}:jcO K σ i w (ba (.ow ds))=(ds.length<lim/\w λd=>K.nx (jC σ i (ba (.ow (ds ++ [d]))))):=rfl
theorem jc0{f:List D->Prop}:KU f (ba (.ow ds))=f ds:=rfl
theorem jeL:wpS C (.app i e) K σ=jcO K σ i (wpE C e σ) (ji σ i):=by
 rw[Xt];unfold jcO
 cases ji σ i with
 |none=>rfl
 |some z=>cases z<;>rfl
theorem jdt:wpS C (.shr i) K σ=KU (λds=>K.nx (jC σ i (ba (.sh (.lst ds))))) (ji σ i):=by
 rw[Xy];unfold KU
 cases ji σ i with
 |none=>rfl
 |some z=>cases z<;>rfl
theorem xt:wpS C (.seq (.set i e) b) K σ=wpE C e σ λd=>wpS C b K (jC σ i (ba (.sh d))):=by rw[xF,jaF]
theorem vq{is:List Nat}:wpS C (.seq (.unp is e) b) K σ=wpE C e σ (jeo is { K with nx:=λσ'=>wpS C b K σ' } σ):=by rw[xF,jeI]
theorem vH:wpS C (.seq (.ret e) b) K σ=wpE C e σ K.rt:=by rw[xF,Yn]
theorem Ji:wpS C (.seq (.app i e) b) K σ=jcO { K with nx:=λσ'=>wpS C b K σ' } σ i (wpE C e σ) (ji σ i):=by rw[xF,jeL]
theorem XN:wpS C (.seq (.shr i) b) K σ=KU (λds=>wpS C b K (jC σ i (ba (.sh (.lst ds))))) (ji σ i):=by rw[xF,jdt]
theorem jbD{es:List Ex}:wpS C (.forR i es b) K σ=j4 C es σ λds=>rgD ds λxs=>forL (λK σ=>wpS C b K σ) i K xs σ:=rfl
end
variable{K:DE}{σ:Sto}
theorem ZR{body:DE->Sto->Prop}{d:D}:forL body i K (d::ds) σ=body { K with nx:=forL body i K ds,ct:=forL body i K ds,bk:=K.nx } (jC σ i (ba (.sh d))):=rfl
theorem KC{body:DE->Sto->Prop}{i:Nat}{K:DE}(P:List D->Sto->Prop)(hb:∀K K' σ,DE.le K K'->body K σ->body K' σ) :
 ∀(xs:List D) (σ:Sto),P xs σ->(∀d ds σ,P (d::ds) σ->body { K with nx:=P ds,ct:=P ds,bk:=K.nx } (jC σ i (ba (.sh d))))->(∀σ,P [] σ->K.nx σ)->forL body i K xs σ
 |[],σ,h0,hs,he=>he σ h0
 |d::ds,σ,h0,hs,he=>by
  rw[ZR];refine hb _ _ _ ?_ (hs d ds σ h0);exact⟨λσ' p=>KC P hb ds σ' p hs he,λ_ z=>z,λ_ z=>z,λσ' p=>KC P hb ds σ' p hs he,λ_ z=>z,λ_ z=>z,λ_ z=>z⟩
variable{xs:List D}
theorem jct{C:Cfg}(P:List D->Sto->Prop)(h0:P xs σ)(hs:∀d ds σ,P (d::ds) σ->wpS C b { K with nx:=P ds,ct:=P ds,bk:=K.nx } (jC σ i (ba (.sh d))))(he:∀σ,P [] σ->K.nx σ) :
 forL (λK σ=>wpS C b K σ) i K xs σ:=KC (body:=λK σ=>wpS C b K σ) P (λK K' σ h w=>js b h w) xs σ h0 hs he
variable{u:List D}
theorem y7{u:Int}{v:Int}:eqD (.int u) (.int v)=(u == v):=(rfl)
theorem vz{u:bF}{v:bF}:eqD (.str u) (.str v)=(u == v):=(rfl)
theorem X4{v:List D}:eqD (.lst u) (.lst v)=ux u v:=(rfl)
theorem Qa{u:Int}:qI (.int u)=0:=(rfl)
theorem KQ{u:bF}:qI (.str u)=0:=(rfl)
theorem zO:qI (.lst u)=yZ u+1:=(rfl)
theorem jej:yZ []=0:=(rfl)
variable{x:D}
theorem jeN:yZ (x::xs)=max (qI x) (yZ xs):=(rfl)
variable{y:D}
section
variable {Q:D->Prop} {i j:Int}
theorem Qi:y6 .add (.int i) (.int j) Q=Q (.int (i+j)):=rfl
theorem jaP{x y:bF}:y6 .add (.str x) (.str y) Q=(x.length+y.length<=lim/\Q (.str (x++y))):=rfl
theorem U5{x y:List D}:y6 .add (.lst x) (.lst y) Q=(x.length+y.length<=lim/\Q (.lst (x++y))):=rfl
theorem YQ:y6 .mul (.int i) (.int j) Q=(JH i j/\Q (.int (i*j))):=rfl
theorem jat{x:List D}{k:Int}:y6 .mul (.lst x) (.int k) Q=(uK x.length k/\Q (.lst (bE k.toNat x).flatten)):=rfl
theorem zI:y6 .fdiv (.int i) (.int j) Q=((j≠0/\xE j<=9000)/\Q (.int (i.fdiv j))):=rfl
theorem xy:y6 .mod (.int i) (.int j) Q=(j≠0/\Q (.int (i.fmod j))):=rfl
theorem uk:zb .eq x y Q=(min (qI x) (qI y)<=100/\Q (.bl (eqD x y))):=rfl
theorem jaV:zb .ne x y Q=(min (qI x) (qI y)<=100/\Q (.bl (!eqD x y))):=rfl
theorem Kp:ixD (.lst xs) (.int i) Q=∃d,atD xs i=ba d/\Q d:=rfl
theorem jdO:biD .max [.int i,.int j] Q=Q (.int (if j > i then j else i)):=rfl
theorem jec:biD .min [.int i,.int j] Q=Q (.int (if j<i then j else i)):=rfl
theorem vh:biD .len [.lst xs] Q=Q (.int xs.length):=rfl
theorem vK{P:Bool->Prop}{b:Bool}:isB P (.bl b)=P b:=rfl
theorem Zh{is:List Nat}:jeo is K σ (.tup ds)=∃σ',km is ds σ=ba σ'/\K.nx σ':=rfl
theorem jfm{P:List D->Prop}:rgD [.int i] P=(xC i/\P (ko 0 1 i.toNat)):=rfl
end
theorem Yl{i j:Int}(h:xE i+xE j<=134217728):JH i j:=.inr (.inr h)
theorem Qh{C:Cfg}(P:Sto->Prop)(h1:wpS C a { K with nx:=P } σ)(h2:∀σ',P σ'->wpS C b K σ'):wpS C (.seq a b) K σ:=by
 rw[xF];refine js a ?_ h1;exact⟨λσ' p=>h2 σ' p,λ_ z=>z,λ_ z=>z,λ_ z=>z,λ_ z=>z,λ_ z=>z,λ_ z=>z⟩
end Z
local macro_rules | `(tactic|lia)=>`(tactic|lia -abstractProof)
namespace Z
open PySem
def zi:Sm :=
 (.seq (.ite (.cmp .eq (.var 0) (.lst [])) (.seq (.ret (.bin .mul (.var 1) (.cst (.int 7919))))
  .nop) .nop)
 (.seq (.ret (.bin .add (.ix (.var 0) (.bin .mod (.var 1) (.bi .len [(.var 0)]))) (.bin .mul (.bin .fdiv (.var 1) (.bi .len [(.var 0)])) (.cst (.int 104729)))))
 .nop))
def yq:Sm :=
 (.seq (.set 2 (.bin .mod (.bin .add (.bin .mul (.var 0) (.cst (.int 6364136223846793005))) (.bin .mul (.bin .add (.var 1) (.cst (.int 1))) (.cst (.int 1442695040888963407)))) (.cst (.int 340282366920938463463374607431768211507))))
 (.seq (.ret (.bin .mod (.bin .mul (.var 2) (.var 2)) (.cst (.int 340282366920938463463374607431768211297))))
 .nop))
variable{i:Int}
theorem Xh{xs:List D}(h0:0<=i)(h1:i<xs.length):∃d,atD xs i=ba d/\d∈xs:=by
 have h:i.toNat<xs.length:=by lia
 refine⟨xs[i.toNat],?_,sQ h⟩;unfold atD;rw[if_pos h0,bO h]
theorem Z1{ns:List Int}(h0:0<=i)(h1:i<ns.length):∃n,atD (ns.map .int) i=ba (.int n):=by
 obtain⟨d,e,m⟩:=Xh (xs:=ns.map .int) h0 (by simpa using h1);obtain⟨n,_,rfl⟩:=gD.mp m;exact⟨n,e⟩
def yD:Ctr where
 pre ds:=∃(ns:List Int) (k:Int),ds=[.lst (ns.map .int),.int k]/\ns.length<=63/\0<=k
 res ds d:=∃i,d=.int i
theorem Vc(ns:List Int):ux (ns.map .int) []=decide (ns=[]):=by
 cases ns<;>simp[eqD,ux]
theorem je5{C:Cfg}:QI C 2 zi yD:=by
 rintro ds ⟨ns,k,rfl,hl,hk⟩;simp only[zi,yD,jS,jkh,b6,pO,Nat.reduceAdd,Nat.reduceSub,List.replicate_zero,dv,xF,xZ,Yn,xr,kK,Jd,j4,jW,YY,Jj,ji,YQ,vh,bW,zI,ne_eq,xy,Kp,xG,uk,vK,U2,zO,jej,X4];refine⟨by lia,?_⟩;rw[Vc];simp only[decide_eq_true_eq];by_cases hn:ns=[]
 ·rw[if_pos hn];exact⟨.inr (.inl (by decide)),_,rfl⟩
 ·rw[if_neg hn];have hp:0<ns.length:=pC.mpr hn;have hb:xE (ns.length:Int)<=64:=uM (by lia) (by lia);rw[xK (by lia)];obtain⟨n,e⟩:=Z1 (ns:=ns) (i:=k%ns.length) (tN _ (by lia)) (pU _ (by lia));refine⟨by lia,_,e,⟨by lia,by lia⟩,.inr (.inl (by decide)),?_⟩;simp only[Qi];exact⟨_,rfl⟩
def qT:Ctr where
 pre ds:=match ds with|[.int _,.int _]=>True|_=>False
 res ds d:=∃i,d=.int i/\0<=i/\i<340282366920938463463374607431768211297
theorem jb5{C:Cfg}:QI C 3 yq qT:=by
 rintro ds h;simp only[qT]at h;split at h
 case h_2=>exact h.elim
 next c k =>
 simp only[yq,qT,jS,jkh,b6,pO,Nat.reduceAdd,Nat.reduceSub,gm,bE,dw,gJ,xF,xZ,Yn,xr,kK,jW,jaF,jC,ji,Qi,YQ,xy,ne_eq,Int.reduceEq,not_false_eq_true,true_and];rw[xK (by decide),xK (by decide)];have b1:xE ((c*6364136223846793005+(k+1)*1442695040888963407)%340282366920938463463374607431768211507)<=129:=uM (tN _ (by decide)) (Int.lt_trans (pU _ (by decide)) (by decide));refine⟨.inr (.inl (by decide)),.inr (.inl (by decide)),Yl (by lia),_,rfl,tN _ (by decide),pU _ (by decide)⟩
def yY:Ctr where
 pre ds:=∃ns:List Int,ds=[.lst (ns.map .int)]/\ns.length<=63
 res ds d:=d=.bl bh
end Z
namespace Z
open PySem PySem.Spec PyProof.Rows L2
def dum(N:List bF):bF:=⟨Array.replicate N.length 32⟩
def qv(N:List bF)(x:bF):List bF:=N.map (λy=>if y=x then dum N else y) ++ [x]
def kW(scope:Scope)(x:bF)(cl:List (bF×Addr))(C:Addr):List (bF×Addr):=if scope.names.lookup x=ba .cell then (x,C+1)::cl else cl
variable{x y:bF}
theorem vZ{scope:Scope}{cl:List (bF×Addr)}{C:Addr}(h:y≠x):(kW scope x cl C).lookup y=cl.lookup y:=by
 unfold kW;split
 ·rw[dW,show (y == x)=bj from beq_eq_false_iff_ne.mpr h]
 ·rfl
theorem qb{scope:Scope}{cl:List (bF×Addr)}{C c:Addr}(h:(kW scope x cl C).lookup y=ba c):(y=x/\c=C+1/\scope.names.lookup x=ba .cell)\/cl.lookup y=ba c:=by
 unfold kW at h;split at h
 ·next hc =>
  by_cases e:y=x
  ·subst e;rw[dW,show (y == y)=bh from beq_self_eq_true y]at h;cases h;exact .inl ⟨rfl,rfl,hc⟩
  ·rw[dW,show (y == x)=bj from beq_eq_false_iff_ne.mpr e]at h;exact .inr h
 ·exact .inr h
theorem vO{scope:Scope}{cl:List (bF×Addr)}{C:Addr}(h:scope.names.lookup x=ba .cell):(kW scope x cl C).lookup x=ba (C+1):=by
 unfold kW;rw[if_pos h,dW,show (x == x)=bh from beq_self_eq_true x]
theorem Kx:∀ {names:List (bF×mR)} {n:Nat} {acc:List (bF×Addr)} {h:dR},(names.filter λy=>y.2 == .cell)=[]->sI n names acc=acc/\jhO h names=h
 |[],n,acc,h,_=>⟨rfl,rfl⟩
 |(m,k)::r,n,acc,h,e=>by
  cases hk:k == pI with
  |true=>simp[sR,hk]at e
  |false =>
   have e':(r.filter λy=>y.2 == .cell)=[]:=by simpa[sR,hk]using e
   unfold sI jhO;simp only[hk,du,if_false];exact Kx e'
theorem Vr{x:bF}:∀ {names:List (bF×mR)} {n:Nat} {acc:List (bF×Addr)} {h:dR},(names.filter λy=>y.2 == .cell)=[(x,.cell)]->sI n names acc=(x,n)::acc/\jhO h names=h.push { cls:=.type "cell",data:=.cell bc }
 |[],n,acc,h,e=>by simp at e
 |(m,k)::r,n,acc,h,e=>by
  cases hk:k == pI with
  |true =>
   have e':m=x/\(r.filter λy=>y.2 == .cell)=[]:=by
    have:((m,k)::(r.filter λy=>y.2 == .cell))=[(x,.cell)]:=by rw[<- e];simp[sR,hk]
    simp only[tO,tj]at this;exact⟨this.1.1,this.2⟩
   unfold sI jhO;simp only[hk,if_true];obtain⟨z1,z2⟩:=Kx (n:=n+1) (acc:=(m,n)::acc) (h:=h.push { cls:=.type "cell",data:=.cell bc }) e'.2;rw[z1,z2,e'.1]
   exact⟨rfl,rfl⟩
  |false =>
   have e':(r.filter λy=>y.2 == .cell)=[(x,.cell)]:=by simpa[sR,hk]using e
   unfold sI jhO;simp only[hk,du,if_false];exact Vr e'
theorem qS{env:tR}:∀ {names:List (bF×mR)} {x:bF},names.lookup x=ba .cell ->
 (names.map λ(n,k)=>if (k == tm&&env.scope.kind == .function&&env.kindOf n == ba .cell) then (n,pI) else (n,k)).lookup x=ba .cell
 |[],_,h=>by simp at h
 |(n,k)::r,x,h=>by
  have ih:=@qS env r x;show n6 x ((if (k == tm&&env.scope.kind == .function&&env.kindOf n == ba .cell)=bh then (n,pI) else (n,k))::_)=_
  cases hx:x == n with
  |true =>
   simp only[dW,hx]at h;cases h
   simp[dW,hx]
  |false =>
   simp only[dW,hx]at h;by_cases hc:(k == tm&&env.scope.kind == .function&&env.kindOf n == ba .cell)=bh
   ·rw[if_pos hc];simp only[dW,hx];exact ih h
   ·rw[if_neg hc];simp only[dW,hx];exact ih h
variable{M:Model}{A:gz}{E Q:bq->Shared->Prop}{env:tR}
theorem QS{s:Shared}{scope:Scope}{globals:Addr}{cl:List (bF×Addr)}{qual:bF}{bi:Addr}{Q:tR->Shared->Prop}
 (hc:(scope.names.filter λy=>y.2 == .cell)=if scope.names.lookup x=ba .cell then [(x,.cell)] else [])
 (hQ:∀h',h'.Ns s.heap.objs.size (λ_=>bc)->(∀b o,s.heap.get? b=ba o->h'.get? b=ba o)->(scope.names.lookup x=ba .cell->h'.IsCell (s.heap.objs.size+1) bc) ->
  Q (newEnv scope s.heap.objs.size globals (kW scope x cl s.heap.objs.size) qual bc .none (ba env) bi) { s with heap:=h' }) :
 wpAny M A (newFunctionEnv scope globals cl [] qual bc .none (ba env) bi) Q E s:=by
 simp only[newFunctionEnv,Option.isSome_some,if_true];refine bo (wpAny_alloc ?_);refine bo (wpAny_layCells _ (λname kind cells=>by cases hkc:kind == pI<;>simp[hkc]) _ _ _ _ ?_);rw[show ({ s with heap:=s.heap.push { cls:=.type "dict",data:=.dict #[] } }:Shared).heap.objs.size=s.heap.objs.size+1 from mQ ..];refine bo ?_;rw[n9];refine bA (bA ?_)
 have old:∀b o,s.heap.get? b=ba o->(s.heap.push { cls:=.type "dict",data:=.dict #[] }).get? b=ba o:=λb o e=>bu _ e
 by_cases h:scope.names.lookup x=ba .cell
 ·rw[if_pos h]at hc;obtain⟨e1,e2⟩:=Vr (n:=s.heap.objs.size+1) (acc:=cl) (h:=s.heap.push { cls:=.type "dict",data:=.dict #[] }) hc;rw[e1,e2]
  have q:=hQ ((s.heap.push { cls:=.type "dict",data:=.dict #[] }).push { cls:=.type "cell",data:=.cell bc }) ((jki s.heap (.type "dict")).keeps λb o e=>bu _ e) (λb o e=>bu _ (old b o e)) λ_=>by
   have:=bM (s.heap.push { cls:=.type "dict",data:=.dict #[] }) (o:={ cls:=.type "cell",data:=.cell bc }) rfl;rw[mQ]at this;exact⟨_,this,rfl⟩
  unfold kW at q;rw[if_pos h]at q;exact q
 ·rw[if_neg h]at hc;obtain⟨e1,e2⟩:=Kx (n:=s.heap.objs.size+1) (acc:=cl) (h:=s.heap.push { cls:=.type "dict",data:=.dict #[] }) hc;rw[e1,e2]
  have q:=hQ (s.heap.push { cls:=.type "dict",data:=.dict #[] }) (jki s.heap (.type "dict")) old λz=>absurd z h
  unfold kW at q;rw[if_neg h]at q;exact q
def qD(X:Cx)(ee:bq->Shared->Prop)(s:Shared)(H:Hp)(fp:List Addr)(x:bF)(scope:Scope)(cl:List (bF×Addr))(C:Addr):Cx :=
 { X with N:=qv X.N x,s₀:=s,H₀:=H,env:=jjp scope (kW scope x cl C) C X.env,outer:=X.stack,stack:=X.stack,ex:=fp,fn:=λy=>decide (scope.names.lookup x=ba .cell)&&decide (y=x),pn:=[],xe:=ee }
abbrev qP(X:Cx):=qD X λ_ _=>False
structure CompOk (X:Cx) (x:bF) (scope:Scope) (cl:List (bF×Addr)):Prop where
 clos:jjq scope X.env=pure cl
 kind:scope.kind=.function
 cell:(scope.names.filter λy=>y.2 == .cell)=if scope.names.lookup x=ba .cell then [(x,.cell)] else []
 names:∀y∈scope.names,y.2=.local->scope.names.lookup y.1=ba .local
 loc:scope.names.lookup x=ba .local\/scope.names.lookup x=ba .cell
 only:∀y,(tV scope X.env).names.lookup y=ba .local->y=x\/(y ∉ X.N/\y≠(dum X.N))
 vis:∀y,y≠x->((tV scope X.env).names.lookup y=ba .cell\/(tV scope X.env).names.lookup y=ba .free)->Vis X.env.scope y/\X.env.scope.names.lookup y≠ba .local/\∃c,cl.lookup y=ba c
 sub:∀y c,cl.lookup y=ba c->X.env.cells.lookup y=ba c
 ne:x≠(dum X.N)
 noE:X.env.scope.names.lookup (dum X.N)=bc
variable{i:Nat}
section
variable {X:Cx} {ee:bq->Shared->Prop} {x:bF} {scope:Scope} {cl:List (bF×Addr)}
theorem QG:(qv X.N x)[X.N.length]?=ba x:=by
 unfold qv;rw[gI (by simp)];simp
theorem JU(h:(qv X.N x)[i]?=ba y)(hy:y≠x):i<X.N.length/\(X.N[i]?=ba y\/y=(dum X.N)):=by
 unfold qv at h;by_cases hi:i<X.N.length
 ·refine⟨hi,?_⟩;rw[d7 (by simpa using hi),dQ,bO hi]at h;simp only[nM,mh]at h;split at h
  ·exact .inr h.symm
  ·rw[bO hi,h];exact .inl rfl
 ·exfalso;rw[gI (by simpa using hi)]at h;simp only[bW]at h;rcases jia (sU.mp hi) with z|z
  ·rw[<- z]at h;simp at h;exact hy h.symm
  ·rw[bZ (by simp;lia)]at h;cases h
theorem JY(nd:X.N.Nodup)(he:(dum X.N) ∉ X.N)(hx:x≠(dum X.N)):(qv X.N x).Nodup:=by
 unfold qv;generalize dum X.N=dm at he hx ⊢;rw[List.nodup_append];refine⟨?_,by simp,?_⟩
 ·generalize X.N=N at nd he
  induction N with
  |nil=>simp
  |cons a r ih =>
   simp only[bG,not_or]at he;have nd':=nL.mp nd;rw[b5,nL];refine⟨?_,ih nd'.2 he.2⟩;intro hm;obtain⟨b,hb,e⟩:=gD.mp hm;by_cases h1:a=x
   ·rw[if_pos h1]at e;by_cases h2:b=x
    ·exact nd'.1 (by rw[h1,<- h2];exact hb)
    ·rw[if_neg h2]at e;exact he.2 (e ▸ hb)
   ·rw[if_neg h1]at e;by_cases h2:b=x
    ·rw[if_pos h2]at e;exact he.1 e
    ·rw[if_neg h2]at e;exact nd'.1 (e ▸ hb)
 ·intro a ha b hb;simp only[bG,bV,or_false]at hb;subst hb;obtain⟨c,hc,e⟩:=gD.mp ha;by_cases h:c=b
  ·rw[if_pos h]at e;rw[<- e];exact gC hx
  ·rw[if_neg h]at e;rw[<- e];exact h
end
variable{tk:Nat}
section
variable {X:Cx} {x:bF} {scope:Scope} {cl:List (bF×Addr)} {pins:List (Addr×mE)} {σ:L2.St} {H:Hp} {s:Shared} {fp:List Addr}
theorem jcJ(I:Inv X pins σ H s)(co:CompOk X x scope cl)(hf:∀b∈fp,yh X pins H b){C:Addr}(hC:s.heap.objs.size<=C)(hfp:∀b∈fp,b<s.heap.objs.size):(qD X ee s H fp x scope cl C).Ok where
 mod:=I.ok.mod
 kind:=co.kind
 glob:=I.ok.glob
 blt:=I.ok.blt
 above:=hC
 inj:=λy z c h1 h2=>by
  have no:∀w,cl.lookup w≠ba (C+1):=λw e=>by
   obtain⟨v,q⟩:=I.cell w _ (co.sub w _ e);have:=q.lt;exact absurd (bX this hC) (by lia)
  rcases qb h1 with⟨rfl,rfl,_⟩|k1
  ·rcases qb h2 with⟨rfl,_,_⟩|k2
   ·rfl
   ·exact absurd k2 (no z)
  ·rcases qb h2 with⟨rfl,rfl,_⟩|k2
   ·exact absurd k1 (no y)
   ·exact I.ok.inj y z c (co.sub y c k1) (co.sub z c k2)
 has:=λy hy=>by
  by_cases e:y=x
  ·subst e;rcases co.loc with z|z
   ·have q:(tV scope X.env).names.lookup y=ba .local:=tG z;have hy':(tV scope X.env).names.lookup y=ba .cell\/(tV scope X.env).names.lookup y=ba .free:=hy;rw[q]at hy'
    rcases hy' with r|r<;>cases r
   ·exact⟨C+1,vO z⟩
  ·obtain⟨c,hc⟩:=(co.vis y e hy).2.2;exact⟨c,(vZ e).trans hc⟩
 cab:=λy c h e=>by
  have h:(decide (scope.names.lookup x=ba .cell)&&decide (y=x))=true:=h;simp only[bz,decide_eq_true_eq]at h;obtain⟨h1,rfl⟩:=h;have e:(kW scope y cl C).lookup y=ba c:=e;rw[vO h1]at e;cases e;show s.heap.objs.size<=C+1;lia
 hd:=I.ok.hd
 frames:=I.ok.frames
 stk:=.inl rfl
 exf:=λb hb=>⟨λe=>by have:=hfp b hb;rw[e]at this;exact absurd (bX this hC) (dX _),λy c h=>by
  rcases qb h with⟨_,rfl,_⟩|h
  ·have:=hfp b hb;intro z;rw[<- z]at this;exact absurd (bX this hC) (by lia)
  ·exact(hf b hb).2.2.2.2.1 y c (co.sub y c h)⟩
 bs:=I.bs
 bsz:=dU I.ok.bsz I.sz
 noex:=λb o e hb=>by
  rcases(hf b hb).2.2.2.1 with z|z
  ·exact I.ok.noex b o e z
  ·exact absurd (bX (bH e) (dU I.ok.bsz z)) (dX _)
 exfs:=λb hb hb'=>by
  rcases bG.mp (I.stkSub b hb') with z|z
  ·exact(hf b hb).2.1 z
  ·exact(hf b hb).2.2.1 z
 funs:=I.stack
 frf:=I.stkFree
theorem jao(I:Inv X pins σ H s)(co:CompOk X x scope cl)(hf:∀b∈fp,yh X pins H b){C:Addr}{h':dR}{m:bF->Option bq}(hC:s.heap.objs.size<=C)(hfp:∀b∈fp,b<s.heap.objs.size)
 (hk:∀b o,s.heap.get? b=ba o->h'.get? b=ba o) (hn:h'.Ns C m) (hce:scope.names.lookup x=ba .cell->∃v,h'.IsCell (C+1) v):Inv (qD X ee s H fp x scope cl C) [] (σ ++ [bc]) H { s with heap:=h',toks:=tk } where
 ok:=jcJ I co hf hC hfp
 os:=rfl
 bare:=I.bare
 base:=Un.kept hk
 loc:=by
  refine⟨m,hn,λi y v h1 h2 h3=>?_⟩
  have hi:i<σ.length:=by
   rcases gL i σ.length with z|z
   ·exact z
   ·rw[gI z]at h2;rcases jia z with y|y
    ·rw[<- y]at h2;simp at h2
    ·rw[bZ (by simp;lia)]at h2;cases h2
  rw[d7 hi]at h2;by_cases hyx:y=x
  ·exfalso;subst hyx;have h1':(qv X.N y)[i]?=ba y:=h1;unfold qv at h1'
   have hi':i<X.N.length:=by rw[<- I.len];exact hi
   rw[d7 (by simpa using hi'),dQ,bO hi']at h1';simp only[nM,mh]at h1';split at h1'
   ·exact co.ne h1'.symm
   ·next hne=>exact hne h1'
  ·have hvis:(tV scope X.env).names.lookup y=ba .cell\/(tV scope X.env).names.lookup y=ba .free:=by
    rcases h3 with z|z|z
    ·rcases co.only y z with q|⟨q1,q2⟩
     ·exact absurd q hyx
     ·exfalso;rcases(JU h1 hyx).2 with r|r
      ·exact q1 (gv r)
      ·exact q2 r
    ·exact .inl z
    ·exact .inr z
   obtain⟨v1,v2,c,hc⟩:=co.vis y hyx hvis;obtain⟨_,hN|hN⟩:=JU h1 hyx
   ·obtain⟨m0,hn0,hl⟩:=I.loc;obtain⟨u,r,l⟩:=hl i y v hN h2 v1;refine⟨u,r,.inr ⟨hvis,c,(vZ hyx).trans hc,?_⟩⟩;rcases l with⟨k,_⟩|⟨_,c',hc',z⟩
    ·exact absurd k v2
    ·rw[co.sub y c hc]at hc';cases hc';obtain⟨o,ho,hd⟩:=z;exact⟨o,hk c o ho,hd⟩
   ·exfalso;subst hN
    rcases v1 with z|z|z<;>(rw[co.noE]at z;cases z)
 cell:=λy c h=>by
  rcases qb h with⟨_,rfl,z⟩|h
  ·exact hce z
  ·obtain⟨v,o,ho,hd⟩:=I.cell y c (co.sub y c h);exact⟨v,o,hk c o ho,hd⟩
 free:=I.hok.fresh hC
 freeC:=λy c h=>by
  rcases qb h with⟨_,rfl,_⟩|h
  ·exact I.hok.fresh (dU hC (tF _))
  ·exact I.freeC y c (co.sub y c h)
 pin:=λp hp=>nomatch hp
 hok:=I.hok.kept hk
 len:=by
  show (σ ++ [bc]).length=(qv X.N x).length;unfold qv;simp[I.len]
end
def jdi(ifs:List bU)(env:tR):Sem Bool:=forIn ifs bh λc r=>if r=bh then do let ok <- isTrue c env (eval c env);pure (ji4 ok) else pure (ji4 r)
def PTs(X:Cx)(ifs:List bU)(t:TT):Prop:=∀(pins:List (Addr×mE)) (s:Shared) (σ:L2.St) (H:Hp) (Q:Bool->Hp->Prop),Inv X pins σ H s->t σ H Q->wpAny (model X.prog X.w) X.A (jdi ifs X.env) (TP X pins σ Q) X.xe s
theorem qh{X:Cx}:PTs X [] λ_ H Q=>Q bh H:=λ_ _ _ H _ I h=>bA ⟨H,I,h⟩
theorem Y8{X:Cx}{c:bU}{t:TT}(h:PT X c t):PTs X [c] t:=λpins s σ H Q I w=>wpAny_tests_one (h pins s σ H Q I w)
variable{elt iter:bU}{ifs:List bU}{pos:Pos}{it:bq}
section
variable {prog:dg} {w:World} {A:gz} {R:Result->Shared->Prop} {s:Shared}
theorem Z4{target:bU}{scope:Scope}{acc:bq}(I:Nat->Shared->Prop)(Ee:bq->Shared->Prop)(hEe:∀e s',Ee e s'->notedBy (model prog w) A env (λe s'=>R (.error e) s') e s')
 (zT:∀n s,I n s->wpAny (model prog w) A (pyNext it) (λr s₁=>match r with
  |none=>R (.ok .next) s₁
  |some v=>wpAny (model prog w) A (mZ target it v) (λ_ s₁=>wpAny (model prog w) A (assign target env v) (λ_ s₂=>wpAny (model prog w) A (jdi ifs env) (λok s₃ =>
   if ok=bh then wpAny (model prog w) A (eval elt env) (λx s₃ =>
    wpAny (model prog w) A (call (.builtin "list.append") [acc,x]) (λ_ s₄=>∃m,m<n/\I m s₄) (λ_ _=>False) s₃) Ee s₃
   else ∃m,m<n/\I m s₃) Ee s₂) (λ_ _=>False) s₁) (λ_ _=>False) s₁) (λ_ _=>False) s)
 (n:Nat) (h:I n s):ph (model prog w) A (.compLoop (.ListComp elt [⟨target,iter,ifs,0⟩] scope pos) 0 it acc env) R s:=by
 refine codeAny_loop rfl I (λn s hI=>?_) n h;show wpAny _ _ ((compTurn (.ListComp elt [⟨target,iter,ifs,0⟩] scope pos) 0 it acc env).onRaise (λx=>do pZ x env;theTreesLotGoes x)) _ _ s;refine wpAny_noted ?_;rw[compTurn_list];refine bo (nW (bo (dE (zT n s hI) (λr s₁ h₁=>?_) λ_ _ z=>z.elim)))
 cases r with
 |none=>exact bA h₁
 |some v =>
  refine bo (dE h₁ (λ_ s₂ h₂=>bo (dE h₂ (λ_ s₃ h₃=>bo (dE h₃ (λok s₄ h₄=>?_) hEe)) λ_ _ z=>z.elim)) λ_ _ z=>z.elim)
  cases ok with
  |false=>exact bA ⟨rfl,h₄⟩
  |true=>exact bo (bo (dE h₄ (λx s₄ h₄=>bo (dE h₄ (λ_ s₅ h₅=>bA (bA ⟨rfl,h₅⟩)) λ_ _ z=>z.elim)) hEe))
end
structure TurnC (X:Cx) (tg:bU) (J:It) (fp:List Addr) (it:Addr) (tn:Nat->dR->Prop):Prop where
 obj:∀i h,tn i h->∀b∈fp,∃o,h.get? b=ba o/\∀v,o.data ≠ .cell v
 keep:∀i h h',tn i h->(∀b∈fp,∀o,h.get? b=ba o->h'.get? b=ba o)->tn i h'
 item:∀(Y:Cx),Y.prog=X.prog->Y.w=X.w->Y.K=X.K->Y.A=X.A->Y.calm=X.calm->(∀b o u,X.H₀ b=ba (.frz o u)->Y.H₀ b=ba (.frz o u))->∀(i:Nat) (pins:List (Addr×mE)) (s:Shared) (σ:L2.St) (H:Hp) (E:bq->Shared->Prop),Inv Y pins σ H s->(∀b∈fp,yh Y pins H b)->tn i s.heap->J.go i H ->
  wpAny (model X.prog X.w) Y.A (pyNext (.ref it)) (λr s1=>∃u,r=ba u/\wpAny (model X.prog X.w) Y.A (mZ tg (.ref it) u) (λ_ s2=>∃x H',Inv Y pins σ H' s2/\jH x u/\J.yld i H x H'/\tn (i+1) s2.heap/\∀b∈fp,H' b=bc) E s1) E s
 done:∀(Y:Cx),Y.prog=X.prog->Y.w=X.w->Y.K=X.K->Y.A=X.A->Y.calm=X.calm->(∀b o u,X.H₀ b=ba (.frz o u)->Y.H₀ b=ba (.frz o u))->∀(i:Nat) (pins:List (Addr×mE)) (s:Shared) (σ:L2.St) (H:Hp) (E:bq->Shared->Prop),Inv Y pins σ H s->(∀b∈fp,yh Y pins H b)->tn i s.heap->J.stop i H ->
  wpAny (model X.prog X.w) Y.A (pyNext (.ref it)) (λr s1=>r=bc/\Inv Y pins σ H s1) E s
 self:∀(A:gz) (i:Nat) (s:Shared) (Q:bq->Shared->Prop) (E:bq->Shared->Prop),tn i s.heap->Q (.ref it) s->wpAny (model X.prog X.w) A (pyIter (.ref it)) Q E s
def PC(X:Cx)(tg iter:bU)(wi:TI):Prop :=
 ∀(pins:List (Addr×mE)) (s:Shared) (σ:L2.St) (H:Hp) (R:It->Hp->Prop),Inv X pins σ H s->wi σ H R ->
  wpAny (model X.prog X.w) X.A (eval iter X.env) (λv s1=>wpAny (model X.prog X.w) X.A (pyIter v) (λitv s2=>∃(it:Addr) (fp:List Addr) (tn:Nat->dR->Prop) (J:It) (H':Hp),itv=.ref it/\Inv X pins σ H' s2/\TurnC X tg J fp it tn/\tn 0 s2.heap/\(∀b∈fp,yh X pins H' b)/\R J H') X.xe s1) X.xe s
variable{wi:TI}
theorem ZA{X:Cx}{tg:bU}(hc:X.calm=bh)(h:PI X tg iter wi):PC X tg iter wi:=λpins s σ H R I w =>
 thn (h pins s σ H R I w) λv s1 h1=>thn h1 λitv s2 ⟨it,fp,tn,J,H',e,I2,T,st,f,r⟩=>⟨it,fp,tn,J,H',e,I2,⟨T.obj,T.keep,λY e1 e2 e3 e4 e5 _ i pins s σ H E I hf st hg=>T.item Y e1 e2 e3 (e5.trans hc) i pins s σ H E I hf st hg,λY e1 e2 e3 e4 e5 _ i pins s σ H E I hf st hg=>T.done Y e1 e2 e3 (e5.trans hc) i pins s σ H E I hf st hg,T.self⟩,st,f,r⟩
def zh(wi:TI)(tt:TT)(te:TE):TE:=λσ H Q=>wi σ H λJ H1=>∃W:Nat->Nat->List V->Hp->Prop,(∃m,W 0 m [] H1)/\∀i m ys H,W i m ys H ->
 (J.stop i H/\ys.length<=sizeLine/\∀p,H p=bc->Q (.ref p) (upd H p (.lst ys)))\/(J.go i H/\ys.length<sizeLine/\∀x H',J.yld i H x H'->tt (σ ++ [ba x]) H' λb H1 =>
  if b=bh then te (σ ++ [ba x]) H1 λy H2=>∃m',m'<m/\W (i+1) m' (ys ++ [y]) H2 else ∃m',m'<m/\W (i+1) m' ys H1)
def V3:TT:=λ_ H Q=>Q bh H
abbrev Xr(wi:TI)(te:TE):TE:=zh wi V3 te
variable{px:Pos}{te:TE}{pins:List (Addr×mE)}{σ:L2.St}{H:Hp}
section
variable {X:Cx} {x:bF} {scope:Scope} {cl:List (bF×Addr)}
theorem xJ{tt:TT}{use:Option (bq->Sem Unit)}{Qf:VK}{Qv:bq->Shared->Prop}{s:Shared}(nd:X.N.Nodup)(hE:(dum X.N) ∉ X.N)(co:CompOk X x scope cl)(hi:PC X (.Name x px) iter wi)
 (ee:Shared->Hp->List Addr->Addr->bq->Shared->Prop) (ht:∀s H fp C,PTs (qD X (ee s H fp C) s H fp x scope cl C) ifs tt) (he:∀s H fp C,PE (qD X (ee s H fp C) s H fp x scope cl C) elt te) (hs:∀v,gQ iter X.env v=pure v) (I:Inv X pins σ H s) (h:zh wi tt te σ H Qf)
 (fin:∀(D C:Addr) (H':Hp) (s4:Shared) (m:bF->Option bq),Inv X pins σ H' s4->s4.heap.Ns C m->yh X pins H' C->Qf (.ref D) H'->jit (model X.prog X.w) X.A X.xe use Qv (.ref D) C (.ok .next) s4)  (pass:∀(D C:Addr) (fp:List Addr) (s2:Shared) (H2:Hp) e s',Inv X pins σ H2 s2->s2.heap.objs.size<=C->(∀b∈fp,yh X pins H2 b)->ee s2 H2 fp C e s'->notedBy (model X.prog X.w) X.A (jjp scope (kW scope x cl C) C X.env) (λe s'=>jit (model X.prog X.w) X.A X.xe use Qv (.ref D) C (.error e) s') e s') :
 wpAny (model X.prog X.w) X.A (jhY (.ListComp elt [⟨.Name x px,iter,ifs,0⟩] scope pos) scope X.env (jiu [⟨.Name x px,iter,ifs,0⟩] pos) (newList []) (jjr [⟨.Name x px,iter,ifs,0⟩]) (jjI [⟨.Name x px,iter,ifs,0⟩] X.env) use) Qv X.xe s:=by
 refine wpAny_comprehension_free (g:=⟨.Name x px,iter,ifs,0⟩) (gs:=[]) rfl hs co.clos co.kind co.names ?_
 refine thn (hi pins s σ H _ I h) λv s1 h1=>thn h1 λitv s2 h2=>?_
 obtain⟨it,fp,tn,J,H2,e,I2,T,st2,f2,W,⟨m0,w0⟩,zT⟩:=h2;subst e
 have hfp:∀b∈fp,b<s2.heap.objs.size:=λb hb=>by
  obtain⟨o,e,_⟩:=T.obj _ _ st2 b hb;exact bH e
 refine nk (QS (x:=x) co.cell λh₁ hns₁ hsb₁ hce₁=>?_);dsimp only at hns₁ hsb₁ hce₁ ⊢;generalize hG:s2.heap.push { cls:=.type "list",dict:=bc,data:=.seq ([]:List bq).toArray }=G at hns₁ hsb₁ hce₁ ⊢
 have hCs:G.objs.size=s2.heap.objs.size+1:=by rw[<- hG,mQ]
 obtain⟨D,hD⟩:∃D:Addr,s2.heap.objs.size=D:=⟨_,rfl⟩
 obtain⟨C,hC⟩:∃C:Addr,G.objs.size=C:=⟨_,rfl⟩
 rw[hD]at hCs;rw[hD];rw[hC]at hCs hns₁ hce₁ ⊢
 have hDC:D≠C:=by rw[hCs];exact dB (g9 _)
 have old:∀b o,s2.heap.get? b=ba o->h₁.get? b=ba o:=λb o e=>hsb₁ b o (hG ▸ bu _ e)
 have hacc:h₁.PlainList D #[]:=⟨_,hsb₁ _ _ (hG ▸ (hD ▸ bM s2.heap rfl))⟩
 let X':=qD X (ee s2 H2 fp C) s2 H2 fp x scope cl C
 have hCle:s2.heap.objs.size<=C:=by rw[hD,hCs];exact tF _
 have I3:Inv X' [] (σ ++ [bc]) H2 { s2 with heap:=h₁ }:=jao I2 co f2 hCle hfp old hns₁ λz=>⟨_,hce₁ z⟩
 have ndX:X'.N.Nodup:=JY nd hE co.ne
 have hDL:D≠X.env.locals:=by rw[<- hD];exact nh I2.lt
 have hDf:D ∉ frs X.stack:=λhb=>by
  rcases bG.mp (I2.stkSub D hb) with z|z
  ·exact hDL z
  ·exact I2.nofs (si hD) z
 have hDfp:D ∉ fp:=λhb=>by have:=hfp D hb;rw[hD]at this;exact absurd this (dX _)
 have hDc:∀y c,(kW scope x cl C).lookup y=ba c->c≠D:=λy c e z=>by
  rcases qb e with⟨_,e,_⟩|e
  ·rw[e,hCs]at z;have z:(D+1+1:Nat)=D:=z;lia
  obtain⟨v,q⟩:=I2.cell y c (co.sub y c e);have:=q.lt;rw[z,<- hD]at this;exact absurd this (dX _)
 have stat:∀ {H':Hp} {ob:mE},(∀b∈fp,H' b=bc)->∀b∈fp,yh X' [(D,ob)] H' b:=λ{H' ob} hn b hb=>by
  obtain⟨g0,g1,g2,g3,g4,g5⟩:=f2 b hb;refine⟨hn b hb,λz=>?_,λz=>?_,.inl hb,λy c e=>?_,λp hp z=>?_⟩
  rotate_left 2
  ·rcases qb e with⟨_,rfl,_⟩|e
   ·have:=hfp b hb;intro z;rw[<- z]at this;exact absurd (bX this hCle) (by lia)
   ·exact g4 y c (co.sub y c e)
  rotate_left
  ·have:=hfp b hb;rw[show b=C from z]at this;exact absurd (bX this hCle) (dX _)
  ·rcases bG.mp (I2.stkSub b z) with y|y
   ·exact g1 y
   ·exact g2 y
  ·have hp':p=(D,ob):=by simpa[X',qD]using hp
   subst hp';have z':D=b:=z;exact hDfp (z' ▸ hb)
 have pinD:∀ {τ:L2.St} {H':Hp} {s':Shared} {n:Nat} {us:List bq},Inv X' [] τ H' s'->s'.heap.get? D=ba { cls:=.type "list",data:=.seq us.toArray n }->H' D=bc->Inv X' [(D,{ cls:=.type "list",data:=.seq us.toArray n })] τ H' s':=λ{τ H' s' n us} J e hn =>
  J.pins_of λp hp=>by
   have hp':p=(D,{ cls:=.type "list",data:=.seq us.toArray n }):=by simpa using hp
   subst hp';exact⟨e,hn,hDC,hDf,λv z=>by cases z⟩
 have loop:ph (model X.prog X.w) X.A (.compLoop (.ListComp elt [⟨.Name x px,iter,ifs,0⟩] scope pos) 0 (.ref it) (.ref D) (jjp scope (kW scope x cl C) C X.env))
  (jit (model X.prog X.w) X.A X.xe use Qv (.ref D) C) { s2 with heap:=h₁ }:=by
  refine Z4 (λn s'=>∃(i:Nat) (o:Option V) (ys:List V) (us:List bq) (H':Hp),Inv X' [] (σ ++ [o]) H' s'/\tn i s'.heap/\(∀b∈fp,H' b=bc)/\s'.heap.PlainList D us.toArray/\jv ys us/\H' D=bc/\W i n ys H') X'.xe (λe s' z=>pass D C fp s2 H2 e s' I2 hCle f2 z) ?_ m0
   ⟨0,bc,[],[],H2,I3,T.keep _ _ _ st2 λb hb o e=>old b o e,λb hb=>(f2 b hb).1,hacc,.nil,I2.hok.fresh (si hD),w0⟩
  rintro n s3 ⟨i,o3,ys,us,H3,J3,st3,fr3,⟨n3,pl3⟩,vl3,hD3,w3⟩;have J3':=pinD J3 pl3 hD3;rcases zT i n ys H3 w3 with⟨stop,hl,q⟩|⟨go,hl,step⟩
  ·refine dE (T.done X' rfl rfl rfl rfl rfl I2.base.frzs i _ s3 _ H3 (λ_ _=>False) J3' (stat fr3) st3 stop) (λr s4 ⟨hr,J4⟩=>?_) λ_ _ z=>z
   subst hr;obtain⟨m4,hn4,_⟩:=J4.loc;have eD:s4.heap.get? D=ba { cls:=.type "list",data:=.seq us.toArray n3 }:=(J4.pin _ (b7 _ (bJ ..))).1
   have nC:∀b o,s2.heap.get? b=ba o->b≠C:=λb o e z=>by
    have:=bH e;rw[z]at this;exact absurd (bX this hCle) (dX _)
   have nD:∀b o,s2.heap.get? b=ba o->b≠D:=λb o e z=>by
    have:=bH e;rw[z,hD]at this;exact absurd this (dX _)
   have tD:∀b u,H3 b=ba u->b≠D:=λb u e=>kE e hD3
   have hCn:H3 C=none:=J4.free;have U4:Un (frs X.stack) fp H2 H3 s2.heap s4.heap:=J4.base
   have U:Un (frs X.stack) fp H2 (upd H3 D (.lst ys)) s2.heap s4.heap:={
    keep:=λb o e hn hb hx=>U4.keep b o e hn hb hx
    slot:=λb o e hn hb hx=>by
     obtain⟨sl,q⟩:=U4.slot b o e hn hb hx;exact⟨sl,q⟩
    free:=λb o e hn hx=>by rw[je (nD b o e)];exact U4.free b o e hn hx
    there:=λb o e hx=>by
     obtain⟨o',q⟩:=U4.there b o e hx;exact⟨o',q⟩
    tups:=λb xs e=>by have:=U4.tups b xs e;rw[je (tD b _ this)];exact this
    frzs:=λb o u e=>by have:=U4.frzs b o u e;rw[je (tD b _ this)];exact this
    tbls:=λb ps e=>by
     obtain⟨more,this⟩:=U4.tbls b ps e
     exact⟨more,by rw[je (tD b _ this)];exact this⟩ }
   have K:HOk X.prog X.w (upd H3 D (.lst ys)) s4.heap:=λb u e=>by
    by_cases hb:b=D
    ·subst hb;rw[jh]at e;cases e;exact⟨hl,us,n3,vl3,eD⟩
    ·rw[je hb]at e
     exact(J4.hok b u e).stay (λc v hc q=>q) (λc z=>by rw[je (tD c _ z)];exact z) λc xs z=>by rw[je (tD c _ z)];exact z
   have I4:Inv X pins σ (upd H3 D (.lst ys)) s4:=I2.call' J4.os U K J4.bare λb hb=>by
    obtain⟨g0,g1,g2,g3,g4,g5⟩:=f2 b hb;exact⟨g3,g1,g4,g5⟩
   exact fin D C _ s4 m4 I4 hn4 (I2.fpOk hCle (by rw[je (gC hDC)];exact hCn)) (q D hD3)
  ·refine dE (T.item X' rfl rfl rfl rfl rfl I2.base.frzs i _ s3 _ H3 (λ_ _=>False) J3' (stat fr3) st3 go) (λr s4 ⟨u,hr,h4⟩=>?_) λ_ _ z=>z
   subst hr
   refine dE h4 (λ_ s5 ⟨xv,H5,J5,r5,y5,st5,fr5⟩=>?_) λ_ _ z=>z
   have J5':=J5.pinned (stat fr5) (T.obj _ _ st5);have hlen:σ.length=X.N.length:=I2.len;refine se (zD J5' ndX (i:=X.N.length) QG (co.loc.elim (λz=>.inl (tG z)) λz=>.inr (qS z)) r5 (λs6 J6=>?_) (co.loc.elim (λz=>.inr (tG z)) λz=>.inl (by show (decide (scope.names.lookup x=ba .cell)&&decide (x=x))=bh;simp[z])))
   have eσ:(σ ++ [o3]).set X.N.length (ba xv)=σ ++ [ba xv]:=by rw[<- hlen];simp
   rw[eσ]at J6
   refine thn (ht s2 H2 fp C _ s6 _ H5 _ J6 (step xv H5 y5)) λb s6 ⟨H6,J6,w6⟩=>?_
   cases b with
   |false =>
    obtain⟨m',hm,w7⟩:=w6;have pD:=J6.pin (D,_) (b7 _ (gZ _ (bJ ..)));refine⟨m',hm,i+1,ba xv,ys,us,H6,J6.pins_of λp hp=>(nomatch hp),T.keep _ _ _ st5 λb hb o e=>(J6.pin (b,o) (b7 _ (b7 _ (qB hb e)))).1,λb hb=>?_,⟨n3,pD.1⟩,vl3,pD.2.1,w7⟩;obtain⟨o,e,_⟩:=T.obj _ _ st5 b hb
    exact(J6.pin (b,o) (b7 _ (b7 _ (qB hb e)))).2.1
   |true =>
   refine thn (he s2 H2 fp C _ s6 _ H6 _ J6 w6) λy s7 ⟨yv,H7,J7,r7,m',hm,w7⟩=>?_
   have pD:=J7.pin (D,_) (b7 _ (gZ _ (bJ ..)))
   have pl7:s7.heap.PlainList D us.toArray:=⟨n3,pD.1⟩
   have hsz:us.toArray.size<=sizeLine:=by have:=vl3.length;simp;lia
   refine wpAny_list_append_plain (hsz:=hsz) pl7 λh₈ pl8 sb8=>?_
   refine⟨m',hm,i+1,ba xv,ys ++ [yv],us ++ [y],H7,?_,?_,?_,?_,vl3.append (.cons r7 .nil),pD.2.1,w7⟩
   ·have J7':Inv X' [] (σ ++ [ba xv]) H7 s7:=J7.pins_of λp hp=>nomatch hp
    exact J7'.turned (t':=s7.toks) (it:=D) (λb o hb e=>(sb8.2 b hb).trans e) pD.2.1 hDC (.inr (si hD)) hDc λp hp=>nomatch hp
   ·refine T.keep _ _ _ st5 λb hb o e=>?_
    have:=(J7.pin (b,o) (b7 _ (b7 _ (qB hb e)))).1;exact(sb8.2 b λz=>hDfp (z ▸ hb)).trans this
   ·intro b hb;obtain⟨o,e,_⟩:=T.obj _ _ st5 b hb;exact(J7.pin (b,o) (b7 _ (b7 _ (qB hb e)))).2.1
   ·have e:(us ++ [y]).toArray=us.toArray.push y:=by simp
    rw[e];exact pl8
 exact codeAny_compStart_list loop (T.self _ _ _ _ _ (T.keep _ _ _ st2 λb hb o e=>old b o e) loop)
theorem zJ{tt:TT}(hc:X.calm=bh)(nd:X.N.Nodup)(hE:(dum X.N) ∉ X.N)(co:CompOk X x scope cl)(hi:PI X (.Name x px) iter wi)
 (ht:∀s H fp C,PTs (qP X s H fp x scope cl C) ifs tt) (he:∀s H fp C,PE (qP X s H fp x scope cl C) elt te) (hs:∀v,gQ iter X.env v=pure v):PE X (.ListComp elt [⟨.Name x px,iter,ifs,0⟩] scope pos) (zh wi tt te):=by
 intro pins s σ H Q I h;rw[jhZ]
 refine xJ nd hE co (ZA hc hi) (λ_ _ _ _ _ _=>False) ht he hs I h (pass:=λ_ _ _ _ _ _ _ _ _ _ z=>z.elim) λD C H' s4 m I4 hn hC q=>?_
 obtain⟨g0,g1,g2,g3,g4,g5⟩:=hC;exact⟨m,hn,λh' sb=>⟨.ref D,H',I4.turned (t':=s4.toks) (λb o hb e=>(sb.2 b hb).trans e) g0 g1 g3 g4 g5,rfl,q⟩⟩
theorem YR{py spos:Pos}{tt:TT}(hc:X.calm=bh)(nd:X.N.Nodup)(hE:(dum X.N) ∉ X.N)(co:CompOk X x scope cl)(hi:PI X (.Name x px) iter wi)
 (ht:∀s H fp C,PTs (qP X s H fp x scope cl C) ifs tt) (he:∀s H fp C,PE (qP X s H fp x scope cl C) elt te) (hs:∀v,gQ iter X.env v=pure v)
 (hsw:mm (.ListComp elt [⟨.Name x px,iter,ifs,0⟩] scope pos) (ba (.Name y py)) spos.line X.env=pure bh) (hy:X.N[i]?=ba y) (hl:L2.Loc X.env.scope y) (hf:X.fn y=bh\/X.env.scope.names.lookup y=ba .local) :
 PS X (.Assign [.Name y py] (.ListComp elt [⟨.Name x px,iter,ifs,0⟩] scope pos) spos) (λD σ H=>zh wi tt te σ H λv H'=>D.nx (σ.set i (ba v)) H'):=by
 intro pins s σ H D I h;rw[jho _ _ _ _ hsw];refine bo (nW (bo ?_));show wpAny _ X.A (do let _ <- jhY (.ListComp elt [⟨.Name x px,iter,ifs,0⟩] scope pos) scope X.env (jiu [⟨.Name x px,iter,ifs,0⟩] pos) (newList []) (jjr [⟨.Name x px,iter,ifs,0⟩]) (jjI [⟨.Name x px,iter,ifs,0⟩] X.env) (ba (assign (.Name y py) X.env))) _ _ s;refine bo (dE (xJ (Qv:=λ_ s'=>SP X pins D .next s') nd hE co (ZA hc hi) (λ_ _ _ _ _ _=>False) ht he hs I h (pass:=λ_ _ _ _ _ _ _ _ _ _ z=>z.elim) λDa C H' s4 m I4 hn hC q=>?_) (λ_ s' hq=>bA (bA hq)) λ_ _ z=>z);refine se (um I4 nd hy hl (v:=.ref Da) rfl (λs5 I5 ⟨a,sb,ha⟩=>?_) hf);obtain⟨g0,g1,g2,g3,g4,g5⟩:=hC
 have haC:a≠C:=by
  rcases ha with z|z
  ·rw[z];exact gC g1
  ·exact g4 y a z
 refine⟨m,hn.sameBut sb (gC haC),λh' sb'=>?_⟩;exact⟨_,H',I5.turned (t':=s5.toks) (λb o hb e=>(sb'.2 b hb).trans e) g0 g1 g3 g4 g5,q⟩
end
def minus(H:Hp)(O:List Addr):Hp:=λa=>if a∈O then bc else H a
theorem jc(H:Hp)(O:List Addr):jd (minus H O) H:=λb o h=>by
 unfold minus at h;split at h
 ·cases h
 ·exact h
variable{H':Hp}{O:List Addr}
theorem jb(e:jd H H'):jd (minus H O) (minus H' O):=λb o h=>by
 unfold minus at *;split at h
 ·cases h
 ·next hb=>rw[if_neg hb];exact e b o h
theorem jM{O':List Addr}(e:∀a∈O',a∈O):jd (minus H O) (minus H O'):=λb o h=>by
 unfold minus at *;split at h
 ·cases h
 ·next hb=>rw[if_neg λz=>hb (e b z)];exact h
variable{a:Addr}
theorem jw(h:a ∉ O):minus H O a=H a:=by unfold minus;rw[if_neg h]
variable{K:bx}{xs:List D}
theorem j9{xs:List V}(e:jd H H')(h:SqT K H a xs):SqT K H' a xs:=by
 rcases h with(h|⟨o,h⟩)|h
 ·exact .inl (.inl (e _ _ h))
 ·exact .inl (.inr ⟨o,e _ _ h⟩)
 ·exact .inr h
mutual
noncomputable def Is(K:bx)(S:Hp):D->V->Prop
 |.non,v=>v=.non
 |.bl b,v=>v=.bl b
 |.int i,v=>v=.int i
 |.str x,v=>v=.str x/\b9 x=bh
 |.tup xs,v=>∃a vs,v=.ref a/\SqT K S a vs/\Iss K S xs vs
 |.lst xs,v=>∃a vs,v=.ref a/\SqL K S a vs/\Iss K S xs vs
noncomputable def Iss(K:bx)(S:Hp):List D->List V->Prop
 |[],vs=>vs=[]
 |d::ds,vs=>∃v r,vs=v::r/\Is K S d v/\Iss K S ds r
end
variable{vs:List V}
section
variable {K:bx} {S S':Hp}
mutual
theorem Is.mono(e:jd S S'):∀(d:D) {v:V},Is K S d v->Is K S' d v
 |.non,v,h=>by unfold Is at *;exact h
 |.bl b,v,h=>by unfold Is at *;exact h
 |.int i,v,h=>by unfold Is at *;exact h
 |.str x,v,h=>by unfold Is at *;exact h
 |.tup xs,v,h=>by
  unfold Is at *;obtain⟨a,vs,h1,h2,h3⟩:=h
  exact⟨a,vs,h1,j9 e h2,Iss.mono e xs h3⟩
 |.lst xs,v,h=>by
  unfold Is at *;obtain⟨a,vs,h1,h2,h3⟩:=h;exact⟨a,vs,h1,e.seq h2,Iss.mono e xs h3⟩
theorem Iss.mono(e:jd S S'):∀(ds:List D) {vs:List V},Iss K S ds vs->Iss K S' ds vs
 |[],vs,h=>by unfold Iss at *;exact h
 |d::ds,vs,h=>by
  unfold Iss at *;obtain⟨v,r,h1,h2,h3⟩:=h;exact⟨v,r,h1,Is.mono e d h2,Iss.mono e ds h3⟩
end
theorem Iss.length:∀ {ds:List D} {vs:List V},Iss K S ds vs->vs.length=ds.length
 |[],vs,h=>by unfold Iss at h;subst h;rfl
 |d::ds,vs,h=>by
  unfold Iss at h;obtain⟨v,r,rfl,_,h3⟩:=h;simp[Iss.length h3]
theorem Iss.get:∀ {ds:List D} {vs:List V} {i:Nat} {d:D},Iss K S ds vs->ds[i]?=ba d->∃v,vs[i]?=ba v/\Is K S d v
 |[],vs,i,d,h,e=>by simp at e
 |x::ds,vs,i,d,h,e=>by
  unfold Iss at h;obtain⟨v,r,rfl,h2,h3⟩:=h
  cases i with
  |zero=>simp at e;subst e;exact⟨v,rfl,h2⟩
  |succ i =>
   obtain⟨w,e1,e2⟩:=Iss.get (i:=i) (d:=d) h3 (by simpa using e);exact⟨w,by simpa using e1,e2⟩
theorem Iss.append:∀ {ds es:List D} {vs ws:List V},Iss K S ds vs->Iss K S es ws->Iss K S (ds++es) (vs++ws)
 |[],es,vs,ws,h,g=>by unfold Iss at h;subst h;exact g
 |x::ds,es,vs,ws,h,g=>by
  unfold Iss at h;obtain⟨v,r,rfl,h2,h3⟩:=h;show Iss K S (x::(ds++es)) (v::(r++ws));unfold Iss;exact⟨v,_,rfl,h2,h3.append g⟩
theorem jk{i:Int}{v:V}(h:Is K S (.int i) v):v=.int i:=by unfold Is at h;exact h
theorem k9{i:Bool}{v:V}(h:Is K S (.bl i) v):v=.bl i:=by unfold Is at h;exact h
theorem XQ{v:V}(h:Is K S .non v):v=.non:=by unfold Is at h;exact h
theorem jL{v:V}(h:Is K S (.str x) v):v=.str x/\b9 x=true:=by unfold Is at h;exact h
inductive IsT (K:bx) (S:Hp) (xs:List D) (v:V):Prop
 |mk (a:Addr) (vs:List V) (e:v=.ref a) (h:SqT K S a vs) (i:Iss K S xs vs)
inductive IsL (K:bx) (S:Hp) (xs:List D) (v:V):Prop
 |mk (a:Addr) (vs:List V) (e:v=.ref a) (h:SqL K S a vs) (i:Iss K S xs vs)
theorem kU{v:V}(h:Is K S (.tup xs) v):IsT K S xs v:=by
 unfold Is at h;obtain⟨a,vs,e,h,i⟩:=h;exact⟨a,vs,e,h,i⟩
theorem jA{v:V}(h:Is K S (.lst xs) v):IsL K S xs v:=by
 unfold Is at h;obtain⟨a,vs,e,h,i⟩:=h;exact⟨a,vs,e,h,i⟩
theorem ju(i:Int):Is K S (.int i) (.int i):=by unfold Is;rfl
theorem j5(i:Bool):Is K S (.bl i) (.bl i):=by unfold Is;rfl
theorem Jh:Is K S .non .non:=by unfold Is;rfl
theorem kq(h:b9 x=bh):Is K S (.str x) (.str x):=by unfold Is;exact⟨rfl,h⟩
theorem ur(h:S a=ba (.tup vs))(g:Iss K S xs vs):Is K S (.tup xs) (.ref a):=by unfold Is;exact⟨a,vs,rfl,SqT.of h,g⟩
theorem zE(h:SqT K S a vs)(g:Iss K S xs vs):Is K S (.tup xs) (.ref a):=by unfold Is;exact⟨a,vs,rfl,h,g⟩
theorem ke(h:SqL K S a vs)(g:Iss K S xs vs):Is K S (.lst xs) (.ref a):=by unfold Is;exact⟨a,vs,rfl,h,g⟩
end
mutual
noncomputable def zj:D->PyData
 |.non=>.none
 |.bl b=>.bool b
 |.int i=>.int i
 |.str x=>.str x
 |.tup xs=>.tuple (xx xs)
 |.lst xs=>.list (xx xs)
noncomputable def xx:List D->List PyData
 |[]=>[]
 |x::xs=>zj x::xx xs
end
mutual
theorem vL:∀a b:D,jkt (zj a) (zj b)=eqD a b
 |a,b=>by
  cases a<;>cases b<;>simp only[zj,jkt,eqD]
  ·exact uB _ _
  ·exact uB _ _
theorem uB:∀a b:List D,tu (xx a) (xx b)=ux a b
 |[],[]=>by simp only[xx,tu,ux]
 |[],_::_=>by simp only[xx,tu,ux]
 |_::_,[]=>by simp only[xx,tu,ux]
 |x::xs,y::ys=>by simp only[xx,tu,ux];rw[vL x y,uB xs ys]
end
mutual
theorem Ju:∀a:D,(zj a).depth=qI a
 |.non=>rfl
 |.bl _=>rfl
 |.int _=>rfl
 |.str _=>rfl
 |.tup xs=>by simp only[zj,jjX,qI];rw[uu xs]
 |.lst xs=>by simp only[zj,jjX,qI];rw[uu xs]
theorem uu:∀a:List D,ji5 (xx a)=yZ a
 |[]=>rfl
 |x::xs=>by simp only[xx,ji5,yZ];rw[Ju x,uu xs]
end
section
variable {X:Cx} {pins:List (Addr×mE)} {σ:L2.St} {H:Hp} {s:Shared}
mutual
theorem Is.reads(I:Inv X pins σ H s):∀(d:D) {v:V} {u:bq},Is X.K H d v->jH v u->(∃as,Reads s.heap u (zj d) as)/\(zj d).canLay0=bh
 |.non,v,u,h,r=>by cases XQ h;cases r;exact⟨⟨_,.none⟩,rfl⟩
 |.bl b,v,u,h,r=>by cases k9 h;cases r;exact⟨⟨_,.bool b⟩,rfl⟩
 |.int i,v,u,h,r=>by cases jk h;obtain⟨t,rfl⟩:=r;exact⟨⟨_,.int i t⟩,rfl⟩
 |.str x,v,u,h,r=>by obtain⟨rfl,o⟩:=jL h;obtain⟨t,rfl⟩:=r;exact⟨⟨_,.str x t⟩,o⟩
 |.tup xs,v,u,h,r=>by
  obtain⟨a,vs,rfl,h1,h2⟩:=kU h;cases r;obtain⟨its,rv,⟨o,e1,e2,n,e3⟩,_⟩:=I.tuple h1;obtain⟨⟨as,ra⟩,c⟩:=Iss.reads I xs h2 rv
  exact⟨⟨as,.tuple e1 e2 e3 (by simpa using ra)⟩,c⟩
 |.lst xs,v,u,h,r=>by
  obtain⟨a,vs,rfl,h1,h2⟩:=jA h;cases r;obtain⟨its,rv,pl,_⟩:=I.list h1;obtain⟨o,e1,e2,n,e3⟩:=pl.isList;obtain⟨⟨as,ra⟩,c⟩:=Iss.reads I xs h2 rv;exact⟨⟨_,.list e1 e2 e3 (by simpa using ra)⟩,c⟩
theorem Iss.reads(I:Inv X pins σ H s):∀(ds:List D) {vs:List V} {us:List bq},Iss X.K H ds vs->jv vs us->(∃as,ReadsAll s.heap us (xx ds) as)/\jiv (xx ds)=bh
 |[],vs,us,h,r=>by
  unfold Iss at h;subst h;cases r
  exact⟨⟨_,.nil⟩,rfl⟩
 |d::ds,vs,us,h,r=>by
  unfold Iss at h;obtain⟨v,q,rfl,h1,h2⟩:=h
  cases r with
  |cons r1 r2 =>
   obtain⟨⟨as,ra⟩,c1⟩:=Is.reads I d h1 r1;obtain⟨⟨bs,rb⟩,c2⟩:=Iss.reads I ds h2 r2;exact⟨⟨_,.cons ra rb⟩,by simp only[xx,jiv];rw[c1,c2];rfl⟩
end
end
section
variable {prog:dg} {w:World} {A:gz} {E:bq->Shared->Prop}
theorem Zn{l it:Addr}{vs:Array bq}(hd:l≠it):∀(m i:Nat) {s:Shared} {Q:List bq->Shared->Prop},s.heap.IsListIter it l i->s.heap.IsList l vs->i+m=vs.size ->
 (∀h₂,h₂.IsListIter it l (i+m)->h₂.IsList l vs->mq it s.heap h₂->Q (vs.toList.drop i) { s with heap:=h₂ })->wpAny (model prog w) A (draw (.ref it) m) Q E s
 |0,i,s,Q,a1,a2,e,q=>by
  have z:=q s.heap a1 a2 (mB ..);rw[sk (by simp;lia)]at z
  exact bA z
 |m+1,i,s,Q,a1,a2,e,q=>by
  have lt:i<vs.size:=by lia
  show wpAny _ _ (pyNext (.ref it) >>= _) _ _ _;refine bo (sf (x:=vs[i]) a1 a2 (by simp[lt]) ?_);intro h₁ b1 b2;have c2:h₁.IsList l vs:=a2.extBut b2.extBut hd;refine bo (dN (Zn hd m (i+1) b1 c2 (by lia) ?_));intro h₂ d1 d2 d3;have z:=q h₂ (by rw[tU m 1,<- Nat.add_assoc];exact d1) d2 (b2.trans d3)
  have cut:vs.toList.drop i=vs[i]::vs.toList.drop (i+1):=by rw[d8 (by simpa using lt)];simp
  rw[cut]at z;exact bA z
theorem UX{l:Addr}{vs:Array bq}{tg:List (Bool×(bq->Sem Unit))}{Q:Unit->Shared->Prop}{s:Shared}(hh:A.handled=bc)(hl:s.heap.IsList l vs)(hn:tg.length=vs.size)(hz:tg.findIdx? (·.1)=bc)
 (q:∀h₂,(∀b o,s.heap.get? b=ba o->h₂.get? b=ba o)->wpAny (model prog w) A (assignInOrder (tg.map (·.2)) vs.toList) Q E { s with heap:=h₂ }):wpAny (model prog w) A (unpack (.ref l) tg) Q E s:=by
 have new:∀b o,s.heap.get? b=ba o->b≠s.heap.objs.size:=λb o e=>dB (bH e)
 have hd:l≠s.heap.objs.size:=by obtain⟨o,e,_⟩:=hl;exact new l o e
 unfold unpack;rw[hn,hz];refine bo (dN ?_);unfold unpackItems notIterableAtAll;refine bo (bo (wpAny_specialOf hl.typeIs slot_list_iter.lookup (bA ?_)));simp only[du,if_false];refine bo (dN (gP hl ?_));refine bo (dN (Zn hd vs.size 0 ⟨_,bM _ rfl,rfl,rfl⟩ (hl.push _) (by lia) ?_));intro h₁ a1 a2 a3;simp only[nG];rw[if_neg (by simp)];refine bo (dN (jhl hh a1 a2 (by simp) ?_));intro h₂ b1;simp only[Option.isSome_none,du,if_false];exact bA (q h₂ λb o e=>b1 b o (new b o e) (a3.extBut b o (new b o e) (bu _ e)))
end
def jgk(K:bx)(n:Nat)(t:TGs):TG:=λv σ H Q=>∃a xs,v=.ref a/\SqL K H a xs/\xs.length=n/\t xs σ H Q
def gSq(K:bx)(n:Nat)(t:TGs):TG:=λv σ H Q=>jex K n t v σ H Q\/jgk K n t v σ H Q
variable{k:Nat}{n:Int}
theorem jf1{X:Cx}{es:List bU}{t:TGs}{n:Nat}(hc:X.calm=bh)(h:PGs X es t)(hn:(mO es X.env).length=n)(hst:(mO es X.env).findIdx? (·.1)=bc):PG X (.Tuple es k pos) (gSq X.K n t):=by
 intro pins s σ H v u Q I r w;rcases w with w|⟨a,xs,rfl,hq,hl,w⟩
 ·exact Vo hc h hn hst pins s σ H v u Q I r w
 ·cases r;obtain⟨its,rv,p,hz⟩:=I.list hq;rw[assign_Tuple];refine bo (nW (UX (I.ok.hd hc) p.isList (by simp[hn,<- hl,rv.length]) hst λh₂ keep=>?_));exact h pins _ σ H xs _ Q (I.kept (t':=s.toks) keep) (by simpa using rv) w
variable{s':Shared}
section
variable {prog:dg} {w:World} {A:gz} {R:Result->Shared->Prop} {I S:Addr} {fp wr:List Addr} {G:Array m9->Array m9->Prop} {P:Nat->bq->Prop} {St:Nat->Shared->Prop} {ns:List Int}
theorem vf:(toString "min" ++ toString ".loop":String)="min.loop":=by decide
theorem vb:(toString "max" ++ toString ".loop":String)="max.loop":=by decide
theorem qY{s:Shared}(mv:jhA wr G s s')(f:mE->mE):jhA (S::wr) G s { s' with heap:=s'.heap.update S f } :=
 ⟨λb o hb eb=>(b8 _ _ (λx=>hb (by rw[x];exact bJ))).trans (mv.heap b o (λx=>hb (bD _ x)) eb),mv.gens,mv.drawn,mv.os,mv.toks⟩
theorem YV(h:i<ns.length):ns.drop i=ns.getD i 0::ns.drop (i+1):=by rw[d8 h];simp[h]
theorem XJ(W:WalksS prog w A.in1 I fp wr G ns.length P St)(hv:∀i v,P i v->∃t,v=.int (ns.getD i 0) t)(hS:S ∉ fp)(kw:List (bF×bq)):∀(k i:Nat) (s:Shared) (m:Int) (t:Tok) (c:Nat),i+k=ns.length->St i s ->
 s.heap.get? S=ba { cls:=.type "list",dict:=bc,data:=.seq #[.int m t,.int m t] c,slots:=#[] }->(∀s' t',jhA (S::wr) G s s'->R (.ok (.ret (.int ((ns.drop i).foldl (Jt bj) m) t'))) s') ->
 ph (model prog w) A (.builtin "min.loop" ⟨[.ref I,.none,.ref S],kw⟩) R s
 |0,i,s,m,t,c,e,a1,a2,q=>by
  have Sw:S ∉ wr:=λz=>hS (W.sub _ z)
  refine m7 wY ?_;rw[my mL _];refine bo (m:=sV (.ref S)) (gE a2 rfl ?_);refine bo (m:=tryCatch (pyNext (.ref I)) _) (mS (W.done s _ _ (by rw[<- e];exact a1) ?_));intro s' mv;have b2:=mv.heap S _ Sw a2;refine bo (m:=jiL S (λ_=>#[])) (m8 b2 rfl (bo (mz (bA ?_))));have z:=q _ t (qY mv (gH λ_=>#[]));rw[sk (by lia)]at z
  exact z
 |k+1,i,s,m,t,c,e,a1,a2,q=>by
  have Sw:S ∉ wr:=λz=>hS (W.sub _ z)
  have lt:i<ns.length:=by lia
  rw[YV lt,pP]at q;refine m7 wY ?_;rw[my mL _];refine bo (m:=sV (.ref S)) (gE a2 rfl ?_);refine bo (m:=tryCatch (pyNext (.ref I)) _) (mS (W.item i s _ _ lt a1 ?_));intro v s' pv b1 mv;obtain⟨t₁,rfl⟩:=hv i v pv;have b2:=mv.heap S _ Sw a2;generalize hn:ns.getD i 0=n at *;have cmp:=CmpOf.ints_lt (prog:=prog) (w:=w) (A:=A.in1) (P:=λj v=>∃t,v=.int (if j=0 then n else m) t) (λj=>if j=0 then n else m) (λ_ _ h=>h);refine bo (m:=tryCatch (jjh [.int n t₁,.int n t₁] (richCompare .Lt (.int n t₁) (.int m t) >>= _)) _) (mS (dN (bo (cmp 0 1 _ _ _ _ _ ⟨t₁,rfl⟩ ⟨t,rfl⟩ ?_))));simp only[if_true,ji6,if_false];refine bo (dN (gg (bo (mz (bA ?_)))))
  have moved:jhA (S::wr) G s s':=mv.mono λb hb=>bD _ hb
  by_cases lo:n<m
  ·simp only[lo,decide_true,if_true]
   have pk:Jt bj m n=n:=by unfold Jt;simp[lo]
   rw[pk]at q;refine bo (m8 b2 rfl (bo (mz ?_)));rw[vf];refine bA ⟨nE mL _,XJ W hv hS kw k (i+1) _ n t₁ _ (by lia) (W.frame _ s' _ s'.toks b1 (bN _) ?_) (gj _ b2 rfl) ?_⟩
   ·intro b hb o eb;exact(b8 _ _ (λx=>hS (by rw[x];exact hb))).trans eb
   ·intro s₂ t₂ m₂;exact q s₂ t₂ (tH W.gtrans (qY mv _) m₂)
  ·simp only[lo,decide_false,du,if_false]
   have pk:Jt bj m n=m:=by unfold Jt;simp[lo]
   rw[pk]at q;refine bo (mz ?_);rw[vf];exact bA ⟨nE mL _,XJ W hv hS kw k (i+1) s' m t c (by lia) b1 b2 λs₂ t₂ m₂=>q s₂ t₂ (tH W.gtrans moved m₂)⟩
theorem XX(W:WalksS prog w A.in1 I fp wr G ns.length P St)(hv:∀i v,P i v->∃t,v=.int (ns.getD i 0) t)(hS:S ∉ fp)(kw:List (bF×bq)):∀(k i:Nat) (s:Shared) (m:Int) (t:Tok) (c:Nat),i+k=ns.length->St i s ->
 s.heap.get? S=ba { cls:=.type "list",dict:=bc,data:=.seq #[.int m t,.int m t] c,slots:=#[] }->(∀s' t',jhA (S::wr) G s s'->R (.ok (.ret (.int ((ns.drop i).foldl (Jt bh) m) t'))) s') ->
 ph (model prog w) A (.builtin "max.loop" ⟨[.ref I,.none,.ref S],kw⟩) R s
 |0,i,s,m,t,c,e,a1,a2,q=>by
  have Sw:S ∉ wr:=λz=>hS (W.sub _ z)
  refine m7 wZ ?_;rw[my mM _];refine bo (m:=sV (.ref S)) (gE a2 rfl ?_);refine bo (m:=tryCatch (pyNext (.ref I)) _) (mS (W.done s _ _ (by rw[<- e];exact a1) ?_));intro s' mv;have b2:=mv.heap S _ Sw a2;refine bo (m:=jiL S (λ_=>#[])) (m8 b2 rfl (bo (mz (bA ?_))));have z:=q _ t (qY mv (gH λ_=>#[]));rw[sk (by lia)]at z
  exact z
 |k+1,i,s,m,t,c,e,a1,a2,q=>by
  have Sw:S ∉ wr:=λz=>hS (W.sub _ z)
  have lt:i<ns.length:=by lia
  rw[YV lt,pP]at q;refine m7 wZ ?_;rw[my mM _];refine bo (m:=sV (.ref S)) (gE a2 rfl ?_);refine bo (m:=tryCatch (pyNext (.ref I)) _) (mS (W.item i s _ _ lt a1 ?_));intro v s' pv b1 mv;obtain⟨t₁,rfl⟩:=hv i v pv;have b2:=mv.heap S _ Sw a2;generalize hn:ns.getD i 0=n at *;have cmp:=CmpOf.ints_gt (prog:=prog) (w:=w) (A:=A.in1) (P:=λj v=>∃t,v=.int (if j=0 then n else m) t) (λj=>if j=0 then n else m) (λ_ _ h=>h);refine bo (m:=tryCatch (jjh [.int n t₁,.int n t₁] (richCompare .Gt (.int n t₁) (.int m t) >>= _)) _) (mS (dN (bo (cmp 0 1 _ _ _ _ _ ⟨t₁,rfl⟩ ⟨t,rfl⟩ ?_))));simp only[if_true,ji6,if_false];refine bo (dN (gg (bo (mz (bA ?_)))))
  have moved:jhA (S::wr) G s s':=mv.mono λb hb=>bD _ hb
  by_cases lo:n > m
  ·simp only[lo,decide_true,if_true]
   have pk:Jt bh m n=n:=by unfold Jt;simp[lo]
   rw[pk]at q;refine bo (m8 b2 rfl (bo (mz ?_)));rw[vb];refine bA ⟨nE mM _,XX W hv hS kw k (i+1) _ n t₁ _ (by lia) (W.frame _ s' _ s'.toks b1 (bN _) ?_) (gj _ b2 rfl) ?_⟩
   ·intro b hb o eb;exact(b8 _ _ (λx=>hS (by rw[x];exact hb))).trans eb
   ·intro s₂ t₂ m₂;exact q s₂ t₂ (tH W.gtrans (qY mv _) m₂)
  ·simp only[lo,decide_false,du,if_false]
   have pk:Jt bh m n=m:=by unfold Jt;simp[lo]
   rw[pk]at q;refine bo (mz ?_);rw[vb];exact bA ⟨nE mM _,XX W hv hS kw k (i+1) s' m t c (by lia) b1 b2 λs₂ t₂ m₂=>q s₂ t₂ (tH W.gtrans moved m₂)⟩
end
section
variable {prog:dg} {w:World} {A:gz} {E:bq->Shared->Prop} {I:Addr} {fp wr:List Addr} {G:Array m9->Array m9->Prop} {P:Nat->bq->Prop} {St:Nat->Shared->Prop} {ns:List Int}
theorem QF{id:String}{b:pA}{args:List bq}{kw:List (bF×bq)}{s:Shared}(hk:builtinKind id=bc)(hp:plainId id=bh)(hb:entryFor table id=ba b)(ha:argsOk id ⟨args,kw⟩)
 (hc:wpAny (model prog w) A.in1 (b ⟨args,kw⟩) (λfin s'=>∃c',fin=.again c'/\c'.quiet=bh/\ph (model prog w) A c' (λr s'=>match r with|.ok (.ret v)=>Q v s'|.ok _=>False|.error e=>E e s') s') E s) :
 wpAny (model prog w) A (call (.builtin id) args kw) Q E s:=by
 refine pT (nu hp hb ?_)
 have fin:=dE hc (Q':=λfin s'=>match fin with
  |.done f=>(match (Except.ok f:Result) with|.ok (.ret v)=>Q v s'|.ok _=>False|.error e=>E e s')
  |.again c'=>c'.quiet=bh/\ph (model prog w) A c' (λr s'=>match r with|.ok (.ret v)=>Q v s'|.ok _=>False|.error e=>E e s') s')
  (λ_ _ ⟨c',e,z⟩=>by subst e;exact z) λ_ _ z=>z
 simp only[sW,hk]
 cases hs:jhQ id with
 |none=>exact bA fin
 |some sig =>
  have e:jhB id sig ⟨args,kw⟩=pure ():=by simpa only[argsOk,hs]using ha
  simp only[e];exact bA fin
end
theorem xA:∀ {ns:List Int} {us:List bq},jv (ns.map V.int) us->∀i v,us[i]?=ba v->∃t,v=wR (ns.getD i 0) t
 |[],us,r,i,v,h=>by cases r;simp at h
 |n::ns,us,r,i,v,h=>by
  cases r with
  |cons r1 r2 =>
   cases i with
   |zero=>simp at h;subst h;obtain⟨t,e⟩:=r1;exact⟨t,by simpa using e⟩
   |succ i=>simpa using xA r2 i v (by simpa using h)
variable{τ:L2.St}
theorem Inv.moved'{X:Cx}{s:Shared}{o:mE}(I:Inv X pins τ H s)(m:jhA [s.heap.objs.size] (λa b=>b=a) { s with heap:=s.heap.push o,toks:=tk } s'):Inv X pins τ H s':=by
 have k:∀b u,s.heap.get? b=ba u->s'.heap.get? b=ba u:=λb u e=>m.heap b u (λz=>by
  have:b=s.heap.objs.size:=by simpa using z
  exact absurd (bH e) (by rw[this];exact dX _)) (bu _ e)
 exact I.call' (ch:=[]) m.os (Un.kept k) (I.hok.kept k) (by rw[m.gens];exact I.bare) λ_ z=>nomatch z
variable{x:bq}{ns:List Int}
section
variable {prog:dg} {w:World} {A:gz} {E:bq->Shared->Prop} {I:Addr} {fp wr:List Addr} {G:Array m9->Array m9->Prop} {P:Nat->bq->Prop} {St:Nat->Shared->Prop}
theorem UP:mK "min" ["key","default"] 0 ⟨[],[]⟩=pure [bc,bc]:=rfl
theorem UI(a:bq):argsOk "min" ⟨[a],[]⟩:=by unfold argsOk;kernel_rfl
theorem VB{s:Shared}
 (h:wpAny (model prog w) A.in1 (pyIter x) (λit s₂=>∃I fp wr G P St,it=.ref I/\WalksS prog w A.in1 I fp wr G (n::ns).length P St/\St 0 s₂/\(∀b∈fp,b<s₂.heap.objs.size)/\(∀i v,P i v->∃t,v=.int ((n::ns).getD i 0) t) /\
  ∀s' t,jhA wr G s₂ s'->Q (.int (mmF bj 0 (n::ns)) t) s') E s) :
 wpAny (model prog w) A (call (.builtin "min") [x] []) Q E s:=by
 refine QF F.kind_min F.plain_min F.entry_min (UI _) ?_;refine bo (m:=mK "min" ["key","default"] 0 ⟨[],[]⟩) (nv (UP) ?_);refine bo (bA (bo (dE h ?_ λ_ _ e=>e)));rintro it s₂ ⟨I,fp,wr,G,P,St,rfl,W,st,hf,hv,q⟩;refine bo (nk ?_)
 have fresh:s₂.heap.objs.size ∉ fp:=λz=>dX _ (hf _ z)
 have st':St 0 { s₂ with heap:=s₂.heap.push { cls:=.type "list",dict:=bc,data:=.seq #[] 0,slots:=#[] } }:=W.frame 0 s₂ _ s₂.toks st (bN _) λb _ o e=>bu _ e
 have hS:=bM s₂.heap (show ({ cls:=.type "list",dict:=bc,data:=.seq #[] 0,slots:=#[] }:mE).isFreed=bj from rfl);rw[vf];refine bA ⟨_,rfl,nE mL _,?_⟩;refine m7 wY ?_;rw[my mL _];refine bo (m:=sV (.ref s₂.heap.objs.size)) (gE hS rfl ?_);refine bo (m:=tryCatch (pyNext (.ref I)) _) (mS (W.item 0 _ _ _ (by simp) st' ?_));intro v s' pv b1 mv;obtain⟨t₁,rfl⟩:=hv 0 v pv
 have Sw:s₂.heap.objs.size ∉ wr:=λz=>fresh (W.sub _ z)
 have b2:=mv.heap _ _ Sw hS;refine bo (m:=jiL s₂.heap.objs.size (λ_=>#[.int n t₁,.int n t₁])) (m8 b2 rfl ?_);rw[vf];refine bA ⟨nE mL _,XJ W hv fresh _ ns.length 1 _ n t₁ _ (by simp;lia) (W.frame _ s' _ s'.toks b1 (bN _) ?_) (gj _ b2 rfl) ?_⟩
 ·intro b hb o eb;exact(b8 _ _ (λx=>fresh (by rw[x];exact hb))).trans eb
 ·intro s₃ t₃ m₃;exact q s₃ t₃ (jjs (tk:=s₂.toks) (tH W.gtrans (qY mv _) m₃) (bN _))
end
theorem Ub{X:Cx}(hc:X.calm=bh){s:Shared}{Q:VK}(I:Inv X pins τ H s)(hq:SqL X.K H a ((n::ns).map V.int))(q:Q (.int (mmF bj 0 (n::ns))) H) :
 wpAny (model X.prog X.w) X.A (call (.builtin "min") [.ref a] []) (EP X pins τ Q) X.xe s:=by
 obtain⟨its,rv,p,hz⟩:=I.list hq;have hl:=rv.length;rw[bW]at hl;obtain⟨o,n0,ho,_⟩:=id p;have hne:a≠s.heap.objs.size:=dB (bH ho);have W:=(jhb (prog:=X.prog) (w:=X.w) (A:=X.A.in1) (I.ok.hd hc) s.heap.objs.size a hne its.toArray).toS;rw[show its.toArray.size=(n::ns).length by simp[hl]]at W
 have fin:wpAny (model X.prog X.w) X.A.in1 (pyIter (.ref a)) (λit s₂=>∃I fp wr G P St,it=.ref I/\WalksS X.prog X.w X.A.in1 I fp wr G (n::ns).length P St/\St 0 s₂/\(∀b∈fp,b<s₂.heap.objs.size)/\(∀i v,P i v->∃t,v=.int ((n::ns).getD i 0) t) /\
  ∀s' t,jhA wr G s₂ s'->EP X pins τ Q (.int (mmF bj 0 (n::ns)) t) s') X.xe s:=by
  refine gP p.isList ⟨s.heap.objs.size,_,_,_,_,_,rfl,W,⟨⟨_,bM _ rfl,rfl,rfl⟩,p.isList.push _⟩,λb hb=>?_,λi v hv=>xA rv i v (by simpa using hv),λs' t' m=>?_⟩
  ·rw[mQ];simp only[bG,bV,or_false]at hb;rcases hb with z|z
   ·rw[z];exact g9 _
   ·rw[z];exact nY (bH ho)
  ·exact⟨.int (mmF bj 0 (n::ns)),H,Inv.moved' (tk:=s.toks) I m,⟨t',rfl⟩,q⟩
 exact VB fin
section
variable {prog:dg} {w:World} {A:gz} {E:bq->Shared->Prop} {I:Addr} {fp wr:List Addr} {G:Array m9->Array m9->Prop} {P:Nat->bq->Prop} {St:Nat->Shared->Prop}
theorem ZX:mK "max" ["key","default"] 0 ⟨[],[]⟩=pure [bc,bc]:=rfl
theorem UJ(a:bq):argsOk "max" ⟨[a],[]⟩:=by unfold argsOk;kernel_rfl
theorem jaN{s:Shared}
 (h:wpAny (model prog w) A.in1 (pyIter x) (λit s₂=>∃I fp wr G P St,it=.ref I/\WalksS prog w A.in1 I fp wr G (n::ns).length P St/\St 0 s₂/\(∀b∈fp,b<s₂.heap.objs.size)/\(∀i v,P i v->∃t,v=.int ((n::ns).getD i 0) t) /\
  ∀s' t,jhA wr G s₂ s'->Q (.int (mmF bh 0 (n::ns)) t) s') E s) :
 wpAny (model prog w) A (call (.builtin "max") [x] []) Q E s:=by
 refine QF F.kind_max F.plain_max F.entry_max (UJ _) ?_;refine bo (m:=mK "max" ["key","default"] 0 ⟨[],[]⟩) (nv (ZX) ?_);refine bo (bA (bo (dE h ?_ λ_ _ e=>e)));rintro it s₂ ⟨I,fp,wr,G,P,St,rfl,W,st,hf,hv,q⟩;refine bo (nk ?_)
 have fresh:s₂.heap.objs.size ∉ fp:=λz=>dX _ (hf _ z)
 have st':St 0 { s₂ with heap:=s₂.heap.push { cls:=.type "list",dict:=bc,data:=.seq #[] 0,slots:=#[] } }:=W.frame 0 s₂ _ s₂.toks st (bN _) λb _ o e=>bu _ e
 have hS:=bM s₂.heap (show ({ cls:=.type "list",dict:=bc,data:=.seq #[] 0,slots:=#[] }:mE).isFreed=bj from rfl);rw[vb];refine bA ⟨_,rfl,nE mM _,?_⟩;refine m7 wZ ?_;rw[my mM _];refine bo (m:=sV (.ref s₂.heap.objs.size)) (gE hS rfl ?_);refine bo (m:=tryCatch (pyNext (.ref I)) _) (mS (W.item 0 _ _ _ (by simp) st' ?_));intro v s' pv b1 mv;obtain⟨t₁,rfl⟩:=hv 0 v pv
 have Sw:s₂.heap.objs.size ∉ wr:=λz=>fresh (W.sub _ z)
 have b2:=mv.heap _ _ Sw hS;refine bo (m:=jiL s₂.heap.objs.size (λ_=>#[.int n t₁,.int n t₁])) (m8 b2 rfl ?_);rw[vb];refine bA ⟨nE mM _,XX W hv fresh _ ns.length 1 _ n t₁ _ (by simp;lia) (W.frame _ s' _ s'.toks b1 (bN _) ?_) (gj _ b2 rfl) ?_⟩
 ·intro b hb o eb;exact(b8 _ _ (λx=>fresh (by rw[x];exact hb))).trans eb
 ·intro s₃ t₃ m₃;exact q s₃ t₃ (jjs (tk:=s₂.toks) (tH W.gtrans (qY mv _) m₃) (bN _))
end
variable{Q:Option bq->Shared->Prop}
theorem ZS{X:Cx}(hc:X.calm=bh){s:Shared}{Q:VK}(I:Inv X pins τ H s)(hq:SqL X.K H a ((n::ns).map V.int))(q:Q (.int (mmF bh 0 (n::ns))) H) :
 wpAny (model X.prog X.w) X.A (call (.builtin "max") [.ref a] []) (EP X pins τ Q) X.xe s:=by
 obtain⟨its,rv,p,hz⟩:=I.list hq;have hl:=rv.length;rw[bW]at hl;obtain⟨o,n0,ho,_⟩:=id p;have hne:a≠s.heap.objs.size:=dB (bH ho);have W:=(jhb (prog:=X.prog) (w:=X.w) (A:=X.A.in1) (I.ok.hd hc) s.heap.objs.size a hne its.toArray).toS;rw[show its.toArray.size=(n::ns).length by simp[hl]]at W
 have fin:wpAny (model X.prog X.w) X.A.in1 (pyIter (.ref a)) (λit s₂=>∃I fp wr G P St,it=.ref I/\WalksS X.prog X.w X.A.in1 I fp wr G (n::ns).length P St/\St 0 s₂/\(∀b∈fp,b<s₂.heap.objs.size)/\(∀i v,P i v->∃t,v=.int ((n::ns).getD i 0) t) /\
  ∀s' t,jhA wr G s₂ s'->EP X pins τ Q (.int (mmF bh 0 (n::ns)) t) s') X.xe s:=by
  refine gP p.isList ⟨s.heap.objs.size,_,_,_,_,_,rfl,W,⟨⟨_,bM _ rfl,rfl,rfl⟩,p.isList.push _⟩,λb hb=>?_,λi v hv=>xA rv i v (by simpa using hv),λs' t' m=>?_⟩
  ·rw[mQ];simp only[bG,bV,or_false]at hb;rcases hb with z|z
   ·rw[z];exact g9 _
   ·rw[z];exact nY (bH ho)
  ·exact⟨.int (mmF bh 0 (n::ns)),H,Inv.moved' (tk:=s.toks) I m,⟨t',rfl⟩,q⟩
 exact jaN fin
abbrev zob(TI TO:Addr)(f0:bq)(f1:Bool):mE:={ cls:=.type "zip",dict:=bc,data:=.fields #[f0,.bool f1,.bool bj,.ref TI,.ref TO],slots:=#[] }
abbrev xU(a b:bq):mE:={ cls:=.type "tuple",data:=.seq #[a,b] }
def ZF(f0:bq):Prop:=f0=.none\/∃T:Nat,f0=rawInt T
variable{xs ys:Array bq}
section
variable {prog:dg} {w:World} {A:gz} {E:bq->Shared->Prop} {s:Shared} {z TI TO i1 i2 l1 l2:Addr}
theorem vt{Q:Option mE->Shared->Prop}(h:Q (s.heap.get? a) s):wpAny (model prog w) A (jhC a) Q E s:=λΓ p _=>by
 unfold jhC;rw[Sem.wp_loadIfAlive];exact h
theorem jdk{f0:bq}{f1:Bool}{Q:Bool->Shared->Prop}(hz:s.heap.get? z=ba (zob TI TO f0 f1))(hf:ZF f0)(q:∀b h₁ g1,h₁.get? z=ba (zob TI TO f0 g1)->mq z s.heap h₁->Q b { s with heap:=h₁ }) :
 wpAny (model prog w) A (dO (.ref z)) Q E s:=by
 unfold dO;rcases hf with rfl|⟨T,rfl⟩
 ·exact bo (dJ hz rfl (x:=.none) rfl (bA (q bh s.heap f1 hz (mB ..))))
 ·refine bo (dJ hz rfl (x:=rawInt T) rfl ?_);refine bo (m:=jhC (T:Int).toNat) (vt ?_)
  cases hT:s.heap.get? (T:Int).toNat with
  |none=>exact bA (q bh s.heap f1 hz (mB ..))
  |some o =>
   refine bo (m:=field (.ref z) 1) (dJ hz rfl (x:=.bool f1) rfl ?_)
   cases f1 with
   |true=>exact bA (q bj s.heap bh hz (mB ..))
   |false=>exact bo (m:=pJ (.ref z) 1 (.bool bh)) (dZ hz (by simp) λh₁ k1 k2=>bA (q bj h₁ bh k1 k2))
structure ZSt (z TI TO i1 i2 l1 l2:Addr) (k:Nat) (h:dR):Prop where
 zip:∃f0 f1,ZF f0/\h.get? z=ba (zob TI TO f0 f1)
 its:h.get? TI=ba (xU (.ref i1) (.ref i2))
 old:∃a b,h.get? TO=ba (xU a b)
 one:h.IsListIter i1 l1 k
 two:h.IsListIter i2 l2 k
theorem jfe{y:bq}(D:ZipApart z TI TO i1 i2 l1 l2)(st:ZSt z TI TO i1 i2 l1 l2 k s.heap)(hl1:s.heap.IsList l1 xs)(hl2:s.heap.IsList l2 ys)(hx:xs[k]?=ba x)(hy:ys[k]?=ba y)
 (q:∀T h₂,ZSt z TI TO i1 i2 l1 l2 (k+1) h₂->s.heap.objs.size<=T->h₂.get? T=ba (xU x y)->(∀b o,b ∉ [z,TO,i1,i2]->s.heap.get? b=ba o->h₂.get? b=ba o)->Q (ba (.ref T)) { s with heap:=h₂ }) :
 wpAny (model prog w) A (pyNext (.ref z)) Q E s:=by
 obtain⟨⟨f0,f1,hf,hz⟩,hTI,⟨a,b,hTO⟩,h1,h2⟩:=st
 have ty:s.TypeIs (.ref z) "zip":=⟨_,hz,rfl⟩
 unfold pyNext;refine bo (pK (mC (name:=nK "__next__") ty pQ (mn pQ ty jiM ?_ (jiw _))));refine bo (m:=field (.ref z) 2) (dJ hz rfl (x:=.bool bj) rfl (bo (m:=field (.ref z) 3) (dJ hz rfl (x:=.ref TI) rfl (bo (gE hTI rfl ?_)))));refine bo (m:=dO (.ref z)) (jdk hz hf λfr h₁ g1 hz₁ s1=>?_)
 have lt:∀ {h:dR} {c:Addr} {o:mE},h.get? c=ba o->c<h.objs.size:=λe=>bH e
 have TI1:h₁.get? TI=ba (xU (.ref i1) (.ref i2)):=s1.extBut _ _ D.TIz hTI;have TO1:h₁.get? TO=ba (xU a b):=s1.extBut _ _ D.TOz hTO;have a1:=h1.extBut s1.extBut D.i1z;have a2:=h2.extBut s1.extBut D.i2z;have c1:=hl1.extBut s1.extBut D.l1z;have c2:=hl2.extBut s1.extBut D.l2z
 cases fr with
 |false =>
  simp only[du,if_false];refine bo ?_;simp only[<- jib,nP,n9];refine bo (bo (dN (bo (m:=dP (.ref i1)) (gM a1 c1 hx λh₂ b1 s2=>bA (bA ?_)))));have a2':=a2.extBut s2.extBut D.i12.symm;have c2':=c2.extBut s2.extBut D.l2i1;refine bo (bo (dN (bo (m:=dP (.ref i2)) (gM a2' c2' hy λh₃ b2 s3=>bA (bA (bA ?_))))));refine bo (m:=newTuple [x,y]) (wg (bA ⟨_,rfl,bA ?_⟩))
  have up:∀b o,b ∉ [z,TO,i1,i2]->s.heap.get? b=ba o->h₃.get? b=ba o:=λb o hb e=>by
   simp only[bG,bV,or_false,not_or]at hb;exact s3.extBut _ _ hb.2.2.2 (s2.extBut _ _ hb.2.2.1 (s1.extBut _ _ hb.1 e))
  have szs:h₃.objs.size=s.heap.objs.size:=by rw[s3.1,s2.1,s1.1]
  refine q h₃.objs.size _ ⟨⟨f0,g1,hf,bu _ (s3.extBut _ _ D.i2z.symm (s2.extBut _ _ D.i1z.symm hz₁))⟩,bu _ (s3.extBut _ _ D.TIi2 (s2.extBut _ _ D.TIi1 TI1)),⟨a,b,bu _ (s3.extBut _ _ D.TOi2 (s2.extBut _ _ D.TOi1 TO1))⟩,?_,?_⟩ (by rw[szs];exact bN _) (bM _ rfl) λb o hb e=>bu _ (up b o hb e)
  ·exact(b1.extBut s3.extBut D.i12).at λo e=>bu _ e
  ·exact b2.at λo e=>bu _ e
 |true =>
  simp only[if_true];refine bo (jic (bo (m:=field (.ref z) 4) (dJ hz₁ rfl (x:=.ref TO) rfl ?_)));refine bo (m:=pJ (.ref z) 0 .ellipsis) (dZ hz₁ (by simp) λh₂ hz₂ s2=>bo ?_);simp only[jiN,ji7,nP,n9];have TO2:h₂.get? TO=ba (xU a b):=s2.extBut _ _ D.TOz TO1;have a1':=a1.extBut s2.extBut D.i1z;have c1':=c1.extBut s2.extBut D.l1z;refine bo (bo (tw (bo (m:=dP (.ref i1)) (gM a1' c1' hx λh₃ b1 s3=>bA ?_))));have TO3:h₃.get? TO=ba (xU a b):=s3.extBut _ _ D.TOi1 TO2;refine bo (gE TO3 rfl (bo (tI TO3 λh₄ TO4 s4=>bo (mz (bA ?_)))));have a2':=((a2.extBut s2.extBut D.i2z).extBut s3.extBut D.i12.symm).extBut s4.extBut D.TOi2.symm;have c2':=((c2.extBut s2.extBut D.l2z).extBut s3.extBut D.l2i1).extBut s4.extBut D.l2TO;refine bo (bo (tw (bo (m:=dP (.ref i2)) (gM a2' c2' hy λh₅ b2 s5=>bA ?_))));have TO5:h₅.get? TO=ba (xU x b):=s5.extBut _ _ D.TOi2 TO4;refine bo (gE TO5 rfl (bo (tI TO5 λh₆ TO6 s6=>bo (mz (bA (bA ?_))))));have TO6':h₆.get? TO=ba (xU x y):=TO6;refine bo (gE TO6' rfl (bo (wg ?_)));have hz6:h₆.get? z=ba (zob TI TO .ellipsis g1):=s6.extBut _ _ D.TOz.symm (s5.extBut _ _ D.i2z.symm (s4.extBut _ _ D.TOz.symm (s3.extBut _ _ D.i1z.symm hz₂)));have hz7:(h₆.push (xU x y)).get? z=ba (zob TI TO .ellipsis g1):=bu _ hz6
  have up:∀b o,b ∉ [z,TO,i1,i2]->s.heap.get? b=ba o->h₆.get? b=ba o:=λb o hb e=>by
   simp only[bG,bV,or_false,not_or]at hb;exact s6.extBut _ _ hb.2.1 (s5.extBut _ _ hb.2.2.2 (s4.extBut _ _ hb.2.1 (s3.extBut _ _ hb.2.2.1 (s2.extBut _ _ hb.1 (s1.extBut _ _ hb.1 e)))))
  have szs:h₆.objs.size=s.heap.objs.size:=by rw[s6.1,s5.1,s4.1,s3.1,s2.1,s1.1]
  refine bo (m:=gO (.ref z) (.ref h₆.objs.size)) ?_;unfold gO;refine bo (m:=pJ (.ref z) 0 (rawInt h₆.objs.size)) (dZ hz7 (by simp) λh₈ hz8 s8=>dZ hz8 (by simp) λh₉ hz9 s9=>bA ⟨_,rfl,bA ?_⟩);have zlt:z<h₆.objs.size:=bH hz6
  have up2:∀b o,b≠z->(h₆.push (xU x y)).get? b=ba o->h₉.get? b=ba o:=λb o hb e=>s9.extBut _ _ hb (s8.extBut _ _ hb e)
  have b1':=((b1.extBut s4.extBut D.TOi1.symm).extBut s5.extBut D.i12).extBut s6.extBut D.TOi1.symm;have b2':=b2.extBut s6.extBut D.TOi2.symm
  refine q h₆.objs.size h₉ ⟨⟨rawInt h₆.objs.size,bj,.inr ⟨_,rfl⟩,hz9⟩,?_,⟨x,y,up2 _ _ D.TOz (bu _ TO6')⟩,b1'.at λo e=>up2 _ o D.i1z (bu _ e),b2'.at λo e=>up2 _ o D.i2z (bu _ e)⟩ (by rw[szs];exact bN _) (up2 _ _ (nh zlt) (bM _ rfl)) λb o hb e=>?_
  ·exact up2 _ _ D.TIz (bu _ (s6.extBut _ _ D.TITO (s5.extBut _ _ D.TIi2 (s4.extBut _ _ D.TITO (s3.extBut _ _ D.TIi1 (s2.extBut _ _ D.TIz TI1))))))
  ·have hb':b≠z:=λe=>hb (by rw[e];exact bJ)
   exact up2 _ _ hb' (bu _ (up b o hb e))
theorem jgq(hh:A.handled=bc)(D:ZipApart z TI TO i1 i2 l1 l2)(st:ZSt z TI TO i1 i2 l1 l2 k s.heap)(hl1:s.heap.IsList l1 xs)(hl2:s.heap.IsList l2 ys)(hend:xs[k]?=bc\/ys[k]?=bc)
 (q:∀h₂,(∀b o,b ∉ [z,TO,i1,i2]->s.heap.get? b=ba o->h₂.get? b=ba o)->Q bc { s with heap:=h₂ }) :
 wpAny (model prog w) A (pyNext (.ref z)) Q E s:=by
 obtain⟨⟨f0,f1,hf,hz⟩,hTI,⟨a,b,hTO⟩,h1,h2⟩:=st
 have ty:s.TypeIs (.ref z) "zip":=⟨_,hz,rfl⟩
 have hh1:A.in1.handled=none:=hh;unfold pyNext;refine bo (pK (mC (name:=nK "__next__") ty pQ (mn pQ ty jiM ?_ (jiw _))));refine bo (m:=field (.ref z) 2) (dJ hz rfl (x:=.bool bj) rfl (bo (m:=field (.ref z) 3) (dJ hz rfl (x:=.ref TI) rfl (bo (gE hTI rfl ?_)))));refine bo (m:=dO (.ref z)) (jdk hz hf λfr h₁ g1 hz₁ s1=>?_);have TO1:h₁.get? TO=ba (xU a b):=s1.extBut _ _ D.TOz hTO;have a1:=h1.extBut s1.extBut D.i1z;have a2:=h2.extBut s1.extBut D.i2z;have c1:=hl1.extBut s1.extBut D.l1z;have c2:=hl2.extBut s1.extBut D.l2z
 have fin:∀(h₂:dR) (e:Addr),(∀b o,b ∉ [z,TO,i1,i2]->s.heap.get? b=ba o->h₂.get? b=ba o)->(∃o,h₂.get? e=ba o/\o.cls=.type "StopIteration") ->
  wpAny (model prog w) A (do if (<- jhc (.ref e) (.type "StopIteration"))=bh then pure bc else throw (.ref e)) Q E { s with heap:=h₂ }:=λh₂ e k ⟨o,ho,hc⟩ =>
  bo (w5 (T:="StopIteration") (b:=bh) ⟨o,ho,hc⟩ isSubtype_stop (bA (q h₂ k)))
 cases fr with
 |false =>
  simp only[du,if_false];refine bo ?_;simp only[<- jib,nP,n9]
  cases hx:xs[k]? with
  |none =>
   refine bo (bo (dN (bo (m:=dP (.ref i1)) (mV hh1 a1 c1 hx λh₂ e s2 he=>fin h₂ e (λb o hb e=>?_) he))));simp only[bG,bV,or_false,not_or]at hb
   exact s2 _ _ hb.2.2.1 (s1.extBut _ _ hb.1 e)
  |some x =>
   have hy:ys[k]?=none:=by
    rcases hend with h|h
    ·rw[hx]at h;cases h
    ·exact h
   refine bo (bo (dN (bo (m:=dP (.ref i1)) (gM a1 c1 hx λh₂ b1 s2=>bA (bA ?_)))));have a2':=a2.extBut s2.extBut D.i12.symm;have c2':=c2.extBut s2.extBut D.l2i1;refine bo (bo (dN (bo (m:=dP (.ref i2)) (mV hh1 a2' c2' hy λh₃ e s3 he=>fin h₃ e (λb o hb e=>?_) he))));simp only[bG,bV,or_false,not_or]at hb
   exact s3 _ _ hb.2.2.2 (s2.extBut _ _ hb.2.2.1 (s1.extBut _ _ hb.1 e))
 |true =>
  simp only[if_true];refine bo (jic (bo (m:=field (.ref z) 4) (dJ hz₁ rfl (x:=.ref TO) rfl ?_)));refine bo (m:=pJ (.ref z) 0 .ellipsis) (dZ hz₁ (by simp) λh₂ hz₂ s2=>bo ?_);simp only[jiN,ji7,nP,n9];have TO2:h₂.get? TO=ba (xU a b):=s2.extBut _ _ D.TOz TO1;have a1':=a1.extBut s2.extBut D.i1z;have c1':=c1.extBut s2.extBut D.l1z
  cases hx:xs[k]? with
  |none =>
   refine bo (bo (tw (bo (m:=dP (.ref i1)) (mV hh1 a1' c1' hx λh₃ e s3 he=>?_))));obtain⟨oe,hoe,hce⟩:=he;have hz3:h₃.get? z=ba (zob TI TO .ellipsis g1):=s3 _ _ D.i1z.symm hz₂
   have hez:e≠z:=λx=>by subst x;rw[hz3]at hoe;cases hoe;simp at hce
   refine dZ hz3 (by simp) λh₄ _ s4=>fin h₄ e (λb o hb e=>?_) ⟨oe,s4.extBut _ _ hez hoe,hce⟩
   simp only[bG,bV,or_false,not_or]at hb
   exact s4.extBut _ _ hb.1 (s3 _ _ hb.2.2.1 (s2.extBut _ _ hb.1 (s1.extBut _ _ hb.1 e)))
  |some x =>
   have hy:ys[k]?=none:=by
    rcases hend with h|h
    ·rw[hx]at h;cases h
    ·exact h
   refine bo (bo (tw (bo (m:=dP (.ref i1)) (gM a1' c1' hx λh₃ b1 s3=>bA ?_))));have TO3:h₃.get? TO=ba (xU a b):=s3.extBut _ _ D.TOi1 TO2;refine bo (gE TO3 rfl (bo (tI TO3 λh₄ TO4 s4=>bo (mz (bA ?_)))));have a2':=((a2.extBut s2.extBut D.i2z).extBut s3.extBut D.i12.symm).extBut s4.extBut D.TOi2.symm;have c2':=((c2.extBut s2.extBut D.l2z).extBut s3.extBut D.l2i1).extBut s4.extBut D.l2TO;refine bo (bo (tw (bo (m:=dP (.ref i2)) (mV hh1 a2' c2' hy λh₅ e s5 he=>?_))));obtain⟨oe,hoe,hce⟩:=he;have hz5:h₅.get? z=ba (zob TI TO .ellipsis g1):=s5 _ _ D.i2z.symm (s4.extBut _ _ D.TOz.symm (s3.extBut _ _ D.i1z.symm hz₂))
   have hez:e≠z:=λx=>by subst x;rw[hz5]at hoe;cases hoe;simp at hce
   refine dZ hz5 (by simp) λh₆ _ s6=>fin h₆ e (λb o hb e=>?_) ⟨oe,s6.extBut _ _ hez hoe,hce⟩
   simp only[bG,bV,or_false,not_or]at hb;exact s6.extBut _ _ hb.1 (s5 _ _ hb.2.2.2 (s4.extBut _ _ hb.2.1 (s3.extBut _ _ hb.2.2.1 (s2.extBut _ _ hb.1 (s1.extBut _ _ hb.1 e)))))
end
variable{ch:List Addr}{h₂:dR}
theorem Inv.turnedL{X:Cx}{s:Shared}{T:Addr}{xs:List V}{us:List bq}(I:Inv X pins σ H s)(hf:∀b∈ch,yh X pins H b)(k:∀b o,b ∉ ch->s.heap.get? b=ba o->h₂.get? b=ba o)
 (hT:s.heap.objs.size<=T) (ht:h₂.get? T=ba { cls:=.type "tuple",data:=.seq us.toArray }) (r:jv xs us) (hz:xs.length<=sizeLine):Inv X pins σ (upd H T (.tup xs)) { s with heap:=h₂ }:=by
 have fT:H T=none:=I.hok.fresh hT
 have ntr:∀b u,H b=ba u->b ∉ ch:=λb u e z=>by rw[(hf b z).1]at e;cases e
 have nT:∀b u,H b=ba u->b≠T:=λb u e z=>by rw[z,fT]at e;cases e
 refine I.call' (s':={ s with heap:=h₂ }) (ch:=ch) rfl ⟨λb o e n _ hb=>k b o hb e,λb o e n _ hb=>⟨o.slots,k b o hb e⟩,λb o e n hb=>?_,λb o e hb=>⟨o,k b o hb e⟩,λb ys e=>?_,λb o u e=>?_,λb ps e=>⟨#[],?_⟩⟩ ?_ I.bare λb hb=>?_
 ·rw[je λq=>absurd (bH e) (by rw[q];exact sU.mpr hT)];exact n
 ·rw[je (nT b _ e)];exact e
 ·rw[je (nT b _ e)];exact e
 ·rw[je (nT b _ e),e];simp
 ·intro b u e;by_cases hb:b=T
  ·subst hb;rw[jh]at e;cases e;exact⟨hz,us,r,⟨_,ht,rfl,_,rfl⟩⟩
  ·rw[je hb]at e
   refine(I.hok b u e).stay (λc v hc q=>k c v ?_ q) (λc q=>by rw[je (nT c _ q)];exact q) λc ys q=>by rw[je (nT c _ q)];exact q
   rcases hc with z|z
   ·rw[z];exact ntr b u e
   ·exact ntr c _ z
 ·obtain⟨_,f1,_,f3,f4,f5⟩:=hf b hb;exact⟨f3,f1,f4,f5⟩
theorem Inv.turnedN{X:Cx}{s:Shared}(I:Inv X pins σ H s)(hf:∀b∈ch,yh X pins H b)(k:∀b o,b ∉ ch->s.heap.get? b=ba o->h₂.get? b=ba o):Inv X pins σ H { s with heap:=h₂ }:=by
 have ntr:∀b u,H b=ba u->b ∉ ch:=λb u e z=>by rw[(hf b z).1]at e;cases e
 refine I.call' (s':={ s with heap:=h₂ }) (ch:=ch) rfl ⟨λb o e n _ hb=>k b o hb e,λb o e n _ hb=>⟨o.slots,k b o hb e⟩,λb o e n hb=>n,λb o e hb=>⟨o,k b o hb e⟩,λb ys e=>e,λb o u e=>e,λb ps e=>⟨#[],by rw[e];simp⟩⟩ ?_ I.bare λb hb=>?_
 ·intro b u e
  refine(I.hok b u e).stay (λc v hc q=>k c v ?_ q) (λc q=>q) λc ys q=>q
  rcases hc with z|z
  ·rw[z];exact ntr b u e
  ·exact ntr c _ z
 ·obtain⟨_,f1,_,f3,f4,f5⟩:=hf b hb;exact⟨f3,f1,f4,f5⟩
def Itz(K:bx)(l1 l2:Addr):It:=⟨λi H=>∃xs ys x y,SqL K H l1 xs/\SqL K H l2 ys/\xs[i]?=ba x/\ys[i]?=ba y,
 λi H v H'=>∃T x y,v=.ref T/\H T=bc/\(∀xs,SqL K H l1 xs->xs[i]?=ba x)/\(∀ys,SqL K H l2 ys->ys[i]?=ba y)/\H'=upd H T (.tup [x,y]),λi H=>∃xs ys,SqL K H l1 xs/\SqL K H l2 ys/\(xs.length<=i\/ys.length<=i)⟩
variable{x:bF}{p:Pos}
theorem ZE{s:Shared}{u:bq}{Q:Unit->Shared->Prop}(h:Q () s):wpAny M A (mZ (.Name x p) it u) Q E s:=by
 unfold mZ;exact bA h
theorem Vs{P:dg}{w:World}{z TI TO i1 i2 l1 l2:Addr}(D:ZipApart z TI TO i1 i2 l1 l2):Turn P w K (.Name x px) (Itz K l1 l2) [z,TI,TO,i1,i2] z (λi h=>ZSt z TI TO i1 i2 l1 l2 i h) where
 mem:=by simp
 obj:=λi h st b hb=>by
  obtain⟨⟨f0,f1,hf,hz⟩,hTI,⟨a,b',hTO⟩,⟨o1,e1,_,d1⟩,⟨o2,e2,_,d2⟩⟩:=st;simp only[bG,bV,or_false]at hb;rcases hb with rfl|rfl|rfl|rfl|rfl
  ·exact⟨_,hz,λv q=>by cases q⟩
  ·exact⟨_,hTI,λv q=>by cases q⟩
  ·exact⟨_,hTO,λv q=>by cases q⟩
  ·exact⟨_,e1,λv q=>by rw[d1]at q;cases q⟩
  ·exact⟨_,e2,λv q=>by rw[d2]at q;cases q⟩
 keep:=λi h h' st k=>by
  obtain⟨⟨f0,f1,hf,hz⟩,hTI,⟨a,b',hTO⟩,o1,o2⟩:=st;exact⟨⟨f0,f1,hf,k z (by simp) _ hz⟩,k TI (by simp) _ hTI,⟨a,b',k TO (by simp) _ hTO⟩,o1.at λo e=>k i1 (by simp) o e,o2.at λo e=>k i2 (by simp) o e⟩
 item:=by
  intro X hP hw hK hc i pins s σ H E I hf st hg;subst hP hw hK;obtain⟨xs,ys,xv,yv,q1,q2,e1,e2⟩:=hg;obtain⟨its1,r1,p1,_⟩:=I.list q1;obtain⟨its2,r2,p2,_⟩:=I.list q2;obtain⟨u1,hu1,ru1⟩:=r1.get e1;obtain⟨u2,hu2,ru2⟩:=r2.get e2
  refine jfe D st p1.isList p2.isList (x:=u1) (y:=u2) (by simpa using hu1) (by simpa using hu2) λT h₂ st₂ hT ht k=>⟨.ref T,rfl,ZE ?_⟩
  have fT:H T=none:=I.hok.fresh hT;have I2:Inv X pins σ (upd H T (.tup [xv,yv])) { s with heap:=h₂ }:=Inv.turnedL (ch:=[z,TO,i1,i2]) (us:=[u1,u2]) I (λb hb=>hf b (by simp only[bG,bV,or_false]at hb ⊢;rcases hb with q|q|q|q<;>simp[q])) k hT ht (.cons ru1 (.cons ru2 .nil)) (by show 2<=sizeLine;decide);refine⟨.ref T,upd H T (.tup [xv,yv]),I2,rfl,⟨T,xv,yv,rfl,fT,λzs hz=>by rw[I.list_inj hz q1];exact e1,λzs hz=>by rw[I.list_inj hz q2];exact e2,rfl⟩,st₂,λb hb=>?_⟩
  obtain⟨o,eo,_⟩:∃o,s.heap.get? b=ba o/\True:=by
   obtain⟨⟨f0,f1,hf',hz⟩,hTI,⟨a,b',hTO⟩,⟨o1,w1,_,_⟩,⟨o2,w2,_,_⟩⟩:=st;simp only[bG,bV,or_false]at hb;rcases hb with rfl|rfl|rfl|rfl|rfl
   ·exact⟨_,hz,trivial⟩
   ·exact⟨_,hTI,trivial⟩
   ·exact⟨_,hTO,trivial⟩
   ·exact⟨_,w1,trivial⟩
   ·exact⟨_,w2,trivial⟩
  rw[je λq=>absurd (bH eo) (by rw[q];exact sU.mpr hT)];exact(hf b hb).1
 done:=by
  intro X hP hw hK hc i pins s σ H E I hf st hg;subst hP hw hK;obtain⟨xs,ys,q1,q2,hl⟩:=hg;obtain⟨its1,r1,p1,_⟩:=I.list q1;obtain⟨its2,r2,p2,_⟩:=I.list q2;have n1:=r1.length;have n2:=r2.length
  refine jgq (I.ok.hd hc) D st p1.isList p2.isList (hl.elim (λh=>.inl (by simp;lia)) λh=>.inr (by simp;lia)) λh₂ k=>⟨rfl,?_⟩
  exact Inv.turnedN (ch:=[z,TO,i1,i2]) I (λb hb=>hf b (by simp only[bG,bV,or_false]at hb ⊢;rcases hb with q|q|q|q<;>simp[q])) k
 self:=λA i s Q E st h=>by
  obtain⟨⟨f0,f1,hf,hz⟩,_⟩:=st
  have ty:s.TypeIs (.ref z) "zip":=⟨_,hz,rfl⟩
  refine jix ty ji8 (mn ji8 ty F.entry_zip_iter ?_ (F.args_zip_iter_1 _));exact bA (M:=model P w) ⟨_,rfl,"zip",_,ty,pQ.lookup,h⟩
def jgU(K:bx)(ta:TA):TI:=λσ H R=>ta σ H λvs H1=>∃l1 l2,vs=[.ref l1,.ref l2]/\(∃xs,SqL K H1 l1 xs)/\(∃ys,SqL K H1 l2 ys)/\R (Itz K l1 l2) H1
theorem VV{X:Cx}{a:bU}{as:List bU}{ta:TA}(hg:Gl X "zip")(hm:X.mg "zip"=bc)(ha:PA X (a::as) ta)(hs:bY (a::as) X.env=(bj,eval a X.env)::bY as X.env)(hpl:(backTo pos (bY as X.env)).any (·.1)=bj) :
 PI X (.Name x px) (.Call (.Name "zip" p) (a::as) [] pos) (jgU X.K ta):=by
 intro pins s σ H R I h;refine Call_ (uC I hg hm boot_zip (mJ (thn (ha pos pins s σ H _ I h) λus s1 ⟨vs,H1,I1,r1,q1⟩=>?_) hs hpl));obtain⟨l1,l2,rfl,⟨xs,hx⟩,⟨ys,hy⟩,q⟩:=q1;obtain⟨u1,u2,rfl,e1,e2⟩:=JO r1;cases e1;cases e2;obtain⟨its1,r1,p1,_⟩:=I1.list hx;obtain⟨its2,r2,p2,_⟩:=I1.list hy
 have a1:l1<s1.heap.objs.size:=by obtain⟨_,e,_⟩:=p1.isList;exact bH e
 have a2:l2<s1.heap.objs.size:=by obtain⟨_,e,_⟩:=p2.isList;exact bH e
 refine call_zip_2 p1.isList p2.isList λh₂ hz hTI hTO hi1 hi2 _ hk=>?_
 have D:=zipApart_new a1 a2;refine wpAny_pyIter_zip (s:={ s1 with heap:=h₂ }) hz ⟨_,_,_,_,H1,rfl,I1.kept (t':=s1.toks) hk,Vs D,⟨⟨.none,bj,.inl rfl,hz⟩,hTI,⟨_,_,hTO⟩,hi1,hi2⟩,λb hb=>?_,q⟩
 have hb':s1.heap.objs.size<=b:=by
  simp only[bG,bV,or_false]at hb
  rcases hb with rfl|rfl|rfl|rfl|rfl<;>lia
 exact I1.fpOk hb' (I1.hok.fresh hb')
end Z
namespace Z
open PySem PySem.Spec PySem.Calls PyProof.Rows PySem.W L2
variable{mN:bF->Option bq}{fI:Addr}{oI:mE}{Q:Unit->Shared->Prop}
section
variable {prog:dg} {w:World} {A:gz} {E:bq->Shared->Prop} {h:dR} {g:Array m9} {d:Drawn} {t:Nat} {os:jiy}
variable {nm q:bF} {C N:Addr} {bs bm bmB:List bq} {hdct:Bool} {sn:List bF} {sub:List bq} {ab:Bool} {col:Option Bool} {dd:Option Addr} {k0 k1 k2 k3 k5:Option bq} {B Bn newId nid initId inN:String} {bmN:List bq}
theorem Ys(Fn:tW Bn newId inN bmN)(hBn:bmB.contains (.type Bn)=bh)(F:tW B nid initId bmB)(T:jiz h bmB bm){rest:List bq}{Q:jiO->Shared->Prop}
 (hC:h.get? C=ba (gF nm q C N bs bm hdct sn sub ab col dd k0 k1 k2 k3 k5 newId)) (hn:h.Ns N mN) (hi:mN "__init__"=ba (.ref fI)) (hfI:h.get? fI=ba oI) (hfc:oI.cls=.type "function")
 (hq:∀h' e,pd h h' e (.ref C) rest->wpAny (model prog w) A (call (.ref fI) (.ref e::rest)) (λr s'=>r=.none/\Q (.done (.ret (.ref e))) s') E ⟨h',g,d,t,os⟩) (hrest:rest.length<=sizeLine) :
 wpAny (model prog w) A (pA.«type.__call__» ⟨.ref C::rest,[]⟩) Q E ⟨h,g,d,t,os⟩:=by
 repeat (first|(with_reducible refine gh hC ?_)|(with_reducible refine wpAny_madeBy_exc hC ?_)|wp_step)
 refine codeAny_call_builtin_code (jid _ Fn.quiet) (wpAny_check_new_subU Fn hBn T hC (codeAny_exc_new_subU Fn hBn F T hC ?_ hrest));show wpAny _ _ _ _ _ _;generalize hh2:(h.push { cls:=.type "tuple",data:=.seq rest.toArray }).push { cls:=.ref C,data:=.fields #[.ref h.objs.size,.none,.none,.none,.bool bj,.none] }=h2
 have kp:∀b o,h.get? b=ba o->h2.get? b=ba o:=λb o e=>by rw[<- hh2];exact bu _ (bu _ e)
 have he:h2.get? (h.objs.size+1)=ba { cls:=.ref C,data:=.fields #[.ref h.objs.size,.none,.none,.none,.bool bj,.none] }:=by rw[<- hh2];heap_get
 have ht:h2.get? h.objs.size=ba { cls:=.type "tuple",data:=.seq rest.toArray }:=by rw[<- hh2];exact bu _ (wG rfl rfl)
 have hcC:(dG C::bm).contains (.ref C)=true:=by simp
 have hC2:=kp _ _ hC;have hn2:h2.Ns N mN:=hn.keeps kp;unfold jhc
 repeat (first|(with_reducible refine gh he ?_)|(with_reducible refine pE hC2 ?_;rw[hcC])|wp_step)
 show wpAny _ _ (mf (.ref C) _) _ _ _;refine wpAny_typeLookup_tail hC2 hn2 (T.keeps kp) F.mroIs F.init.lookup ?_;rw[hi];refine dN (bo ?_);unfold bindSpecial;refine bo (wpAny_typeOf (T:="function") ⟨_,kp _ _ hfI,hfc⟩ ?_);rw[if_pos (by decide)]
 have made:pd h h2 (h.objs.size+1) (.ref C) rest:=⟨kp,n5 (tF _),h.objs.size,he,n5 (bN _),ht⟩
 refine bA (bo (dE (hq h2 _ made) (λr s' hr=>?_) λ_ _ x=>x));obtain⟨rfl,hQ⟩:=hr
 wp_walk
 exact hQ
theorem Xx(Fn:tW Bn newId inN bmN)(hBn:bmB.contains (.type Bn)=bh)(F:tW B nid initId bmB)(T:jiz h bmB bm){rest:List bq}{Q:bq->Shared->Prop}
 (hC:h.get? C=ba (gF nm q C N bs bm hdct sn sub ab col dd k0 k1 k2 k3 k5 newId)) (hn:h.Ns N mN) (hi:mN "__init__"=ba (.ref fI)) (hfI:h.get? fI=ba oI) (hfc:oI.cls=.type "function")
 (hq:∀h' e,pd h h' e (.ref C) rest->wpAny (model prog w) (A.under (.builtin "type.__call__" ⟨.ref C::rest,[]⟩)) (call (.ref fI) (.ref e::rest)) (λr s'=>r=.none/\Q (.ref e) s') E ⟨h',g,d,t,os⟩) (hrest:rest.length<=sizeLine) :
 wpAny (model prog w) A (call (.ref C) rest) Q E ⟨h,g,d,t,os⟩:=by
 have l1:=tc_lookup;have l2:=tc_bind (.ref C)
 have ty:(⟨h,g,d,t,os⟩:Shared).TypeIs (.ref C) "type":=⟨_,hC,rfl⟩
 refine pT (codeAny_of_tree (show wpAny _ _ (callAny (.ref C) _) _ _ _ from ?_))
 repeat (any_goals (first|assumption|(with_reducible refine gh hC ?_)|wp_step))
 exact⟨rfl,codeAny_call_builtin_at (jid _ (by decide +kernel)) entry_typeCall (wpAny_check_type_call_sub hC (Ys Fn hBn F T hC hn hi hfI hfc hq hrest))⟩
end
section
variable {M:Model} {A:gz} {E:bq->Shared->Prop} {env:tR}
variable {nm q:bF} {C N:Addr} {bs bm:List bq} {hdct:Bool} {sn:List bF} {sub:List bq} {ab:Bool} {col:Option Bool} {dd:Option Addr} {k0 k1 k2 k3 k5:Option bq} {newId:String}
theorem Yp{s:Shared}{x:Sem bq}{Q:Flow->Shared->Prop}(hb:bm.contains (.type "BaseException")=bh)(hh:A.handled=bc)
 (hx:wpAny M A x (λv s₁=>∃e t dct,v=.ref e/\s₁.heap.get? C=ba (gF nm q C N bs bm hdct sn sub ab col dd k0 k1 k2 k3 k5 newId)/\s₁.heap.get? e=ba { cls:=.ref C,dict:=dct,data:=.fields #[.ref t,.none,.none,.none,.bool bj,.none] }/\E (.ref e) s₁) E s) :
 wpAny M A (jjJ env (ba x) bc) Q E s:=by
 have hcB:(dG C::bm).contains (.type "BaseException")=true:=by rw[mU,hb,jhd]
 unfold jjJ;refine bo (dE hx (λv s₁ ⟨e,t,dct,ev,hC,he,hE⟩=>?_) λ_ _ x=>x);subst ev;obtain⟨hp,g,d,tk,os⟩:=s₁
 repeat (first|(with_reducible refine gh he ?_)|(with_reducible refine gh hC ?_)|(with_reducible refine pE hC ?_;rw[hcB])|wp_step)
 exact wpAny_raiseNew_none hh hE
end
variable{base:dR}{env:tR}{e:Addr}{oe:mE}{vs:Array bq}{a0 cls:bq}{dct:Option Addr}{cx:Option bq}
section
variable {M:Model} {A:gz} {E:bq->Shared->Prop} {s:Shared}
def qy(h:dR)(e:Addr)(dct:Option Addr)(c:Option bq):Prop:=∃o vs,h.get? e=ba o/\o.dict=dct/\o.data=.fields vs/\vs[2]?=c
theorem vE(o:mE)(f:Array bq->Array bq):(gW f o).dict=o.dict:=by
 unfold gW
 split<;>rfl
theorem ja9{outer:List tR}{L:Addr}{head:bq}{hadNext:Bool}
 (hfr:A.frames=ba (env::outer)) (hl:s.heap.FunFrames base (env::outer)) (hf:env.frame=ba L) (he:s.heap.get? e=ba oe) (hkb:base.StaysIn s.heap) (hen:base.get? e=bc) (hd:oe.data=.fields vs) (hsz:1<vs.size) (h0:vs[0]?=ba a0)
 (h:∀h',Heap.NotedW base (env::outer) e oe.cls a0 (rawInt L) s.heap h'->qy h' e oe.dict vs[2]?->Q () { s with heap:=h' }) :
 wpAny M A (do let a <- frameOf env;let pl <- entryPlaceOf L hadNext;let b <- jhR head a .none (rawInt L) .none pl;pJ (.ref e) 1 b) Q E s:=by
 have nf:e ∉ (env::outer).filterMap (·.frame):=λhm=>by
  obtain⟨_,o,ho,hnf⟩:=hl.mem hm;rw[he]at ho;cases ho;exact hnf vs hd
 refine bo (wpAny_frameOf_fun hfr hl hf λh1 hs=>bo (wpAny_entryPlaceOf λpl hpl=>?_));unfold jhR newFields;refine bo (nk ?_ (hpl.sizeOk5 _ _ _ _ _));generalize htb:({ cls:=.type "traceback",dict:=bc,data:=.fields ([head,.ref L,.none,rawInt L,.none]++(if pl.isEmpty then bE 6 gG else pl)).toArray }:mE)=tb;have he1:h1.get? e=ba oe:=(hs.2.1 e nf).trans he;have hne:h1.objs.size≠e:=nh (bH he1);have he2:(h1.push tb).get? e=ba oe:=bu _ he1;have hT2:(h1.push tb).get? h1.objs.size=ba tb:=bM h1 (by rw[<- htb];rfl)
 let f1:mE->mE:=gW (·.setIfInBounds 1 (dG h1.objs.size))
 have d3:(f1 oe).data=.fields (vs.setIfInBounds 1 (dG h1.objs.size)):=pV hd _;have he3:((h1.push tb).update e f1).get? e=ba (f1 oe):=gj _ he2 (mW d3);have hT3:((h1.push tb).update e f1).get? h1.objs.size=ba tb:=(b8 _ _ (gC hne)).trans hT2;refine nH he2 hd hsz (h _ ?_ ⟨f1 oe,_,he3,vE _ _,d3,by rw[sF (by decide)]⟩)
 have kb:base.StaysIn h1:=λb o hb=>(hs.2.1 b λhm=>by rw[(hl.mem hm).1]at hb;cases hb).trans (hkb b o hb)
 have keep:∀b o,b≠e->h1.get? b=ba o->((h1.push tb).update e f1).get? b=ba o:=λb o hb q=>by
  rw[b8 _ _ (gC hb)];exact bu _ q
 have other:∀b o,s.heap.get? b=ba o->(∀vs,o.data ≠ .fields vs)->b≠e:=λb o q n z=>by
  rw[z,he]at q;cases q;exact n vs hd
 have fresh:base.get? h1.objs.size=none:=by
  cases q:base.get? h1.objs.size with
  |none=>rfl
  |some o=>exact absurd (bH (kb _ _ q)) (dX _)
 have dT:tb.data=.fields ([head,.ref L,.none,rawInt L,.none]++(if pl.isEmpty then bE 6 gG else pl)).toArray:=by rw[<- htb]
 refine⟨λb o q=>keep b o (λz=>by rw[z,hen]at q;cases q) (kb b o q),hl.of_keeps λb o q n=>?_,⟨f1 oe,_,h1.objs.size,tb,_,he3,⟨jiA _ _,?_⟩,d3,by simp[hsz],fresh,hne,hT3,dT,?_⟩,λb o q n=>?_⟩
 ·obtain⟨sl,z⟩:=hs.2.2 b o q;exact⟨_,keep b _ (other b o q n) z,rfl⟩
 ·rw[sF (by decide)];exact h0
 ·simp
 ·obtain⟨sl,z⟩:=hs.2.2 b o q;exact⟨sl,keep b _ (other b o q n) z⟩
theorem Qr{l:List tR}{fl:bq}(hkb:base.StaysIn s.heap)(hen:base.get? e=bc)(hl:s.heap.FunFrames base l)(ht:s.heap.TracedAtW base e cls a0 fl)(hdc:qy s.heap e dct cx)
 (h:∀h',mw base l e cls a0 h'->qy h' e dct cx->s.heap.UpToSlots h'->Q () { s with heap:=h' }):wpAny M A (tZ (.ref e) bc) Q E s:=by
 obtain⟨oe,vs,T,oT,ts,he,hc,hd,h1,hnT,hTe,hT,hdT,h3⟩:=ht;obtain⟨o,ws,ho,hdo,hdd,hd2⟩:=hdc;unfold tZ;refine bo (dJ he hd h1 ?_);rw[if_pos (by simp)];have sz:3<ts.size:=(gi.mp h3).1;have dT:=pV hdT (·.setIfInBounds 3 ((bc:Option Addr).elim gG λf=>rawInt f));refine nH hT hdT sz (h _ ?_ ?_ λb o q n=>?_)
 ·have ot:∀b,b≠T->(s.heap.update T (gW (·.setIfInBounds 3 ((bc:Option Addr).elim gG λf=>rawInt f)))).get? b=s.heap.get? b:=λb hb=>b8 _ _ (gC hb)
  refine⟨λb o q=>(ot b λz=>by rw[z,hnT]at q;cases q).trans (hkb b o q),hen,hl.of_keeps λb o q n=>⟨o,(ot b λz=>?_).trans q,rfl⟩,oe,vs,T,_,_,(ot e (gC hTe)).trans he,hc,hd,h1,hnT,hTe,gj _ hT (mW dT),dT,by simp[sz]⟩;rw[z,hT]at q;cases q;exact n ts hdT
 ·exact⟨o,ws,(b8 _ _ hTe).trans ho,hdo,hdd,hd2⟩
 ·refine⟨o.slots,(b8 _ _ λz=>?_).trans q⟩;rw[<- z,hT]at q;cases q;exact n ts hdT
theorem jcw{outer:List tR}{L:Addr}
 (hfr:A.frames=ba (env::outer)) (hl:s.heap.FunFrames base (env::outer)) (hf:env.frame=ba L) (he:s.heap.get? e=ba oe) (hkb:base.StaysIn s.heap) (hen:base.get? e=bc) (hd:oe.data=.fields vs) (h1:vs[1]?=ba .none) (h0:vs[0]?=ba a0)
 (h:∀h',Heap.LeftW base (env::outer) e oe.cls a0 s.heap h'->qy h' e oe.dict vs[2]?->Q () { s with heap:=h' }):wpAny M A (ti env (.ref e)) Q E s:=by
 unfold ti pZ;simp only[hf];refine bo (bo (dJ he hd h1 ?_));rw[if_neg (by decide)]
 exact ja9 hfr hl hf he hkb hen hd (gi.mp h1).1 h0 λh2 ⟨x1,x2,x3,x4⟩ dd=>Qr (s:={ s with heap:=h2 }) x1 hen x2 x3 dd λh3 ⟨y1,_,y3,y4⟩ d2 us=>h h3 ⟨y1,y3,y4,λb o q n=>by obtain⟨sl,z⟩:=x4 b o q n;obtain⟨s2,z2⟩:=us b { o with slots:=sl } z n;exact⟨s2,z2⟩⟩ d2
theorem jaj{outer:List tR}{L:Addr}
 (hfr:A.frames=ba (env::outer)) (hf:env.frame=ba L) (hfl:mw base (env::outer) e cls a0 s.heap) (hdc:qy s.heap e dct cx)
 (h:∀h',Heap.HeldW base (env::outer) e cls a0 L h'->qy h' e dct cx->s.heap.UpToSlots h'->Q () { s with heap:=h' }):wpAny M A (pZ (.ref e) env) Q E s:=by
 obtain⟨hkb,hen,hl,oe,vs,T,oT,ts,he,⟨hc,h0⟩,hd,h1,hnT,hTe,hT,hdT,h3⟩:=hfl;obtain⟨o,ws,ho,hdo,hdd,hd2⟩:=hdc;rw[he]at ho;cases ho;rw[hd]at hdd;cases hdd;subst hc hdo hd2;unfold pZ;simp only[hf];refine bo (dJ he hd h1 ?_);rw[if_pos (by simp)];refine bo (dJ hT hdT h3 ?_);rw[if_neg (by simp[rawInt])];refine bo (nH hT hdT (gi.mp h3).1 ?_);generalize hh:s.heap.update T (gW (·.setIfInBounds 3 gG))=h2
 have ot:∀b,b≠T->h2.get? b=s.heap.get? b:=λb hb=>by rw[<- hh];exact b8 _ _ (gC hb)
 have nT:∀b o,s.heap.get? b=ba o->(∀vs,o.data ≠ .fields vs)->b≠T:=λb o q n z=>by
  rw[z,hT]at q;cases q;exact n ts hdT
 exact ja9 (s:={ s with heap:=h2 }) hfr (hl.of_keeps λb o q n=>⟨o,(ot b (nT b o q n)).trans q,rfl⟩) hf ((ot e (gC hTe)).trans he) (λb o q=>(ot b λz=>by rw[z,hnT]at q;cases q).trans (hkb b o q)) hen hd (gi.mp h1).1 h0 λh' ⟨x1,x2,x3,x4⟩ dd=>h h' ⟨x1,hen,x2,x3⟩ dd λb o q n=>x4 b o ((ot b (nT b o q n)).trans q) n
theorem jbG{outer:List tR}{L:Addr}
 (hfr:A.frames=ba (env::outer)) (hf:env.frame=ba L) (hfl:mw base (env::outer) e cls a0 s.heap) (hdc:qy s.heap e dct cx)
 (h:∀h',mw base outer e cls a0 h'->qy h' e dct cx->s.heap.UpToSlots h'->Q () { s with heap:=h' }):wpAny M A (ti env (.ref e)) Q E s:=by
 unfold ti;refine bo (jaj hfr hf hfl hdc λh2 hd2 dd us=>?_);obtain⟨x1,x2,x3,x4⟩:=hd2
 refine Qr (s:={ s with heap:=h2 }) x1 x2 x3 x4 dd λh3 fl d3 us2=>h h3 ?_ d3 (us.trans us2)
 obtain⟨y1,y2,⟨_,_,y3⟩,y4⟩:=fl;exact⟨y1,y2,y3,y4⟩
end
inductive TailN (n:bF) (h:dR) (bmB:List bq):List bq->Prop
 |base:TailN n h bmB bmB
 |own {a:Addr} {c0:bq} {dd:Option Addr} {cd:jiP} {sl:Array (Option bq)} {m:bF->Option bq} {tl:List bq} (hA:h.get? a=ba { cls:=c0,dict:=dd,data:=.cls cd,slots:=sl }) (hN:h.Ns cd.ns m) (hn:m n=bc) (r:TailN n h bmB tl):TailN n h bmB (.ref a::tl)
variable{Q:Option bq->Shared->Prop}{y:Option bq}{tk:Tok}{expr:Bool}
section
variable {prog:dg} {w:World} {M:Model} {A:gz} {E:bq->Shared->Prop} {h:dR} {g:Array m9} {d:Drawn} {t:Nat} {os:jiy} {a dA:Addr} {o:mE} {vs:Array bq} {t0:Addr}
 {nm q:bF} {C N:Addr} {bs bm bmB:List bq} {hdct:Bool} {sn:List bF} {sub:List bq} {ab:Bool} {col:Option Bool} {dd:Option Addr} {k0 k1 k2 k3 k5:Option bq} {B newId:String} {mN mD:bF->Option bq} {n:bF}
theorem XF{tl:List bq}(T:TailN n h bmB tl)(hr:jiX bmB n=pure y)(hq:Q y ⟨h,g,d,t,os⟩):wpAny M A (jiX tl n) Q E ⟨h,g,d,t,os⟩:=by
 induction T with
 |base=>rw[hr];exact bA hq
 |own hA hN hn _ ih =>
  rw[jiQ];exact bo (wpAny_classOwn_cls hA hN (by rw[hn];exact ih))
theorem xP(hC:h.get? C=ba (gF nm q C N bs bm hdct sn sub ab col dd k0 k1 k2 k3 k5 newId))(hn:h.Ns N mN)(T:TailN n h bmB bm)(hbm:mroOf (.type B)=pure bmB)(hB:mf (.type B) n=pure y)(h0:mN n=bc)
 (hq:Q y ⟨h,g,d,t,os⟩):wpAny M A (mf (.ref C) n) Q E ⟨h,g,d,t,os⟩:=by
 have hr:jiX bmB n=pure y:=by rw[typeLookup_eq,hbm]at hB;exact hB
 rw[typeLookup_eq];refine bo (ji9 hC ?_);rw[jiQ];exact bo (wpAny_classOwn_exc hC hn (by rw[h0];exact XF T hr hq))
theorem Uh{v:bq}{Q:jiO->Shared->Prop}(hC:h.get? C=ba (gF nm q C N bs bm bh sn sub ab col dd k0 k1 k2 k3 k5 newId))(hN:h.Ns N mN)(T:TailN n h bmB bm)(hbm:mroOf (.type B)=pure bmB)(hB:mf (.type B) n=pure bc)(h0:mN n=bc)
 (hx:h.get? a=ba o) (hc:o.cls=.ref C) (hd:o.data=.fields vs) (hdc:o.dict=ba dA) (hD:h.Ns dA mD) (hv:mD n=ba v) (hq:Q (.done (.ret v)) ⟨h,g,d,t,os⟩) :
 wpAny (model prog w) A (pA.«object.__getattribute__» ⟨[.ref a,.str n tk],[]⟩) Q E ⟨h,g,d,t,os⟩:=by
 repeat (any_goals (first|assumption|(with_reducible refine gh hx ?_;rw[hc])|(with_reducible refine xP hC hN T hbm hB h0 ?_)|wp_step))
 rw[hd];show wpAny _ _ (instanceDict a bj) _ _ _;unfold instanceDict;refine bo (gh hx ?_);rw[hc];refine bo ?_;unfold classData
 repeat (any_goals (first|assumption|(with_reducible refine gh hC ?_)|wp_step))
 rw[hdc];refine bA (show wpAny _ _ (nsGet dA n) _ _ _ from wpAny_nsGet hD ?_);rw[hv]
 repeat (any_goals (first|assumption|wp_step))
theorem Vn{v:bq}{R:Result->Shared->Prop}(FB:jiY B bmB)(hC:h.get? C=ba (gF nm q C N bs bm bh sn sub ab col dd k0 k1 k2 k3 k5 newId))(hN:h.Ns N mN)(TQ:jjt h bmB bm)(T:TailN n h bmB bm)(hB:mf (.type B) n=pure bc)(h0:mN n=bc)
 (hx:h.get? a=ba o) (hc:o.cls=.ref C) (hd:o.data=.fields vs) (hdc:o.dict=ba dA) (hD:h.Ns dA mD) (hv:mD n=ba v) (hq:R (.ok (.ret v)) ⟨h,g,d,t,os⟩) :
 ph (model prog w) A (.call (.builtin "BaseException.__getattribute__") ⟨[.ref a,.str n tk],[]⟩) R ⟨h,g,d,t,os⟩ :=
 nu FB.ga.plain F.entry_bexc_ga (wpAny_check_ga_own FB hC TQ hx hc (Uh hC hN T FB.mro hB h0 hx hc hd hdc hD hv hq))
theorem jdu{v:bq}{fill:Bool}{Q:bq->Shared->Prop}(FB:jiY B bmB)(hC:h.get? C=ba (gF nm q C N bs bm bh sn sub ab col dd k0 k1 k2 k3 k5 newId))(hN:h.Ns N mN)(m1:mN "__getattribute__"=bc)(m2:mN "__getattr__"=bc)(TQ:jjt h bmB bm)(T1:TailN "__getattribute__" h bmB bm)(T2:TailN "__getattr__" h bmB bm)(T:TailN n h bmB bm)(hB:mf (.type B) n=pure bc)(h0:mN n=bc)
 (hx:h.get? a=ba o) (hc:o.cls=.ref C) (hd:o.data=.fields vs) (hdc:o.dict=ba dA) (hD:h.Ns dA mD) (hv:mD n=ba v) (nb:∀id,v ≠ .builtin id) (hq:Q v ⟨h,g,d,t,os⟩) :
 wpAny (model prog w) A (getAttrBy (.ref a) (.str n tk) fill expr) Q E ⟨h,g,d,t,os⟩:=by
 have b3:=FB.ga.bind (.ref a)
 have y0:(expr&&jjK (pL "BaseException.__getattribute__"))=false:=by cases expr<;>rfl
 have y2:(pL "BaseException.__getattribute__" == pL "object.__getattribute__")=false:=by decide +kernel
 have y1:(jjK (dG C)&&pL "BaseException.__getattribute__" == pL "object.__getattribute__")=false:=by rw[y2];rfl
 repeat (any_goals (first|assumption|(with_reducible refine gh hx ?_;rw[hc])|(with_reducible refine xP hC hN T1 FB.mro FB.ga.lookup m1 ?_)|(with_reducible refine xP hC hN T2 FB.mro FB.noGetattr m2 ?_)|wp_step))
 refine Vn FB hC hN TQ T hB h0 hx hc hd hdc hD hv ?_
 repeat (any_goals (first|assumption|wp_step))
 cases v<;>first|exact bA hq|exact absurd rfl (nb _)
theorem U9{v:bq}{Q:bq->Shared->Prop}(FB:jiY B bmB)(hC:h.get? C=ba (gF nm q C N bs bm bh sn sub ab col dd k0 k1 k2 k3 k5 newId))(hN:h.Ns N mN)(m1:mN "__getattribute__"=bc)(m2:mN "__getattr__"=bc)(TQ:jjt h bmB bm)(T1:TailN "__getattribute__" h bmB bm)(T2:TailN "__getattr__" h bmB bm)(T:TailN n h bmB bm)(hB:mf (.type B) n=pure bc)(h0:mN n=bc)
 (hx:h.get? a=ba o) (hc:o.cls=.ref C) (hd:o.data=.fields vs) (hdc:o.dict=ba dA) (hD:h.Ns dA mD) (hv:mD n=ba v) (nb:∀id,v ≠ .builtin id) (hq:Q v ⟨h,g,d,t+1,os⟩) :
 wpAny (model prog w) A (jhN (.ref a) n expr) Q E ⟨h,g,d,t,os⟩:=by
 unfold jhN
 repeat (any_goals (first|assumption|(with_reducible apply jdu FB hC hN m1 m2 TQ T1 T2 T hB h0 hx hc hd hdc hD hv nb)|wp_step))
end
end Z
namespace Z
open PySem PySem.Spec PySem.Calls PyProof.Rows PySem.W L2
open Builtin Builtin.ObjectAttr
variable{n:bF}{h:dR}{bmB tl:List bq}
theorem TailN.has(T:TailN n h bmB tl){x:String}(hb:bmB.contains (.type x)=bh):tl.contains (.type x)=true:=by
 induction T with
 |base=>exact hb
 |own _ _ _ _ ih=>rw[mU,ih,jhd]
theorem TailN.pass(T:TailN n h bmB tl){self:bq}(hb:refuseLoop self "__setattr__" bmB=pure ()):refuseLoop self "__setattr__" tl=pure ():=by
 induction T with
 |base=>exact hb
 |own _ _ _ _ ih=>rw[refuseLoop_ref];exact ih
variable{Q:Unit->Shared->Prop}
section
variable {prog:dg} {w:World} {A:gz} {E:bq->Shared->Prop} {h:dR} {g:Array m9} {d:Drawn} {t:Nat} {os:jiy}
variable {nm q:bF} {C N x:Addr} {bs bm bmB:List bq} {sn:List bF} {sub:List bq} {ab:Bool} {col:Option Bool} {dd:Option Addr} {k0 k1 k2 k3 k5:Option bq} {B newId sa owner:String}
 {mN:bF->Option bq} {name:bF} {v:bq} {o:mE} {vs:Array bq}
theorem UM{tk:Tok}{Q:jiO->Shared->Prop}(SF:jju B bmB sa owner)(hC:h.get? C=ba (gF nm q C N bs bm bh sn sub ab col dd k0 k1 k2 k3 k5 newId))(hn:h.Ns N mN)(hna:mN name=bc)(T:TailN name h bmB bm)(hB:mf (.type B) name=pure bc)
 (hx:h.get? x=ba o) (hc:o.cls=.ref C) (hf:o.data=.fields vs) (hdn:o.dict=bc)
 (hq:∀h' tk',h'.get? x=ba { cls:=o.cls,dict:=ba h.objs.size,data:=o.data,slots:=o.slots }->h'.Ns1 h.objs.size (λy=>if y=name then ba v else bc)->(∀b ob,b≠x->h.get? b=ba ob->h'.get? b=ba ob)->Q (.done (.ret .none)) ⟨h',g,d,tk',os⟩) :
 wpAny (model prog w) A (pA.«object.__setattr__» ⟨[.ref x,.str name tk,v],[]⟩) Q E ⟨h,g,d,t,os⟩:=by
 have ps:=T.pass (SF.passes (.ref x));have xs:x≠h.objs.size:=dB (bH hx);unfold pA.«object.__setattr__»
 repeat (first|rw[refuse_eq]|(rw[refuseLoop_ref,ps])|(with_reducible refine gh hx ?_;rw[hc])|(with_reducible refine ji9 hC ?_)|(with_reducible refine xP hC hn T SF.mro hB hna ?_)|wp_step)
 rw[hdn,hf,if_neg (by simp[typeHasDict])];have x1:(h.push { cls:=.type "dict",data:=.dict #[] }).get? x=ba o:=bu _ hx;refine bo (wpAny_alloc' (bo (wpAny_update' x1 (bA ?_))));generalize hh:((h.push { cls:=.type "dict",data:=.dict #[] }).update x λo=>{ cls:=o.cls,dict:=ba h.objs.size,data:=o.data,slots:=o.slots })=h2
 have gd:h2.get? h.objs.size=ba { cls:=.type "dict",data:=.dict #[] }:=by rw[<- hh];exact(mI _ _ _ _ xs.symm).trans (wG rfl rfl)
 have gx:h2.get? x=ba { cls:=o.cls,dict:=ba h.objs.size,data:=o.data,slots:=o.slots }:=by
  rw[<- hh];refine gj _ x1 ?_;have:=(Heap.get?_some_iff.mp hx).2;obtain⟨oc,od,odt,osl⟩:=o
  cases odt<;>first|rfl|exact this
 have nd:h2.Ns h.objs.size (λ_=>bc):=⟨_,#[],_,gd,rfl,λe he=>absurd he (by simp),λ_=>rfl⟩
 show wpAny _ _ (storeInDict h.objs.size (.str name tk) name v) _ _ _;unfold storeInDict newKeyGuard;refine bo (bA (bo (wpAny_nsSet1 (jin nd) λh' hn' hs=>?_)));obtain⟨oD,esD,epD,hoD,hdD,hcD⟩:=hn'.count (Within.cons name v Within.nil);refine bo (jiH hoD (by rw[hdD];exact jiI (dU hcD (by rw[b6,pO,dI];omega))) ?_)
 wp_walk
 exact hq h' _ ((hs.2 x xs).trans gx) hn' λb ob hb q=>(hs.2 b (dB (bH q))).trans (by rw[<- hh];exact(mI _ _ _ _ hb).trans (bu _ q))
theorem UU{M:Model}{nameV:bq}(SF:jju B bmB sa owner)(hC:h.get? C=ba (gF nm q C N bs bm bh sn sub ab col dd k0 k1 k2 k3 k5 newId))(T:TailN n h bmB bm)(hx:h.get? x=ba o)(hc:o.cls=.ref C)(hq:Q () ⟨h,g,d,t,os⟩) :
 wpAny M A (sW sa ⟨[.ref x,nameV,v],[]⟩) Q E ⟨h,g,d,t,os⟩:=by
 have co:(dG C::bm).contains (.type owner)=true:=by rw[mU,T.has SF.hasOwner,jhd]
 have ar:=SF.args (.ref x) nameV v;simp only[sW,SF.kind,SF.split];refine bo ?_;unfold jhc
 repeat (first|(with_reducible refine gh hx ?_;rw[hc])|(with_reducible refine pE hC ?_;rw[co])|wp_step)
 cases sg:jhQ sa with
 |none=>exact bA hq
 |some sig =>
  simp only[argsOk,sg]at ar;show wpAny M A (jhB sa sig ⟨[.ref x,nameV,v],[]⟩) Q E _;rw[show jhB sa sig ⟨[.ref x,nameV,v],[]⟩=pure () from ar];exact bA hq
theorem Xa(SF:jju B bmB sa owner)(hC:h.get? C=ba (gF nm q C N bs bm bh sn sub ab col dd k0 k1 k2 k3 k5 newId))(hn:h.Ns N mN)(hns:mN "__setattr__"=bc)(TS:TailN "__setattr__" h bmB bm)(hna:mN name=bc)(T:TailN name h bmB bm)(hB:mf (.type B) name=pure bc)
 (hx:h.get? x=ba o) (hc:o.cls=.ref C) (hf:o.data=.fields vs) (hdn:o.dict=bc)
 (hq:∀h' tk',h'.get? x=ba { cls:=o.cls,dict:=ba h.objs.size,data:=o.data,slots:=o.slots }->h'.Ns1 h.objs.size (λy=>if y=name then ba v else bc)->(∀b ob,b≠x->h.get? b=ba ob->h'.get? b=ba ob)->Q () ⟨h',g,d,tk',os⟩) :
 wpAny (model prog w) A (jjU (.ref x) name v) Q E ⟨h,g,d,t,os⟩:=by
 have b3:=SF.slot.bind (.ref x);unfold jjU callSpecial? jjL
 repeat (any_goals (first|assumption|(with_reducible refine gh hx ?_;rw[hc])|(with_reducible refine xP hC hn TS SF.mro SF.slot.lookup hns ?_)|wp_step))
 refine nu SF.slot.plain SF.entry (UU SF hC T hx hc (UM SF hC hn hna T hB hx hc hf hdn λh' tk' g1 g2 g3=>?_))
 repeat (any_goals (first|assumption|wp_step))
 exact hq h' tk' g1 g2 g3
end
end Z
namespace Z
open PySem PySem.Spec PySem.Calls PyProof.Rows PySem.W L2
section
variable {prog:dg} {w:World} {A:gz} {E:bq->Shared->Prop} {h:dR} {g:Array m9} {d:Drawn} {t:Nat} {os:jiy}
variable {nm q:bF} {C N e t0:Addr} {bs bm bmB:List bq} {hdct:Bool} {sn:List bF} {sub:List bq} {ab:Bool} {col:Option Bool} {dd:Option Addr} {k0 k1 k2 k3 k5:Option bq} {B newId nid initId:String}
theorem UA{rest:List bq}{Q:bq->Shared->Prop}(F:tW B nid initId bmB)(T:jiz h bmB bm)(hC:h.get? C=ba (gF nm q C N bs bm hdct sn sub ab col dd k0 k1 k2 k3 k5 newId))
 (he:h.get? e=ba { cls:=.ref C,data:=.fields #[.ref t0,.none,.none,.none,.bool bj,.none] }) (hrest:rest.length<=sizeLine)
 (hq:∀h',(∀b o,b≠e->h.get? b=ba o->h'.get? b=ba o)->h'.get? e=ba { cls:=.ref C,data:=.fields #[.ref h.objs.size,.none,.none,.none,.bool bj,.none] }->h'.get? h.objs.size=ba { cls:=.type "tuple",data:=.seq rest.toArray }->Q .none ⟨h',g,d,t,os⟩) :
 wpAny (model prog w) A (call (.builtin initId) (.ref e::rest)) Q E ⟨h,g,d,t,os⟩:=by
 refine pT (nu F.init.plain F.initEntry (wpAny_check_init_subU F T hC he rfl ?_))
 wp_walk
 have ne:e≠h.objs.size:=dB (bH he);refine hq _ (λb o hb q=>?_) ?_ ?_
 ·rw[b8 _ _ (gC hb)];exact bu _ q
 ·rw[gj _ (bu _ he) rfl];rfl
 ·rw[b8 _ _ ne];exact wG rfl rfl
end
end Z
namespace Z
open PySem PySem.Spec PyProof.Rows PySem.W L2
structure Cover (B:dR) (outer:List tR) (H1:Hp) (h0 h:dR):Prop where
 trk:∀b u o,H1 b=ba u->h.get? b=ba o->B.get? b=ba o
 old:∀b o o',h0.get? b=ba o->b ∉ frs outer->h.get? b=ba o'->B.get? b=ba o'
def qM(P:dg)(w:World)(cls:Addr)(outer:List tR)(H:Hp)(s:Shared)(H1:Hp)(dct:Option Addr)(e:bq)(s':Shared):Prop :=
 ∃ea a0 B,e=.ref ea/\s'.os=s.os/\p9 s'.gens/\Un (frs outer) [] H H1 s.heap s'.heap/\HOk P w H1 s'.heap/\jd H H1/\mw B outer ea (.ref cls) a0 s'.heap/\H1 ea=bc/\Cover B outer H1 s.heap s'.heap/\(dct=bc\/qy s'.heap ea dct (ba .none))
variable{a:Addr}{o:mE}
section
variable {P:dg} {w:World} {H H1:Hp} {h0 h h' B B':dR} {outer l:List tR}
theorem uZ{o:HO}(x:kO P w H h a o):∃u,h.get? a=ba u:=by
 cases o with
 |lst xs=>obtain⟨_,_,_,_,e⟩:=x;exact⟨_,e⟩
 |tup xs=>obtain⟨_,_,_,o,e,_⟩:=x;exact⟨o,e⟩
 |dK kvs=>obtain⟨_,_,_,_,o,_,_,e,_⟩:=x;exact⟨o,e⟩
 |dT kvs=>obtain⟨_,_,_,_,o,_,_,e,_⟩:=x;exact⟨o,e⟩
 |set S n=>obtain⟨o,_,_,_,e,_⟩:=x;exact⟨o,e⟩
 |ins C dx fs=>obtain⟨_,_,_,e,_⟩:=x;exact⟨_,e⟩
 |own y=>exact x
 |xd fs=>obtain⟨_,⟨o,_,_,e,_⟩,_⟩:=x;exact⟨o,e⟩
 |rng lo hi=>obtain⟨_,_,_,e⟩:=x;exact⟨_,e⟩
 |frz ob u=>obtain⟨e,_⟩:=x;exact⟨_,e⟩
 |tbl ps=>exact⟨_,(show h.get? a=ba _ from x)⟩
 |met f y=>exact⟨_,(show h.get? a=ba _ from x)⟩
 |ext φ=>obtain⟨_,z,_⟩:=x;exact z
theorem xi(u:Un (frs outer) [] H H1 h0 h)(k:HOk P w H1 h)(c:Cover B outer H1 h0 h)(ff:h.FunFrames B' l)(sub:∀b∈frs outer,b∈frs l)(st:B.StaysIn h')(sl:h.UpToSlots h') :
 Un (frs outer) [] H H1 h0 h'/\HOk P w H1 h'/\Cover B outer H1 h0 h':=by
 have up:∀b o,b∈frs outer->h.get? b=ba o->∃s,h'.get? b=ba { o with slots:=s }:=λb o hb e=>by
  obtain⟨_,o',e',nf⟩:=ff.mem (sub b hb);rw[e]at e';cases e';exact sl b o e nf
 refine⟨⟨λb o e n hb hx=>?_,λb o e n hb hx=>?_,u.free,λb o e hx=>?_,u.tups,u.frzs,u.tbls⟩,λa o e=>?_,⟨λb v o e q=>?_,λb o o' e hb q=>?_⟩⟩
 ·exact st _ _ (c.old b o o e hb (u.keep b o e n hb hx))
 ·obtain⟨s1,e1⟩:=u.slot b o e n hb hx;obtain⟨s2,e2⟩:=up b _ hb e1;exact⟨s2,e2⟩
 ·obtain⟨o',e'⟩:=u.there b o e hx;by_cases hb:b∈frs outer
  ·obtain⟨s2,e2⟩:=up b _ hb e';exact⟨_,e2⟩
  ·exact⟨o',st _ _ (c.old b o o' e hb e')⟩
 ·refine(k a o e).stay (λb v hb q=>?_) (λ_ z=>z) λ_ _ z=>z
  rcases hb with rfl|hb
  ·exact st _ _ (c.trk _ _ _ e q)
  ·exact st _ _ (c.trk _ _ _ hb q)
 ·obtain⟨o',e'⟩:=uZ (k b v e);have z:=c.trk b v o' e e';have:=st _ _ z;rw[q]at this;cases this;exact z
 ·obtain⟨o2,e2⟩:=u.there b o e (by simp);have z:=c.old b o o2 e hb e2;have:=st _ _ z;rw[q]at this;cases this;exact z
end
structure Own (X:Cx):Prop where
 stk:X.stack=X.env::X.outer
 frm:X.env.frame=ba X.env.locals
 ex:X.ex=[]
variable{b e:Addr}{dct:Option Addr}
section
variable {X:Cx} {pins:List (Addr×mE)} {σ:L2.St} {H:Hp} {s s':Shared} {M:Model} {E:bq->Shared->Prop} {Q:Unit->Shared->Prop} {C:Addr}
theorem Zt(w:Own X):frs X.stack=X.env.locals::frs X.outer:=by
 rw[w.stk];unfold frs;rw[mG,w.frm]
theorem vi(I:Inv X pins σ H s)(w:Own X)(e:X.s₀.heap.get? b=ba o)(hb:b ∉ frs X.outer):b ∉ frs X.stack:=by
 rw[Zt w];intro z;rcases bG.mp z with rfl|z
 ·exact absurd (bH e) (sU.mpr I.ok.above)
 ·exact hb z
theorem yO(w:Own X):∀b∈frs X.outer,b∈frs X.stack:=λb hb=>by
 rw[Zt w];exact bD _ hb
theorem uG(I:Inv X pins σ H s)(w:Own X)(sm:jd X.H₀ H){h1:dR}{args:List bq}(hx:pd s.heap h1 e (.ref C) args)
 (hq:∀s',qM X.prog X.w C X.outer X.H₀ X.s₀ H bc (.ref e) s'->Q () s'):wpAny M X.A (ti X.env (.ref e)) Q E { s with heap:=h1 }:=by
 have e0:=I.env0
 have hin:∀env∈X.stack,∀a,env.frame=ba a->a∈frs X.stack:=λenv he a ha=>pS.mpr ⟨env,he,ha⟩
 have ff:=funFrames_hide e0.funs hin
 have bs:(wH s.heap (frs X.stack)).StaysIn s.heap:=λb o q=>jjv _ q
 have hfr:X.A.frames=ba (X.env::X.outer):=by rw[<- w.stk];exact e0.frames
 have ff':s.heap.FunFrames (wH s.heap (frs X.stack)) (X.env::X.outer):=by rw[<- w.stk];exact ff
 refine wpAny_leaves_madeW (s:={ s with heap:=h1 }) hfr w.frm bs ff' hx λh' t fl tup _ us=>?_
 have cov:Cover (wH s.heap (frs X.stack)) X.outer H X.s₀.heap s.heap:=by
  refine⟨λb u o e q=>tJ _ q λz=>?_,λb o o' e hb q=>tJ _ q (vi I w e hb)⟩;have:=e0.frf b z;rw[e]at this;cases this
 have ub:Un (frs X.outer) [] X.H₀ H X.s₀.heap s.heap:=by have:=I.base;rw[w.ex]at this;exact this
 obtain⟨u2,k2,c2⟩:=xi ub I.hok cov ff (yO w) fl.1 ((jjM hx.keeps).trans us);refine hq _ ⟨e,_,_,rfl,I.os,I.bare,u2,k2,sm,fl,?_,c2,.inl rfl⟩
 cases q:H e with
 |none=>rfl
 |some u =>
  obtain⟨o,z⟩:=uZ (I.hok e u q);rw[hx.new]at z;cases z
theorem Kf{H1:Hp}(I:Inv X pins σ H s)(w:Own X)(sm:jd X.H₀ H1){e:bq}(T:qM X.prog X.w C X.stack H s H1 dct e s')
 (hq:∀s',qM X.prog X.w C X.outer X.H₀ X.s₀ H1 dct e s'->Q () s'):wpAny M X.A (ti X.env e) Q E s':=by
 obtain⟨ea,a0,B,rfl,ho,hg,u,k,s1,fl,he,c,hdc⟩:=T
 have hfr:X.A.frames=ba (X.env::X.outer):=by rw[<- w.stk];exact I.env0.frames
 have fl':mw B (X.env::X.outer) ea (.ref C) a0 s'.heap:=by rw[<- w.stk];exact fl
 obtain⟨oe,ws,e1,_,hdd,_⟩:=id fl.first
 refine jbG hfr w.frm fl' ⟨oe,ws,e1,rfl,hdd,rfl⟩ λh' f2 d2 us=>?_
 have J:=I.call' ho u k hg (ch:=[]) (λb z=>nomatch z)
 have ub:Un (frs X.outer) [] X.H₀ H1 X.s₀.heap s'.heap:=by have:=J.base;rw[w.ex]at this;exact this
 have cov:Cover B X.outer H1 X.s₀.heap s'.heap:=⟨c.trk,λb o o' e hb q=>by
  obtain⟨o2,e2⟩:=I.base.there b o e (by rw[w.ex];simp)
  exact c.old b o2 o' e2 (vi I w e hb) q⟩
 obtain⟨u2,k2,c2⟩:=xi ub k cov fl.2.2.1 (yO w) f2.1 us;refine hq _ ⟨ea,a0,B,rfl,J.os,hg,u2,k2,sm,f2,he,c2,hdc.imp id λ⟨o,us,q1,q2,q3,q4⟩=>?_⟩;rw[e1]at q1;cases q1;rw[hdd]at q3;cases q3;rw[<- q2,<- q4];exact d2
def del(H:Hp)(a:Addr):Hp:=λb=>if b=a then bc else H b
theorem vT{H:Hp}:del H a a=none:=by unfold del;rw[if_pos rfl]
theorem kT{H:Hp}(h:b≠a):del H a b=H b:=by unfold del;rw[if_neg h]
theorem Zl{φ:dR->Prop}(I:Inv X pins σ H s)(he:H e=ba (.ext φ))(h0:X.H₀ e=bc):Inv X pins σ (del H e) s:=by
 have nt:∀ {b:Addr} {u:HO},H b=ba u->(∀ψ,u ≠ .ext ψ)->b≠e:=λ{b u} q n z=>by rw[z,he]at q;cases q;exact n _ rfl
 refine⟨I.ok,I.os,I.bare,⟨I.base.keep,I.base.slot,λb o q n hx=>?_,I.base.there,λb xs q=>?_,λb o u q=>?_,λb ps q=>?_⟩,I.loc,I.cell,?_,λx c q=>?_,λp hp=>?_,λb u q=>?_,I.len⟩
 ·have:=I.base.free b o q n hx;rw[kT λz=>by rw[z,he]at this;cases this];exact this
 ·have:=I.base.tups b xs q;rw[kT (nt this λ_ z=>nomatch z)];exact this
 ·have:=I.base.frzs b o u q;rw[kT (nt this λ_ z=>nomatch z)];exact this
 ·obtain⟨m,this⟩:=I.base.tbls b ps q;exact⟨m,by rw[kT (nt this λ_ z=>nomatch z)];exact this⟩
 ·have:=I.free;rw[kT λz=>by rw[z,he]at this;cases this];exact this
 ·have:=I.freeC x c q;rw[kT λz=>by rw[z,he]at this;cases this];exact this
 ·obtain⟨g1,g2,g3⟩:=I.pin p hp;exact⟨g1,by rw[kT λz=>by rw[z,he]at g2;cases g2];exact g2,g3⟩
 ·have hb:b≠e:=λz=>by rw[z,vT]at q;cases q
  rw[kT hb]at q
  exact(I.hok b u q).stay (λ_ _ _ z=>z) (λc z=>by rw[kT (nt z λ_ z=>nomatch z)];exact z) λc xs z=>by rw[kT (nt z λ_ z=>nomatch z)];exact z
theorem vD{vs:Array bq}{a0:bq}(I:Inv X pins σ H s)(w:Own X)(sm:jd X.H₀ H)(ho:s.heap.get? e=ba o)(hc:o.cls=.ref C)(hdc:o.dict=dct)(hd:o.data=.fields vs)(h1:vs[1]?=ba .none)(h2:vs[2]?=ba .none)(ha:vs[0]?=ba a0)(he:H e=bc)(h0:X.s₀.heap.get? e=bc)
 (hq:∀s',qM X.prog X.w C X.outer X.H₀ X.s₀ H dct (.ref e) s'->Q () s'):wpAny M X.A (ti X.env (.ref e)) Q E s:=by
 have e0:=I.env0
 have hin:∀env∈X.stack,∀a,env.frame=ba a->a∈e::frs X.stack:=λenv he a ha=>bD _ (pS.mpr ⟨env,he,ha⟩)
 have ff:=funFrames_hide e0.funs hin
 have bs:(wH s.heap (e::frs X.stack)).StaysIn s.heap:=λb o q=>jjv _ q
 have hfr:X.A.frames=ba (X.env::X.outer):=by rw[<- w.stk];exact e0.frames
 have ff':s.heap.FunFrames (wH s.heap (e::frs X.stack)) (X.env::X.outer):=by rw[<- w.stk];exact ff
 refine jcw hfr ff' w.frm ho bs (jiB _ (bJ ..)) hd h1 ha λh' lf d2=>?_
 obtain⟨y1,y3,y4,us⟩:=lf
 have cov:Cover (wH s.heap (e::frs X.stack)) X.outer H X.s₀.heap s.heap:=by
  refine⟨λb u o q1 q=>tJ _ q λz=>?_,λb o o' q1 hb q=>tJ _ q λz=>?_⟩
  ·rcases bG.mp z with rfl|z
   ·rw[he]at q1;cases q1
   ·have:=e0.frf b z;rw[q1]at this;cases this
  ·rcases bG.mp z with rfl|z
   ·rw[h0]at q1;cases q1
   ·exact vi I w q1 hb z
 have ub:Un (frs X.outer) [] X.H₀ H X.s₀.heap s.heap:=by have:=I.base;rw[w.ex]at this;exact this
 obtain⟨u2,k2,c2⟩:=xi ub I.hok cov ff (yO w) y1 us;obtain⟨_,_,y5⟩:=y3;rw[hc]at y4;rw[hdc,h2]at d2;exact hq _ ⟨e,a0,_,rfl,I.os,I.bare,u2,k2,sm,⟨y1,jiB _ (bJ ..),y5,y4⟩,he,c2,.inr d2⟩
end
end Z
namespace Z
open PySem PySem.Spec PySem.Calls PyProof.Rows PySem.W L2 PySem.Builtin.Getset_descriptor
section
variable {prog:dg} {w:World} {A:gz} {E:bq->Shared->Prop} {s:Shared} {K:Frag} {x D:Addr} {ox:mE}
structure ExcIn (K:Frag) (D:Addr):Prop where
 ga:findIn K (.ref D) "__getattribute__"=ba (ba (.builtin "BaseException.__getattribute__"))
 gt:findIn K (.ref D) "__getattr__"=ba bc
 ca:findIn K (.ref D) "__class__"=ba (ba (.builtin "object.__class__"))
 cg:specialIn K (.builtin "object.__class__") "__get__"=ba (ba (.builtin "getset_descriptor.__get__"))
 ct:takesIn K (.builtin "object.__class__")=ba bh
 mo:mroIn K D (.type "object")=ba bh
 mb:mroIn K D (.type "BaseException")=ba bh
def jfC(h:dR)(x D:Addr):Prop:=∃o,h.get? x=Option.some o/\o.cls=.ref D
theorem jfC.type{M:Model}{h:dR}(I:jfC h x D):jkj M h (typeOf (.ref x)) (.ref D):=by
 obtain⟨o,e,c⟩:=I;exact c ▸ (jiC e).andThen .now
theorem ExcIn.some(e:ExcIn K D):(clsIn K D).isSome=true:=by
 have:=e.mo;unfold mroIn at this
 cases q:clsIn K D with
 |none=>rw[q]at this;cases this
 |some c=>rfl
end
end Z
namespace Z
open PySem PySem.Spec PySem.Calls PyProof.Rows PySem.W L2
abbrev bmV:List bq:=[.type "ValueError",.type "Exception",.type "BaseException",.type "object"]
abbrev JB:String:="ValueError.__new__"
variable{K:Frag}{h:dR}
theorem Zg{C:Addr}(X:K.In h)(q:excIn K C bmV JB=bh) :
 ∃bm N nm qn bs hd sn sub ab col dd k0 k1 k2 k3 k5 mN,h.get? C=ba (gF nm qn C N bs bm hd sn sub ab col dd k0 k1 k2 k3 k5 JB)/\h.Ns N mN/\mN "__init__"=bc/\jiz h bmV bm:=by
 unfold excIn at q;split at q
 ·next dd cd sl ho =>
  split at q
  ·next C' bm k0 k1 k2 k3 n k5 hm hs =>
   rw[bz,bz,bz,bz,bz]at q;obtain⟨⟨⟨⟨⟨q1,q2⟩,q3⟩,q4⟩,q5⟩,q6⟩:=q;replace q1:=beq_iff_eq.mp q1;replace q2:=beq_iff_eq.mp q2;replace q6:=beq_iff_eq.mp q6
   replace q3:cd.hasDel=false:=by simpa using q3
   subst q1 q2;obtain⟨nm,bs,mro,ns,qn,hd,sn,sub,ab,col,del⟩:=cd;simp only at hm q3 q5 q6;subst hm q3;obtain⟨l⟩:=sl;simp only at hs;subst hs;exact⟨bm,ns,nm,qn,bs,hd,sn,sub,ab,col,dd,k0,k1,k2,k3,k5,_,X _ _ ho,.of_isNs (jjw X q5),w8 X q5 q6,tail_of_in X q4⟩
  ·cases q
 ·cases q
abbrev mkX(X:Cx)(e:Addr):Cx:={ X with A:=X.A.mark (ba (.ref e)),calm:=bj,xe:=λ_ _=>False }
variable{e:Addr}{H1:Hp}{dct:Option Addr}
section
variable {X:Cx} {pins:List (Addr×mE)} {σ:L2.St} {H:Hp} {s s':Shared} {C:Addr}
theorem zM(I:Inv X pins σ H s)(e:Addr):Inv (mkX X e) pins σ H s :=
 ⟨⟨I.ok.mod,I.ok.kind,I.ok.glob,I.ok.blt,I.ok.above,I.ok.inj,I.ok.has,I.ok.cab,λz=>(nomatch z),I.ok.frames,I.ok.stk,I.ok.exf,I.ok.bs,I.ok.bsz,I.ok.noex,I.ok.exfs,I.ok.funs,I.ok.frf⟩,I.os,I.bare,I.base,I.loc,I.cell,I.free,I.freeC,I.pin,I.hok,I.len⟩
theorem YK{σ':L2.St}{H':Hp}(I:Inv X pins σ H s)(J:Inv (Z.mkX X e) pins σ' H' s'):Inv X pins σ' H' s':=⟨I.ok,J.os,J.bare,J.base,J.loc,J.cell,J.free,J.freeC,J.pin,J.hok,J.len⟩
theorem ue{a:Addr}{v:HO}(I:Inv X pins σ H s)(h0:X.s₀.heap.get? a=bc)(hH:H a=bc)(ho:∀H',kO X.prog X.w H' s.heap a v)(hL:a≠X.env.locals)(hc:∀x c,X.env.cells.lookup x=ba c->c≠a)(hp:∀p∈X.pn++pins,p.1≠a) :
 Inv X pins σ (upd H a v) s:=by
 have ne:∀ {b:Addr} {u:HO},H b=ba u->b≠a:=λ{b u} e z=>by rw[z,hH]at e;cases e
 refine⟨I.ok,I.os,I.bare,⟨I.base.keep,I.base.slot,λb o' e n hx=>?_,I.base.there,λb xs e=>?_,λb o' u e=>?_,λb ps e=>?_⟩,I.loc,I.cell,?_,λx c e=>?_,λp hp'=>?_,λb u e=>?_,I.len⟩
 ·rw[je λz=>by rw[z,h0]at e;cases e];exact I.base.free b o' e n hx
 ·have:=I.base.tups b xs e;rw[je (ne this)];exact this
 ·have:=I.base.frzs b o' u e;rw[je (ne this)];exact this
 ·obtain⟨m,this⟩:=I.base.tbls b ps e;exact⟨m,by rw[je (ne this)];exact this⟩
 ·rw[je hL.symm];exact I.free
 ·rw[je (hc x c e)];exact I.freeC x c e
 ·obtain⟨g1,g2,g3⟩:=I.pin p hp';exact⟨g1,by rw[je (hp p hp')];exact g2,g3⟩
 ·by_cases hb:b=a
  ·subst hb;rw[jh]at e;cases e;exact ho _
  ·rw[je hb]at e
   exact(I.hok b u e).stay (λ_ _ _ z=>z) (λc z=>by rw[je (ne z)];exact z) λc xs z=>by rw[je (ne z)];exact z
theorem X6{a0:bq}{B:dR}(I:Inv X pins σ H s)(u:Un (frs X.stack) [] H H1 s.heap s'.heap)(fl:mw B X.stack e (.ref C) a0 s'.heap)(c:Cover B X.stack H1 s.heap s'.heap):s.heap.get? e=none:=by
 cases q:s.heap.get? e with
 |none=>rfl
 |some o =>
  exfalso;obtain⟨o',e'⟩:=u.there e o q (by simp);by_cases hb:e∈frs X.stack
  ·obtain⟨_,o2,e2,nf⟩:=fl.2.2.1.mem hb
   obtain⟨oe,vs,e3,_,d3,_⟩:=fl.first
   rw[e3]at e2;cases e2;exact nf vs d3
  ·have:=c.old e o o' q hb e';rw[fl.2.1]at this;cases this
variable {M:Model} {E:bq->Shared->Prop} {Q:Flow->Shared->Prop} {x n:bF} {np pos:Pos} {b₀:d9} {suite:List d9} {rest:List gw} {i:Nat}
def Kl(K:Frag)(C:Addr):Prop:=∀h:dR,K.In h->∃bm N nm qn bs hd sn sub ab col dd k0 k1 k2 k3 k5,h.get? C=ba (gF nm qn C N bs bm hd sn sub ab col dd k0 k1 k2 k3 k5 JB)/\jiz h bmV bm
theorem jbv{C:Addr}(q:excIn K C bmV JB=bh):Kl K C:=λh X=>by
 obtain⟨bm,N,nm,qn,bs,hd,sn,sub,ab,col,dd,k0,k1,k2,k3,k5',mN,hC,hN,hni,TL⟩:=Zg X q;exact⟨bm,N,nm,qn,bs,hd,sn,sub,ab,col,dd,k0,k1,k2,k3,k5',hC,TL⟩
theorem UE{prog:dg}{w:World}{A:gz}{E:bq->Shared->Prop}{g:Array m9}{d:Drawn}{t:Nat}{os:jiy}{C C':Addr}{oe:mE}{Q:Bool->Shared->Prop}(X:K.In h)(he:h.get? e=ba oe)(hc:oe.cls=.ref C)(q:Kl K C')(hs:subIn K (.ref C) (.ref C')=ba bj)
 (hq:Q bj ⟨h,g,d,t,os⟩):wpAny (model prog w) A (excMatches (.ref e) (.ref C')) Q E ⟨h,g,d,t,os⟩:=by
 obtain⟨bm,N,nm,qn,bs,hd,sn,sub,ab,col,dd,k0,k1,k2,k3,k5',hC,TL⟩:=q h X;have L1:=looks_subIn (M:=model prog w) X hs
 have hcB:(dG C'::bm).contains (.type "BaseException")=true:=by
  have q:bm.contains (.type "BaseException")=true:=TL.hasType (by decide +kernel);rw[mU,q,jhd]
 have L0:jkj (model prog w) h (typeOf (.ref C')) (.type "type"):=(jiC hC).andThen .now;have L2:jkj (model prog w) h (typeOf (.ref e)) (.ref C):=hc ▸ (jiC he).andThen .now;unfold excMatches;refine bo ?_;unfold jhc;refine bo (L0.at ?_);refine nv (show isSubtype (.type "type") (.type "tuple")=pure bj from by rfl) ?_;rw[if_neg (by decide)];refine bo (bA ?_);show wpAny _ _ (do forIn [dG C'] PUnit.unit _;_) _ _ _;simp only[nP,n9];unfold isExcClass
 repeat (first|(with_reducible refine gh hC ?_)|(with_reducible refine pE hC ?_;rw[hcB])|(with_reducible refine L2.at ?_)|(with_reducible refine L1.at ?_)|wp_step)
 exact hq
def jb7(X:Cx)(C:Addr)(hd:gw):Prop:=∃y Cy np n b ps,hd=.ExceptHandler (ba (.Name y np)) n b ps/\X.mg y=ba (.ref Cy)/\Kl X.K Cy/\Gl X y/\(y == ("__debug__":bF))=bj/\subIn X.K (.ref C) (.ref Cy)=ba bj
theorem jbr{ea:Addr}{oe:mE}{rest:List gw}(I:Inv X pins σ H s)(he:s.heap.get? ea=ba oe)(hc:oe.cls=.ref C)(k:wpAny (model X.prog X.w) X.A (w9 (.ref ea) X.env rest) Q E s) :
 ∀pre:List gw,(∀hd∈pre,jb7 X C hd)->wpAny (model X.prog X.w) X.A (w9 (.ref ea) X.env (pre++rest)) Q E s
 |[],_=>k
 |hd::pre,hp=>by
  obtain⟨y,Cy,np,n,b,ps,rfl,hm,hq,gl,hdb,hs⟩:=hp hd (bJ ..);refine tQ (sH (qu (X:=Z.mkX X ea) (zM I ea) gl hm ?_ hdb)) (by intro q;cases q);exact UE I.kIn he hc hq hs (jbr I he hc k pre λh q=>hp h (bD _ q))
theorem jeZ{pre:List gw}(hp:∀hd∈pre,jb7 X C hd)(I:Inv X pins σ H s)(w:Own X)(nd:X.N.Nodup)(hm:X.mg x=ba (.ref C))(hq:Kl X.K C)(gl:Gl X x)(hdb:(x == ("__debug__":bF))=bj)(hn:X.N[i]?=ba n)(hl:X.env.scope.names.lookup n=ba .local){e:bq}(T:qM X.prog X.w C X.stack H s H1 dct e s')
 (k:∀ea oe vs s7,jd H H1->oe.cls=.ref C->oe.data=.fields vs->(dct=bc\/(oe.dict=dct/\vs[2]?=ba .none))->e=.ref ea->Inv (Z.mkX X ea) pins (σ.set i (ba (.ref ea))) (upd H1 ea (.frz oe (.ext λ_=>True))) s7->H1 ea=bc ->
  wpAny (model X.prog X.w) (X.A.mark (ba (.ref ea))) (execs (b₀::suite) X.env) (λf s₄=>wpAny (model X.prog X.w) X.A (do bindName X.env n .none;tK X.env n pos) (λ_ s₅=>Q f s₅) E s₄) (λ_ _=>False) s7) :
 wpAny (model X.prog X.w) X.A (pZ e X.env) (λ_ s₂=>wpAny (model X.prog X.w) X.A (tZ e bc) (λ_ s₃=>wpAny (model X.prog X.w) X.A (w9 e X.env (pre ++ .ExceptHandler (ba (.Name x np)) (ba n) (b₀::suite) pos::rest)) Q E s₃) E s₂) E s':=by
 obtain⟨ea,a0,B,rfl,ho,hg,u,kk,s1,fl,he,c,hdc⟩:=T;have new:=X6 I u fl c
 have hfr:X.A.frames=ba (X.env::X.outer):=by rw[<- w.stk];exact I.env0.frames
 have fl':mw B (X.env::X.outer) ea (.ref C) a0 s'.heap:=by rw[<- w.stk];exact fl
 obtain⟨oe0,ws0,e00,_,hdd0,_⟩:=id fl.first
 refine jaj hfr w.frm fl' ⟨oe0,ws0,e00,rfl,hdd0,rfl⟩ λh4 held d4 us4=>?_
 obtain⟨x1,x2,x3,x4⟩:=held
 refine Qr (s:={ s' with heap:=h4 }) x1 x2 x3 x4 d4 λh5 fl5 d5 us5=>?_
 obtain⟨u5,k5,c5⟩:=xi u kk c fl.2.2.1 (λb hb=>hb) fl5.1 (us4.trans us5);have J5:Inv X pins σ H1 { s' with heap:=h5 }:=I.call' (s':={ s' with heap:=h5 }) ho u5 k5 hg (ch:=[]) (λb z=>nomatch z);obtain⟨bm,N,nm,qn,bs,hd,sn,sub,ab,col,dd,k0,k1,k2,k3,k5',hC,TL⟩:=hq _ J5.kIn
 obtain⟨oe5,vs5,e5,c5',_,_⟩:=id fl5.first
 refine jbr J5 e5 c5' ?_ pre hp;refine tQ (sH (qu (X:=Z.mkX X ea) (zM J5 ea) gl hm ?_ hdb)) (by intro q;cases q);refine wB hC e5 c5' (TL.hasType (by decide +kernel)) (codeAny_handlers_suite_as ?_);obtain⟨z1,z2,z3,z4⟩:=id fl5
 refine Qr (s:={ s' with heap:=h5 }) z1 z2 z3 z4 d5 λh6 fl6 d6 us6=>?_
 obtain⟨u6,k6,c6⟩:=xi u5 k5 c5 fl5.2.2.1 (λb hb=>by rw[w.stk]at hb;exact hb) fl6.1 us6;have J6:Inv X pins σ H1 { s' with heap:=h6 }:=I.call' (s':={ s' with heap:=h6 }) ho u6 k6 hg (ch:=[]) (λb z=>nomatch z)
 obtain⟨oe,vs,e6,cl,dd6,_⟩:=fl6.first
 have hdc':dct=bc\/(oe.dict=dct/\vs[2]?=ba .none):=by
  refine hdc.imp id λ⟨o,us,q1,q2,q3,q4⟩=>?_
  rw[e00]at q1;cases q1;rw[hdd0]at q3;cases q3;obtain⟨o,us2,q5,q6,q7,q8⟩:=d6;rw[show h6.get? ea=ba oe from e6]at q5;cases q5;rw[dd6]at q7;cases q7;exact⟨by rw[q6,q2],by rw[q8,q4]⟩
 have old:∀ {b:Addr} {o:mE},s.heap.get? b=ba o->b≠ea:=λ{b o} z y=>by rw[y,new]at z;cases z
 have h0:X.s₀.heap.get? ea=none:=by
  cases q:X.s₀.heap.get? ea with
  |none=>rfl
  |some o =>
   obtain⟨o',z⟩:=I.base.there ea o q (by rw[w.ex];simp);exact absurd rfl (old z)
 have J7:=ue (v:=.frz oe (.ext λ_=>True)) J6 h0 he (λ_=>⟨e6,trivial,⟨_,e6⟩,λ_ _ _ _=>trivial⟩) (λz=>by obtain⟨m,⟨o,_,_,ho',_⟩,_⟩:=I.loc;exact old ho' z.symm) (λy cc q=>by obtain⟨v,o,ho',_⟩:=I.cell y cc q;exact old ho') (λp hp=>old (I.pin p hp).1);refine zD J7 nd hn (.inl hl) (v:=.ref ea) rfl (λs7 J8=>?_) (.inr hl)
 refine dE (k ea oe vs s7 s1 cl dd6 hdc' rfl (zM J8 ea) he) (λf s8 z=>z) λ_ _ z=>z.elim
theorem jbI{pre:List gw}(hp:∀hd∈pre,jb7 X C hd)(I:Inv X pins σ H s)(w:Own X)(hm:X.mg x=ba (.ref C))(hq:Kl X.K C)(gl:Gl X x)(hdb:(x == ("__debug__":bF))=bj){e:bq}(T:qM X.prog X.w C X.stack H s H1 dct e s')
 (k:∀ea s7,jd H H1->Inv (Z.mkX X ea) pins σ H1 s7->wpAny (model X.prog X.w) (X.A.mark (ba (.ref ea))) (execs (b₀::suite) X.env) (λf s₅=>Q f s₅) (λ_ _=>False) s7) :
 wpAny (model X.prog X.w) X.A (pZ e X.env) (λ_ s₂=>wpAny (model X.prog X.w) X.A (tZ e bc) (λ_ s₃=>wpAny (model X.prog X.w) X.A (w9 e X.env (pre ++ .ExceptHandler (ba (.Name x np)) bc (b₀::suite) pos::rest)) Q E s₃) E s₂) E s':=by
 obtain⟨ea,a0,B,rfl,ho,hg,u,kk,s1,fl,he,c,hdc⟩:=T
 have hfr:X.A.frames=ba (X.env::X.outer):=by rw[<- w.stk];exact I.env0.frames
 have fl':mw B (X.env::X.outer) ea (.ref C) a0 s'.heap:=by rw[<- w.stk];exact fl
 refine wpAny_looks_onW hfr w.frm fl' λh4 held us4=>?_
 refine wpAny_landsW held λh5 fl5 us5=>?_
 obtain⟨u5,k5,c5⟩:=xi u kk c fl.2.2.1 (λb hb=>hb) fl5.1 (us4.trans us5);have J5:Inv X pins σ H1 { s' with heap:=h5 }:=I.call' (s':={ s' with heap:=h5 }) ho u5 k5 hg (ch:=[]) (λb z=>nomatch z);obtain⟨bm,N,nm,qn,bs,hd,sn,sub,ab,col,dd,k0,k1,k2,k3,k5',hC,TL⟩:=hq _ J5.kIn
 obtain⟨oe5,vs5,e5,c5',_,_⟩:=id fl5.first
 refine jbr J5 e5 c5' ?_ pre hp;refine tQ (sH (qu (X:=Z.mkX X ea) (zM J5 ea) gl hm ?_ hdb)) (by intro q;cases q);refine wB hC e5 c5' (TL.hasType (by decide +kernel)) (codeAny_handlers_suite ?_)
 refine lands_againW fl5 λh6 fl6 us6=>?_
 obtain⟨u6,k6,c6⟩:=xi u5 k5 c5 fl5.2.2.1 (λb hb=>by rw[w.stk]at hb;exact hb) fl6.1 us6;have J6:Inv X pins σ H1 { s' with heap:=h6 }:=I.call' (s':={ s' with heap:=h6 }) ho u6 k6 hg (ch:=[]) (λb z=>nomatch z)
 exact dE (k ea _ s1 (zM J6 ea)) (λf s8 z=>z) λ_ _ z=>z.elim
end
def Y7:List bF:=["NoRatio","NoNext","NoRoot","Unfit","Dependent","NoLine","BadText","TooGreat","BadRow","NoRow","NoColumn","TooMany"]
structure AloneF (K:Frag) (mg:bF->Option bq) (y:bF) (D:Addr):Prop where
 ex:ExcIn K D
 cls:∀c∈Y7,∃Ca,mg c=ba (.ref Ca)/\kitOne K (.ref D) (.ref Ca)=ba (decide (c=y))
 te:∃Ca,mg "TrueError"=ba (.ref Ca)/\kitOne K (.ref D) (.ref Ca)=ba bh
 ve:kitOne K (.ref D) (.type "ValueError")=ba bh
 vn:mg "ValueError"=bc
 isi:mg "isinstance"=bc
 mem:y∈Y7
def spA(K:Frag)(mg:bF->Option bq):Sp:=λvs H Q _=>∃y D ea oe u,AloneF K mg y D/\vs=[.ref ea]/\H ea=ba (.frz oe u)/\oe.cls=.ref D/\∀H',jd H H'->Q (.bl bh) H'
end Z
namespace Z
open PySem PySem.Spec PyProof.Rows L2
theorem jcz(a b:Nat):sliceRange (a:Int) (b:Int) 1=jiZ a (b-a):=by
 unfold sliceRange
 have e:(if (1:Int) > 0 then (if (a:Int)<b then ((b:Int)-a+1-1) / 1 else 0) else (if (a:Int) > b then ((a:Int)-b-1-1) / (-1) else 0)).toNat=b-a:=by
  rw[if_pos (by decide),jiD]
  split<;>lia
 simp only[e];rw[List.range'_eq_map_range]
 refine jhS λk _=>?_
 lia
theorem jf7(lo hi:Option Int)(n:Nat):nZ lo hi 1 n=jiZ (sIx n 0 lo) (sIx n n hi-sIx n 0 lo):=by
 rw[<- jcz]
 have cl:∀(v:Option Int) (d:Nat),(match v with|none=>(d:Int)|some i=>max 0 (min (if i<0 then i+(n:Int) else i) (n:Int)))=((sIx n d v:Nat):Int):=by
  intro v d
  cases v with
  |none=>rfl
  |some i =>
   show _=(((if i<0 then (i+(n:Int)).toNat else min i.toNat n):Nat):Int)
   split<;>lia
 unfold nZ;rw[<- cl lo 0,<- cl hi n]
 cases lo<;>cases hi<;>simp
theorem vo(l:List Nat):∀(b a:Nat),a+b<=l.length->(jiZ a b).filterMap (l[·]?)=(l.drop a).take b
 |0,a,_=>by simp
 |b+1,a,h=>by
  rw[List.range'_succ,mG,bO (by lia)];simp only[];rw[vo l b (a+1) (by lia),d8 (by lia:a<l.length),jhT]
theorem jdv(n d:Nat)(o:Option Int)(h:d<=n):sIx n d o<=n\/∃i,o=ba i/\i<0:=by
 cases o with
 |none=>exact .inl h
 |some i =>
  by_cases z:i<0
  ·exact .inr ⟨i,rfl,z⟩
  ·left;show (if i<0 then (i+(n:Int)).toNat else min i.toNat n)<=n;rw[if_neg z];lia
theorem Zy(n d:Nat)(o:Option Int)(h:d<=n):sIx n d o<=n:=by
 rcases jdv n d o h with z|⟨i,rfl,z⟩
 ·exact z
 ·show (if i<0 then (i+(n:Int)).toNat else min i.toNat n)<=n;rw[if_pos z];lia
theorem Km(x:bF)(lo hi:Option Int):jjN x lo hi=Xk x lo hi:=by
 have ha:=Zy x.length 0 lo (gf _);have hb:=Zy x.length x.length hi (bN _);have hl:x.cps.toList.length=x.length:=nF;unfold jjN Xk;rw[jf7];split
 ·next h =>
  simp only[List.length_range',bz,beq_iff_eq]at h
  have e1:sIx x.length 0 lo=0:=by lia
  have e2:sIx x.length x.length hi=x.length:=by lia
  rw[e1,e2,nG,Nat.sub_zero,<- hl,jiR]
 ·have e:=vo x.cps.toList (sIx x.length x.length hi-sIx x.length 0 lo) (sIx x.length 0 lo);rcases Nat.le_total (sIx x.length 0 lo) (sIx x.length x.length hi) with z|z
  ·rw[<- e (by lia)];congr 2
   have e:(λi:Nat=>x.cps[i]?)=λi=>x.cps.toList[i]?:=by funext i;simp
   rw[e]
  ·rw[show sIx x.length x.length hi-sIx x.length 0 lo=0 by lia];simp
variable {X:Cx}
def jgT:V->Option Int->Option Int->Hp->VK->Prop:=λx lo hi H Q=>∃z,x=.str z/\z.length<=sizeLine/\Q (.str (Xk z lo hi)) H
theorem ZJ{v:bq}{o:Option Int}(p:IsPart v o):∃q:Option (Int×Tok),v=partValue q/\q.map (·.1)=o:=by
 cases p with
 |none=>exact⟨bc,rfl,rfl⟩
 |int i t=>exact⟨ba (i,t),rfl,rfl⟩
theorem jcP:SlR X jgT:=by
 intro pins s σ H x v vl vu lo hi sl Q I rx hs pl pu h;obtain⟨z,rfl,hz,q⟩:=h;obtain⟨t,rfl⟩:=rx;obtain⟨pl',rfl,e1⟩:=ZJ pl;obtain⟨pu',rfl,e2⟩:=ZJ pu;refine⟨"str",_,slot_str_getitem.lookup,sO s z t,?_⟩;have hS:s.heap.IsSlice sl pl' pu' none:=hs;have hc:=Km z lo hi;unfold jjN at hc
 have q':∀(u:Tok) (k:Nat),EP X pins σ Q (.str (Xk z lo hi) u) { s with toks:=k }:=λu k=>⟨.str _,H,I.tok _,⟨_,rfl⟩,q⟩
 refine getItem_meets (sO s z t) (by decide) F.slot_str_getitem F.entry_str_getitem (F.args_str_getitem_2 _ _) (meets_str_getitem_slice z t sl pl' pu' bc rfl) ⟨hS,?_⟩;unfold sliceMade slicePicked;rw[e1,e2];simp only[Option.map_none,wW]
 have hcl:(Xk z lo hi).length<=sizeLine:=by
  have:(Xk z lo hi).length<=z.length:=by rw[<- Km];exact Txt.slice_le z lo hi
  lia
 by_cases h:(((1:Int) == 1)&&(nZ lo hi 1 z.length).length == z.length)=bh
 ·rw[if_pos h]at hc ⊢;have:=q' t s.toks;rw[<- hc]at this;exact this
 ·rw[if_neg h]at hc ⊢;rw[hc];exact⟨hcl,q' _ _⟩
theorem Ua:kJ X (.type "int") (λxs H Q=>∃z n,xs=[.str z]/\z.length<=640/\jhz z=ba n/\Q (.int n) H):=by
 intro pins s σ H xs us Q I r h;obtain⟨z,n,rfl,hl,hn,q⟩:=h;obtain⟨u,rfl,t,rfl⟩:=qf r;exact PySem.W.KIN.call_text hn hl ⟨.int n,H,I.tok _,⟨_,rfl⟩,q⟩
theorem jbS(z:bF)(k:Int):Txt.mul z k=⟨(bE k.toNat z.cps.toList).flatten.toArray⟩:=by
 unfold Txt.mul;split
 ·next h=>rw[show k.toNat=0 by lia];rfl
 ·split
  ·next h h1 =>
   simp only[gX,beq_iff_eq]at h1;rcases h1 with rfl|h1
   ·simp
   ·have:z.cps.toList=[]:=by
     have:z.cps.size=0:=h1;simpa using this
    rw[this]
    have e:z=⟨#[]⟩:=by
     cases z;simp_all
    rw[e];simp
  ·have key:∀(n:Nat) (a:Array Nat),(bE n z.cps).foldl (· ++ ·) a=a++(bE n z.cps.toList).flatten.toArray:=by
    intro n
    induction n with
    |zero=>intro a;simp
    |succ n ih =>
     intro a;rw[gm,pP,ih,gm,gB];apply jie;simp
   rw[key];simp
theorem jbA:OpR X (t6 .Mult) (λx y H Q=>∃z k,x=.str z/\y=.int k/\uK z.length k/\Q (.str ⟨(bE k.toNat z.cps.toList).flatten.toArray⟩) H):=by
 intro pins s σ H x y v u Q I rx ry h;obtain⟨z,k,rfl,rfl,⟨hk,hl⟩,q⟩:=h;obtain⟨t,rfl⟩:=rx;obtain⟨t',rfl⟩:=ry;have h24:lim=16777216:=rfl
 refine SB.mul ⟨?_,?_,?_⟩ λt'' k'=>?_
 ·have e1:decide (k < -(2^63:Int))=false:=decide_eq_false (by lia);have e2:decide (k ≥ 2^63)=false:=decide_eq_false (by lia);rw[e1,e2];rfl
 ·intro h1 h2 h3
  have hp:((z.length*k.toNat:Nat):Int)=(z.length:Int)*k:=by
   rw[Int.natCast_mul,Int.toNat_of_nonneg (by lia)]
  have:(z.length:Int)<=(2^63-1) / k:=Int.le_ediv_of_mul_le (by lia) (by rw[<- hp];lia);lia
 ·intro h1 h2;unfold Builtin.Str.tooLong;rw[dI];exact decide_eq_false (by lia)
 ·rw[jbS];exact⟨.str _,H,I.tok _,⟨_,rfl⟩,q⟩
def rSm(K:bx):SOp->V->List V->Hp->VK->Prop
 |.jn,x,vs,H,Q=>∃(z:bF) (a:Addr) (ss:List bF),x=.str z/\vs=[.ref a]/\SqL K H a (ss.map .str)/\(ss.map (·.length)).sum+ss.length*z.length<=lim/\Q (.str ⟨(xu z ss).toArray⟩) H
 |.spl,x,vs,H,Q=>∃z y,x=.str z/\vs=[.str y]/\y.length≠0/\z.length<=sizeLine/\(jR z y).length<=sizeLine/\∀p,H p=bc->Q (.ref p) (upd H p (.lst ((jR z y).map .str)))
theorem Js:∀ {ss:List bF} {us:List bq},jv (ss.map V.str) us->StrsAre us ss
 |[],us,h=>by cases h;exact .nil
 |x::ss,us,h=>by
  cases h with
  |cons r t =>
   obtain⟨u,rfl⟩:=r;exact .cons x u (Js t)
theorem jar(z:bF)(ss:List bF):Txt.join z ss=⟨(xu z ss).toArray⟩:=by
 have key:∀(l:List bF) (a:Array Nat),l.foldl (λacc p=>acc++z.cps++p.cps) a=a++(l.map λp=>z.cps.toList++p.cps.toList).flatten.toArray:=by
  intro l
  induction l with
  |nil=>intro a;simp
  |cons x l ih =>
   intro a;rw[pP,ih];apply jie;simp
 unfold Txt.join Builtin.Str.glued;rw[key]
 cases ss with
 |nil=>rfl
 |cons x l =>
  unfold xu;congr 1;apply jie;simp
theorem JR:∀(l:List bF) (k:Nat),jv (l.map V.str) (strsFrom k l)
 |[],_=>.nil
 |x::l,k=>.cons ⟨_,rfl⟩ (JR l (k+1))
theorem jbe(o:SOp):∃id,Slot "str" o.nm id/\typeOf (.builtin id)=pure (.type "method_descriptor")/\MtR X id (rSm X.K o):=by
 cases o with
 |jn =>
  refine⟨"str.join",F.slot_str_join,F.type_str_join,?_⟩;rintro pins s τ H x xs v us Q I rx rs ⟨z,a,ss,rfl,rfl,sq,hl,q⟩;obtain⟨t,rfl⟩:=rx;obtain⟨u,rfl,ru⟩:=qf rs;cases ru;obtain⟨its,r,pl,_⟩:=I.list sq
  refine join_list pl.isList (by rw[jhU];exact Js r) hl λt' k=>?_
  rw[jar]
  exact⟨.str _,H,I.tok _,⟨_,rfl⟩,q⟩
 |spl =>
  refine⟨"str.split",sZ,F.type_str_split,?_⟩;rintro pins s τ H x xs v us Q I rx rs ⟨z,y,rfl,rfl,hy,hz,hn,q⟩;obtain⟨t,rfl⟩:=rx;obtain⟨u,rfl,t',rfl⟩:=qf rs
  have fin:∀(l:List bq) (k:Nat),jv ((jR z y).map V.str) l->EP X pins τ Q (.ref s.heap.objs.size) { s with toks:=k,heap:=s.heap.push { cls:=.type "list",data:=.seq l.toArray } }:=λl k vl =>
   ⟨.ref s.heap.objs.size,upd H s.heap.objs.size (.lst ((jR z y).map V.str)),I.laid (λb o e=>bu _ e) (bN _) (show kO X.prog X.w _ _ _ (.lst _) from ⟨by rw[bW];exact hn,l,_,vl,bM _ rfl⟩),rfl,q _ (I.hok.fresh (bN _))⟩
  have hy':(y.length == 0)=false:=by simpa using hy
  unfold jR at fin
  cases h1:(decide (z.length<y.length) ||decide (pB z<pB y)) with
  |true =>
   rw[h1,if_pos rfl]at fin
   exact n8 sZ (sO _ _ _) wI (wj _ _) (meets_str_split_cannot_occur z y t t' h1) (fin [.str z t] s.toks (.cons ⟨_,rfl⟩ .nil))
  |false =>
   rw[h1,if_neg (by decide)]at fin
   cases h2:(gA z y 0 z.length (z.length+1)).isEmpty with
   |true =>
    rw[h2,if_pos rfl]at fin
    exact n8 sZ (sO _ _ _) wI (wj _ _) (meets_str_split_not_found z y t t' h1 hy' h2) (fin [.str z t] s.toks (.cons ⟨_,rfl⟩ .nil))
   |false =>
    rw[h2,if_neg (by decide)]at fin;unfold jR at hn;rw[h1,if_neg (by decide),h2,if_neg (by decide)]at hn;exact n8 sZ (sO _ _ _) wI (wj _ _) (meets_str_split_sep z y t t' h1 hy' h2 hz hn) (fin _ _ (JR _ _))
end Z
namespace Z
open PySem PySem.W PyProof.Rows
def Tr{α:Type}(lt:Nat->Nat->Bool)(n:Nat):KasT α->(α->Prop)->Prop
 |.ret a,Q=>Q a
 |.ask i j k,Q=>i<n/\j<n/\Tr lt n (k (lt i j)) Q
theorem jc9{α:Type}{lt:Nat->Nat->Bool}{n:Nat}{Q:α->Prop}{cmp:Nat->Nat->(Bool->Shared->Prop)->Shared->Prop}{G:α->Shared->Prop}{s:Shared}
 (H:∀i j (C:Bool->Shared->Prop),i<n->j<n->C (lt i j) s->cmp i j C s) (hq:∀a,Q a->G a s):∀(t:KasT α),Tr lt n t Q->t.kasWp cmp G s
 |.ret a,q=>hq a q
 |.ask i j k,q=>H i j _ q.1 q.2.1 (jc9 H hq (k (lt i j)) q.2.2)
abbrev jcf:Nat:=3
structure Ord (lt:Nat->Nat->Bool):Prop where
 asy:∀a b,lt a b=bh->lt b a=bj
 tr:∀a b c,lt b a=bj->lt c b=bj->lt c a=bj
abbrev at'(p:Array Nat)(i:Nat):Nat:=p.getD i 0
def Pm(n:Nat)(p:Array Nat):Prop:=p.toList.Perm (gq n)
def Up(lt:Nat->Nat->Bool)(p:Array Nat)(lo hi:Nat):Prop:=∀i j,lo<=i->i<=j->j<hi->lt (at' p j) (at' p i)=bj
section
variable {lt:Nat->Nat->Bool} {n:Nat} {p:Array Nat}
theorem Ord.irr(o:Ord lt)(a:Nat):lt a a=false:=by
 cases h:lt a a
 ·rfl
 ·exact absurd (o.asy a a h) (by simp[h])
theorem Pm.size(h:Pm n p):p.size=n:=by have:=h.length_eq;simpa using this
theorem XE(o:Ord lt)(lo:Nat):Up lt p lo (lo+1):=by
 intro i j h1 h2 h3
 have:i=j:=by lia
 rw[this];exact o.irr _
theorem Up.more(o:Ord lt){lo hi:Nat}(h:Up lt p lo hi)(hl:lo<hi)(h1:lt (at' p hi) (at' p (hi-1))=bj):Up lt p lo (hi+1):=by
 intro i j a b c;by_cases e:j<hi
 ·exact h i j a b e
 ·have e1:j=hi:=by lia
  subst e1;by_cases e2:i=j
  ·rw[e2];exact o.irr _
  ·exact o.tr _ _ _ (h i (j-1) a (by lia) (by lia)) h1
end
section
variable {lt:Nat->Nat->Bool} {n:Nat}
theorem jcR(o:Ord lt)(h1:1<=n)(h2:n<3):Tr lt n (kas_sort n) λp=>Pm n p/\Up lt p 0 n:=by
 have e:n=1\/n=2:=by lia
 rcases e with rfl|rfl
 ·exact⟨jjx _,XE o 0⟩
 ·refine⟨g9 1,Nat.zero_lt_succ 1,?_⟩;generalize hb:lt ((gq 2).toArray.getD 1 0) ((gq 2).toArray.getD (1-1) 0)=b;cases b
  ·exact⟨jjx _,(XE o 0).more o jja hb⟩
  ·exact⟨List.Perm.swap _ _ _,(XE o 0).more o jja (o.asy _ _ hb)⟩
theorem jcx(o:Ord lt)(h1:1<=n)(h2:n<jcf){cmp:Nat->Nat->(Bool->Shared->Prop)->Shared->Prop}{G:Array Nat->Shared->Prop}{s:Shared}
 (H:∀i j (C:Bool->Shared->Prop),i<n->j<n->C (lt i j) s->cmp i j C s) (hq:∀p,Pm n p->Up lt p 0 n->G p s):(kas_sort n).kasWp cmp G s :=
 jc9 H (λa q=>hq a q.1 q.2) _ (jcR o h1 h2)
end
end Z
namespace Z
open PySem PySem.W PySem.Calls PyProof.Rows
section
variable {prog:dg} {w:World} {A:gz} {E:bq->Shared->Prop} {s:Shared} {vs:List bq} {lt:Nat->Nat->Bool}
def jbJ(a:Addr)(h h':dR):Prop:=∀b o,b≠a->h.get? b=ba o->h'.get? b=ba o
abbrev uo(vs:List bq)(p:Array Nat):List bq:=p.toList.map λi=>vs.getD i gG
theorem Vi(vs:List bq):(vs.toArray.zip vs.toArray).map (·.2)=gy (uo vs (gy (gq vs.length))):=by
 apply jiS.mp
 have e:(gq vs.length).map (λi=>vs.getD i gG)=vs:=by
  apply jiT
  ·simp
  ·intro i h1 h2;simp at h1;simp[h1]
 have e2:(vs.zip vs).map (·.2)=vs:=by rw[List.map_snd_zip];omega
 show ((vs.toArray.zip vs.toArray).map (·.2)).toList=(gq vs.length).map (λi=>vs.getD i gG);rw[e];simpa using e2
def Ze(prog:dg)(w:World)(A:gz)(vs:List bq)(lt:Nat->Nat->Bool)(s:Shared):Prop :=
 wpAny (model prog w) A (keyKind' vs.toArray) (λκ s'=>s'=s/\∀i j (C:Bool->Shared->Prop),i<vs.length->j<vs.length->C (lt i j) s->kas_ask prog w A κ vs i j C s) (λ_ _=>False) s
theorem ja0(o:Ord lt){a:Addr}{n:Nat}{P:jiO->Shared->Prop}(ho:s.heap.get? a=ba (seqObj "list" vs.toArray n))(h64:vs.length<jcf)
 (hk:2<=vs.length->∀h',jbJ a s.heap h'->Ze prog w A vs lt { s with heap:=h' })
 (h:∀p h' c,Pm vs.length p->Up lt p 0 vs.length->jbJ a s.heap h'->h'.get? a=ba (seqObj "list" (gy (uo vs p)) c)->P (.done (.ret .none)) { s with heap:=h' }) :
 wpAny (model prog w) A (pA.«list.sort» ⟨[.ref a],[]⟩) P E s:=by
 have h65:vs.length<64:=bX h64 (by decide);have ha:a<s.heap.objs.size:=bH ho;have s1:=jhV s.heap a (gH λ_=>(#[]:Array bq))
 obtain⟨e1,ho1⟩:∃e1,(s.heap.update a (gH λ_=>(#[]:Array bq))).get? a=ba (seqObj "list" #[] e1):=⟨_,jhj ho λ_=>#[]⟩
 have k3:jbJ a s.heap (((s.heap.update a (gH λ_=>(#[]:Array bq))).push (seqObj "tuple" vs.toArray 0)).push (seqObj "list" #[] 0)):=λb x hb e =>
  bu _ (bu _ (by rw[mI _ _ _ _ hb];exact e))
 have ho3:(((s.heap.update a (gH λ_=>(#[]:Array bq))).push (seqObj "tuple" vs.toArray 0)).push (seqObj "list" #[] 0)).get? a=ba (seqObj "list" #[] e1) :=
  bu _ (bu _ ho1)
 rw[list_sort_plain];refine bo (listItems_at ho rfl ?_);refine bo (jh0 ho rfl ?_ (by rw[bQ,dI];omega) (gf _));refine bo (ji0 ho1 rfl ?_);refine bo (wg ?_ (by show vs.length<=_;rw[dI];omega));refine bo (wpAny_newList ?_ (gf _));refine dN ?_;show wpAny (model prog w) A _ P E { s with heap:=((s.heap.update a (gH λ_=>(#[]:Array bq))).push (seqObj "tuple" vs.toArray 0)).push (seqObj "list" #[] 0) };dsimp only
 have ask:2<=vs.length->_:=λh2=>hk h2 _ k3
 generalize hH:((s.heap.update a (gH λ_=>(#[]:Array bq))).push (seqObj "tuple" vs.toArray 0)).push (seqObj "list" #[] 0)=H at *;by_cases h1:vs.toArray.size<2
 ·rw[if_pos h1,if_pos h1];rw[bQ]at h1;refine bo (bA ?_);rw[StateT.run_pure];refine bo (bA ?_);dsimp only
  have hout:(arrOf (SortSt.mk' general' (vs.toArray.zip vs.toArray) #[] 7 bc)).map (·.2)=gy (uo vs (gy (gq vs.length))):=by
   show (vs.toArray.zip vs.toArray).map (·.2)=_;exact Vi vs
  have hsz:(gy (uo vs (gy (gq vs.length)))).size=vs.length:=by simp
  obtain⟨c2,hc2⟩:∃c2,(H.update a (gH λ_=>gy (uo vs (gy (gq vs.length))))).get? a=ba (seqObj "list" (gy (uo vs (gy (gq vs.length)))) c2):=⟨_,jhj ho3 λ_=>_⟩
  refine bo (ji0 ho3 rfl ?_);refine bo (jh0 ho3 rfl ?_ (gf _) (by rw[hout,hsz,dI];omega));simp only[bne_self_eq_false,du,if_false];refine bA ?_;rw[hout];refine h _ _ c2 (by simp[Pm]) ?_ (λb x hb e=>by rw[mI _ _ _ _ hb];exact k3 b x hb e) hc2;intro i j _ x y
  have:i=j:=by omega
  rw[this];exact o.irr _
 have h2:2<=vs.length:=by rw[bQ]at h1;omega
 rw[if_neg h1,if_neg h1];replace ask:=ask h2;refine bo (dE ask (λκ s0 hk=>?_) λ_ _ x=>x.elim);obtain⟨rfl,hk⟩:=hk
 refine bo (dE (kat_run (Q:=λst' s'=>∃p:Array Nat,s'={ s with heap:=H }/\Pm vs.length p/\Up lt p 0 vs.length/\arrOf st'=p.map (kas_item (vs.toArray.zip vs.toArray))/\failedOf st'=bc)
  (G:=λp s'=>s'={ s with heap:=H }/\Pm vs.length p/\Up lt p 0 vs.length)
  rfl h2 (bX h64 (by decide)) (λp' st' s' a1 a2 a3 a4=>⟨p',a4.1,a4.2.1,a4.2.2,a2,a3⟩) (jcx o (by omega) h64 hk λp x y=>⟨rfl,x,y⟩)) ?_ λ_ _ e=>e)
 rintro⟨⟨⟩,st'⟩ s' ⟨p,rfl,hp,hu,har,hf⟩;dsimp only;have hout:=kat_snds rfl har;have hps:=hp.size
 have hsz:(gy (uo vs p)).size=vs.length:=by rw[bQ,bW,nF,hps]
 rw[hout]
 obtain⟨c2,hc2⟩:∃c2,(H.update a (gH λ_=>gy (uo vs p))).get? a=ba (seqObj "list" (gy (uo vs p)) c2):=⟨_,jhj ho3 λ_=>gy (uo vs p)⟩
 refine bo (ji0 ho3 rfl ?_);refine bo (jh0 ho3 rfl ?_ (gf _) (dU (si hsz) (by rw[dI];omega)));rw[hf];simp only[bne_self_eq_false,du,if_false];exact bA (h p _ c2 hp hu (λb x hb e=>by rw[mI _ _ _ _ hb];exact k3 b x hb e) hc2)
theorem jgJ(o:Ord lt){l:Addr}{Q:bq->Shared->Prop}(hl:s.heap.IsList l vs.toArray)(h64:vs.length<jcf)
 (hk:2<=vs.length->∀h',(∀b o,s.heap.get? b=ba o->h'.get? b=ba o)->Ze prog w A.in1.in1 vs lt { s with heap:=h' })
 (h:∀p D h' c,Pm vs.length p->Up lt p 0 vs.length->(∀b o,s.heap.get? b=ba o->h'.get? b=ba o)->s.heap.objs.size<=D->h'.get? D=ba (seqObj "list" (gy (uo vs p)) c)->Q (.ref D) { s with heap:=h' }) :
 wpAny (model prog w) A (call (.builtin "sorted") [.ref l]) Q E s:=by
 have h65:vs.length<64:=bX h64 (by decide);refine Calls.call_function_entry kind_sorted plain_sorted entry_sorted (args_sorted1 _) ?_;unfold pA.«sorted»;refine bo (m:=checkCount "sorted" 1 1 _) (bA ?_);refine bo (collect_list hl ?_ (by rw[dI];omega));refine bo (wpAny_newList ?_ (by rw[dI];omega))
 have hsz:((s.heap.push (seqObj "list" #[] 0)).update s.heap.objs.size (gH (· ++ vs.toArray))).objs.size=s.heap.objs.size+1:=by
  rw[Heap.size_update,size_push']
 have hoL:(((s.heap.push (seqObj "list" #[] 0)).update s.heap.objs.size (gH (· ++ vs.toArray))).push (seqObj "list" vs.toArray 0)).get? (s.heap.objs.size+1)=ba (seqObj "list" vs.toArray 0):=by
  rw[<- hsz];exact bM _ rfl
 have keep:∀b o,s.heap.get? b=ba o->(((s.heap.push (seqObj "list" #[] 0)).update s.heap.objs.size (gH (· ++ vs.toArray))).push (seqObj "list" vs.toArray 0)).get? b=ba o:=λb o q=>by
  have hlt:b<s.heap.objs.size:=bH q;rw[jiE _ _ _ (by rw[hsz];exact dB (nY hlt)),mI _ _ _ _ (dB hlt),jiE _ _ _ (dB hlt)];exact q
 show wpAny _ _ _ _ _ { s with heap:=((s.heap.push (seqObj "list" #[] 0)).update s.heap.objs.size (gH (· ++ vs.toArray))).push (seqObj "list" vs.toArray 0) };rw[hsz];refine bo (dN (mn slot_list_sort ⟨_,hoL,rfl⟩ entry_list_sort ?body (args_list_sort _)))
 case body =>
  have kk:∀h',jbJ (s.heap.objs.size+1) (((s.heap.push (seqObj "list" #[] 0)).update s.heap.objs.size (gH (· ++ vs.toArray))).push (seqObj "list" vs.toArray 0)) h'->∀b o,s.heap.get? b=ba o->h'.get? b=ba o :=
   λh' hk b o e=>hk b o (dB (nY (bH e))) (keep b o e)
  refine ja0 (s:={ s with heap:=((s.heap.push (seqObj "list" #[] 0)).update s.heap.objs.size (gH (· ++ vs.toArray))).push (seqObj "list" vs.toArray 0) }) o hoL h64
   (λh2 h' e=>hk h2 h' (kk h' e)) λp h' c a1 a2 a3 a4=>?_
  exact⟨_,rfl,bA ⟨_,rfl,h p _ h' c a1 a2 (kk h' a3) (tF _) a4⟩⟩
end
section
variable {prog:dg} {w:World} {A:gz} {E:bq->Shared->Prop} {s:Shared} {vs:List bq}
def xS(h:dR):List bq->List (Int×Int)->Prop
 |[],[]=>True
 |v::vs,p::ps=>(∃a o c t u,v=.ref a/\h.get? a=ba o/\o.cls=.type "tuple" /\ o.data=.seq #[.int p.1 t,.int p.2 u] c)/\xS h vs ps
 |_,_=>False
theorem xS.keep{h h':dR}(k:∀b o,h.get? b=ba o->h'.get? b=ba o):∀ {vs:List bq} {ps:List (Int×Int)},xS h vs ps->xS h' vs ps
 |[],[],_=>trivial
 |_::_,_::_,⟨⟨a,o,c,t,u,x1,x2,x3,x4⟩,r⟩=>⟨⟨a,o,c,t,u,x1,k _ _ x2,x3,x4⟩,xS.keep k r⟩
 |[],_::_,x=>x.elim
 |_::_,[],x=>x.elim
theorem xS.at_{h:dR}:∀ {vs:List bq} {ps:List (Int×Int)},xS h vs ps->∀i,i<vs.length->∃a o c t u,vs.getD i gG=.ref a/\h.get? a=ba o/\o.cls=.type "tuple" /\ o.data=.seq #[.int (ps.getD i (0,0)).1 t,.int (ps.getD i (0,0)).2 u] c
 |[],[],_,i,hi=>by simp at hi
 |_::_,_::_,⟨x,r⟩,i,hi=>by
  cases i with
  |zero=>exact x
  |succ i=>simpa using xS.at_ r i (by simpa using hi)
 |[],_::_,x,_,_=>x.elim
 |_::_,[],x,_,_=>x.elim
theorem xS.tups{h:dR}:∀ {vs:List bq} {ps:List (Int×Int)},xS h vs ps->∃fs,KatTups h vs fs/\fs.length=vs.length/\∀v∈fs,∃i t,v=.int i t
 |[],[],_=>⟨[],trivial,rfl,by simp⟩
 |_::_,p::_,⟨⟨a,o,c,t,u,x1,x2,x3,x4⟩,r⟩=>by
  obtain⟨fs,y1,y2,y3⟩:=xS.tups r;subst x1;refine⟨.int p.1 t::fs,.cons x2 x3 x4 (by simp) y1,by simp[y2],?_⟩;intro v hv;rcases bG.1 hv with rfl|hv
  ·exact⟨_,_,rfl⟩
  ·exact y3 v hv
 |[],_::_,x=>x.elim
 |_::_,[],x=>x.elim
theorem jcj{ps:List (Int×Int)}(hi:xS s.heap vs ps)(h2:2<=vs.length):Ze prog w A vs (λi j=>qR (ps.getD i (0,0)) (ps.getD j (0,0))) s:=by
 unfold Ze;obtain⟨fs,y1,y2,y3⟩:=hi.tups;refine kat_kind (T:=.type "int") y1 (by omega) (λv hv=>?_) (by decide) ⟨rfl,λi j C h1 h3 q=>?_⟩
 ·obtain⟨i,t,rfl⟩:=y3 v hv;exact Looks.of_pure rfl
 ·obtain⟨a,o,c,t,u,e1,e2,e3,e4⟩:=hi.at_ i h1;obtain⟨a',o',c',t',u',f1,f2,f3,f4⟩:=hi.at_ j h3;unfold kas_ask;rw[e1,f1];replace q:C (qR (ps.getD i (0,0)) (ps.getD j (0,0))) s:=q;generalize ps.getD i (0,0)=x at *;generalize ps.getD j (0,0)=y at *;refine kat_lt e2 e4 f2 f4 (kat_cons (wU (kat_go (λh=>kat_yes (kat_cons (wU (kat_go (λh'=>kat_yes (kat_nil ?_)) λh'=>kat_no ?_)))) λh=>kat_no ?_)))
  ·have z1:x.1=y.1:=by simpa using h
   have z2:x.2=y.2:=by simpa using h'
   have e:qR x y=false:=by simp[qR];omega
   simpa[e]using q
  ·have z1:x.1=y.1:=by simpa using h
   have z2:¬ x.2=y.2:=by simpa using h'
   have e:qR x y=decide (x.2<y.2):=by simp[qR,z1]
   have eb:(pR "int" != pR "tuple" && (0+1:Nat) == 0)=false:=by simp
   rw[e]at q;rw[eb];exact kat_one _ _ (wpAny_lt_int q)
  ·have z1:¬ x.1=y.1:=by simpa using h
   have e:qR x y=decide (x.1<y.1):=by simp[qR,z1]
   have eb:(pR "int" != pR "tuple" && (0:Nat) == 0)=true:=by decide
   rw[e]at q;rw[eb];exact oneLt_int q
theorem jcM(ps:List (Int×Int)):Ord (λi j=>qR (ps.getD i (0,0)) (ps.getD j (0,0))) where
 asy a b h:=by unfold qR at h ⊢;grind
 tr a b c h1 h2:=by unfold qR at h1 h2 ⊢;grind
end
end Z
namespace Z
open PySem PySem.Spec PyProof.Rows L2
abbrev eob(it:Addr)(i:Int)(f0:bq)(f1:Bool)(old:bq):mE:={ cls:=.type "enumerate",dict:=bc,data:=.fields #[f0,.bool f1,.ref it,rawInt i,.none,old],slots:=#[] }
variable{i:bU}{Q:Option bq->Shared->Prop}{k:Nat}{xs:Array bq}{x:bF}
section
variable {prog:dg} {w:World} {A:gz} {E:bq->Shared->Prop} {s:Shared} {e it l:Addr}
theorem jfl{i:Int}{f0 old:bq}{f1:Bool}{Q:Bool->Shared->Prop}(hz:s.heap.get? e=ba (eob it i f0 f1 old))(hf:ZF f0)(q:∀b h₁ g1,h₁.get? e=ba (eob it i f0 g1 old)->mq e s.heap h₁->Q b { s with heap:=h₁ }) :
 wpAny (model prog w) A (dO (.ref e)) Q E s:=by
 unfold dO;rcases hf with rfl|⟨T,rfl⟩
 ·exact bo (dJ hz rfl (x:=.none) rfl (bA (q bh s.heap f1 hz (mB ..))))
 ·refine bo (dJ hz rfl (x:=rawInt T) rfl ?_);refine bo (m:=jhC (T:Int).toNat) (vt ?_)
  cases hT:s.heap.get? (T:Int).toNat with
  |none=>exact bA (q bh s.heap f1 hz (mB ..))
  |some o =>
   refine bo (m:=field (.ref e) 1) (dJ hz rfl (x:=.bool f1) rfl ?_)
   cases f1 with
   |true=>exact bA (q bj s.heap bh hz (mB ..))
   |false=>exact bo (m:=pJ (.ref e) 1 (.bool bh)) (dZ hz (by simp) λh₁ k1 k2=>bA (q bj h₁ bh k1 k2))
structure ESt (e it l:Addr) (k:Nat) (h:dR):Prop where
 enm:∃f0 f1 old,ZF f0/\h.get? e=ba (eob it k f0 f1 old)
 one:h.IsListIter it l k
theorem jfN{x:bq}(hne:e≠it)(st:ESt e it l k s.heap)(hl:s.heap.IsList l xs)(hx:xs[k]?=ba x)
 (q:∀T h₂,ESt e it l (k+1) h₂->s.heap.objs.size<=T->h₂.get? T=ba (xU (.int k s.toks) x)->(∀b o,b ∉ [e,it]->s.heap.get? b=ba o->h₂.get? b=ba o)->Q (ba (.ref T)) { s with heap:=h₂,toks:=s.toks+1 }) :
 wpAny (model prog w) A (pyNext (.ref e)) Q E s:=by
 obtain⟨⟨f0,f1,old,hf,he⟩,hit⟩:=st
 have ty:s.TypeIs (.ref e) "enumerate":=⟨_,he,rfl⟩
 unfold pyNext;refine bo (pK (mC (name:=nK "__next__") ty mX (mn mX ty jhe ?_ (jgZ _))));obtain⟨hp,g,d,tk,os⟩:=s;show wpAny _ _ (field (.ref e) 2 >>= _) _ _ _;refine bo (dJ he rfl (x:=.ref it) rfl ?_);refine bo (gM hit hl hx λh₁ hit₁ hs₁=>?_);replace hs₁:mq it hp h₁:=hs₁;have he₁:h₁.get? e=ba (eob it k f0 f1 old):=(hs₁.2 e hne).trans he;show wpAny _ _ (field (.ref e) 3 >>= _) _ _ ⟨h₁,g,d,tk,os⟩;refine bo (dJ he₁ rfl (x:=rawInt k) rfl ?_);show wpAny _ _ (field (.ref e) 4 >>= _) _ _ ⟨h₁,g,d,tk,os⟩;refine bo (dJ he₁ rfl (x:=.none) rfl ?_);show wpAny _ _ (mkInt k >>= _) _ _ ⟨h₁,g,d,tk,os⟩;refine bo (wpAny_mkInt ?_);show wpAny _ _ (pJ (.ref e) 3 (rawInt ((k:Int)+1)) >>= _) _ _ ⟨h₁,g,d,tk+1,os⟩;refine bo (dZ he₁ (by simp) λh₂ he₂ hs₂=>?_);replace hs₂:mq e h₁ h₂:=hs₂;replace he₂:h₂.get? e=ba (eob it ((k:Int)+1) f0 f1 old):=he₂;show wpAny _ _ (pJ (.ref e) 4 .none >>= _) _ _ ⟨h₂,g,d,tk+1,os⟩;refine bo (dZ he₂ (by simp) λh₃ he₃ hs₃=>?_);replace hs₃:mq e h₂ h₃:=hs₃;replace he₃:h₃.get? e=ba (eob it ((k:Int)+1) f0 f1 old):=he₃;show wpAny _ _ (newTuple [.int k tk,x] >>= _) _ _ ⟨h₃,g,d,tk+1,os⟩;refine bo (wg ?_);have he₄:(h₃.push (xU (.int k tk) x)).get? e=ba (eob it ((k:Int)+1) f0 f1 old):=bu _ he₃;generalize hh₄:h₃.push (xU (.int k tk) x)=h₄ at he₄
 have hsz:h₃.objs.size=hp.objs.size:=by rw[hs₃.1,hs₂.1,hs₁.1]
 have hel:e<hp.objs.size:=bH he
 have ht₄:h₄.get? hp.objs.size=ba (xU (.int k tk) x):=by rw[<- hh₄,<- hsz];exact bM _ rfl
 have hk₄:∀b o,b ∉ [e,it]->hp.get? b=ba o->h₄.get? b=ba o:=λb o hb e=>by
  simp only[bG,bV,or_false,not_or]at hb;rw[<- hh₄];exact bu _ (hs₃.extBut b o hb.1 (hs₂.extBut b o hb.1 (hs₁.extBut b o hb.2 e)))
 have hit₄:h₄.IsListIter it l (k+1):=by
  rw[<- hh₄];obtain⟨o,ho,r⟩:=(hit₁.extBut hs₂.extBut (gC hne)).extBut hs₃.extBut (gC hne);exact⟨o,bu _ ho,r⟩
 have hc:((k+1:Nat):Int)=(k:Int)+1:=by simp
 show wpAny _ _ (dO (.ref e) >>= _) _ _ ⟨h₄,g,d,tk+1,os⟩;rw[hsz];refine bo (jfl he₄ hf λfr h₅ g1 he₅ hs₅=>?_);replace hs₅:mq e h₄ h₅:=hs₅;have ht₅:h₅.get? hp.objs.size=ba (xU (.int k tk) x):=hs₅.extBut _ _ (nh hel) ht₄
 have hk₅:∀b o,b ∉ [e,it]->hp.get? b=ba o->h₅.get? b=ba o:=λb o hb z=>by
  have hb':=hb;simp only[bG,bV,or_false,not_or]at hb';exact hs₅.extBut b o hb'.1 (hk₄ b o hb z)
 have hit₅:=hit₄.extBut hs₅.extBut (gC hne)
 cases fr with
 |false =>
  simp only[du,if_false]
  exact bA ⟨_,rfl,bA (q _ h₅ ⟨⟨f0,g1,old,hf,by rw[hc];exact he₅⟩,hit₅⟩ (bN _) ht₅ hk₅)⟩
 |true =>
  simp only[if_true];refine bo (jic ?_);refine bo (m:=field (.ref e) 5) (dJ he₅ rfl (x:=old) rfl ?_);refine bo (m:=pJ (.ref e) 5 x) (dZ he₅ (by simp) λh₆ he₆ hs₆=>?_);refine bo (m:=gO (.ref e) (.ref hp.objs.size)) ?_;unfold gO;refine bo (m:=pJ (.ref e) 0 (rawInt hp.objs.size)) (dZ he₆ (by simp) λh₇ he₇ hs₇=>dZ he₇ (by simp) λh₈ he₈ hs₈=>?_)
  have up:∀b o,b≠e->h₅.get? b=ba o->h₈.get? b=ba o:=λb o hb z=>hs₈.extBut b o hb (hs₇.extBut b o hb (hs₆.extBut b o hb z))
  refine bo (mz (bA ⟨_,rfl,bA (q hp.objs.size h₈ ⟨⟨rawInt hp.objs.size,bj,x,.inr ⟨_,rfl⟩,by rw[hc];exact he₈⟩,hit₅.at λo z=>up _ o (gC hne) z⟩ (bN _) (up _ _ (nh hel) ht₅) λb o hb z=>?_)⟩));have hb':=hb;simp only[bG,bV,or_false,not_or]at hb';exact up b o hb'.1 (hk₅ b o hb z)
theorem jgw(hh:A.handled=bc)(hne:e≠it)(st:ESt e it l k s.heap)(hl:s.heap.IsList l xs)(hx:xs[k]?=bc)
 (q:∀h₂,(∀b o,b ∉ [e,it]->s.heap.get? b=ba o->h₂.get? b=ba o)->Q bc { s with heap:=h₂ }):wpAny (model prog w) A (pyNext (.ref e)) Q E s:=by
 obtain⟨⟨f0,f1,old,hf,he⟩,hit⟩:=st
 have ty:s.TypeIs (.ref e) "enumerate":=⟨_,he,rfl⟩
 unfold pyNext;refine bo (pK (mC (name:=nK "__next__") ty mX (mn mX ty jhe ?_ (jgZ _))));show wpAny _ _ (field (.ref e) 2 >>= _) _ _ _;refine bo (dJ he rfl (x:=.ref it) rfl ?_);refine bo (mV hh hit hl hx λh' x he' hx'=>?_);obtain⟨o,ho,hc⟩:=hx';refine bo (w5 (T:="StopIteration") (b:=bh) ⟨o,ho,hc⟩ isSubtype_stop ?_);refine bA (q _ λb o hb z=>he' b o ?_ z);simp only[bG,bV,or_false,not_or]at hb;exact hb.2
end
def Ite(K:bx)(l:Addr):It:=⟨λi H=>∃xs x,SqL K H l xs/\xs[i]?=ba x,
 λi H v H'=>∃T x,v=.ref T/\H T=bc/\(∀xs,SqL K H l xs->xs[i]?=ba x)/\H'=upd H T (.tup [.int i,x]),λi H=>∃xs,SqL K H l xs/\xs.length<=i⟩
variable{P:dg}{w:World}{K:bx}{px:Pos}{e l:bU}{it:Addr}
theorem ZU{e l:Addr}(hne:e≠it):Turn P w K (.Name x px) (Ite K l) [e,it] e (λi h=>ESt e it l i h) where
 mem:=by simp
 obj:=λi h st b hb=>by
  obtain⟨⟨f0,f1,old,hf,hz⟩,⟨o1,e1,_,d1⟩⟩:=st;simp only[bG,bV,or_false]at hb;rcases hb with rfl|rfl
  ·exact⟨_,hz,λv q=>by cases q⟩
  ·exact⟨_,e1,λv q=>by rw[d1]at q;cases q⟩
 keep:=λi h h' st k=>by
  obtain⟨⟨f0,f1,old,hf,hz⟩,o1⟩:=st;exact⟨⟨f0,f1,old,hf,k e (by simp) _ hz⟩,o1.at λo z=>k it (by simp) o z⟩
 item:=by
  intro X hP hw hK hc i pins s σ H E I hf st hg;subst hP hw hK;obtain⟨xs,xv,q1,e1⟩:=hg;obtain⟨its1,r1,p1,_⟩:=I.list q1;obtain⟨u1,hu1,ru1⟩:=r1.get e1
  refine jfN hne st p1.isList (x:=u1) (by simpa using hu1) λT h₂ st₂ hT ht k=>⟨.ref T,rfl,ZE ?_⟩
  have fT:H T=none:=I.hok.fresh hT;have I2:Inv X pins σ (upd H T (.tup [.int i,xv])) { s with heap:=h₂ }:=Inv.turnedL (ch:=[e,it]) (us:=[.int i s.toks,u1]) I hf k hT ht (.cons ⟨_,rfl⟩ (.cons ru1 .nil)) (by show 2<=sizeLine;decide);refine⟨.ref T,upd H T (.tup [.int i,xv]),I2.tok _,rfl,⟨T,xv,rfl,fT,λzs hz=>by rw[I.list_inj hz q1];exact e1,rfl⟩,st₂,λb hb=>?_⟩
  obtain⟨o,eo,_⟩:∃o,s.heap.get? b=ba o/\True:=by
   obtain⟨⟨f0,f1,old,hf',hz⟩,⟨o1,w1,_,_⟩⟩:=st;simp only[bG,bV,or_false]at hb;rcases hb with rfl|rfl
   ·exact⟨_,hz,trivial⟩
   ·exact⟨_,w1,trivial⟩
  rw[je λq=>absurd (bH eo) (by rw[q];exact sU.mpr hT)];exact(hf b hb).1
 done:=by
  intro X hP hw hK hc i pins s σ H E I hf st hg;subst hP hw hK;obtain⟨xs,q1,hl⟩:=hg;obtain⟨its1,r1,p1,_⟩:=I.list q1;have n1:=r1.length
  refine jgw (I.ok.hd hc) hne st p1.isList (by simp;lia) λh₂ k=>⟨rfl,?_⟩
  exact Inv.turnedN (ch:=[e,it]) I hf k
 self:=λA i s Q E st h=>by
  obtain⟨⟨f0,f1,old,hf,hz⟩,_⟩:=st
  have ty:s.TypeIs (.ref e) "enumerate":=⟨_,hz,rfl⟩
  refine jix ty jhp (mn jhp ty F.entry_enumerate_iter ?_ (F.args_enumerate_iter_1 _));exact bA (M:=model P w) ⟨_,rfl,"enumerate",_,ty,mX.lookup,h⟩
def jgX(K:bx)(ta:TA):TI:=λσ H R=>ta σ H λvs H1=>∃l,vs=[.ref l]/\(∃xs,SqL K H1 l xs)/\R (Ite K l) H1
variable{p pos:Pos}{a:bU}{as:List Addr}{ta:TA}
theorem K8{X:Cx}{as:List bU}(hg:Gl X "enumerate")(hm:X.mg "enumerate"=bc)(ha:PA X (a::as) ta)(hs:bY (a::as) X.env=(bj,eval a X.env)::bY as X.env)(hpl:(backTo pos (bY as X.env)).any (·.1)=bj) :
 PI X (.Name x px) (.Call (.Name "enumerate" p) (a::as) [] pos) (jgX X.K ta):=by
 intro pins s σ H R I h;refine Call_ (uC I hg hm boot_enumerate (mJ (thn (ha pos pins s σ H _ I h) λus s1 ⟨vs,H1,I1,r1,q1⟩=>?_) hs hpl));obtain⟨l,rfl,⟨xs,hx⟩,q⟩:=q1;obtain⟨u1,rfl,e1⟩:=qf r1;cases e1;obtain⟨its1,r1,p1,_⟩:=I1.list hx
 refine call_enumerate_list p1.isList λh₂ he hi _ hk=>?_
 refine wpAny_pyIter_enum (s:={ s1 with heap:=h₂ }) he ⟨_,_,_,_,H1,rfl,I1.kept (t':=s1.toks) hk,ZU (Nat.succ_ne_self _),⟨⟨.none,bj,.none,.inl rfl,he⟩,hi⟩,λb hb=>?_,q⟩
 have hb':s1.heap.objs.size<=b:=by
  simp only[bG,bV,or_false]at hb
  rcases hb with rfl|rfl<;>lia
 exact I1.fpOk hb' (I1.hok.fresh hb')
structure Ck where
 N:List bF
 names:List (bF×mR)
 fns:List (bF×Nat)
 cns:List bF
 cls:List bF:=[]
 rz:Bool:=bj
 rs:Bool:=bj
 al:Bool:=bh
def Ck.loc(k:Ck)(i:Nat)(x:bF):Bool :=
 decide (k.N[i]?=ba x)&&(decide (k.names.lookup x=ba .local) ||decide (k.names.lookup x=ba .cell)) && !(x == ("__debug__":bF)) && !(x == ("__classdict__":bF))
def Ck.gl(k:Ck)(x:bF):Bool:=decide (k.names.lookup x=ba .globalImplicit) && !(x == ("__debug__":bF))&&decide (x≠("__name__":bF))
def BOp.op:BOp->t5
 |.add=>.Add
 |.sub=>.Sub
 |.mul=>.Mult
 |.fdiv=>.FloorDiv
 |.mod=>.Mod
 |.shl=>.LShift
 |.band=>.BitAnd
def jds(o:BOp)(op:t5):Bool:=decide (op=o.op)
variable{o:COp}
theorem jfJ{o:BOp}{op:t5}(h:jds o op=bh):op=o.op:=of_decide_eq_true h
def COp.op:COp->tP
 |.eq=>.Eq
 |.ne=>.NotEq
 |.lt=>.Lt
 |.le=>.LtE
 |.gt=>.Gt
 |.ge=>.GtE
 |.inn=>.In
 |.nin=>.NotIn
def cOk(o:COp)(op:tP)(_:bU):Bool:=decide (op=o.op)
theorem jgI{op:tP}(h:cOk o op e=bh):op=o.op:=of_decide_eq_true h
def yJ:D->Const->Bool
 |.non,.none=>bh
 |.bl b,.bool c=>b == c
 |.int i,.int j=>decide (i=j)
 |.str x,.str y=>decide (x=y)&&b9 x
 |_,_=>bj
def Bi.nm:Bi->bF
 |.abs=>"abs"
 |.max=>"max"
 |.mxl=>"max"
 |.min=>"min"
 |.len=>"len"
 |.int=>"int"
 |.list=>"list"
 |.sum=>"sum"
 |.all=>"all"
 |.any=>"any"
 |.dvm=>"divmod"
 |.tuple=>"tuple"
 |.str=>"str"
 |.srt=>"sorted"
def Ty.nm:Ty->bF
 |.int=>"int"
 |.bool=>"bool"
 |.tuple=>"tuple"
 |.list=>"list"
 |.str=>"str"
def Mt.nm:Mt->bF
 |.bitlen=>"bit_length"
def qZ:bU->Bool
 |.Call (.Name _ _) [] [] _=>bj
 |_=>bh
def zA:bU->Bool
 |.Slice ..=>bh
 |_=>bj
def jo:bU->Option bF
 |.Name x _=>ba x
 |_=>bc
def ku:bU->Option Const
 |.Constant c _ _=>ba c
 |_=>bc
def Xj:bU->Option (bU×t5×bU)
 |.BinOp l o r _=>ba (l,o,r)
 |_=>bc
def jaG:bU->Option (jjT×bU)
 |.UnaryOp o e _=>ba (o,e)
 |_=>bc
def vj:bU->Option (bU×List tP×List bU)
 |.Compare l o r _=>ba (l,o,r)
 |_=>bc
def vJ:bU->Option (BoolOp×List bU×Pos)
 |.BoolOp o vs p=>ba (o,vs,p)
 |_=>bc
def U0:bU->Option (bU×bU×bU)
 |.IfExp t x y _=>ba (t,x,y)
 |_=>bc
def QX:bU->Option (List bU)
 |.Tuple xs _ _=>ba xs
 |_=>bc
def Jf:bU->Option (List bU)
 |.List xs _=>ba xs
 |_=>bc
def Kg:bU->Option (bU×bU)
 |.Subscript v i _=>ba (v,i)
 |_=>bc
def qm:bU->Option (bU×List bU×List jir×Pos)
 |.Call f xs ks p=>ba (f,xs,ks,p)
 |_=>bc
def kL:bU->Option (bU×bF×Pos)
 |.Attribute v x p=>ba (v,x,p)
 |_=>bc
variable{α β:Type}
def jf8(f:β->Option α)(R:α->β->Prop)(e:β):Prop:=∀x,f e=ba x->R x e
theorem nI{f:β->Option α}{R:α->β->Prop}{e:β}(h:f e=bc):jf8 f R e:=λx k=>by rw[h]at k;exact nomatch k
theorem inv{f:β->Option α}(R:α->β->Prop){e:β}{x:α}(h:f e=ba x)(k:jf8 f R e):R x e:=k x h
local macro_rules | `(tactic|exists ($r),$h:ident,$e:ident)=>`(tactic|(refine Z.inv ($r) $h ?_;clear $h;(first|induction $e:ident using jif|induction $e:ident using jig)<;>first|exact Z.nI rfl|(intro x h;cases h;first|rfl|exact⟨_,rfl⟩|exact⟨_,_,rfl⟩)))
theorem jK(h:jo e=ba x):∃p,e=.Name x p:=by exists (λx e=>∃p,e=.Name x p),h,e
theorem xg{x:Const}(h:ku e=ba x):∃j p,e=.Constant x j p:=by exists (λx e=>∃j p,e=.Constant x j p),h,e
variable{r:List bU}
theorem X8{r:bU}{o:t5}(h:Xj e=ba (l,o,r)):∃p,e=.BinOp l o r p:=by exists (λx e=>∃p,e=.BinOp x.1 x.2.1 x.2.2 p),h,e
theorem jdb{o:jjT}(h:jaG e=ba (o,l)):∃p,e=.UnaryOp o l p:=by exists (λx e=>∃p,e=.UnaryOp x.1 x.2 p),h,e
theorem VR{o:List tP}(h:vj e=ba (l,o,r)):∃p,e=.Compare l o r p:=by exists (λx e=>∃p,e=.Compare x.1 x.2.1 x.2.2 p),h,e
theorem Zd{o:BoolOp}(h:vJ e=ba (o,r,p)):e=.BoolOp o r p:=by exists (λx e=>e=.BoolOp x.1 x.2.1 x.2.2),h,e
variable{t:TS}{y:bF}
theorem jda{t x y:bU}(h:U0 e=ba (t,x,y)):∃p,e=.IfExp t x y p:=by exists (λx e=>∃p,e=.IfExp x.1 x.2.1 x.2.2 p),h,e
variable{xs:List bU}
theorem ja8(h:QX e=ba xs):∃j p,e=.Tuple xs j p:=by exists (λx e=>∃j p,e=.Tuple x j p),h,e
theorem X3(h:Jf e=ba xs):∃p,e=.List xs p:=by exists (λx e=>∃p,e=.List x p),h,e
theorem ja3{v:bU}(h:Kg e=ba (v,i)):∃p,e=.Subscript v i p:=by exists (λx e=>∃p,e=.Subscript x.1 x.2 p),h,e
variable{f:bU}
theorem KG{ks:List jir}(h:qm e=ba (f,xs,ks,p)):e=.Call f xs ks p:=by exists (λx e=>e=.Call x.1 x.2.1 x.2.2.1 x.2.2.2),h,e
theorem Za{v:bU}(h:kL e=ba (v,x,p)):e=.Attribute v x p:=by exists (λx e=>e=.Attribute x.1 x.2.1 x.2.2),h,e
def jI(e:bU):Option (bF×List bU×Pos):=(qm e).bind λc=>if c.2.2.1.isEmpty then (jo c.1).map λx=>(x,c.2.1,c.2.2.2) else bc
theorem yk(h:jI e=ba (x,xs,p)):∃q,e=.Call (.Name x q) xs [] p:=by
 unfold jI at h
 cases c:qm e with
 |none=>rw[c]at h;cases h
 |some c' =>
  obtain⟨f,ys,ks,p'⟩:=c';rw[c]at h;have e1:=KG c
  cases ks with
  |nil =>
   cases n:jo f with
   |none=>simp[n]at h
   |some y =>
    simp[n]at h;obtain⟨q,e2⟩:=jK n;obtain⟨rfl,rfl,rfl⟩:=h
    exact⟨q,by rw[e1,e2]⟩
  |cons _ _=>simp at h
def Jg:bU->Bool
 |.Set ..=>bh
 |_=>bj
def UD:bU->Option (bU×List jh1×Scope)
 |.ListComp a b c _=>ba (a,b,c)
 |_=>bc
variable{b:Bool}{c:Scope}
theorem ja7{b:List jh1}(h:UD e=ba (a,b,c)):∃p,e=.ListComp a b c p:=by exists (λx e=>∃p,e=.ListComp x.1 x.2.1 x.2.2 p),h,e
def xT(e:bU):Option (bU×bF×bU×Scope):=(UD e).bind λz=>match z.2.1 with
 |[g]=>if g.ifs.isEmpty&&decide (g.is_async=0) then (jo g.target).map λx=>(z.1,x,g.iter,z.2.2) else bc
 |_=>bc
theorem KI(h:xT e=ba (a,x,i,c)):∃px p,e=.ListComp a [⟨.Name x px,i,[],0⟩] c p:=by
 unfold xT at h
 cases z:UD e with
 |none=>rw[z]at h;cases h
 |some y =>
  obtain⟨a',b,c'⟩:=y;obtain⟨p,rfl⟩:=ja7 z;rw[z]at h;simp only[nJ]at h;split at h
  ·next g =>
   obtain⟨tg,it,ifs,asy⟩:=g;simp only at h;split at h
   ·next hc =>
    simp only[bz,td,decide_eq_true_eq]at hc;obtain⟨rfl,rfl⟩:=hc
    cases n:jo tg with
    |none=>rw[n]at h;cases h
    |some y =>
     rw[n]at h;obtain⟨px,rfl⟩:=jK n;cases h;exact⟨px,p,rfl⟩
   ·cases h
  ·cases h
def u9(e:bU):Option (bU×bF×bU×Scope×bU):=(UD e).bind λz=>match z.2.1 with
 |[g]=>match g.ifs with
  |[c]=>if decide (g.is_async=0) then (jo g.target).map λx=>(z.1,x,g.iter,z.2.2,c) else bc
  |_=>bc
 |_=>bc
theorem QT(h:u9 e=ba (a,x,i,c,f)):∃px p,e=.ListComp a [⟨.Name x px,i,[f],0⟩] c p:=by
 unfold u9 at h
 cases z:UD e with
 |none=>rw[z]at h;cases h
 |some y =>
  obtain⟨a',b,c'⟩:=y;obtain⟨p,rfl⟩:=ja7 z;rw[z]at h;simp only[nJ]at h;split at h
  ·next g =>
   obtain⟨tg,it,ifs,asy⟩:=g;simp only at h;split at h
   ·next cc =>
    split at h
    ·next hc =>
     simp only[decide_eq_true_eq]at hc;subst hc
     cases n:jo tg with
     |none=>rw[n]at h;cases h
     |some y =>
      rw[n]at h;obtain⟨px,rfl⟩:=jK n;cases h;exact⟨px,p,rfl⟩
    ·cases h
   ·cases h
  ·cases h
def Q7(names out:List (bF×mR)):List (bF×mR):=names.map λ(n,k)=>if (k == .free&&out.lookup n == ba .cell) then (n,.cell) else (n,k)
def Ck.block(k:Ck)(x:bF)(sc:Scope):Ck:={ k with N:=qv k.N x,names:=Q7 sc.names k.names }
def compCk(k:Ck)(x:bF)(sc:Scope):Bool :=
 (sc.kind == .function)&&decide ((sc.names.filter λy=>y.2 == .cell)=if sc.names.lookup x=ba .cell then [(x,.cell)] else [])&&(sc.names.all λy=>!(y.2 == .local) ||decide (sc.names.lookup y.1=ba .local))&&(decide (sc.names.lookup x=ba .local) ||decide (sc.names.lookup x=ba .cell)) &&
  (sc.names.all λy=>!(y.2 == .local) ||decide (y.1=x) ||(!(k.N.contains y.1)&&decide (y.1≠(dum k.N))))&&(sc.names.all λy=>!(y.2 == .free) ||decide (k.names.lookup y.1=ba .cell) ||decide (k.names.lookup y.1=ba .free)) &&
  decide (x≠(dum k.N))&&decide (k.names.lookup (dum k.N)=bc) && !(k.N.contains (dum k.N))
def j6:bU->Bool
 |.Starred .. |.Set .. |.SetComp .. |.DictComp .. |.Slice ..=>bj
 |_=>bh
def vd:bU->Option (Option bU×Option bU)
 |.Slice lo hi bc _=>ba (lo,hi)
 |_=>bc
variable{lo:Option bU}
theorem jaK{hi:Option bU}(h:vd e=ba (lo,hi)):∃p,e=.Slice lo hi bc p:=by
 unfold vd at h;split at h
 ·cases h;exact⟨_,rfl⟩
 ·cases h
def Yc:bU->Option (List bU)
 |.JoinedStr vs _=>ba vs
 |_=>bc
variable{vs:List V}
theorem Zz{vs:List bU}(h:Yc e=ba vs):∃p,e=.JoinedStr vs p:=by exists (λx e=>∃p,e=.JoinedStr x p),h,e
def jck:bU->Option bU
 |.FormattedValue v (-1) bc _=>ba v
 |_=>bc
theorem jf5{v:bU}(h:jck e=ba v):∃p,e=.FormattedValue v (-1) bc p:=by
 unfold jck at h;split at h
 ·cases h;exact⟨_,rfl⟩
 ·cases h
def cstPart:Ex->bU->Bool
 |.cst (.str z),.Constant (.str y) _ _=>decide (z=y)
 |_,_=>bj
theorem Xc{x:Ex}(h:cstPart x e=bh):∃z j p,x=.cst (.str z)/\e=.Constant (.str z) j p:=by
 unfold cstPart at h;split at h
 ·cases of_decide_eq_true h;exact⟨_,_,_,rfl,rfl⟩
 ·cases h
mutual
noncomputable def chkE:Ck->Ex->bU->Bool
 |k,.var i,e=>(jo e).any λx=>k.loc i x
 |k,.cst d,e=>(ku e).any λc=>yJ d c
 |k,.con i,e=>(jo e).any λx=>decide (k.cns[i]?=ba x)&&k.gl x
 |k,.bin o a b,e=>(Xj e).any λz=>jds o z.2.1&&chkE k a z.1&&chkE k b z.2.2
 |k,.neg a,e=>(jaG e).any λz=>decide (z.1=.USub)&&chkE k a z.2
 |k,.not a,e=>(jaG e).any λz=>decide (z.1=.Not)&&chkE k a z.2
 |k,.cmp o a b,e=>(vj e).any λz=>decide (z.2.1.length=1)&&decide (z.2.2.length=1)&&cOk o (z.2.1.getD 0 .Eq) (z.2.2.getD 0 e)&&chkE k a z.1&&chkE k b (z.2.2.getD 0 e)
 |k,.chain o p a b c,e=>(vj e).any λz=>decide (z.2.1.length=2)&&decide (z.2.2.length=2)&&cOk o (z.2.1.getD 0 .Eq) (z.2.2.getD 0 e)&&cOk p (z.2.1.getD 1 .Eq) (z.2.2.getD 1 e)&&chkE k a z.1&&chkE k b (z.2.2.getD 0 e)&&chkE k c (z.2.2.getD 1 e)
 |k,.and a b,e=>(vJ e).any λz=>decide (z.1=.And)&&decide (2<=z.2.1.length)&&chkE k a (z.2.1.getD 0 e)&&(if z.2.1.length=2 then chkE k b (z.2.1.getD 1 e) else chkE k b (.BoolOp .And (z.2.1.drop 1) z.2.2))
 |k,.or a b,e=>(vJ e).any λz=>decide (z.1=.Or)&&decide (2<=z.2.1.length)&&chkE k a (z.2.1.getD 0 e)&&(if z.2.1.length=2 then chkE k b (z.2.1.getD 1 e) else chkE k b (.BoolOp .Or (z.2.1.drop 1) z.2.2))
 |k,.ife c a b,e=>(U0 e).any λz=>chkE k c z.1&&chkE k a z.2.1&&chkE k b z.2.2
 |k,.tup es,e=>(QX e).any λxs=>decide (xs.length<=1000)&&qk k es xs
 |k,.lst es,e=>(Jf e).any λxs=>decide (xs.length<=1000)&&qk k es xs
 |k,.ix a b,e=>(Kg e).any λz=>!zA z.2&&chkE k a z.1&&chkE k b z.2
 |k,.call f es,e=>(jI e).any λz=>decide (k.fns[f]?=ba (z.1,z.2.1.length))&&k.gl z.1&&qk k es z.2.1
 |k,.bi f es,e=>(jI e).any λz=>decide (z.1=f.nm)&&k.gl z.1 && !z.2.1.isEmpty&&qk k es z.2.1
 |k,.meth m o,e=>(qm e).any λz=>z.2.1.isEmpty&&z.2.2.1.isEmpty&&(kL z.1).any λy=>decide (y.2.1=m.nm)&&qZ y.1&&(y.2.2.endLine == z.2.2.2.line)&&chkE k o y.1
 |k,.isi a t,e=>(jI e).any λz=>decide (z.1=("isinstance":bF))&&k.gl z.1&&decide (z.2.1.length=2)&&decide (jo (z.2.1.getD 1 e)=ba t.nm)&&k.gl t.nm&&chkE k a (z.2.1.getD 0 e)
 |k,.compR es b,e=>(xT e).any λz=>compCk k z.2.1 z.2.2.2&&((jI z.2.2.1).any λc=>decide (c.1=("range":bF))&&k.gl c.1 && !c.2.1.isEmpty&&qk k es c.2.1)&&chkE (k.block z.2.1 z.2.2.2) b z.1
 |k,.compE a b,e=>(xT e).any λz=>compCk k z.2.1 z.2.2.2 && !Jg z.2.2.1&&chkE k a z.2.2.1&&chkE (k.block z.2.1 z.2.2.2) b z.1
 |k,.compF a c b,e=>(u9 e).any λz=>compCk k z.2.1 z.2.2.2.1 && !Jg z.2.2.1&&chkE k a z.2.2.1&&chkE (k.block z.2.1 z.2.2.2.1) c z.2.2.2.2&&chkE (k.block z.2.1 z.2.2.2.1) b z.1
 |k,.compZ a b c,e=>(xT e).any λz=>compCk k z.2.1 z.2.2.2&&((jI z.2.2.1).any λy=>decide (y.1=("zip":bF))&&k.gl y.1&&decide (y.2.1.length=2)&&chkE k a (y.2.1.getD 0 e)&&chkE k b (y.2.1.getD 1 e))&&chkE (k.block z.2.1 z.2.2.2) c z.1
 |k,.compN a c,e=>(xT e).any λz=>compCk k z.2.1 z.2.2.2&&((jI z.2.2.1).any λy=>decide (y.1=("enumerate":bF))&&k.gl y.1&&decide (y.2.1.length=1)&&chkE k a (y.2.1.getD 0 e))&&chkE (k.block z.2.1 z.2.2.2) c z.1
 |k,.slc a l h,e=>(Kg e).any λz=>(vd z.2).any λy=>chkE k a z.1&&(y.1.isNone == xN l)&&(y.2.isNone == xN h)&&(xN l ||chkE k l (y.1.getD e))&&(xN h ||chkE k h (y.2.getD e))
 |k,.lix a b,e=>(qm e).any λz=>z.2.2.1.isEmpty&&decide (z.2.1.length=1)&&((kL z.1).any λy=>decide (y.2.1=("index":bF))&&qZ y.1&&(y.2.2.endLine == z.2.2.2.line)&&chkE k a y.1)&&chkE k b (z.2.1.getD 0 e)
 |k,.sm o a b,e=>(qm e).any λz=>z.2.2.1.isEmpty&&decide (z.2.1.length=1)&&((kL z.1).any λy=>decide (y.2.1=o.nm)&&qZ y.1&&(y.2.2.endLine == z.2.2.2.line)&&chkE k a y.1)&&chkE k b (z.2.1.getD 0 e)
 |k,.fst es,e=>(Yc e).any λvs=>decide (2<=vs.length)&&JJ k es vs
noncomputable def JJ:Ck->List Ex->List bU->Bool
 |_,[],es=>es.isEmpty
 |k,e::es,xs=>(((jck (xs.getD 0 (.Name "" ⟨0,0,0,0⟩))).any λy=>chkE k e y) ||cstPart e (xs.getD 0 (.Name "" ⟨0,0,0,0⟩)))&&JJ k es (xs.drop 1)
noncomputable def qk:Ck->List Ex->List bU->Bool
 |_,[],es=>es.isEmpty
 |k,e::es,xs=>!xs.isEmpty&&chkE k e (xs.getD 0 (.Name "" ⟨0,0,0,0⟩))&&qk k es (xs.drop 1)
end
theorem qH{xs:List α}(h:xs.length=2):∃a b,xs=[a,b]:=by
 match xs,h with
 |[a,b],_=>exact⟨a,b,rfl⟩
theorem jz{xs:List α}(h:xs.length=1):∃a,xs=[a]:=by
 match xs,h with
 |[a],_=>exact⟨a,rfl⟩
theorem kZ{xs:List α}(h:(!xs.isEmpty)=bh):∃a b,xs=a::b:=by
 cases xs with
 |nil=>cases h
 |cons a b=>exact⟨a,b,rfl⟩
inductive OA {α:Type} (o:Option α) (f:α->Bool):Prop
 |mk (a:α) (e:o=ba a) (h:f a=bh)
theorem jf{o:Option α}{f:α->Bool}(h:o.any f=bh):OA o f:=by
 cases o with
 |none=>cases h
 |some a=>exact⟨a,rfl,h⟩
class Tb (m:Nat) (b:Bool) (p:outParam Prop):Prop where
 tb:b=bh->p
instance (priority:=low) tb_any {m:Nat} {b:Bool}:Tb m b (b=bh):=⟨id⟩
instance tb_and {m:Nat} {a b:Bool} {p q:Prop} [x:Tb m a p] [y:Tb m b q]:Tb m (a&&b) (p/\q):=⟨λh=>⟨x.tb ((bz _ _).mp h).1,y.tb ((bz _ _).mp h).2⟩⟩
instance tb_d0 {p:Prop} [i:Decidable p]:Tb 0 (decide p) p:=⟨of_decide_eq_true⟩
instance tb_d1 {p:Prop} [i:Decidable p]:Tb 1 (decide p) p:=⟨of_decide_eq_true⟩
instance tb_d2 {p:Prop} [i:Decidable p]:Tb 2 (decide p) p:=⟨of_decide_eq_true⟩
instance tb_n {b:Bool}:Tb 1 (!b) (b=bj):=⟨λh=>by cases b with|true=>cases h|false=>rfl⟩
instance tb_e {α:Type} {l:List α}:Tb 2 l.isEmpty (l=[]):=⟨td.mp⟩
variable{p:Addr}
theorem tb_(m:Nat){p:Prop}[x:Tb m b p](h:b=bh):p:=x.tb h
variable{a:Addr}
theorem ab_{a:Bool}{G:Prop}(h:(a&&b)=bh)(k:a=bh->b=bh->G):G:=k ((bz _ _).mp h).1 ((bz _ _).mp h).2
variable{a0 a1:Bool}
theorem an2(m:Nat){p0 p1 G:Prop}[Tb m a0 p0][Tb m a1 p1](h:(a0&&a1)=bh)(k:p0->p1->G):G:=ab_ h λx y=>k (tb_ m x) (tb_ m y)
variable{a2:Bool}
theorem an3(m:Nat){p0 p1 p2 G:Prop}[Tb m a0 p0][Tb m a1 p1][Tb m a2 p2](h:(a0&&a1&&a2)=bh)(k:p0->p1->p2->G):G:=ab_ h λx y=>an2 m x λz0 z1=>k z0 z1 (tb_ m y)
variable{a3:Bool}
theorem an4(m:Nat){p0 p1 p2 p3 G:Prop}[Tb m a0 p0][Tb m a1 p1][Tb m a2 p2][Tb m a3 p3](h:(a0&&a1&&a2&&a3)=bh)(k:p0->p1->p2->p3->G):G:=ab_ h λx y=>an3 m x λz0 z1 z2=>k z0 z1 z2 (tb_ m y)
variable{a4:Bool}{p4:Prop}
theorem an5(m:Nat){p0 p1 p2 p3 G:Prop}[Tb m a0 p0][Tb m a1 p1][Tb m a2 p2][Tb m a3 p3][Tb m a4 p4](h:(a0&&a1&&a2&&a3&&a4)=bh)(k:p0->p1->p2->p3->p4->G):G:=ab_ h λx y=>an4 m x λz0 z1 z2 z3=>k z0 z1 z2 z3 (tb_ m y)
variable{a5:Bool}{p5:Prop}
theorem an6(m:Nat){p0 p1 p2 p3 G:Prop}[Tb m a0 p0][Tb m a1 p1][Tb m a2 p2][Tb m a3 p3][Tb m a4 p4][Tb m a5 p5](h:(a0&&a1&&a2&&a3&&a4&&a5)=bh)(k:p0->p1->p2->p3->p4->p5->G):G:=ab_ h λx y=>an5 m x λz0 z1 z2 z3 z4=>k z0 z1 z2 z3 z4 (tb_ m y)
theorem an7(m:Nat){a6:Bool}{p0 p1 p2 p3 p6 G:Prop}[Tb m a0 p0][Tb m a1 p1][Tb m a2 p2][Tb m a3 p3][Tb m a4 p4][Tb m a5 p5][Tb m a6 p6](h:(a0&&a1&&a2&&a3&&a4&&a5&&a6)=bh)(k:p0->p1->p2->p3->p4->p5->p6->G):G:=ab_ h λx y=>an6 m x λz0 z1 z2 z3 z4 z5=>k z0 z1 z2 z3 z4 z5 (tb_ m y)
variable{t_:bU}{f_:List bU->Bool}
theorem anName{f_:bF->Bool}{G:Prop}(h:(jo t_).any f_=bh)(k_:∀x p,t_=.Name x p->f_ x=bh->G):G:=by
 obtain⟨x,z,h⟩:=jf h;obtain⟨p,q_⟩:=jK z;exact k_ x p q_ h
theorem anConst{f_:Const->Bool}{G:Prop}(h:(ku t_).any f_=bh)(k_:∀x j p,t_=.Constant x j p->f_ x=bh->G):G:=by
 obtain⟨x,z,h⟩:=jf h;obtain⟨j,p,q_⟩:=xg z;exact k_ x j p q_ h
theorem anBin{f_:bU×t5×bU->Bool}{G:Prop}(h:(Xj t_).any f_=bh)(k_:∀l o r p,t_=.BinOp l o r p->f_ (l,o,r)=bh->G):G:=by
 obtain⟨⟨l,o,r⟩,z,h⟩:=jf h;obtain⟨p,q_⟩:=X8 z;exact k_ l o r p q_ h
theorem anUn{f_:jjT×bU->Bool}{G:Prop}(h:(jaG t_).any f_=bh)(k_:∀o l p,t_=.UnaryOp o l p->f_ (o,l)=bh->G):G:=by
 obtain⟨⟨o,l⟩,z,h⟩:=jf h;obtain⟨p,q_⟩:=jdb z;exact k_ o l p q_ h
theorem anCmp{f_:bU×List tP×List bU->Bool}{G:Prop}(h:(vj t_).any f_=bh)(k_:∀l o r p,t_=.Compare l o r p->f_ (l,o,r)=bh->G):G:=by
 obtain⟨⟨l,o,r⟩,z,h⟩:=jf h;obtain⟨p,q_⟩:=VR z;exact k_ l o r p q_ h
theorem anBool{f_:BoolOp×List bU×Pos->Bool}{G:Prop}(h:(vJ t_).any f_=bh)(k_:∀o r p,t_=.BoolOp o r p->f_ (o,r,p)=bh->G):G:=by
 obtain⟨⟨o,r,p⟩,z,h⟩:=jf h;exact k_ o r p (Zd z) h
theorem anIf{f_:bU×bU×bU->Bool}{G:Prop}(h:(U0 t_).any f_=bh)(k_:∀t x y p,t_=.IfExp t x y p->f_ (t,x,y)=bh->G):G:=by
 obtain⟨⟨t,x,y⟩,z,h⟩:=jf h;obtain⟨p,q_⟩:=jda z;exact k_ t x y p q_ h
theorem anTup{G:Prop}(h:(QX t_).any f_=bh)(k_:∀xs j p,t_=.Tuple xs j p->f_ xs=bh->G):G:=by
 obtain⟨xs,z,h⟩:=jf h;obtain⟨j,p,q_⟩:=ja8 z;exact k_ xs j p q_ h
theorem anLst{G:Prop}(h:(Jf t_).any f_=bh)(k_:∀xs p,t_=.List xs p->f_ xs=bh->G):G:=by
 obtain⟨xs,z,h⟩:=jf h;obtain⟨p,q_⟩:=X3 z;exact k_ xs p q_ h
theorem anSub{f_:bU×bU->Bool}{G:Prop}(h:(Kg t_).any f_=bh)(k_:∀v i p,t_=.Subscript v i p->f_ (v,i)=bh->G):G:=by
 obtain⟨⟨v,i⟩,z,h⟩:=jf h;obtain⟨p,q_⟩:=ja3 z;exact k_ v i p q_ h
theorem anCall{f_:bU×List bU×List jir×Pos->Bool}{G:Prop}(h:(qm t_).any f_=bh)(k_:∀f xs ks p,t_=.Call f xs ks p->f_ (f,xs,ks,p)=bh->G):G:=by
 obtain⟨⟨f,xs,ks,p⟩,z,h⟩:=jf h;exact k_ f xs ks p (KG z) h
theorem anAttr{f_:bU×bF×Pos->Bool}{G:Prop}(h:(kL t_).any f_=bh)(k_:∀v x p,t_=.Attribute v x p->f_ (v,x,p)=bh->G):G:=by
 obtain⟨⟨v,x,p⟩,z,h⟩:=jf h;exact k_ v x p (Za z) h
theorem anCallN{f_:bF×List bU×Pos->Bool}{G:Prop}(h:(jI t_).any f_=bh)(k_:∀x xs p q,t_=.Call (.Name x q) xs [] p->f_ (x,xs,p)=bh->G):G:=by
 obtain⟨⟨x,xs,p⟩,z,h⟩:=jf h;obtain⟨q,q_⟩:=yk z;exact k_ x xs p q q_ h
theorem anComp{f_:bU×bF×bU×Scope->Bool}{G:Prop}(h:(xT t_).any f_=bh)(k_:∀a x i c px p,t_=.ListComp a [⟨.Name x px,i,[],0⟩] c p->f_ (a,x,i,c)=bh->G):G:=by
 obtain⟨⟨a,x,i,c⟩,z,h⟩:=jf h;obtain⟨px,p,q_⟩:=KI z;exact k_ a x i c px p q_ h
theorem anCompF{f_:bU×bF×bU×Scope×bU->Bool}{G:Prop}(h:(u9 t_).any f_=bh)(k_:∀a x i c f px p,t_=.ListComp a [⟨.Name x px,i,[f],0⟩] c p->f_ (a,x,i,c,f)=bh->G):G:=by
 obtain⟨⟨a,x,i,c,f⟩,z,h⟩:=jf h;obtain⟨px,p,q_⟩:=QT z;exact k_ a x i c f px p q_ h
theorem anSlice{f_:Option bU×Option bU->Bool}{G:Prop}(h:(vd t_).any f_=bh)(k_:∀lo hi p,t_=.Slice lo hi bc p->f_ (lo,hi)=bh->G):G:=by
 obtain⟨⟨lo,hi⟩,z,h⟩:=jf h;obtain⟨p,q_⟩:=jaK z;exact k_ lo hi p q_ h
theorem anJoin{G:Prop}(h:(Yc t_).any f_=bh)(k_:∀vs p,t_=.JoinedStr vs p->f_ vs=bh->G):G:=by
 obtain⟨vs,z,h⟩:=jf h;obtain⟨p,q_⟩:=Zz z;exact k_ vs p q_ h
def jaT(f x:bF)(d e:bU):Bool:=(jI e).any λc=>decide (c.1=f)&&decide (c.2.1.length=1)&&decide (jo (c.2.1.getD 0 d)=ba x)
variable{f:D->D->(D->Prop)->Prop}
theorem jet{f:bF}{d:bU}(h:jaT f x d e=bh):∃gp qp dp,e=.Call (.Name f gp) [.Name x qp] [] dp:=by
 unfold jaT at h
 exists Z.anCallN,h,f',ys,dp,gp
 exists Z.an3,0,h,e_,h2,h3;subst e_
 obtain⟨y,rfl⟩:=jz h2;obtain⟨qp,rfl⟩:=jK (show jo y=_ from h3);exact⟨_,_,_,rfl⟩
variable{k:Ck}{es:List bU}
theorem kr(h:qk k [] es=bh):es=[]:=by
 rw[qk]at h;simpa using h
inductive CC (k:Ck) (x:Ex) (xs:List Ex) (es:List bU):Prop
 |mk (y:bU) (ys:List bU) (e:es=y::ys) (h:chkE k x y=bh) (hs:qk k xs ys=bh)
variable{xs:List D}
theorem kh{x:Ex}{xs:List Ex}(h:qk k (x::xs) es=bh):CC k x xs es:=by
 rw[qk]at h
 cases es with
 |nil=>simp at h
 |cons y ys =>
  simp only[bz,pF,nG]at h;exact⟨y,ys,rfl,h.1.2,h.2⟩
theorem uf{x:Ex}(h:chkE k x e=bh):j6 e=true:=by
 cases x with
 |_ =>
  obtain⟨z,hz,_⟩:=jf h
  first
   |(obtain⟨_,rfl⟩:=jK hz;rfl)
   |(obtain⟨_,_,rfl⟩:=xg hz;rfl)
   |(obtain⟨_,rfl⟩:=X8 hz;rfl)
   |(obtain⟨_,rfl⟩:=jdb hz;rfl)
   |(obtain⟨_,rfl⟩:=VR hz;rfl)
   |(have e:=Zd hz;subst e;rfl)
   |(obtain⟨_,rfl⟩:=jda hz;rfl)
   |(obtain⟨_,_,rfl⟩:=ja8 hz;rfl)
   |(obtain⟨_,rfl⟩:=X3 hz;rfl)
   |(obtain⟨_,rfl⟩:=ja3 hz;rfl)
   |(obtain⟨_,rfl⟩:=yk hz;rfl)
   |(have e:=KG hz;subst e;rfl)
   |(obtain⟨_,rfl⟩:=Zz hz;rfl)
   |(obtain⟨_,_,_,rfl⟩:=KI hz;rfl)
   |(obtain⟨_,_,rfl⟩:=QT hz;rfl)
   |(obtain⟨_,_,rfl⟩:=KI hz;rfl)
def Rws(K:bx)(O:List Addr)(H:Hp):List (List D)->List Addr->Prop
 |[],as=>as=[]
 |r::rs,as=>∃b bs vs,as=b::bs/\H b=ba (.lst vs)/\Iss K (minus H O) r vs/\Rws K O H rs bs
theorem Rws.imp{K:bx}{O O':List Addr}{H H':Hp}(s:jd (minus H O) (minus H' O')):∀ {rows:List (List D)} {as:List Addr},(∀b∈as,∀vs,H b=ba (.lst vs)->H' b=ba (.lst vs))->Rws K O H rows as->Rws K O' H' rows as
 |[],as,_,h=>h
 |r::rs,as,k,h=>by
  obtain⟨b,bs,vs,rfl,h1,h2,h3⟩:=h;exact⟨b,bs,vs,rfl,k b (bJ ..) vs h1,Iss.mono s r h2,Rws.imp s (λc hc=>k c (bD _ hc)) h3⟩
theorem Rws.len{K:bx}{O:List Addr}{H:Hp}:∀ {rows:List (List D)} {as:List Addr},Rws K O H rows as->as.length=rows.length
 |[],as,h=>by cases h;rfl
 |r::rs,as,h=>by
  obtain⟨b,bs,vs,rfl,_,_,h3⟩:=h;simp[Rws.len h3]
theorem Rws.isL{K:bx}{O:List Addr}{H:Hp}:∀ {rows:List (List D)} {as:List Addr},Rws K O H rows as->∀b∈as,∃vs,H b=ba (.lst vs)
 |[],as,h,b,hb=>by cases h;cases hb
 |r::rs,as,h,b,hb=>by
  obtain⟨c,bs,vs,rfl,h1,_,h3⟩:=h;rcases bG.mp hb with rfl|hb
  ·exact⟨vs,h1⟩
  ·exact Rws.isL h3 b hb
structure OwT (K:bx) (O:List Addr) (H:Hp) (rows:List (List D)) (a:Addr) (as:List Addr):Prop where
 top:H a=ba (.lst (as.map .ref))
 nd:a ∉ as/\as.Nodup
 inO:a∈O/\∀b∈as,b∈O
 rw:Rws K O H rows as
variable{O:List Addr}{H H':Hp}{rows:List (List D)}
theorem OwT.mono(e:jd H H')(t:OwT K O H rows a as):OwT K O H' rows a as :=
 ⟨e _ _ t.top,t.nd,t.inO,t.rw.imp (jb e) λb _ vs h=>e _ _ h⟩
def OT(K:bx)(O:List Addr)(H:Hp)(σ:Sto)(τ:L2.St):Prop :=
 (∀i rows,ji σ i=ba (.ot rows)->∃a as,τ[i]?=ba (ba (.ref a))/\OwT K O H rows a as/\∀j ds b,ji σ j=ba (.ow ds)->τ[j]?=ba (ba (.ref b))->b≠a/\b ∉ as)/\∀i j rs qs,ji σ i=ba (.ot rs)->ji σ j=ba (.ot qs)->i=j
variable{O':List Addr}{σ σ':Sto}{τ τ':L2.St}
theorem OT.step(h:OT K O H σ τ)(hT:∀i rows,ji σ' i=ba (.ot rows)->ji σ i=ba (.ot rows)/\τ'[i]?=τ[i]?)
 (hO:∀i rows a as,ji σ i=ba (.ot rows)->τ[i]?=ba (ba (.ref a))->(∀j ds b,ji σ j=ba (.ow ds)->τ[j]?=ba (ba (.ref b))->b≠a/\b ∉ as)->OwT K O H rows a as->OwT K O' H' rows a as)
 (hW:∀i rows a as j ds b,ji σ i=ba (.ot rows)->OwT K O H rows a as->ji σ' j=ba (.ow ds)->τ'[j]?=ba (ba (.ref b))->(∃ds',ji σ j=ba (.ow ds')/\τ[j]?=ba (ba (.ref b)))\/(b≠a/\b ∉ as)):OT K O' H' σ' τ':=by
 refine⟨λi rows g=>?_,λi j rs qs g1 g2=>h.2 i j rs qs (hT i rs g1).1 (hT j qs g2).1⟩;obtain⟨g0,e0⟩:=hT i rows g;obtain⟨a,as,e1,t,d⟩:=h.1 i rows g0;refine⟨a,as,e0.trans e1,hO i rows a as g0 e1 d t,λj ds b g1 e2=>?_⟩;rcases hW i rows a as j ds b g0 t g1 e2 with⟨ds',g2,e3⟩|z
 ·exact d j ds' b g2 e3
 ·exact z
inductive RepO (K:bx) (O:List Addr) (H:Hp) (τ:L2.St) (i:Nat) (ds:List D):Prop
 |mk (a:Addr) (vs:List V) (e:τ[i]?=ba (ba (.ref a))) (o:a∈O) (h:H a=ba (.lst vs)) (j:Iss K (minus H O) ds vs)
structure Reps (K:bx) (O:List Addr) (H:Hp) (σ:Sto) (τ:L2.St):Prop where
 len:σ.length=τ.length
 own:∀a∈O,H a≠bc
 sh:∀i d,ji σ i=ba (.sh d)->∃v,τ[i]?=ba (ba v)/\Is K (minus H O) d v
 ow:∀i ds,ji σ i=ba (.ow ds)->RepO K O H τ i ds
 dj:∀i j ds es,i≠j->ji σ i=ba (.ow ds)->ji σ j=ba (.ow es)->τ[i]? ≠ τ[j]?
 tt:OT K O H σ τ
theorem Reps.mono(r:Reps K O H σ τ)(e:jd H H'):Reps K O H' σ τ where
 len:=r.len
 own:=λa ha z=>by
  cases q:H a with
  |none=>exact r.own a ha q
  |some o=>rw[e a o q]at z;cases z
 sh:=λi d h=>by
  obtain⟨v,h1,h2⟩:=r.sh i d h;exact⟨v,h1,Is.mono (jb e) d h2⟩
 ow:=λi ds h=>by
  obtain⟨a,vs,h1,h2,h3,h4⟩:=r.ow i ds h;exact⟨a,vs,h1,h2,e _ _ h3,Iss.mono (jb e) ds h4⟩
 dj:=r.dj
 tt:=r.tt.step (λ_ _ g=>⟨g,rfl⟩) (λ_ _ _ _ _ _ _ t=>t.mono e) λ_ _ _ _ j ds b _ _ g q=>.inl ⟨ds,g,q⟩
theorem qX:∀(σ:Sto) (i j:Nat) (v:Option Sl),ji (jC σ i v) j=if i=j/\i<σ.length then v else ji σ j
 |[],i,j,v=>by simp[jC,ji]
 |x::r,0,0,v=>by simp[jC,ji]
 |x::r,0,j+1,v=>by simp[jC,ji]
 |x::r,i+1,0,v=>by simp[jC,ji]
 |x::r,i+1,j+1,v=>by
  simp only[jC,ji,b6];rw[qX r i j v];by_cases h:i=j/\i<r.length
  ·rw[if_pos h,if_pos (by lia)]
  ·rw[if_neg h,if_neg (by lia)]
theorem zz:∀(σ:Sto) (i:Nat) (v:Option Sl),(jC σ i v).length=σ.length
 |[],i,v=>rfl
 |_::_,0,v=>rfl
 |_::r,i+1,v=>by simp[jC,zz r i v]
def less(O:List Addr)(a:Addr):List Addr:=O.filter λb=>decide (b≠a)
variable{b:Addr}
theorem ky:b∈less O a ↔ b∈O/\b≠a:=by simp[less]
variable{i:Nat}{ds:List D}
theorem Reps.share(r:Reps K O H σ τ)(g:ji σ i=ba (.ow ds))(e1:τ[i]?=ba (ba (.ref a)))(e3:H a=ba (.lst vs))(e4:Iss K (minus H O) ds vs) :
 Reps K (less O a) H (jC σ i (ba (.sh (.lst ds)))) τ where
 len:=by rw[zz];exact r.len
 own:=λb hb=>r.own b (ky.mp hb).1
 sh:=λj d h=>by
  have lessS:jd (minus H O) (minus H (less O a)):=jM λb hb=>(ky.mp hb).1
  rw[qX]at h;by_cases hj:i=j/\i<σ.length
  ·rw[if_pos hj]at h;obtain⟨rfl,_⟩:=hj;cases h;refine⟨.ref a,e1,ke (SqL.of ?_) (Iss.mono lessS ds e4)⟩;rw[jw λz=>(ky.mp z).2 rfl];exact e3
  ·rw[if_neg hj]at h;obtain⟨v,h1,h2⟩:=r.sh j d h;exact⟨v,h1,Is.mono lessS d h2⟩
 ow:=λj es h=>by
  have lessS:jd (minus H O) (minus H (less O a)):=jM λb hb=>(ky.mp hb).1
  rw[qX]at h;by_cases hj:i=j/\i<σ.length
  ·rw[if_pos hj]at h;cases h
  ·rw[if_neg hj]at h;obtain⟨b,ws,h1,h2,h3,h4⟩:=r.ow j es h;refine⟨b,ws,h1,ky.mpr ⟨h2,λz=>?_⟩,h3,Iss.mono lessS es h4⟩;subst z
   have hij:i≠j:=λz=>by
    subst z
    have:i<σ.length:=by
     rcases gL i σ.length with q|q
     ·exact q
     ·rw[r.len]at q;rw[bZ q]at e1;cases e1
    exact hj ⟨rfl,this⟩
   exact r.dj i j ds es hij g h (e1.trans h1.symm)
 dj:=λj l es fs hjl g1 g2=>by
  rw[qX]at g1 g2;by_cases hj:i=j/\i<σ.length
  ·rw[if_pos hj]at g1;cases g1
  ·rw[if_neg hj]at g1;by_cases hl:i=l/\i<σ.length
   ·rw[if_pos hl]at g2;cases g2
   ·rw[if_neg hl]at g2;exact r.dj j l es fs hjl g1 g2
 tt:=by
  have old:∀j z,ji (jC σ i (ba (.sh (.lst ds)))) j=ba z->(∀d,z ≠ .sh d)->ji σ j=ba z:=λj z h n=>by
   rw[qX]at h;by_cases hj:i=j/\i<σ.length
   ·rw[if_pos hj]at h;cases h;exact absurd rfl (n _)
   ·rw[if_neg hj]at h;exact h
  refine r.tt.step (λj rows h=>⟨old j _ h (λ_ z=>nomatch z),rfl⟩) (λj rows b as h q d t=>?_) λ_ _ _ _ j es b _ _ h q=>.inl ⟨es,old j _ h (λ_ z=>nomatch z),q⟩
  obtain⟨n1,n2⟩:=d i ds a g e1;refine⟨t.top,t.nd,⟨ky.mpr ⟨t.inO.1,gC n1⟩,λc hc=>ky.mpr ⟨t.inO.2 c hc,λz=>n2 (z ▸ hc)⟩⟩,t.rw.imp (jM λb hb=>(ky.mp hb).1) λ_ _ _ z=>z⟩
def flD(d:D):V->Prop
 |.non=>d=.non
 |.bl b=>d=.bl b
 |.int i=>d=.int i
 |.str x=>d=.str x
 |.ref _=>(∃xs,d=.tup xs)\/∃xs,d=.lst xs
 |_=>False
theorem Is.fl{S:Hp}{d:D}{v:V}(g:Is K S d v):flD d v:=by
 cases d with
 |non=>cases XQ g;rfl
 |bl b=>cases k9 g;rfl
 |int i=>cases jk g;rfl
 |str x=>obtain⟨rfl,_⟩:=jL g;rfl
 |tup xs=>obtain⟨a,vs,rfl,_⟩:=kU g;exact .inl ⟨xs,rfl⟩
 |lst xs=>obtain⟨a,vs,rfl,_⟩:=jA g;exact .inr ⟨xs,rfl⟩
def Vx(O as:List Addr):List Addr:=O.filter λb=>decide (b ∉ as)
theorem yF:b∈Vx O as ↔ b∈O/\b ∉ as:=by simp[Vx]
theorem Rws.iss{K:bx}{O O':List Addr}{H:Hp}(s:jd (minus H O) (minus H O')):∀ {rows:List (List D)} {as:List Addr},(∀b∈as,b ∉ O')->Rws K O H rows as->Iss K (minus H O') (rows.map .lst) (as.map .ref)
 |[],as,_,h=>by cases h;simp only[gK];unfold Iss;rfl
 |r::rs,as,n,h=>by
  obtain⟨b,bs,vs,rfl,h1,h2,h3⟩:=h;simp only[b5];unfold Iss;refine⟨_,_,rfl,ke (SqL.of ?_) (Iss.mono s r h2),Rws.iss s (λc hc=>n c (bD _ hc)) h3⟩;rw[jw (n b (bJ ..))];exact h1
theorem OwT.is(t:OwT K O H rows a as):Is K (minus H (Vx O (a::as))) (Zu rows) (.ref a):=by
 refine ke (SqL.of ?_) (t.rw.iss (jM λb hb=>(yF.mp hb).1) λb hb z=>(yF.mp z).2 (bD _ hb));rw[jw λz=>(yF.mp z).2 (bJ ..)];exact t.top
def Wd(K:bx)(O:List Addr)(H:Hp)(Q:VK)(d:D):Prop:=∀v H',jd H H'->Is K (minus H' O) d v->Q v H'
def Wds(K:bx)(O:List Addr)(H:Hp)(Q:List V->Hp->Prop)(ds:List D):Prop:=∀vs H',jd H H'->Iss K (minus H' O) ds vs->Q vs H'
variable{Q:VK}
theorem Wd.mono{d:D}(e:jd H H')(w:Wd K O H Q d):Wd K O H' Q d:=λv H'' e' i=>w v H'' (e.trans e') i
inductive tD (K:bx) (C:Cfg) (x:Ex) (τ:L2.St) (H:Hp) (Q:VK):Prop
 |mk (σ:Sto) (O:List Addr) (R:Reps K O H σ τ) (w:wpE C x σ (Wd K O H Q))
inductive tDs (K:bx) (C:Cfg) (xs:List Ex) (τ:L2.St) (H:Hp) (Q:List V->Hp->Prop):Prop
 |mk (σ:Sto) (O:List Addr) (R:Reps K O H σ τ) (w:j4 C xs σ (Wds K O H Q))
inductive tDT (K:bx) (C:Cfg) (x:Ex) (τ:L2.St) (H:Hp) (Q:Bool->Hp->Prop):Prop
 |mk (σ:Sto) (O:List Addr) (R:Reps K O H σ τ) (w:wpE C x σ (isB λc=>∀H',jd H H'->Q c H'))
def WdF(K:bx)(O:List Addr)(H:Hp)(Q:VK)(d:D):Prop:=∀xs a H' vs,d=.lst xs->jd H H'->H a=bc->H' a=ba (.lst vs)->Iss K (minus H' (a::O)) xs vs->Q (.ref a) H'
def WdG(K:bx)(O:List Addr)(H:Hp)(Q:VK)(d:D):Prop:=∀rows a as H',d=Zu rows->jd H H'->(H a=bc/\∀b∈as,H b=bc)->OwT K (a::as++O) H' rows a as->Q (.ref a) H'
def Rw(K:bx)(fr g:Bool)(O:List Addr)(H:Hp)(Q:VK)(d:D):Prop:=if fr=bh then WdF K O H Q d else if g=bh then (WdG K O H Q d/\(nol d=bh->Wd K O H Q d)) else Wd K O H Q d
theorem Wd.rw{K:bx}{fr g:Bool}{O:List Addr}{H:Hp}{Q:VK}{d:D}(ho:∀a∈O,H a≠bc)(w:Wd K O H Q d):Rw K fr g O H Q d:=by
 unfold Rw;split
 ·intro xs a H' vs e s h0 h1 i;subst e
  have na:a ∉ O:=λz=>ho a z h0
  refine w _ _ s (ke (SqL.of ?_) (Iss.mono (jM λb hb=>bD _ hb) xs i));rw[jw na];exact h1
 split
 ·refine⟨λrows a as H' e s h0 t=>?_,λ_=>w⟩;subst e;refine w _ _ s (Is.mono (jM λb hb=>yF.mpr ⟨b7 _ hb,λz=>?_⟩) _ t.is);rcases bG.mp z with rfl|z
  ·exact ho _ hb h0.1
  ·exact ho _ hb (h0.2 _ z)
 ·exact w
@[inline] def yT (x:bF):bF:=if x="Dependent" then "weights" else "at"
def Fld(K:bx)(O:List Addr)(y:XD)(H:Hp)(da:Option Addr):Prop:=∀d∈y.f,∃D v,da=ba D/\H D=ba (.xd [(yT y.t,v)])/\Is K (minus H O) d v
theorem Fld.less{y:XD}{da:Option Addr}(e:∀a∈O',a∈O)(h:Fld K O y H da):Fld K O' y H da:=λd hd=>by
 obtain⟨D,v,h1,h2,h3⟩:=h d hd;exact⟨D,v,h1,h2,Is.mono (jM e) d h3⟩
inductive spD (K:bx) (n:Nat) (fr g:Bool) (c:Ctr) (vs:List V) (H:Hp) (Q:VK) (E:XK):Prop
 |mk (O:List Addr) (ds:List D) (l:ds.length=n) (o:∀a∈O,H a≠bc) (i:Iss K (minus H O) ds vs) (w:c.wp ds (Rw K fr g O H Q) λy=>∀H' da,jd H H'->Fld K O y H' da->E (.str y.t 0) da H')
inductive CXz (P:dg) (w:World) (mg:bF->Option bq) (outer:List tR) (H:Hp) (s:Shared) (E:XK) (e:bq) (s':Shared):Prop
 |mk (x:bF) (C:Addr) (H1:Hp) (da:Option Addr) (z:E (.str x 0) da H1) (m:mg x=ba (.ref C)) (t:qM P w C outer H s H1 da e s')
theorem Jm{X:Cx}:xm (CXz X.prog X.w X.mg) X E0:=λ_ _ _ _ _ _ _ ⟨_,_,_,_,z,_,_⟩=>z.elim
variable{t':TS}
theorem PE.imp{X:Cx}{t t':TE}(h:∀τ H Q,t' τ H Q->t τ H Q)(p:PE X e t):PE X e t':=λpins s τ H Q I w=>p pins s τ H Q I (h τ H Q w)
theorem PA.imp{X:Cx}{e:List bU}{t t':TA}(h:∀τ H Q,t' τ H Q->t τ H Q)(p:PA X e t):PA X e t':=λpos pins s τ H Q I w=>p pos pins s τ H Q I (h τ H Q w)
theorem PT.imp{X:Cx}{t t':TT}(h:∀τ H Q,t' τ H Q->t τ H Q)(p:PT X e t):PT X e t':=λpins s τ H Q I w=>p pins s τ H Q I (h τ H Q w)
theorem PS.imp{X:Cx}{e:d9}(h:∀D τ H,t' D τ H->t D τ H)(p:PS X e t):PS X e t':=λpins s τ H D I w=>p pins s τ H D I (h D τ H w)
theorem PSs.imp{X:Cx}{e:List d9}(h:∀D τ H,t' D τ H->t D τ H)(p:PSs X e t):PSs X e t':=λpins s τ H D I w=>p pins s τ H D I (h D τ H w)
theorem Qt(h:∀a∈O,H a≠bc)(hp:H p=bc):p ∉ O:=λz=>h p z hp
theorem jt(h:H p=bc)(o:HO):jd H (upd H p o):=λb u q=>by rw[je (kE q h)];exact q
variable{p:Array Nat}{t:Tok}{c:Ex}{pins:List (Addr×mE)}{u:bq}{j tk n:Nat}{ws:List V}{ys:List D}{E:bq->Shared->Prop}
section
variable {X:Cx}
inductive rD (K:bx) (f:D->D->(D->Prop)->Prop) (xv yv:V) (H:Hp) (Q:VK):Prop
 |mk (O:List Addr) (x y:D) (o:∀a∈O,H a≠bc) (i:Is K (minus H O) x xv) (j:Is K (minus H O) y yv) (w:f x y (Wd K O H Q))
theorem xX{s:Shared}{d:D}{v:V}(I:Inv X pins τ H s)(w:Wd X.K O H Q d)(i:Is X.K (minus H O) d v)(r:jH v u):EP X pins τ Q u s :=
 ⟨v,H,I,r,w v H (jd.refl H) i⟩
theorem jfR{i j:Int}(h:JH i j):IntMulOk i j:=by
 rcases h with h|h|h
 ·exact .of_left h
 ·exact .of_right h
 ·unfold IntMulOk
  have e:jhq ((gN i:Int)+(gN j:Int))=false:=by
   unfold jhq;rw[bitsLine_eq];have h':gN i+gN j<=134217728:=h;exact decide_eq_false (by lia)
  intro z;simp[e]at z
theorem jfV{i j:Int}(h:xE j<=9000):Builtin.divisionGoesByPylong i j=false:=by
 refine PyProof.noPylong_of_log2 ?_;have h':gN j<=9000:=h;unfold gN at h';by_cases e:j=0
 ·subst e;decide +kernel
 ·have e':(j == 0)=false:=by simpa using e
  rw[e']at h';simp only[du,if_false]at h';lia
theorem Iss.minus_upd{p:Addr}{o:HO}(hp:H p=bc)(i:Iss K (minus H O) ds vs):Iss K (minus (upd H p o) O) ds vs:=Iss.mono (jb (jt hp o)) ds i
theorem kY{p:Addr}{o:HO}(ho:∀a∈O,H a≠bc)(hp:H p=bc):minus (upd H p o) O p=ba o:=by rw[jw (Qt ho hp),jh]
theorem kS(s:jd H H')(h:H a=bc):jd (minus H O) (minus H' (a::O)):=λb o hb=>by
 have e:=jc _ _ _ _ hb
 have na:b≠a:=λz=>by subst z;rw[h]at e;cases e
 have nb:b ∉ O:=λz=>by unfold minus at hb;rw[if_pos z]at hb;cases hb
 rw[jw (by simp[na,nb])];exact s _ _ e
theorem Wd.wdF{d:D}(ho:∀a∈O,H a≠bc)(w:Wd K O H Q d):WdF K O H Q d:=by
 have:=w.rw (fr:=bh) (g:=bj) ho;unfold Rw at this;rw[if_pos rfl]at this;exact this
theorem WdF.mono{d:D}(e:jd H H')(w:WdF K O H Q d):WdF K O H' Q d:=λxs a H'' vs q s h0 h1 i=>w xs a H'' vs q (e.trans s) (by
 cases z:H a with
 |none=>rfl
 |some o=>rw[e a o z]at h0;cases h0) h1 i
theorem Xv{s:Shared}(I:Inv X pins τ H s)(ho:∀a∈O,H a≠bc)(w:xs.length+ys.length<=lim/\WdF X.K O H Q (.lst (xs++ys)))
 (ha:SqL X.K H a vs) (hb:SqL X.K H b ws) (ia:Iss X.K (minus H O) xs vs) (ib:Iss X.K (minus H O) ys ws):wpAny (model X.prog X.w) X.A (t6 .Add (.ref a) (.ref b)) (EP X pins τ Q) X.xe s:=by
 obtain⟨its,r1,p1,z1⟩:=I.list ha;obtain⟨its2,r2,p2,z2⟩:=I.list hb;obtain⟨⟨cls,dd,data,sl⟩,h1,hc,n,hd⟩:=p1.isList;obtain⟨⟨cls2,dd2,data2,sl2⟩,h2,hc2,n2,hd2⟩:=p2.isList;simp only at hc hd hc2 hd2;subst hc hd hc2 hd2
 have hl:vs.length+ws.length<=sizeLine:=by rw[ia.length,ib.length,dI];exact w.1
 have l1:=r1.length;have l2:=r2.length;refine concat_meets ⟨_,h1,rfl⟩ ⟨_,h2,rfl⟩ noFill_list_add seq_list_add PySem.F.slot_list_add PySem.F.entry_list_add (PySem.F.args_list_add_2 _ _) (list_addW a b its.toArray its2.toArray n n2 dd dd2 sl sl2 (by simp only[bQ];lia)) ⟨h1,h2,?_⟩
 have e:its.toArray++its2.toArray=(its++its2).toArray:=by simp
 rw[e];exact⟨.ref _,_,I.lnew (t':=s.toks) (r1.append r2) (by rw[dS];exact hl),rfl,w.2 _ _ _ _ rfl (jt I.fresh _) I.fresh (jh ..) (Iss.mono (kS (jt I.fresh _) I.fresh) _ (ia.append ib))⟩
theorem Uu{s:Shared}(I:Inv X pins τ H s)(ho:∀a∈O,H a≠bc)(w:xs.length+ys.length<=lim/\Wd X.K O H Q (.lst (xs++ys)))
 (ha:SqL X.K H a vs) (hb:SqL X.K H b ws) (ia:Iss X.K (minus H O) xs vs) (ib:Iss X.K (minus H O) ys ws):wpAny (model X.prog X.w) X.A (t6 .Add (.ref a) (.ref b)) (EP X pins τ Q) X.xe s:=Xv I ho ⟨w.1,w.2.wdF ho⟩ ha hb ia ib
theorem Iss.rep{K:bx}{S:Hp}{ds:List D}{vs:List V}(i:Iss K S ds vs):∀k:Nat,Iss K S (bE k ds).flatten (bE k vs).flatten
 |0=>by simp[Iss]
 |k+1=>by
  rw[gm,gm,gB,gB];exact i.append (Iss.rep i k)
theorem Vt{s:Shared}{k:Int}(I:Inv X pins τ H s)(ho:∀a∈O,H a≠bc)(w:uK xs.length k/\Wd X.K O H Q (.lst (bE k.toNat xs).flatten))
 (ha:SqL X.K H a vs) (ia:Iss X.K (minus H O) xs vs):wpAny (model X.prog X.w) X.A (t6 .Mult (.ref a) (.int k t)) (EP X pins τ Q) X.xe s:=by
 obtain⟨its,r1,p1,z1⟩:=I.list ha;obtain⟨⟨cls,dd,data,sl⟩,h1,hc,n,hd⟩:=p1.isList;simp only at hc hd;subst hc hd;have l1:=r1.length;have l2:=ia.length;obtain⟨⟨⟨k1,k2⟩,hz⟩,w⟩:=w
 have hz':vs.length*k.toNat<=sizeLine:=by rw[l2,dI];exact hz
 have hlen:its.toArray.size*k.toNat<=sizeLine:=by rw[bQ,<- l1];exact hz'
 have hcap:¬ its.toArray.size*k.toNat > (2^63-1) / 8:=by
  have:(sizeLine:Nat)<=(2^63-1) / 8:=by decide
  lia
 have hfit:¬ (!jjy k)=true:=by
  rw[fitsIndex_both (by lia) (by lia)];exact df
 have hlong:¬ mr (its.toArray.size*k.toNat)=true:=by
  rw[L2.notLongL hlen];exact df
 have hnew:jjm (λx1 x2=>x1++x2) #[] (bE (if its.toArray.isEmpty=bh then 0 else k.toNat) its.toArray)=(bE k.toNat its).flatten.toArray:=by
  have f0:∀m:Nat,jjm (λx1 x2=>x1++x2) #[] (bE m its.toArray)=(bE m its).flatten.toArray:=λm=>by
   have:=L2.foldl_rep its m [];rw[gJ]at this;exact this
  rw[f0]
  cases its with
  |nil=>simp
  |cons a r'=>rw[if_neg (by simp)]
 refine wpAny_binaryOp_repeat_ref (T:="list") (U:="int") (by decide) ⟨_,h1,rfl⟩ (λs'=>jjl s' k t) noFill_list_mul PySem.F.fills_int_mul jhr repeat_list PySem.F.slot_int_index.lookup
  (n8 jhr (jjl s k t) PySem.F.entry_int_rmul (PySem.F.args_int_rmul_2 _ _) (lm_int_rmul_list_any k t a its.toArray n dd sl)
   ⟨h1,rfl,⟨_,h1,rfl⟩,n8 PySem.F.slot_list_mul ⟨_,h1,rfl⟩ PySem.F.entry_list_mul (PySem.F.args_list_mul_2 _ _) (lm_list_mul_any a its.toArray n dd sl k t hfit hcap hlong) ⟨h1,?_⟩⟩)
 rw[hnew];exact⟨.ref _,_,I.lnew (t':=s.toks) (r1.rep k.toNat) (by rw[L2.len_rep,Nat.mul_comm];exact hz'),rfl,w _ _ (jt I.fresh _) (ke (SqL.of (kY ho I.fresh)) (Iss.minus_upd I.fresh (ia.rep k.toNat)))⟩
inductive I2 (f:Int->Int->(D->Prop)->Prop) (x y:D) (Q:D->Prop):Prop
 |mk (i j:Int) (e:x=.int i) (g:y=.int j) (h:f i j Q)
theorem kR{f:Int->Int->(D->Prop)->Prop}{x y:D}{Q:D->Prop}(w:yw f x y Q):I2 f x y Q:=by
 cases x<;>first|exact w.elim|(cases y<;>first|exact w.elim|exact⟨_,_,rfl,rfl,w⟩)
theorem ki(h:b9 x=bh){c:Nat}(hc:c∈x.cps.toList):c<0x110000:=by
 unfold b9 at h;rw[<- jg0,dC]at h;simpa using h c hc
theorem qj{l:List Nat}(h:∀c∈l,c<0x110000):b9 ⟨l.toArray⟩=true:=by
 unfold b9;rw[<- jg0,dC];intro c hc;exact decide_eq_true (h c (by simpa using hc))
theorem uE(x:String):b9 (nK x)=true:=by
 rw[Str.ofString_eq_toList]
 refine qj λc hc=>?_
 obtain⟨ch,_,rfl⟩:=gD.mp hc;have:=ch.valid;unfold Char.toNat
 rcases this with h|h<;>lia
theorem Vd{o:BOp}{op:t5}(h:jds o op=bh):OpR X (t6 op) (rD X.K (y6 o)):=by
 have e0:=jfJ h;subst e0;intro pins s τ H xv yv v u Q I rx ry w;obtain⟨O,x,y,ho,ix,iy,w⟩:=w
 cases o with
 |add =>
  cases x<;>first|exact w.elim|(cases y<;>first|exact w.elim|skip)
  ·cases jk ix;cases jk iy;obtain⟨t,rfl⟩:=rx;obtain⟨t',rfl⟩:=ry;exact add_int (xX (I.tok _) w (ju _) ⟨_,rfl⟩)
  ·obtain⟨rfl,o1⟩:=jL ix;obtain⟨rfl,o2⟩:=jL iy;refine Yv pins s τ H _ _ v u Q I rx ry ⟨_,_,rfl,rfl,w.1,w.2 _ _ (jd.refl H) (kq ?_)⟩;unfold b9 at *;show (Array.all (_++_) _)=bh;rw[Array.all_append,o1,o2];rfl
  ·obtain⟨a,xs,rfl,hx,jx⟩:=jA ix;obtain⟨b,ys,rfl,hy,jy⟩:=jA iy;have hx':=(jc H O).seq hx;have hy':=(jc H O).seq hy;cases rx;cases ry
   exact Uu I ho w hx' hy' jx jy
 |mul =>
  cases x<;>first|exact w.elim|(cases y<;>first|exact w.elim|skip)
  ·cases jk ix;cases jk iy;obtain⟨t,rfl⟩:=rx;obtain⟨t',rfl⟩:=ry;exact mul_int (xX (I.tok _) w.2 (ju _) ⟨_,rfl⟩) (jfR w.1)
  ·obtain⟨rfl,o1⟩:=jL ix;cases jk iy;refine jbA pins s τ H _ _ v u Q I rx ry ⟨_,_,rfl,rfl,w.1,w.2 _ _ (jd.refl H) (kq ?_)⟩
   refine qj λc hc=>?_
   rw[jg1]at hc;obtain⟨l,hl,hc⟩:=hc;rw[(jih.mp hl).2]at hc;exact ki o1 hc
  ·obtain⟨a,xs,rfl,hx,jx⟩:=jA ix;cases jk iy;have hx':=(jc H O).seq hx;cases rx;obtain⟨t',rfl⟩:=ry
   exact Vt I ho w hx' jx
 |sub =>
  obtain⟨i,j,rfl,rfl,w⟩:=kR w;cases jk ix;cases jk iy;obtain⟨t,rfl⟩:=rx;obtain⟨t',rfl⟩:=ry
  exact sub_int (xX (I.tok _) w (ju _) ⟨_,rfl⟩)
 |fdiv =>
  obtain⟨i,j,rfl,rfl,w⟩:=kR w;cases jk ix;cases jk iy;obtain⟨t,rfl⟩:=rx;obtain⟨t',rfl⟩:=ry
  exact floordiv_int w.1.1 (xX (I.tok _) w.2 (ju _) ⟨_,rfl⟩) (.inl (jfV w.1.2))
 |mod =>
  obtain⟨i,j,rfl,rfl,w⟩:=kR w;cases jk ix;cases jk iy;obtain⟨t,rfl⟩:=rx;obtain⟨t',rfl⟩:=ry
  exact mod_int' w.1 (xX (I.tok _) w.2 (ju _) ⟨_,rfl⟩)
 |shl =>
  obtain⟨i,j,rfl,rfl,w⟩:=kR w;cases jk ix;cases jk iy;obtain⟨t,rfl⟩:=rx;obtain⟨t',rfl⟩:=ry
  exact lshift_int w.1.1 (by have:=w.1.2;unfold xE at this;lia) (xX (I.tok _) w.2 (ju _) ⟨_,rfl⟩)
 |band =>
  obtain⟨i,j,rfl,rfl,w⟩:=kR w;cases jk ix;cases jk iy;exact jd8 pins s τ H _ _ v u Q I rx ry ⟨_,_,rfl,rfl,w _ _ (jd.refl H) (ju _)⟩
theorem qz{K:bx}{S:Hp}:∀ {ss:List bF} {vs:List V},Iss K S (ss.map .str) vs->vs=ss.map V.str
 |[],vs,h=>by unfold Iss at h;exact h
 |x::ss,vs,h=>by
  rw[b5]at h;unfold Iss at h;obtain⟨v,r,rfl,h1,h2⟩:=h;rw[(jL h1).1,qz h2];rfl
theorem Kw{K:bx}{S:Hp}:∀ {ss:List bF} {vs:List V},Iss K S (ss.map .str) vs->∀x∈ss,b9 x=bh
 |[],vs,h,x,hx=>by cases hx
 |y::ss,vs,h,x,hx=>by
  rw[b5]at h;unfold Iss at h;obtain⟨v,r,rfl,h1,h2⟩:=h;rcases bG.mp hx with rfl|z
  ·exact(jL h1).2
  ·exact Kw h2 x z
theorem jeU(h:b9 x=bh):b9 (jii x i j)=true:=by
 have e:jii x i j=⟨(x.cps.extract i j).toList.toArray⟩:=rfl;rw[e]
 exact qj λc hc=>ki h (by
  rw[Array.toList_extract]at hc
  exact jhD (jhE hc))
theorem Qz(hx:b9 x=bh):∀p∈jR x y,b9 p=true:=by
 intro p hp;unfold jR at hp;split at hp
 ·rw[dr.mp hp];exact hx
 ·split at hp
  ·rw[dr.mp hp];exact hx
  ·simp only[wM,gD]at hp;obtain⟨⟨i,j⟩,_,rfl⟩:=hp;exact jeU hx
theorem Kq{K:bx}{S:Hp}:∀ {l:List bF},(∀p∈l,b9 p=bh)->Iss K S (l.map .str) (l.map .str)
 |[],_=>by simp only[gK];unfold Iss;rfl
 |x::l,h=>by
  simp only[b5];unfold Iss;exact⟨_,_,rfl,kq (h x (bJ ..)),Kq λp hp=>h p (bD _ hp)⟩
theorem yN(ss:List bF):(ss.map V.str).all yW=true:=by
 rw[dC];intro v hv;obtain⟨x,_,rfl⟩:=gD.mp hv;rfl
theorem zx(i:bF)(ss:List bF):ss.contains i=inV (.str i) (ss.map V.str):=by
 unfold inV;rw[jjY]
 induction ss with
 |nil=>rfl
 |cons x ss ih =>
  rw[mU,wL,ih];congr 1;by_cases h:i=x
  ·subst h;simp[eqV]
  ·have h':x≠i:=λz=>h z.symm
   simp only[jjD,eqV];rw[beq_eq_false_iff_ne.mpr h];simp[h']
theorem yH(ss:List Int):(ss.map V.int).all yW=true:=by
 rw[dC];intro v hv;obtain⟨x,_,rfl⟩:=gD.mp hv;rfl
theorem zW(i:Int)(ss:List Int):ss.contains i=inV (.int i) (ss.map V.int):=by
 unfold inV;rw[jjY]
 induction ss with
 |nil=>rfl
 |cons x ss ih =>
  rw[mU,wL,ih];congr 1;by_cases h:i=x
  ·subst h;simp[eqV]
  ·have h':x≠i:=λz=>h z.symm
   simp only[jjD,eqV];rw[beq_eq_false_iff_ne.mpr h];simp[h']
theorem kD{K:bx}{S:Hp}:∀ {ns:List Int} {vs:List V},Iss K S (ns.map D.int) vs->vs=ns.map V.int
 |[],vs,h=>by simp only[gK]at h;unfold Iss at h;exact h
 |n::ns,vs,h=>by
  simp only[b5]at h;unfold Iss at h;obtain⟨v,r,rfl,i1,i2⟩:=h;rw[jk i1,kD i2];rfl
theorem bt(b:Bool):(b == bh)=b:=by cases b<;>rfl
theorem bf(b:Bool):(b == bj)=!b:=by cases b<;>rfl
theorem yV{S:Hp}{d:D}(h:Iss K S [d] vs):∃v,vs=[v]/\Is K S d v:=by
 unfold Iss at h;obtain⟨v,r,rfl,h1,h2⟩:=h;unfold Iss at h2;subst h2;exact⟨v,rfl,h1⟩
theorem ZZ{S:Hp}{d e:D}(h:Iss K S [d,e] vs):∃v w,vs=[v,w]/\Is K S d v/\Is K S e w:=by
 unfold Iss at h;obtain⟨v,r,rfl,h1,h2⟩:=h;obtain⟨w,rfl,h3⟩:=yV h2;exact⟨v,w,rfl,h1,h3⟩
theorem jba{pins:List (Addr×mE)}{s:Shared}{τ:L2.St}{H:Hp}{O:List Addr}(I:Inv X pins τ H s):∀ {ps:List (Int×Int)} {vs:List V} {us:List bq},Iss X.K (minus H O) (ps.map prD) vs->jv vs us->xS s.heap us ps
 |[],vs,us,h,r=>by
  simp only[gK]at h;unfold Iss at h;subst h;cases r;trivial
 |p::ps,vs,us,h,r=>by
  simp only[b5]at h;unfold Iss at h;obtain⟨v,r',rfl,i1,i2⟩:=h
  cases r with
  |cons r1 r2 =>
   obtain⟨a,ws,rfl,h1,h2⟩:=kU i1;cases r1;obtain⟨its,rv,pl,hz⟩:=I.tuple ((j9 (jc H O) h1));obtain⟨v1,v2,rfl,j1,j2⟩:=ZZ h2;cases jk j1;cases jk j2;obtain⟨u1,u2,rfl,⟨t,rfl⟩,⟨t',rfl⟩⟩:=JO rv;obtain⟨o,ho,hc,n,hd⟩:=pl;exact⟨⟨a,o,n,t,t',rfl,ho,hc,hd⟩,jba I i2 r2⟩
theorem Qq{s:Shared}{xv yv:V}{v:bq}{x y:D}(hu:X.A.units+100<cLine)(I:Inv X pins τ H s)(rx:jH xv v)(ry:jH yv u)(ix:Is X.K (minus H O) x xv)(iy:Is X.K (minus H O) y yv):min (qI x) (qI y)<=100->(∀ {as bs:List Addr},Reads s.heap v (zj x) as->Reads s.heap u (zj y) bs->(zj x).canLay0=bh->(zj y).canLay0=bh->X.A.units+min (zj x).depth (zj y).depth<cLine->wpAny (model X.prog X.w) X.A (gU o.op v u) (EP X pins τ Q) X.xe s)->wpAny (model X.prog X.w) X.A (gU o.op v u) (EP X pins τ Q) X.xe s:=by
 intro hd f;obtain⟨⟨as,ra⟩,ca⟩:=Is.reads I x (Is.mono (jc H O) x ix) rx;obtain⟨⟨bs,rb⟩,cb⟩:=Is.reads I y (Is.mono (jc H O) y iy) ry;exact f ra rb ca cb (by rw[Ju,Ju];lia)
theorem yx{op:tP}(h:cOk o op e=bh)(hu:X.A.units+100<cLine):OpR X (gU op) (rD X.K (zb o)):=by
 have e0:=jgI h;subst e0;intro pins s τ H xv yv v u Q I rx ry w;obtain⟨O,x,y,ho,ix,iy,w⟩:=w
 have hu1:X.A.in1.units+2<cLine:=by rw[Around.in1_units];lia
 cases o with
 |eq =>
  have w':min (qI x) (qI y)<=100/\Wd X.K O H Q (.bl (eqD x y)):=w
  refine Qq (o:=.eq) hu I rx ry ix iy w'.1 λra rb ca cb hd=>SeqAt.compareEq_reads ra rb ca cb hd ?_
  rw[vL]
  exact xX I w'.2 (j5 _) rfl
 |ne =>
  have w':min (qI x) (qI y)<=100/\Wd X.K O H Q (.bl (!eqD x y)):=w
  refine Qq (o:=.ne) hu I rx ry ix iy w'.1 λra rb ca cb hd=>SeqAt.compareNe_reads ra rb ca cb hd ?_
  rw[vL]
  exact xX I w'.2 (j5 _) rfl
 |lt =>
  obtain⟨i,j,rfl,rfl,w⟩:=kR w;cases jk ix;cases jk iy
  exact jf0 pins s τ H _ _ v u Q I rx ry ⟨_,_,rfl,rfl,w _ _ (jd.refl H) (j5 _)⟩
 |le =>
  obtain⟨i,j,rfl,rfl,w⟩:=kR w;cases jk ix;cases jk iy
  exact jfQ pins s τ H _ _ v u Q I rx ry ⟨_,_,rfl,rfl,w _ _ (jd.refl H) (j5 _)⟩
 |gt =>
  obtain⟨i,j,rfl,rfl,w⟩:=kR w;cases jk ix;cases jk iy
  exact jfo pins s τ H _ _ v u Q I rx ry ⟨_,_,rfl,rfl,w _ _ (jd.refl H) (j5 _)⟩
 |ge =>
  obtain⟨i,j,rfl,rfl,w⟩:=kR w;cases jk ix;cases jk iy
  exact jfZ pins s τ H _ _ v u Q I rx ry ⟨_,_,rfl,rfl,w _ _ (jd.refl H) (j5 _)⟩
 |inn =>
  cases x<;>first|exact w.elim|(cases y<;>first|exact w.elim|skip)
  ·cases jk ix;obtain⟨ss,rfl,hl,w⟩:=w;obtain⟨a,vs,rfl,h1,h2⟩:=kU iy;cases kD h2;exact yM pins s τ H _ _ v u Q I rx ry ⟨a,_,rfl,.inr (j9 (jc H O) h1),rfl,yH ss,w _ _ (jd.refl H) (by rw[bt,zW];exact j5 _)⟩
  ·cases jk ix;obtain⟨ss,rfl,hl,w⟩:=w;obtain⟨a,vs,rfl,h1,h2⟩:=jA iy;cases kD h2;exact yM pins s τ H _ _ v u Q I rx ry ⟨a,_,rfl,.inl ((jc H O).seq h1),rfl,yH ss,w _ _ (jd.refl H) (by rw[bt,zW];exact j5 _)⟩
  ·obtain⟨rfl,o1⟩:=jL ix;obtain⟨rfl,o2⟩:=jL iy;exact Uc pins s τ H _ _ v u Q I rx ry ⟨_,_,rfl,rfl,w _ _ (jd.refl H) (by rw[bt];exact j5 _)⟩
  ·obtain⟨rfl,o1⟩:=jL ix;obtain⟨ss,rfl,hl,w⟩:=w;obtain⟨a,vs,rfl,h1,h2⟩:=kU iy;cases qz h2;exact yM pins s τ H _ _ v u Q I rx ry ⟨a,_,rfl,.inr (j9 (jc H O) h1),rfl,yN ss,w _ _ (jd.refl H) (by rw[bt,zx];exact j5 _)⟩
  ·obtain⟨rfl,o1⟩:=jL ix;obtain⟨ss,rfl,hl,w⟩:=w;obtain⟨a,vs,rfl,h1,h2⟩:=jA iy;cases qz h2
   exact yM pins s τ H _ _ v u Q I rx ry ⟨a,_,rfl,.inl ((jc H O).seq h1),rfl,yN ss,w _ _ (jd.refl H) (by rw[bt,zx];exact j5 _)⟩
 |nin =>
  cases x<;>first|exact w.elim|(cases y<;>first|exact w.elim|skip)
  ·cases jk ix;obtain⟨ss,rfl,hl,w⟩:=w;obtain⟨a,vs,rfl,h1,h2⟩:=kU iy;cases kD h2;exact qV pins s τ H _ _ v u Q I rx ry ⟨a,_,rfl,.inr (j9 (jc H O) h1),rfl,yH ss,w _ _ (jd.refl H) (by rw[bf,zW];exact j5 _)⟩
  ·cases jk ix;obtain⟨ss,rfl,hl,w⟩:=w;obtain⟨a,vs,rfl,h1,h2⟩:=jA iy;cases kD h2;exact qV pins s τ H _ _ v u Q I rx ry ⟨a,_,rfl,.inl ((jc H O).seq h1),rfl,yH ss,w _ _ (jd.refl H) (by rw[bf,zW];exact j5 _)⟩
  ·obtain⟨rfl,o1⟩:=jL ix;obtain⟨rfl,o2⟩:=jL iy;exact Kn pins s τ H _ _ v u Q I rx ry ⟨_,_,rfl,rfl,w _ _ (jd.refl H) (by rw[bf];exact j5 _)⟩
  ·obtain⟨rfl,o1⟩:=jL ix;obtain⟨ss,rfl,hl,w⟩:=w;obtain⟨a,vs,rfl,h1,h2⟩:=kU iy;cases qz h2;exact qV pins s τ H _ _ v u Q I rx ry ⟨a,_,rfl,.inr (j9 (jc H O) h1),rfl,yN ss,w _ _ (jd.refl H) (by rw[bf,zx];exact j5 _)⟩
  ·obtain⟨rfl,o1⟩:=jL ix;obtain⟨ss,rfl,hl,w⟩:=w;obtain⟨a,vs,rfl,h1,h2⟩:=jA iy;cases qz h2;exact qV pins s τ H _ _ v u Q I rx ry ⟨a,_,rfl,.inl ((jc H O).seq h1),rfl,yN ss,w _ _ (jd.refl H) (by rw[bf,zx];exact j5 _)⟩
inductive cD (K:bx) (f:List D->(D->Prop)->Prop) (vs:List V) (H:Hp) (Q:VK):Prop
 |mk (O:List Addr) (ds:List D) (o:∀a∈O,H a≠bc) (i:Iss K (minus H O) ds vs) (w:f ds (Wd K O H Q))
def Bi.val:Bi->bq
 |.abs=>.builtin "abs"
 |.max=>.builtin "max"
 |.mxl=>.builtin "max"
 |.min=>.builtin "min"
 |.len=>.builtin "len"
 |.int=>.type "int"
 |.list=>.type "list"
 |.sum=>.builtin "sum"
 |.all=>.builtin "all"
 |.any=>.builtin "any"
 |.dvm=>.builtin "divmod"
 |.tuple=>.type "tuple"
 |.str=>.type "str"
 |.srt=>.builtin "sorted"
theorem Inv.moved{s s':Shared}{o:mE}(I:Inv X pins τ H s)(m:jhA [s.heap.objs.size] (λa b=>b=a) { s with heap:=s.heap.push o,toks:=tk } s'):Inv X pins τ H s':=by
 have k:∀b u,s.heap.get? b=ba u->s'.heap.get? b=ba u:=λb u e=>m.heap b u (λz=>by
  have:b=s.heap.objs.size:=by simpa using z
  exact absurd (bH e) (by rw[this];exact dX _)) (bu _ e)
 exact I.call' (ch:=[]) m.os (Un.kept k) (I.hok.kept k) (by rw[m.gens];exact I.bare) λ_ z=>nomatch z
theorem JS(ns:List Int)(f:Nat->Int)(h:∀i,i<ns.length->ns[i]?=ba (f i)):∀k,k<=ns.length->preSum f k=(ns.take k).sum
 |0,_=>by simp[preSum]
 |k+1,hk=>by
  rw[preSum,JS ns f h k (by lia),List.take_add_one,h k (by lia)];simp
theorem xO:∀ {ns:List Int} {us:List bq},jv (ns.map V.int) us->∀i v,us[i]?=ba v->∃t,v=wR (ns.getD i 0) t
 |[],us,r,i,v,h=>by cases r;simp at h
 |n::ns,us,r,i,v,h=>by
  cases r with
  |cons r1 r2 =>
   cases i with
   |zero=>simp at h;subst h;obtain⟨t,e⟩:=r1;exact⟨t,by simpa using e⟩
   |succ i=>simpa using xO r2 i v (by simpa using h)
theorem Uq(hc:X.calm=bh):kJ X (.builtin "sum") (λvs H Q=>∃(a:Addr) (ns:List Int),vs=[.ref a]/\SqL X.K H a (ns.map V.int)/\Q (.int ns.sum) H):=by
 intro pins s τ H vs us Q I r h;obtain⟨a,ns,rfl,hq,q⟩:=h;obtain⟨u,rfl,e⟩:=qf r;cases e;obtain⟨its,rv,p,hz⟩:=I.list hq;have hl:=rv.length;rw[bW]at hl;obtain⟨o,n,ho,_⟩:=id p;have hne:a≠s.heap.objs.size:=dB (bH ho);have W:=(jhb (prog:=X.prog) (w:=X.w) (A:=X.A.in1) (I.ok.hd hc) s.heap.objs.size a hne its.toArray).toS;refine call_sum_walkAnyS (gP p.isList ⟨s.heap.objs.size,_,_,_,_,_,_,λi=>ns.getD i 0,rfl,W,⟨⟨_,bM _ rfl,rfl,rfl⟩,?_⟩,λb hb=>?_,λi v hv=>xO rv i v (by simpa using hv),λs' t' m=>?_⟩)
 ·obtain⟨o,n,ho,h1,h2,h3⟩:=p;exact⟨o,bu _ ho,h1,n,h3⟩
 ·rw[mQ];simp only[bG,bV,or_false]at hb;rcases hb with z|z
  ·rw[z];exact g9 _
  ·rw[z];exact nY (bH ho)
 ·have e:preSum (λi=>ns.getD i 0) its.toArray.size=ns.sum:=by
   rw[bQ,<- hl];rw[JS ns _ (λi hi=>by simp[hi]) _ (bN _),jiR]
  exact⟨.int ns.sum,H,Inv.moved (tk:=s.toks) I m,⟨t',by rw[e]⟩,q⟩
theorem KR{K:bx}{S:Hp}:∀ {ns:List Bool} {vs:List V},Iss K S (ns.map D.bl) vs->vs=ns.map V.bl
 |[],vs,h=>by simp only[gK]at h;unfold Iss at h;exact h
 |n::ns,vs,h=>by
  simp only[b5]at h;unfold Iss at h;obtain⟨v,r,rfl,i1,i2⟩:=h;rw[k9 i1,KR i2];rfl
theorem vC:∀ {ns:List Bool} {us:List bq},jv (ns.map V.bl) us->∀i v,us[i]?=ba v->v=jh4 (ns.getD i bh)
 |[],us,r,i,v,h=>by cases r;simp at h
 |n::ns,us,r,i,v,h=>by
  cases r with
  |cons r1 r2 =>
   cases i with
   |zero=>simp at h;subst h;cases r1;rfl
   |succ i=>exact vC r2 i v (by simpa using h)
theorem ZM(bs:List Bool):(gq bs.length).all (λi=>bs.getD i bh)=bs.all id:=by
 rw[jjb,dC,dC];constructor
 ·intro h b hb;obtain⟨i,hi,rfl⟩:=jhF.mp hb;have:=h i (by simpa using hi);simpa[hi]using this
 ·intro h i hi
  have hi':i<bs.length:=by simpa using hi
  have:=h bs[i] (sQ hi');simpa[hi']using this
theorem Ug(hc:X.calm=bh):kJ X (.builtin "all") (λvs H Q=>∃(a:Addr) (ns:List Bool),vs=[.ref a]/\SqL X.K H a (ns.map V.bl)/\Q (.bl (ns.all id)) H):=by
 intro pins s τ H vs us Q I r h;obtain⟨a,ns,rfl,hq,q⟩:=h;obtain⟨u,rfl,e⟩:=qf r;cases e;obtain⟨its,rv,p,hz⟩:=I.list hq;have hl:=rv.length;rw[bW]at hl;obtain⟨o,n,ho,_⟩:=id p;have hne:a≠s.heap.objs.size:=dB (bH ho);have W:=(jhb (prog:=X.prog) (w:=X.w) (A:=X.A.in1) (I.ok.hd hc) s.heap.objs.size a hne its.toArray).toS;refine call_all_walkS (gP p.isList ⟨s.heap.objs.size,_,_,_,_,_,_,λi=>ns.getD i bh,rfl,W,⟨⟨_,bM _ rfl,rfl,rfl⟩,?_⟩,λi v s Q E hv hQ=>?_,λs' m=>?_⟩)
 ·obtain⟨o,n,ho,h1,h2,h3⟩:=p;exact⟨o,bu _ ho,h1,n,h3⟩
 ·rw[vC rv i v (by simpa using hv)];exact gg hQ
 ·have e:(gq its.toArray.size).all (λi=>ns.getD i bh)=ns.all id:=by
   rw[bQ,<- hl];exact ZM ns
  exact⟨.bl (ns.all id),H,Inv.moved (tk:=s.toks) I m,by rw[e];rfl,q⟩
theorem ZT(bs:List Bool):(gq bs.length).any (λi=>bs.getD i bh)=bs.any id:=by
 rw[jjb,jiU,jiU];constructor
 ·rintro⟨i,hi,h⟩
  have hi':i<bs.length:=by simpa using hi
  exact⟨bs[i],sQ hi',by simpa[hi']using h⟩
 ·rintro⟨b,hb,h⟩;obtain⟨i,hi,rfl⟩:=jhF.mp hb;exact⟨i,by simpa using hi,by simpa[hi]using h⟩
theorem Us(hc:X.calm=bh):kJ X (.builtin "any") (λvs H Q=>∃(a:Addr) (ns:List Bool),vs=[.ref a]/\SqL X.K H a (ns.map V.bl)/\Q (.bl (ns.any id)) H):=by
 intro pins s τ H vs us Q I r h;obtain⟨a,ns,rfl,hq,q⟩:=h;obtain⟨u,rfl,e⟩:=qf r;cases e;obtain⟨its,rv,p,hz⟩:=I.list hq;have hl:=rv.length;rw[bW]at hl;obtain⟨o,n,ho,_⟩:=id p;have hne:a≠s.heap.objs.size:=dB (bH ho);have W:=(jhb (prog:=X.prog) (w:=X.w) (A:=X.A.in1) (I.ok.hd hc) s.heap.objs.size a hne its.toArray).toS;refine call_any_walkS (gP p.isList ⟨s.heap.objs.size,_,_,_,_,_,_,λi=>ns.getD i bh,rfl,W,⟨⟨_,bM _ rfl,rfl,rfl⟩,?_⟩,λi v s Q E hv hQ=>?_,λs' m=>?_⟩)
 ·obtain⟨o,n,ho,h1,h2,h3⟩:=p;exact⟨o,bu _ ho,h1,n,h3⟩
 ·rw[vC rv i v (by simpa using hv)];exact gg hQ
 ·have e:(gq its.toArray.size).any (λi=>ns.getD i bh)=ns.any id:=by
   rw[bQ,<- hl];exact ZT ns
  exact⟨.bl (ns.any id),H,Inv.moved (tk:=s.toks) I m,by rw[e];rfl,q⟩
theorem qt{f:D->(D->Prop)->Prop}{Q:D->Prop}(w:yU f xs Q):∃x,xs=[x]/\f x Q:=by
 match xs,w with
 |[x],w=>exact⟨x,rfl,w⟩
theorem Y1{Q:D->Prop}(w:UG f xs Q):∃x y,xs=[x,y]/\f x y Q:=by
 match xs,w with
 |[x,y],w=>exact⟨x,y,rfl,w⟩
theorem yu{f:List D->(D->Prop)->Prop}{x:D}{Q:D->Prop}(w:uH f x Q):∃xs,x=.lst xs/\f xs Q:=by
 cases x<;>first|exact w.elim|exact⟨_,rfl,w⟩
theorem jbE{Q:D->Prop}(w:Vz ds Q):(∃x,ds=[x]/\uH (λxs Q=>∃ns:List Int,xs=ns.map .int/\ns ≠ []/\Q (.int (mmF bj 0 ns))) x Q)\/∃x y,ds=[x,y]/\yw (λi j Q=>Q (.int (if j<i then j else i))) x y Q:=by
 cases ds with
 |nil=>exact w.elim
 |cons x r=>cases r with
  |nil=>exact .inl ⟨x,rfl,w⟩
  |cons y r=>cases r with
   |nil=>exact .inr ⟨x,y,rfl,w⟩
   |cons z r=>exact w.elim
section
variable {α β:Type}
theorem jdz(hp:Pm n p)(d:α)(xs:List α)(hx:xs.length=n):(p.toList.map λi=>xs.getD i d).Perm xs:=by
 have e:(gq n).map (λi=>xs.getD i d)=xs:=by
  apply jiT
  ·simp[hx]
  ·intro i h1 h2;simp at h1;simp[h2]
 have:=hp.map (λi=>xs.getD i d);rw[e]at this;exact this
theorem jfs{lt:Nat->Nat->Bool}(hp:Pm n p)(hu:Up lt p 0 n)(f:Nat->α)(R:α->α->Prop)(h:∀i j,lt j i=bj->R (f i) (f j)):(p.toList.map f).Pairwise R:=by
 rw[List.pairwise_map,List.pairwise_iff_getElem];intro i j hi hj hij;have hs:=hp.size;simp at hi hj;have:=hu i j (by lia) (by lia) (by lia);apply h;simpa[at',Array.getD,hi,hj]using this
theorem jdr(hp:Pm n p):∀i∈p.toList,i<n:=λi h=>by
 have:=(hp.mem_iff).1 h;simpa using this
end
theorem YX:∀ {vs:List V} {us:List bq},jv vs us->∀i,i<vs.length->jH (vs.getD i .non) (us.getD i .none)
 |[],us,r,i,h=>by simp at h
 |v::vs,us,r,i,h=>by
  cases r with
  |cons r1 r2 =>
   cases i with
   |zero=>exact r1
   |succ i=>simpa using YX r2 i (by simpa using h)
theorem QD{vs:List V}{us:List bq}(r:jv vs us):∀l:List Nat,(∀i∈l,i<vs.length)->jv (l.map λi=>vs.getD i .non) (l.map λi=>us.getD i .none)
 |[],_=>.nil
 |i::l,h=>.cons (YX r i (h i (by simp))) (QD r l λj hj=>h j (by simp[hj]))
theorem V7{K:bx}{S:Hp}:∀ {ds:List D} {vs:List V},Iss K S ds vs->∀i,i<ds.length->Is K S (ds.getD i .non) (vs.getD i .non)
 |[],vs,r,i,h=>by simp at h
 |d::ds,vs,r,i,h=>by
  unfold Iss at r;obtain⟨v,r',rfl,i1,i2⟩:=r
  cases i with
  |zero=>exact i1
  |succ i=>simpa using V7 i2 i (by simpa using h)
theorem Y2{K:bx}{S:Hp}{ds:List D}{vs:List V}(r:Iss K S ds vs):∀l:List Nat,(∀i∈l,i<ds.length)->Iss K S (l.map λi=>ds.getD i .non) (l.map λi=>vs.getD i .non)
 |[],_=>by unfold Iss;rfl
 |i::l,h=>by
  simp only[b5];unfold Iss;exact⟨_,_,rfl,V7 r i (h i (by simp)),Y2 r l λj hj=>h j (by simp[hj])⟩
theorem ja2{γ:Type}(f:γ->D)(g:List γ)(z:γ)(l:List Nat)(h:∀i∈l,i<g.length):(l.map λi=>(g.map f).getD i .non)=(l.map λi=>g.getD i z).map f:=by
 rw[jhf];apply jhS;intro i hi;have:=h i hi;simp[this]
theorem V0{x:D}{Q:D->Prop}(w:uD x Q):∃xs,x=.lst xs/\uD (.lst xs) Q:=by
 cases x<;>first|exact w.elim|skip
 exact⟨_,rfl,w⟩
theorem KH:kJ X (.builtin "sorted") (cD X.K (yU uD)):=by
 intro pins s τ H vs us Q I r w;obtain⟨O,ds,ho,is,w⟩:=w;obtain⟨x,rfl,w⟩:=qt w;obtain⟨v,rfl,i1⟩:=yV is;obtain⟨xs,rfl,hlen,w⟩:=V0 w;obtain⟨a,vs,rfl,h1,h2⟩:=jA i1;obtain⟨u,rfl,e1⟩:=qf r;cases e1;obtain⟨its,rv,p,hz⟩:=I.list ((jc H O).seq h1);have hl:=rv.length;have hl2:=h2.length
 have fin:∀(p:Array Nat) (l:Addr) (h':dR) (c:Nat) (ds':List D),Pm its.length p->(∀b o,s.heap.get? b=ba o->h'.get? b=ba o)->s.heap.objs.size<=l ->
  h'.get? l=ba (seqObj "list" (gy (uo its p)) c)->(p.toList.map λi=>xs.getD i .non)=ds'->Wd X.K O H Q (.lst ds')->EP X pins τ Q (.ref l) { s with heap:=h' }:=by
  intro p l h' c ds' hp kp hL e hds wq;have hin:=jdr hp;have hn:H l=none:=I.hok.fresh hL;refine⟨.ref l,_,I.laid (t':=s.toks) kp hL (show kO X.prog X.w _ h' _ (.lst (p.toList.map λi=>vs.getD i .non)) from ⟨?_,uo its p,c,QD rv _ λi hi=>?_,e⟩),rfl,?_⟩
  ·have:=hp.size;rw[bW,nF,dI];lia
  ·have:=hin i hi;lia
  ·refine wq _ _ (jt hn _) (ke (SqL.of (kY ho hn)) (Iss.minus_upd hn ?_));rw[<- hds]
   exact Y2 h2 _ λi hi=>by have:=hin i hi;lia
 have hpl:=p.isList;obtain⟨ps,rfl,w2⟩:=w;simp only[bW]at *
 refine jgJ (jcM ps) hpl (by unfold jcf;lia) (λh2' h' kp=>jcj ((jba I h2 rv).keep kp) h2') λp l h' c hp hu kp hL e=>?_
 refine fin p l h' c _ hp kp hL e (ja2 prD ps (0,0) _ λi hi=>by have:=jdr hp i hi;lia) (w2 _ (jdz hp (0,0) ps (by lia)) (jfs hp hu _ _ λi j h=>h))
theorem K1{f:Bi}(hc:X.calm=bh):kJ X f.val (cD X.K (biD f)):=by
 intro pins s τ H vs us Q I r w;obtain⟨O,ds,ho,is,w⟩:=w
 cases f with
 |abs =>
  obtain⟨x,rfl,w⟩:=qt w;obtain⟨v,rfl,i1⟩:=yV is
  cases x<;>first|exact w.elim|skip
  cases jk i1
  exact jbb pins s τ H _ us Q I r ⟨_,rfl,w _ _ (jd.refl H) (ju _)⟩
 |max =>
  obtain⟨x,y,rfl,w⟩:=Y1 w;obtain⟨i,j,rfl,rfl,w⟩:=kR w;obtain⟨v,v',rfl,i1,i2⟩:=ZZ is;cases jk i1;cases jk i2
  exact UT hc pins s τ H _ us Q I r ⟨_,_,rfl,w _ _ (jd.refl H) (ju _)⟩
 |min =>
  rcases jbE w with⟨x,rfl,w⟩|⟨x,y,rfl,w⟩
  ·obtain⟨xs,rfl,ns,rfl,hn,w⟩:=yu w;obtain⟨v,rfl,i1⟩:=yV is;obtain⟨a,vs,rfl,h1,h2⟩:=jA i1
   cases ns with
   |nil=>exact absurd rfl hn
   |cons n ns =>
    obtain⟨u,rfl,e1⟩:=qf r;cases e1;cases kD h2;exact Ub hc I ((jc H O).seq h1) (w _ _ (jd.refl H) (ju _))
  ·obtain⟨i,j,rfl,rfl,w⟩:=kR w;obtain⟨v,v',rfl,i1,i2⟩:=ZZ is;cases jk i1;cases jk i2
   exact Uw hc pins s τ H _ us Q I r ⟨_,_,rfl,w _ _ (jd.refl H) (ju _)⟩
 |mxl =>
  obtain⟨x,rfl,w⟩:=qt w;obtain⟨xs,rfl,ns,rfl,hn,w⟩:=yu w;obtain⟨v,rfl,i1⟩:=yV is;obtain⟨a,vs,rfl,h1,h2⟩:=jA i1
  cases ns with
  |nil=>exact absurd rfl hn
  |cons n ns =>
   obtain⟨u,rfl,e1⟩:=qf r;cases e1;cases kD h2
   exact ZS hc I ((jc H O).seq h1) (w _ _ (jd.refl H) (ju _))
 |len =>
  obtain⟨x,rfl,w⟩:=qt w;obtain⟨v,rfl,i1⟩:=yV is
  cases x<;>first|exact w.elim|skip
  ·obtain⟨rfl,o1⟩:=jL i1;exact KN pins s τ H _ us Q I r ⟨_,rfl,by rw[dI];exact w.1,w.2 _ _ (jd.refl H) (ju _)⟩
  ·obtain⟨a,vs,rfl,h1,h2⟩:=kU i1;refine zG pins s τ H _ us Q I r ⟨a,vs,rfl,.inr ((j9 (jc H O) h1)),?_⟩;rw[h2.length];exact w _ _ (jd.refl H) (ju _)
  ·obtain⟨a,vs,rfl,h1,h2⟩:=jA i1;refine zG pins s τ H _ us Q I r ⟨a,vs,rfl,.inl ((jc H O).seq h1),?_⟩;rw[h2.length]
   exact w _ _ (jd.refl H) (ju _)
 |int =>
  obtain⟨x,rfl,w⟩:=qt w;obtain⟨v,rfl,i1⟩:=yV is
  cases x<;>first|exact w.elim|skip
  ·cases k9 i1;exact JT pins s τ H _ us Q I r (.inr ⟨_,rfl,w _ _ (jd.refl H) (ju _)⟩)
  ·cases jk i1;exact JT pins s τ H _ us Q I r (.inl ⟨_,rfl,w _ _ (jd.refl H) (ju _)⟩)
  ·obtain⟨rfl,o1⟩:=jL i1;obtain⟨n,⟨hl,hn⟩,w⟩:=w
   exact Ua pins s τ H _ us Q I r ⟨_,n,rfl,hl,hn,w _ _ (jd.refl H) (ju _)⟩
 |str =>
  obtain⟨x,rfl,w⟩:=qt w;obtain⟨v,rfl,i1⟩:=yV is
  cases x<;>first|exact w.elim|skip
  cases jk i1
  exact zY pins s τ H _ us Q I r ⟨_,rfl,w.1,w.2 _ _ (jd.refl H) (kq (uE _))⟩
 |srt=>exact KH pins s τ H _ us Q I r ⟨O,ds,ho,is,w⟩
 |list =>
  obtain⟨x,rfl,w⟩:=qt w;obtain⟨v,rfl,i1⟩:=yV is
  cases x<;>first|exact w.elim|skip
  ·obtain⟨a,vs,rfl,h1,h2⟩:=kU i1;exact yb pins s τ H _ us Q I r ⟨a,vs,rfl,.inr ((j9 (jc H O) h1)),λl hl=>w _ _ (jt hl _) (ke (SqL.of (kY ho hl)) (Iss.minus_upd hl h2))⟩
  ·obtain⟨a,vs,rfl,h1,h2⟩:=jA i1
   exact yb pins s τ H _ us Q I r ⟨a,vs,rfl,.inl ((jc H O).seq h1),λl hl=>w _ _ (jt hl _) (ke (SqL.of (kY ho hl)) (Iss.minus_upd hl h2))⟩
 |tuple =>
  obtain⟨x,rfl,w⟩:=qt w;obtain⟨v,rfl,i1⟩:=yV is
  cases x<;>first|exact w.elim|skip
  ·obtain⟨a,vs,rfl,h1,h2⟩:=kU i1;exact yX pins s τ H _ us Q I r ⟨a,vs,rfl,.inr ⟨(j9 (jc H O) h1),w _ _ (jd.refl H) (zE h1 h2)⟩⟩
  ·obtain⟨a,vs,rfl,h1,h2⟩:=jA i1
   exact yX pins s τ H _ us Q I r ⟨a,vs,rfl,.inl ⟨(jc H O).seq h1,λl hl=>w _ _ (jt hl _) (ur (kY ho hl) (Iss.minus_upd hl h2))⟩⟩
 |sum =>
  obtain⟨x,rfl,w⟩:=qt w;obtain⟨xs,rfl,w1⟩:=yu w;obtain⟨v,rfl,i1⟩:=yV is;obtain⟨a,vs,rfl,h1,h2⟩:=jA i1;obtain⟨ns,rfl,w2⟩:=w1;cases kD h2
  exact Uq hc pins s τ H _ us Q I r ⟨a,ns,rfl,(jc H O).seq h1,w2 _ _ (jd.refl H) (ju _)⟩
 |all =>
  obtain⟨x,rfl,w⟩:=qt w;obtain⟨xs,rfl,w1⟩:=yu w;obtain⟨v,rfl,i1⟩:=yV is;obtain⟨a,vs,rfl,h1,h2⟩:=jA i1;obtain⟨ns,rfl,w2⟩:=w1;cases KR h2
  exact Ug hc pins s τ H _ us Q I r ⟨a,ns,rfl,(jc H O).seq h1,w2 _ _ (jd.refl H) (j5 _)⟩
 |dvm =>
  obtain⟨x,y,rfl,w⟩:=Y1 w;obtain⟨i,j,rfl,rfl,w⟩:=kR w;obtain⟨v,v',rfl,i1,i2⟩:=ZZ is;cases jk i1;cases jk i2;refine Qx pins s τ H _ us Q I r ⟨i,j,rfl,w.1,λp hp=>w.2 _ _ (jt hp _) (ur (kY ho hp) ?_)⟩;unfold Iss
  exact⟨_,_,rfl,ju _,by unfold Iss;exact⟨_,_,rfl,ju _,by unfold Iss;rfl⟩⟩
 |any =>
  obtain⟨x,rfl,w⟩:=qt w;obtain⟨xs,rfl,w1⟩:=yu w;obtain⟨v,rfl,i1⟩:=yV is;obtain⟨a,vs,rfl,h1,h2⟩:=jA i1;obtain⟨ns,rfl,w2⟩:=w1;cases KR h2;exact Us hc pins s τ H _ us Q I r ⟨a,ns,rfl,(jc H O).seq h1,w2 _ _ (jd.refl H) (j5 _)⟩
theorem jdq{S:Hp}{i:Int}{d:D}(is:Iss K S xs vs)(e:atD xs i=ba d):∃v,atI vs i=ba v/\Is K S d v:=by
 have hl:=is.length;unfold atD at e;unfold atI ixN;by_cases h0:0<=i
 ·rw[if_pos h0]at e ⊢
  have hlt:i.toNat<xs.length:=by
   rcases gL i.toNat xs.length with z|z
   ·exact z
   ·rw[bZ z]at e;cases e
  rw[if_pos (by lia)];exact is.get e
 ·rw[if_neg h0]at e ⊢;by_cases h1:-(xs.length:Int)<=i
  ·rw[if_pos h1]at e;rw[if_pos (by lia),hl];exact is.get e
  ·rw[if_neg h1]at e;cases e
theorem jfL:IxR X (rD X.K ixD):=by
 intro value slice pins s τ H xv yv v u Q I rx ry w hs;obtain⟨O,x,y,ho,ix,iy,w⟩:=w;unfold ixD at w;split at w
 ·obtain⟨a,vs,rfl,h1,h2⟩:=jA ix;cases jk iy;obtain⟨d,e,w⟩:=w;obtain⟨z,e1,e2⟩:=jdq h2 e;exact L2.ix_list value slice pins s τ H _ _ v u Q I rx ry ⟨a,vs,_,z,rfl,rfl,(jc H O).seq h1,e1,w _ _ (jd.refl H) e2⟩ hs
 ·obtain⟨a,vs,rfl,h1,h2⟩:=kU ix;cases jk iy;obtain⟨d,e,w⟩:=w;obtain⟨z,e1,e2⟩:=jdq h2 e;exact L2.ix_tup value slice pins s τ H _ _ v u Q I rx ry ⟨a,vs,_,z,rfl,rfl,(j9 (jc H O) h1),e1,w _ _ (jd.refl H) e2⟩ hs
 ·next z j =>
  obtain⟨rfl,o1⟩:=jL ix;cases jk iy;obtain⟨c,⟨hl,h0,hc⟩,w⟩:=w
  have hc':z.cps.toList[j.toNat]?=ba c:=by simpa using hc
  refine L2.ix_str value slice pins s τ H _ _ v u Q I rx ry ⟨_,_,c,rfl,rfl,by rw[dI];exact hl,?_,w _ _ (jd.refl H) (kq ?_)⟩ hs
  ·have hj:=(dH.mp hc').1;unfold atI ixN;rw[if_pos h0,if_pos (by lia)];exact hc'
  ·refine qj (l:=[c]) λd hd=>?_
   rw[dr.mp hd];exact ki o1 (gv hc')
 ·exact w.elim
def jdZ:D->String
 |.non=>"NoneType"
 |.bl _=>"bool"
 |.int _=>"int"
 |.str _=>"str"
 |.tup _=>"tuple"
 |.lst _=>"list"
def Ty.val:Ty->bq
 |.int=>.type "int"
 |.bool=>.type "bool"
 |.tuple=>.type "tuple"
 |.list=>.type "list"
 |.str=>.type "str"
theorem jdL(K:bx)(d:D)(t:Ty):PySem.W.kitOne K (.type (jdZ d)) t.val=ba (tyD t d):=by
 cases d<;>cases t<;>with_unfolding_all rfl
theorem jae{t:Ty}{s:Shared}{d:D}{v:V}{Q:bq->Shared->Prop}(I:Inv X pins τ H s)(i:Is X.K H d v)(r:jH v u)(h:∀tk,Q (.bool (tyD t d)) { s with toks:=tk }) :
 wpAny (model X.prog X.w) X.A (call (.builtin "isinstance") [u,t.val]) Q E s:=by
 have e:=jdL X.K d t
 cases d with
 |non=>cases XQ i;cases r;exact nQ PySem.W.kitx_none I.kIn wa e (λz=>nomatch z) h
 |bl b=>cases k9 i;cases r;exact nQ PySem.W.kitx_bool I.kIn wa e (λz=>nomatch z) h
 |int n=>cases jk i;obtain⟨t,rfl⟩:=r;exact nQ PySem.W.kitx_int I.kIn wa e (λz=>nomatch z) h
 |str x=>obtain⟨rfl,_⟩:=jL i;obtain⟨t,rfl⟩:=r;exact nQ PySem.W.kitx_str I.kIn wa e (λz=>nomatch z) h
 |tup xs =>
  obtain⟨a,vs,rfl,h1,h2⟩:=kU i;cases r;obtain⟨its,rv,⟨o,e1,e2,n,e3⟩,_⟩:=I.tuple h1
  exact nQ PySem.W.kitx_tuple I.kIn ⟨o,e1,e2⟩ e (λz=>nomatch z) h
 |lst xs =>
  obtain⟨a,vs,rfl,h1,h2⟩:=jA i;cases r;obtain⟨its,rv,pl,_⟩:=I.list h1;obtain⟨o,e1,e2,n,e3⟩:=pl.isList;exact nQ PySem.W.kitx_list I.kIn ⟨o,e1,e2⟩ e (λz=>nomatch z) h
end
variable{e a b:Ex}{p:Pos}{tg:bU}{H1:Hp}{J:It}{l1:Addr}
section
variable {X:Cx} {k:Ck} {C:Cfg}
theorem kH{e:bU}(h:Jg e=bj)(env:tR)(v:bq):gQ e env v=pure v:=by
 cases e<;>first|rfl|exact bK h
def Its(lo st:Int)(n:Nat):It:=⟨λi _=>i<n,λi H x H'=>H'=H/\x=.int (lo+i*st),λi _=>n<=i⟩
theorem Uz(it:Addr)(lo st:Int)(n:Nat):Turn P w K tg (Its lo st n) [it] it (λi h=>IsRangeIter h it (lo+(i:Nat)*st) ((n:Int)-(i:Nat)) st) where
 mem:=by simp
 obj:=λi h s b hb=>by
  have e:b=it:=by simpa using hb
  subst e
  exact⟨_,s,λv z=>by
   have z':jkk _=Data.cell v:=z
   cases z'⟩
 keep:=λi h h' s k=>k it (by simp) _ s
 item:=by
  intro X hP hw hK hc i pins s σ H E I hf s1 hg;subst hP hw hK;obtain⟨f0,f1,f2,f3,f4,f5⟩:=hf it (by simp);have W:=Walks.range (prog:=X.prog) (w:=X.w) (I.ok.hd hc) it lo st n
  refine W.item i s _ _ hg s1 λv h' tk hv s2 kk=>?_
  obtain⟨t,rfl⟩:=hv;have I1:Inv X pins σ H { s with heap:=h',toks:=tk }:=I.turned (λb o hb e=>kk b o (by simpa using hb) e) f0 f1 f3 f4 f5;exact⟨_,rfl,Xi (s:={ s with heap:=h',toks:=tk }) (n:="range_iterator") s2 rfl rfl (by decide) ⟨.int (lo+i*st),H,I1,⟨t,rfl⟩,⟨rfl,rfl⟩,s2,λb hb=>(hf b hb).1⟩⟩
 done:=by
  intro X hP hw hK hc i pins s σ H E I hf s1 hg;subst hP hw hK;obtain⟨f0,f1,f2,f3,f4,f5⟩:=hf it (by simp)
  exact wpAny_pyNext_range_end (I.ok.hd hc) s1 (by have:n<=i:=hg;lia) λh' eb=>⟨rfl,I.turned (t':=s.toks) (λb o hb e=>eb b o hb e) f0 f1 f3 f4 f5⟩
 self:=λ_ _ _ _ _ s h=>wpAny_pyIter_rangeiter s h
theorem Xu{a b c:Int}(ha:xC a)(hb:xC b)(hc:0<c)(hc2:c<1000):jhW a b c=true:=by
 unfold jhW p7;unfold xC at ha hb;have h1:(b-a-1) / c*c<=b-a-1:=Int.ediv_mul_le _ (by lia)
 have h2:a<b->0<=(b-a-1) / c:=λh=>jjc (by lia) (by lia)
 have h3:a<b->(b-a-1) / c<=b-a-1:=λh=>Int.ediv_le_self _ (by lia)
 simp only[jji,bz,gX,decide_eq_true_eq,beq_iff_eq,show c > 0 from hc,if_true];by_cases h:a<b
 ·rw[if_pos h];generalize hq:(b-a-1) / c=q at *
  have e:(q+1)*c=q*c+c:=by rw[jkl,Int.one_mul]
  have h2':=h2 h;have h3':=h3 h;lia
 ·rw[if_neg h];lia
theorem Qe{σ:L2.St}{s:Shared}{R:It->Hp->Prop}{lo hi st:Int}{u v:Tok}(I:Inv X pins σ H s)(h1:xC lo)(h2:xC hi)(h3:0<st)(h4:st<1000)
 (q:R (Its lo st (if lo<hi then (hi-lo-1) / st+1 else 0).toNat) H):wpAny (model X.prog X.w) X.A (pyIter (.ref s.heap.objs.size)) (PIE X pins σ tg R) E { s with heap:=s.heap.push { cls:=.type "range",data:=.fields #[.int lo t,.int hi u,.int st v] },toks:=tk }:=by
 refine wpAny_pyIter_range (IsRange.new ..) (Xu h1 h2 h3 h4) ?_
 have I1:Inv X pins σ H { s with heap:=s.heap.push { cls:=.type "range",data:=.fields #[.int lo t,.int hi u,.int st v] },toks:=tk }:=I.kept λb o e=>bu _ e
 refine⟨(s.heap.push { cls:=.type "range",data:=.fields #[.int lo t,.int hi u,.int st v] }).objs.size,[(s.heap.push { cls:=.type "range",data:=.fields #[.int lo t,.int hi u,.int st v] }).objs.size],_,_,H,rfl,
  I1.kept (t':=tk) λb o e=>bu _ e,Uz _ lo st (if lo<hi then (hi-lo-1) / st+1 else 0).toNat,?_,λb hb=>?_,q⟩
 ·have e1:lo+((0:Nat):Int)*st=lo:=by simp
  have e2:(((if lo<hi then (hi-lo-1) / st+1 else 0).toNat:Nat):Int)-((0:Nat):Int)=p7 lo hi st:=by
   unfold p7;rw[if_pos h3]
   have:lo<hi->0<=(hi-lo-1) / st:=λh=>jjc (by lia) (by lia)
   split<;>lia
  show IsRangeIter _ _ (lo+((0:Nat):Int)*st) ((((if lo<hi then (hi-lo-1) / st+1 else 0).toNat:Nat):Int)-((0:Nat):Int)) st;rw[e1,e2];exact bM _ rfl
 ·have e:b=(s.heap.push { cls:=.type "range",data:=.fields #[.int lo t,.int hi u,.int st v] }).objs.size:=by simpa using hb
  subst e;exact I1.fpOk (bN _) (I1.hok.fresh (bN _))
def iRg(ta:TA):TI:=λσ H R=>ta σ H λvs H1=>∃lo hi st:Int,(vs=[.int hi]/\lo=0/\st=1\/vs=[.int lo,.int hi]/\st=1\/vs=[.int lo,.int hi,.int st])/\(xC lo/\xC hi/\0<st/\st<1000)/\R (Its lo st (if lo<hi then (hi-lo-1) / st+1 else 0).toNat) H1
theorem Vw{a:bU}{as:List bU}(hg:Gl X "range")(hm:X.mg "range"=bc)(ha:PA X (a::as) ta)(hs:bY (a::as) X.env=(bj,eval a X.env)::bY as X.env)(hpl:(backTo pos (bY as X.env)).any (·.1)=bj):PI X tg (.Call (.Name "range" p) (a::as) [] pos) (iRg ta):=by
 intro pins s σ H R I h;refine Call_ (uC I hg hm boot_range (mJ (thn (ha pos pins s σ H _ I h) λus s1 ⟨vs,H1,I1,r1,q1⟩=>?_) hs hpl));obtain⟨lo,hi,st,e,⟨q1,q2,q3,q4⟩,q⟩:=q1;rcases e with⟨rfl,rfl,rfl⟩|⟨rfl,rfl⟩|rfl
 ·cases r1 with
  |cons r rr =>
   cases rr;obtain⟨t,rfl⟩:=r;exact call_range_1 (Qe I1 q1 q2 q3 q4 q)
 ·cases r1 with
  |cons r rr =>
   cases rr with
   |cons r' rr =>
    cases rr;obtain⟨t,rfl⟩:=r;obtain⟨t',rfl⟩:=r';exact call_range_2 (Qe I1 q1 q2 q3 q4 q)
 ·cases r1 with
  |cons r rr =>
   cases rr with
   |cons r' rr =>
    cases rr with
    |cons r'' rr =>
     cases rr;obtain⟨t,rfl⟩:=r;obtain⟨t',rfl⟩:=r';obtain⟨t'',rfl⟩:=r'';exact call_range_3 (by lia) (Qe I1 q1 q2 q3 q4 q) (.inl (jg5 (by lia)))
theorem xW:∀(n:Nat) (lo st:Int) (i:Nat),i<n->(ko lo st n)[i]?=ba (.int (lo+i*st))
 |0,lo,st,i,h=>by lia
 |n+1,lo,st,0,h=>by simp[ko]
 |n+1,lo,st,i+1,h=>by
  simp only[ko,List.getElem?_cons_succ];rw[xW n (lo+st) st i (by lia)];congr 2
  have:((i+1:Nat):Int)*st=i*st+st:=by rw[Int.natCast_add,jkl];simp
  lia
theorem jN:∀(n:Nat) (lo st:Int),(ko lo st n).length=n
 |0,lo,st=>rfl
 |n+1,lo,st=>by simp[ko,jN n]
theorem Yy{S:Hp}{P:List D->Prop}(i:Iss K S ds vs)(w:rgD ds P) :
 ∃lo hi st:Int,(vs=[.int hi]/\lo=0/\st=1\/vs=[.int lo,.int hi]/\st=1\/vs=[.int lo,.int hi,.int st])/\(xC lo/\xC hi/\0<st/\st<1000)/\P (ko lo st (if lo<hi then (hi-lo-1) / st+1 else 0).toNat):=by
 unfold rgD at w;split at w
 ·next hi =>
  obtain⟨v,rfl,i1⟩:=yV i;cases jk i1;refine⟨0,hi,1,.inl ⟨rfl,rfl,rfl⟩,⟨by unfold xC;lia,w.1,by decide,by decide⟩,?_⟩
  have e:(if (0:Int)<hi then (hi-0-1) / 1+1 else 0).toNat=hi.toNat:=by
   rw[jiD];split<;>lia
  rw[e];exact w.2
 ·next lo hi =>
  obtain⟨v,v',rfl,i1,i2⟩:=ZZ i;cases jk i1;cases jk i2;refine⟨lo,hi,1,.inr (.inl ⟨rfl,rfl⟩),⟨w.1.1,w.1.2,by decide,by decide⟩,?_⟩
  have e:(if lo<hi then (hi-lo-1) / 1+1 else 0).toNat=(hi-lo).toNat:=by
   rw[jiD];split<;>lia
  rw[e];exact w.2
 ·next lo hi st =>
  unfold Iss at i;obtain⟨v,r,rfl,i1,i⟩:=i;obtain⟨v',v'',rfl,i2,i3⟩:=ZZ i;cases jk i1;cases jk i2;cases jk i3;exact⟨lo,hi,st,.inr (.inr rfl),w.1,w.2⟩
 ·exact w.elim
def Itx(z:bF):It:=⟨λi _=>i<z.cps.size,λi H x H'=>H'=H/\∃c,z.cps[i]?=ba c/\x=.str ⟨#[c]⟩,λi _=>z.cps.size<=i⟩
theorem Ki(it:Addr)(z:bF)(t:Tok){n:String}(hn:n="str_ascii_iterator" \/ n="str_iterator"):Turn P w K tg (Itx z) [it] it (λi h=>h.IsStrIter it n z t i) where
 mem:=by simp
 obj:=λi h st b hb=>by
  have e:b=it:=by simpa using hb
  subst e;obtain⟨o,e,c,d⟩:=st;exact⟨o,e,λv z=>by rw[d]at z;cases z⟩
 keep:=λi h h' st k=>by
  obtain⟨o,e,r⟩:=st;exact⟨o,k it (by simp) o e,r⟩
 item:=by
  intro X hP hw hK hc i pins s σ H E I hf st hg;subst hP hw hK;obtain⟨f0,f1,f2,f3,f4,f5⟩:=hf it (by simp)
  have W:Walks X.prog X.w X.A it [it] [it] z.cps.size (SignAt z) (λi h=>h.IsStrIter it n z t i):=by
   rcases hn with rfl|rfl
   ·exact Walks.strAscii (I.ok.hd hc) it z t
   ·exact Walks.strWide (I.ok.hd hc) it z t
  refine W.item i s _ _ hg st λv h' tk hv st' kk=>?_
  obtain⟨c,u,hc',rfl⟩:=hv;have I1:Inv X pins σ H { s with heap:=h',toks:=tk }:=I.turned (λb o hb e=>kk b o (by simpa using hb) e) f0 f1 f3 f4 f5;obtain⟨o,e,cl,d⟩:=id st';exact⟨_,rfl,Xi (s:={ s with heap:=h',toks:=tk }) e cl d (by rcases hn with rfl|rfl<;>decide) ⟨.str ⟨#[c]⟩,H,I1,⟨_,rfl⟩,⟨rfl,c,hc',rfl⟩,st',λb hb=>(hf b hb).1⟩⟩
 done:=by
  intro X hP hw hK hc i pins s σ H E I hf st hg;subst hP hw hK;obtain⟨f0,f1,f2,f3,f4,f5⟩:=hf it (by simp);have hg':z.cps[i]?=none:=Array.getElem?_eq_none hg;rcases hn with rfl|rfl
  ·exact wpAny_pyNext_ascii_end (I.ok.hd hc) st hg' λh' eb=>⟨rfl,I.turned (t':=s.toks) (λb o hb e=>eb b o hb e) f0 f1 f3 f4 f5⟩
  ·exact wpAny_pyNext_wide_end (I.ok.hd hc) st hg' λh' eb=>⟨rfl,I.turned (t':=s.toks) (λb o hb e=>eb b o hb e) f0 f1 f3 f4 f5⟩
 self:=λ_ _ _ _ _ st h=>by
  rcases hn with rfl|rfl
  ·exact wpAny_pyIter_striter_ascii st h
  ·exact wpAny_pyIter_striter_wide st h
def Wlk(K:bx)(x:V)(H:Hp)(J:It):Prop:=(∃a,x=.ref a/\((∃xs,SqL K H a xs)/\J=Itl K a\/(∃xs,SqT K H a xs)/\J=Itt K a))\/∃z,x=.str z/\J=Itx z
def jbV(K:bx)(tl:TE):TI:=λσ H R=>tl σ H λx H1=>∃J,Wlk K x H1 J/\R J H1
theorem yn{tl:TE}(hl:PE X l tl):PI X tg l (jbV X.K tl):=by
 intro pins s σ H R I h
 refine thn (hl pins s σ H _ I h) λv s1 ⟨x,H1,I1,r1,J,hw,q⟩=>?_
 have fp:∀b ∈ [s1.heap.objs.size],yh X pins H1 b:=λb hb=>by
  have e:b=s1.heap.objs.size:=by simpa using hb
  subst e;exact I1.fpOk (bN _) (I1.hok.fresh (bN _))
 rcases hw with⟨a,rfl,⟨⟨xs,hq⟩,rfl⟩|⟨⟨xs,hq⟩,rfl⟩⟩|⟨z,rfl,rfl⟩
 ·cases r1;obtain⟨its,rv,p,hz⟩:=I1.list hq;exact gP p.isList ⟨s1.heap.objs.size,[s1.heap.objs.size],_,_,H1,rfl,I1.kept (t':=s1.toks) λb o e=>bu _ e,xQ a _,⟨_,bM _ rfl,rfl,rfl⟩,fp,q⟩
 ·cases r1;obtain⟨its,rv,p,hz⟩:=I1.tuple hq;exact wpAny_pyIter_tuple (show s1.heap.IsTuple a its.toArray from p) ⟨s1.heap.objs.size,[s1.heap.objs.size],_,_,H1,rfl,I1.kept (t':=s1.toks) λb o e=>bu _ e,XR a _,⟨_,bM _ rfl,rfl,rfl⟩,fp,q⟩
 ·obtain⟨t,rfl⟩:=r1;cases ha:z.cps.all (· < 128)
  ·exact wpAny_pyIter_wide ha ⟨s1.heap.objs.size,[s1.heap.objs.size],_,_,H1,rfl,I1.kept (t':=s1.toks) λb o e=>bu _ e,Ki _ z t (.inr rfl),⟨_,bM _ rfl,rfl,rfl⟩,fp,q⟩
  ·exact wpAny_pyIter_ascii ha ⟨s1.heap.objs.size,[s1.heap.objs.size],_,_,H1,rfl,I1.kept (t':=s1.toks) λb o e=>bu _ e,Ki _ z t (.inl rfl),⟨_,bM _ rfl,rfl,rfl⟩,fp,q⟩
inductive WlkD (K:bx) (xs:List D) (v:V) (H1:Hp) (O:List Addr):Prop
 |mk (J:It) (w:Wlk K v H1 J) (g:∀j H O',jd (minus H1 O) (minus H O')->j<xs.length->J.go j H) (s:∀j H O',jd (minus H1 O) (minus H O')->xs.length<=j->J.stop j H)
  (y:∀j H O' v H' d,jd (minus H1 O) (minus H O')->J.yld j H v H'->xs[j]?=ba d->H'=H/\Is K (minus H O') d v)
theorem walk_of{d:D}{v:V}(e:yt d=ba xs)(i:Is K (minus H1 O) d v):WlkD K xs v H1 O:=by
 cases d with
 |lst ys =>
  cases e;obtain⟨a,vs,rfl,h5,h6⟩:=jA i;have hl:=h6.length
  have sq:∀ {H:Hp} {O':List Addr},jd (minus H1 O) (minus H O')->SqL K H a vs:=λsm=>(jc _ _).seq (sm.seq h5)
  refine⟨_,.inl ⟨a,rfl,.inl ⟨⟨vs,(jc _ _).seq h5⟩,rfl⟩⟩,?_,?_,?_⟩
  ·intro j H O' sm hj;exact⟨vs,vs[j],sq sm,bO (by omega)⟩
  ·intro j H O' sm hj;exact⟨vs,sq sm,by omega⟩
  ·intro j H O' v H' d sm y hd;obtain⟨e2,y⟩:=y;obtain⟨z,e3,e4⟩:=h6.get hd;have:=y vs (sq sm);rw[e3]at this;cases this
   exact⟨e2,Is.mono sm d e4⟩
 |tup ys =>
  cases e;obtain⟨a,vs,rfl,h5,h6⟩:=kU i;have hl:=h6.length
  have sq:∀ {H:Hp} {O':List Addr},jd (minus H1 O) (minus H O')->SqT K H a vs:=λsm=>j9 (jc _ _) (j9 sm h5)
  refine⟨_,.inl ⟨a,rfl,.inr ⟨⟨vs,(j9 (jc _ _) h5)⟩,rfl⟩⟩,?_,?_,?_⟩
  ·intro j H O' sm hj;exact⟨vs,vs[j],sq sm,bO (by omega)⟩
  ·intro j H O' sm hj;exact⟨vs,sq sm,by omega⟩
  ·intro j H O' v H' d sm y hd;obtain⟨e2,y⟩:=y;obtain⟨z,e3,e4⟩:=h6.get hd;have:=y vs (sq sm);rw[e3]at this;cases this
   exact⟨e2,Is.mono sm d e4⟩
 |str x =>
  cases e;obtain⟨rfl,ok⟩:=jL i;refine⟨_,.inr ⟨x,rfl,rfl⟩,?_,?_,?_⟩
  ·intro j H O' sm hj;rw[bW]at hj;exact hj
  ·intro j H O' sm hj;rw[bW]at hj;exact hj
  ·rintro j H O' v H' d sm ⟨e2,c,hc,rfl⟩ hd;rw[dQ,jhn,hc]at hd;cases hd
   exact⟨e2,kq (qj (l:=[c]) λc' h'=>by rw[dr.mp h'];exact ki ok (jhx.mpr (Array.mem_of_getElem? hc)))⟩
 |_=>cases e
theorem xw{z:Option Sl}:∀(i:Nat),ji (σ ++ [z]) i=if i<σ.length then ji σ i else if i=σ.length then z else none:=by
 induction σ with
 |nil =>
  intro i
  cases i with
  |zero=>rfl
  |succ i=>simp[ji]
 |cons a r ih =>
  intro i
  cases i with
  |zero=>simp[ji]
  |succ i =>
   show ji (r ++ [z]) i=_;rw[ih i];simp only[b6,Nat.add_lt_add_iff_right,Nat.add_right_cancel_iff];rfl
theorem Reps.snoc{d:D}{v:V}(R:Reps K O H σ τ)(h:Is K (minus H O) d v):Reps K O H (σ ++ [ba (.sh d)]) (τ ++ [ba v]) where
 len:=by simp[R.len]
 own:=R.own
 sh:=λi e g=>by
  rw[xw]at g;split at g
  ·next hi =>
   obtain⟨u,e1,e2⟩:=R.sh i e g;exact⟨u,by rw[d7 (by rw[<- R.len];exact hi)];exact e1,e2⟩
  ·split at g
   ·next hi =>
    cases g;subst hi;exact⟨v,by rw[gI (by rw[R.len];exact bN _),R.len];simp,h⟩
   ·cases g
 ow:=λi ds g=>by
  rw[xw]at g;split at g
  ·next hi =>
   obtain⟨a,vs,e1,e2,e3,e4⟩:=R.ow i ds g;exact⟨a,vs,by rw[d7 (by rw[<- R.len];exact hi)];exact e1,e2,e3,e4⟩
  ·split at g<;>cases g
 dj:=λi j ds es hij g1 g2=>by
  rw[xw]at g1 g2;split at g1
  ·next hi =>
   split at g2
   ·next hj =>
    rw[d7 (by rw[<- R.len];exact hi),d7 (by rw[<- R.len];exact hj)];exact R.dj i j ds es hij g1 g2
   ·split at g2<;>cases g2
  ·split at g1<;>cases g1
 tt:=by
  have old:∀j z,ji (σ ++ [ba (.sh d)]) j=ba z->(∀d,z ≠ .sh d)->ji σ j=ba z/\(τ ++ [ba v])[j]?=τ[j]?:=λj z g n=>by
   rw[xw]at g;split at g
   ·next hj=>exact⟨g,d7 (by rw[<- R.len];exact hj)⟩
   ·split at g
    ·cases g;exact absurd rfl (n _)
    ·cases g
  exact R.tt.step (λj rows g=>old j _ g λ_ z=>nomatch z) (λ_ _ _ _ _ _ _ t=>t) λ_ _ _ _ j ds b _ _ g q=>by
   obtain⟨g1,e⟩:=old j _ g λ_ z=>nomatch z
   exact .inl ⟨ds,g1,by rw[<- e];exact q⟩
theorem Iss.snoc{S:Hp}{d:D}{v:V}(h:Iss K S ds vs)(g:Is K S d v):Iss K S (ds ++ [d]) (vs ++ [v]) :=
 h.append (by unfold Iss;exact⟨v,[],rfl,g,by unfold Iss;rfl⟩)
theorem comp_turnsGF(R1:Reps K O H1 σ τ)(hx:xs.length<=lim)
 (hgo:∀j H,jd H1 H->j<xs.length->J.go j H) (hst:∀j H,jd H1 H->xs.length<=j->J.stop j H)
 (hy:∀j H v H' d,jd H1 H->J.yld j H v H'->xs[j]?=ba d->jd H H'/\Is K (minus H' O) d v)
 (w:qw (λd Q=>wpE C e (σ ++ [ba (.sh d)]) Q) xs λys=>WdF K O H1 Q (.lst ys)) :
 ∃W:Nat->Nat->List V->Hp->Prop,(∃m,W 0 m [] H1)/\∀i m ys H,W i m ys H ->
  (J.stop i H/\ys.length<=sizeLine/\∀p,H p=bc->Q (.ref p) (upd H p (.lst ys)))\/(J.go i H/\ys.length<sizeLine/\∀x H',J.yld i H x H'->tD K C e (τ ++ [ba x]) H' λy H2=>∃m',m'<m/\W (i+1) m' (ys ++ [y]) H2):=by
 refine⟨λj m ys H=>m=xs.length-j/\j<=xs.length/\jd H1 H/\∃ds,ds.length=j/\Iss K (minus H O) ds ys/\qw (λd Q=>wpE C e (σ ++ [ba (.sh d)]) Q) (xs.drop j) λrest=>WdF K O H1 Q (.lst (ds++rest)),
  ⟨_,rfl,gf _,jd.refl _,[],rfl,by unfold Iss;rfl,by simpa using w⟩,?_⟩
 rintro j m ys H ⟨rfl,hj,sm,ds,hd,is,w⟩
 have hl:ys.length=j:=by rw[is.length,hd]
 have R:=R1.mono sm
 have hlim:lim<=sizeLine:=by decide
 by_cases hlt:j<xs.length
 ·refine .inr ⟨hgo j H sm hlt,by lia,λx H' y=>?_⟩;obtain⟨e1,ix⟩:=hy j H x H' xs[j] sm y (bO hlt);rw[d8 hlt]at w;rw[qw]at w;refine⟨_,O,(R.mono e1).snoc ix,ja e (λyd wy v H2 s2 i2=>?_) w⟩;refine⟨xs.length-(j+1),by lia,rfl,hlt,(sm.trans e1).trans s2,ds ++ [yd],by simp[hd],(Iss.mono (jb (e1.trans s2)) ds is).snoc i2,?_⟩;simpa using wy
 ·have e1:j=xs.length:=by lia
  refine .inl ⟨hst _ H sm (by lia),by lia,λp hp=>?_⟩;rw[sv (by lia)]at w;rw[qw]at w;rw[dv]at w
  have h1:H1 p=none:=by
   cases q:H1 p with
   |none=>rfl
   |some o=>rw[sm p o q]at hp;cases hp
  exact w ds p _ ys rfl (sm.trans (jt hp _)) h1 (jh ..) (Iss.mono (kS (jt hp _) hp) ds is)
theorem comp_turnsG(R1:Reps K O H1 σ τ)(hx:xs.length<=lim)
 (hgo:∀j H,jd H1 H->j<xs.length->J.go j H) (hst:∀j H,jd H1 H->xs.length<=j->J.stop j H)
 (hy:∀j H v H' d,jd H1 H->J.yld j H v H'->xs[j]?=ba d->jd H H'/\Is K (minus H' O) d v)
 (w:qw (λd Q=>wpE C e (σ ++ [ba (.sh d)]) Q) xs λys=>Wd K O H1 Q (.lst ys)) :
 ∃W:Nat->Nat->List V->Hp->Prop,(∃m,W 0 m [] H1)/\∀i m ys H,W i m ys H ->
  (J.stop i H/\ys.length<=sizeLine/\∀p,H p=bc->Q (.ref p) (upd H p (.lst ys)))\/(J.go i H/\ys.length<sizeLine/\∀x H',J.yld i H x H'->tD K C e (τ ++ [ba x]) H' λy H2=>∃m',m'<m/\W (i+1) m' (ys ++ [y]) H2) :=
 comp_turnsGF R1 hx hgo hst hy (jO (f:=λd Q=>wpE C e (σ ++ [ba (.sh d)]) Q) (λd _ _ hq=>ja e hq) _ (λys wy=>wy.wdF R1.own) w)
theorem xY(R1:Reps K O H1 σ τ)(hx:xs.length<=lim)
 (hgo:∀j H,jd H1 H->j<xs.length->J.go j H) (hst:∀j H,jd H1 H->xs.length<=j->J.stop j H)
 (hy:∀j H v H' d,jd H1 H->J.yld j H v H'->xs[j]?=ba d->H'=H/\Is K (minus H O) d v)
 (w:qw (λd Q=>wpE C e (σ ++ [ba (.sh d)]) Q) xs λys=>Wd K O H1 Q (.lst ys)) :
 ∃W:Nat->Nat->List V->Hp->Prop,(∃m,W 0 m [] H1)/\∀i m ys H,W i m ys H ->
  (J.stop i H/\ys.length<=sizeLine/\∀p,H p=bc->Q (.ref p) (upd H p (.lst ys)))\/(J.go i H/\ys.length<sizeLine/\∀x H',J.yld i H x H'->tD K C e (τ ++ [ba x]) H' λy H2=>∃m',m'<m/\W (i+1) m' (ys ++ [y]) H2) :=
 comp_turnsG R1 hx hgo hst (λj H v H' d s y e=>by obtain⟨q,i⟩:=hy j H v H' d s y e;subst q;exact⟨jd.refl _,i⟩) w
theorem comp_turnsFF(R1:Reps K O H1 σ τ)(hx:xs.length<=lim)
 (hgo:∀j H,jd H1 H->j<xs.length->J.go j H) (hst:∀j H,jd H1 H->xs.length<=j->J.stop j H)
 (hy:∀j H v H' d,jd H1 H->J.yld j H v H'->xs[j]?=ba d->H'=H/\Is K (minus H O) d v)
 (w:xl (λd Q=>wpE C c (σ ++ [ba (.sh d)]) (isB Q)) (λd Q=>wpE C e (σ ++ [ba (.sh d)]) Q) xs λys=>WdF K O H1 Q (.lst ys)) :
 ∃W:Nat->Nat->List V->Hp->Prop,(∃m,W 0 m [] H1)/\∀i m ys H,W i m ys H ->
  (J.stop i H/\ys.length<=sizeLine/\∀p,H p=bc->Q (.ref p) (upd H p (.lst ys)))\/(J.go i H/\ys.length<sizeLine/\∀x H',J.yld i H x H'->tDT K C c (τ ++ [ba x]) H' λb H1 =>
   if b=bh then tD K C e (τ ++ [ba x]) H1 λy H2=>∃m',m'<m/\W (i+1) m' (ys ++ [y]) H2 else ∃m',m'<m/\W (i+1) m' ys H1):=by
 refine⟨λj m ys H=>m=xs.length-j/\j<=xs.length/\jd H1 H/\∃ds,ds.length<=j/\Iss K (minus H O) ds ys/\xl (λd Q=>wpE C c (σ ++ [ba (.sh d)]) (isB Q)) (λd Q=>wpE C e (σ ++ [ba (.sh d)]) Q) (xs.drop j) λrest=>WdF K O H1 Q (.lst (ds++rest)),
  ⟨_,rfl,gf _,jd.refl _,[],bN _,by unfold Iss;rfl,by simpa using w⟩,?_⟩
 rintro j m ys H ⟨rfl,hj,sm,ds,hd,is,w⟩;have hl:ys.length=ds.length:=is.length;have R:=R1.mono sm
 have hlim:lim<=sizeLine:=by decide
 by_cases hlt:j<xs.length
 ·refine .inr ⟨hgo j H sm hlt,by lia,λx H' y=>?_⟩;obtain⟨rfl,ix⟩:=hy j H x H' xs[j] sm y (bO hlt);rw[d8 hlt]at w;rw[xl]at w;refine⟨_,O,R.snoc ix,ja c (λcd=>jT λb wb H2 s2=>?_) w⟩
  cases b with
  |true =>
   refine⟨_,O,(R.snoc ix).mono s2,ja e (λyd wy v H3 s3 i3=>?_) wb⟩;refine⟨xs.length-(j+1),by lia,rfl,hlt,(sm.trans s2).trans s3,ds ++ [yd],by simp;lia,(Iss.mono (jb (s2.trans s3)) ds is).snoc i3,?_⟩
   simpa using wy
  |false=>exact⟨xs.length-(j+1),by lia,rfl,hlt,sm.trans s2,ds,by lia,Iss.mono (jb s2) ds is,wb⟩
 ·have e1:j=xs.length:=by lia
  refine .inl ⟨hst _ H sm (by lia),by lia,λp hp=>?_⟩;rw[sv (by lia)]at w;rw[xl]at w;rw[dv]at w
  have h1:H1 p=none:=by
   cases q:H1 p with
   |none=>rfl
   |some o=>rw[sm p o q]at hp;cases hp
  exact w ds p _ ys rfl (sm.trans (jt hp _)) h1 (jh ..) (Iss.mono (kS (jt hp _) hp) ds is)
theorem Xq(R1:Reps K O H1 σ τ)(hx:xs.length<=lim)
 (hgo:∀j H,jd H1 H->j<xs.length->J.go j H) (hst:∀j H,jd H1 H->xs.length<=j->J.stop j H)
 (hy:∀j H v H' d,jd H1 H->J.yld j H v H'->xs[j]?=ba d->H'=H/\Is K (minus H O) d v)
 (w:xl (λd Q=>wpE C c (σ ++ [ba (.sh d)]) (isB Q)) (λd Q=>wpE C e (σ ++ [ba (.sh d)]) Q) xs λys=>Wd K O H1 Q (.lst ys)) :
 ∃W:Nat->Nat->List V->Hp->Prop,(∃m,W 0 m [] H1)/\∀i m ys H,W i m ys H ->
  (J.stop i H/\ys.length<=sizeLine/\∀p,H p=bc->Q (.ref p) (upd H p (.lst ys)))\/(J.go i H/\ys.length<sizeLine/\∀x H',J.yld i H x H'->tDT K C c (τ ++ [ba x]) H' λb H1 =>
   if b=bh then tD K C e (τ ++ [ba x]) H1 λy H2=>∃m',m'<m/\W (i+1) m' (ys ++ [y]) H2 else ∃m',m'<m/\W (i+1) m' ys H1) :=
 comp_turnsFF R1 hx hgo hst hy (qF (p:=λd Q=>wpE C c (σ ++ [ba (.sh d)]) (isB Q)) (f:=λd Q=>wpE C e (σ ++ [ba (.sh d)]) Q) (λd _ _ hq=>ja c λ_=>jT hq) (λd _ _ hq=>ja e hq) _ (λys wy=>wy.wdF R1.own) w)
theorem JL{l2:Addr}(R1:Reps K O H1 σ τ)(hx:(Jx xs ys).length<=lim)
 (q1:SqL K H1 l1 vs) (q2:SqL K H1 l2 ws) (i1:Iss K (minus H1 O) xs vs) (i2:Iss K (minus H1 O) ys ws) (w:qw (λd Q=>wpE C e (σ ++ [ba (.sh d)]) Q) (Jx xs ys) λys=>Wd K O H1 Q (.lst ys)) :
 ∃W:Nat->Nat->List V->Hp->Prop,(∃m,W 0 m [] H1)/\∀i m ys H,W i m ys H ->
  ((Itz K l1 l2).stop i H/\ys.length<=sizeLine/\∀p,H p=bc->Q (.ref p) (upd H p (.lst ys)))\/((Itz K l1 l2).go i H/\ys.length<sizeLine/\∀x H',(Itz K l1 l2).yld i H x H'->tD K C e (τ ++ [ba x]) H' λy H2=>∃m',m'<m/\W (i+1) m' (ys ++ [y]) H2):=by
 have n1:=i1.length;have n2:=i2.length
 have ln:(Jx xs ys).length=min xs.length ys.length:=by unfold Jx;simp
 refine comp_turnsG R1 hx (λj H s hj=>?_) (λj H s hj=>?_) (λj H v H' d s y hd=>?_) w
 ·rw[ln]at hj;exact⟨vs,ws,vs[j]'(by lia),ws[j]'(by lia),s.seq q1,s.seq q2,bO _,bO _⟩
 ·rw[ln]at hj;exact⟨vs,ws,s.seq q1,s.seq q2,by lia⟩
 ·obtain⟨T,x,y,rfl,hT,hx',hy',rfl⟩:=y;have hz:(Jx xs ys)[j]?=ba d:=hd;unfold Jx at hz;rw[dQ]at hz
  cases hzz:(xs.zip ys)[j]? with
  |none=>rw[hzz]at hz;cases hz
  |some p =>
   rw[hzz]at hz;simp only[nM,mh]at hz;subst hz;obtain⟨a,b⟩:=p;obtain⟨e1,e2⟩:=List.getElem?_zip_eq_some.mp hzz;obtain⟨u1,g1,k1⟩:=i1.get e1;obtain⟨u2,g2,k2⟩:=i2.get e2;rw[hx' vs (s.seq q1)]at g1;rw[hy' ws (s.seq q2)]at g2;cases g1;cases g2;have s':=jt hT (.tup [x,y]);refine⟨s',ur (kY (R1.mono s).own hT) ?_⟩;have sm:=jb (O:=O) (s.trans s');unfold Iss;refine⟨x,[y],rfl,Is.mono sm a k1,?_⟩;unfold Iss;exact⟨y,[],rfl,Is.mono sm b k2,by unfold Iss;rfl⟩
theorem Kc(R1:Reps K O H1 σ τ)(hx:(yR xs).length<=lim)
 (q1:SqL K H1 l1 vs) (i1:Iss K (minus H1 O) xs vs) (w:qw (λd Q=>wpE C e (σ ++ [ba (.sh d)]) Q) (yR xs) λys=>Wd K O H1 Q (.lst ys)) :
 ∃W:Nat->Nat->List V->Hp->Prop,(∃m,W 0 m [] H1)/\∀i m ys H,W i m ys H ->
  ((Ite K l1).stop i H/\ys.length<=sizeLine/\∀p,H p=bc->Q (.ref p) (upd H p (.lst ys)))\/((Ite K l1).go i H/\ys.length<sizeLine/\∀x H',(Ite K l1).yld i H x H'->tD K C e (τ ++ [ba x]) H' λy H2=>∃m',m'<m/\W (i+1) m' (ys ++ [y]) H2):=by
 have n1:=i1.length
 have ln:(yR xs).length=xs.length:=by unfold yR;simp
 refine comp_turnsG R1 hx (λj H s hj=>?_) (λj H s hj=>?_) (λj H v H' d s y hd=>?_) w
 ·rw[ln]at hj;exact⟨vs,vs[j]'(by lia),s.seq q1,bO _⟩
 ·rw[ln]at hj;exact⟨vs,s.seq q1,by lia⟩
 ·obtain⟨T,x,rfl,hT,hx',rfl⟩:=y;have hz:(yR xs)[j]?=ba d:=hd;unfold yR at hz;rw[dQ,jhG]at hz
  cases hzz:xs[j]? with
  |none=>rw[hzz]at hz;cases hz
  |some a =>
   rw[hzz]at hz;simp only[nM,mh,jjZ]at hz;subst hz;obtain⟨u1,g1,k1⟩:=i1.get hzz;rw[hx' vs (s.seq q1)]at g1;cases g1;have s':=jt hT (.tup [.int j,x]);refine⟨s',ur (kY (R1.mono s).own hT) ?_⟩;have sm:=jb (O:=O) (s.trans s');unfold Iss;refine⟨.int j,[x],rfl,ju _,?_⟩;unfold Iss;exact⟨x,[],rfl,Is.mono sm a k1,by unfold Iss;rfl⟩
end
def blts:List bF:=["abs","max","min","len","int","list","isinstance","range","bool","tuple","str","sum","all","zip","any","divmod","reversed","sorted","enumerate"]
inductive FnR (P:dg) (w:World) (K:bx) (mg:bF->Option bq) (base:dR) (A:gz) (x:bF) (sp:Sp):Prop
 |mk (f:Addr) (fd:gV) (ps:List bF) (lv:Nat) (F:FnOk P w K mg base (CXz P w mg) lv f fd ps sp) (r:Room lv A) (m:mg x=ba (.ref f)) (k:me K (.ref f)=bh) (b:kP K fd ps [])
structure Ok (X:Cx) (k:Ck) (C:Cfg):Prop where
 N:X.N=k.N
 nd:X.N.Nodup
 names:X.env.scope.names=k.names
 kd:X.env.scope.kind=.function
 calm:X.calm=bh
 xe:X.xe=λ_ _=>False
 units:X.A.units+100<cLine
 fns:∀i x n,k.fns[i]?=ba (x,n)->FnR X.prog X.w X.K X.mg X.base X.A x (spD X.K n (C.fr i) (C.f2 i) (C.ct i))
 cns:∀i x,k.cns[i]?=ba x->∃u v,X.mg x=ba u/\jH v u/\∀S,Is X.K S (C.cn i) v
 blt:∀x∈blts,X.mg x=bc
 E:∀x,¬ C.E x
def PJ(X:Cx)(C:Cfg)(xs:List Ex)(es:List bU):Prop:=∀(pins:List (Addr×mE)) (s:Shared) (τ:L2.St) (H:Hp) (out:List Nat) (Q:VK),Inv X pins τ H s->out.length<=sizeLine ->
 (∃σ O,Reps X.K O H σ τ/\zd C xs out σ λl=>∀H',jd H H'->Q (.str ⟨l.toArray⟩) H')->wpAny (model X.prog X.w) X.A (jjO ⟨out.toArray⟩ (evalEach es X.env)) (EP X pins τ Q) X.xe s
variable{e t:bU}{sc:Scope}{env:tR}
section
variable {X:Cx} {k:Ck} {C:Cfg}
theorem jr{x:Ex}(h:chkE k x e=bh)(es:List bU)(env:tR):bY (e::es) env=(bj,eval e env)::bY es env:=by
 have p:=uf h
 cases e<;>first|rfl|exact bK p
theorem qr:∀ {xs:List Ex} {es:List bU} (h:qk k xs es=bh) (pos:Pos) (env:tR),(backTo pos (bY es env)).any (·.1)=bj
 |[],es,h,pos,env=>by rw[kr h];rfl
 |x::xs,es,h,pos,env=>by
  obtain⟨y,ys,rfl,h1,h2⟩:=kh h;rw[jr h1];have:=qr h2 pos env;simpa[backTo]using this
theorem yz:∀ {xs:List Ex} {es:List bU} (h:qk k xs es=bh),xs.length=es.length
 |[],es,h=>by rw[kr h];rfl
 |x::xs,es,h=>by
  obtain⟨y,ys,rfl,h1,h2⟩:=kh h;simp[yz h2]
theorem xk{C:Cfg}:∀(es:List Ex) {σ:Sto} {Q:List D->Prop},j4 C es σ Q->j4 C es σ λds=>ds.length=es.length/\Q ds
 |[],σ,Q,w=>by unfold j4 at *;exact⟨rfl,w⟩
 |e::es,σ,Q,w=>by
  unfold j4 at *;exact ja e (λd wd=>jD es (λds ⟨h1,h2⟩=>⟨by simp[h1],h2⟩) (xk es wd)) w
inductive VisR (X:Cx) (i:Nat) (x:bF):Prop
 |mk (n:X.N[i]?=ba x) (l:L2.Loc X.env.scope x) (d:(x == ("__debug__":bF))=bj) (c:(x == ("__classdict__":bF))=bj)
structure GlR (X:Cx) (x:bF):Prop where
 g:Gl X x
 d:(x == ("__debug__":bF))=bj
 n:x≠("__name__":bF)
theorem Ok.vis(ok:Ok X k C)(h:k.loc i x=bh):VisR X i x:=by
 unfold Ck.loc at h;simp only[bz,gX,decide_eq_true_eq,gS]at h;obtain⟨⟨⟨h1,h2⟩,h3⟩,h4⟩:=h;refine⟨by rw[ok.N];exact h1,?_,h3,h4⟩;unfold L2.Loc;rw[ok.names];exact h2
theorem Ok.gl(ok:Ok X k C)(h:k.gl x=bh):GlR X x:=by
 unfold Ck.gl at h;replace h:=Z.tb_ 1 h;exact⟨by unfold Gl jjz;rw[ok.names];exact h.1.1,h.1.2,h.2⟩
theorem jX(h:L2.Loc sc x):Vis sc x:=h.elim .inl λz=>.inr (.inl z)
theorem K2(hm:∀ {x y:D} {Q Q':D->Prop},(∀d,Q d->Q' d)->f x y Q->f x y Q')(R:Reps K O H σ τ)
 (w:wpE C a σ λx=>wpE C b σ λy=>f x y (Wd K O H Q)):tOp (rD K f) (tD K C a) (tD K C b) τ H Q :=
 ⟨σ,O,R,ja a (λx wx xv H1 s1 i1=>⟨σ,O,R.mono s1,ja b (λy wy yv H2 s2 i2=>⟨O,x,y,(R.mono (s1.trans s2)).own,Is.mono (jb s2) x i1,i2,hm (λd=>Wd.mono (s1.trans s2)) wy⟩) wx⟩) w⟩
theorem Q4{p:COp}(R:Reps K O H σ τ)(w:wpE C (.chain o p a b c) σ (Wd K O H Q)) :
 tChain (rD K (zb o)) (rD K (zb p)) (tD K C a) (tD K C b) (tD K C c) τ H Q:=by
 refine⟨σ,O,R,ja a (λx wx xv H1 s1 i1=>⟨σ,O,R.mono s1,ja b (λy wy yv H2 s2 i2=>⟨O,x,y,(R.mono (s1.trans s2)).own,Is.mono (jb s2) x i1,i2,qd (λz wz zv H3 s3 i3=>?_) wy⟩) wx⟩) w⟩
 cases z with
 |bl k =>
  refine⟨k,k9 i3,?_⟩;have s13:=s1.trans (s2.trans s3)
  cases k with
  |true=>exact⟨σ,O,R.mono s13,ja c (λu wu uv H4 s4 i4=>⟨O,y,u,(R.mono (s13.trans s4)).own,Is.mono (jb (s3.trans s4)) y i2,i4,qd (λd=>Wd.mono (s13.trans s4)) wu⟩) wz⟩
  |false=>exact wz _ _ s13 (j5 _)
 |_=>exact wz.elim
theorem jcY{x:Ex}{Q:Bool->Hp->Prop}(h:tDT K C x τ H Q):tB (tD K C x) τ H Q:=by
 obtain⟨σ,O,R,w⟩:=h;refine⟨σ,O,R,ja x (λd wd v H1 s1 i1=>?_) w⟩
 cases d with
 |bl c=>exact⟨c,k9 i1,wd H1 s1⟩
 |_=>exact wd.elim
def mtI(x:V)(xs:List V)(H:Hp)(Q:VK):Prop:=xs=[]/\∃i,x=.int i/\Q (.int (xE i)) H
theorem Vg:MtR X "int.bit_length" mtI:=by
 rintro pins s τ H x xs v us Q I rx rs ⟨rfl,i,rfl,q⟩;cases rs;obtain⟨t,rfl⟩:=rx;exact call_int_bit_length ⟨.int _,H,I.tok _,⟨_,rfl⟩,q⟩
def jgt(K:bx)(t:Ty)(n:String)(vs:List V)(H:Hp)(Q:VK):Prop:=∃O d v,vs=[v,.ty n]/\Is K (minus H O) d v/\Wd K O H Q (.bl (tyD t d))
def Ty.s:Ty->String
 |.int=>"int"
 |.bool=>"bool"
 |.tuple=>"tuple"
 |.list=>"list"
 |.str=>"str"
theorem Ud{t:Ty}:kJ X (.builtin "isinstance") (jgt X.K t t.s):=by
 rintro pins s τ H vs us Q I r ⟨O,d,v,rfl,i,w⟩;obtain⟨u,w',rfl,r1,r2⟩:=JO r
 have e:w'=t.val:=by
  have r2':w'=pR t.s:=r2
  rw[r2'];cases t<;>rfl
 subst e
 exact jae I (Is.mono (jc H O) d i) r1 λtk=>xX (I.tok tk) w (j5 _) rfl
theorem jcK(t:Ty):pf t.nm=ba (.type t.s):=by
 cases t
 ·exact jhs
 ·exact jj0
 ·exact jg2
 ·exact sy
 ·exact nX
theorem jdV(t:Ty):t.nm∈blts:=by cases t<;>decide
theorem jes(f:Bi):f.nm∈blts:=by cases f<;>decide
theorem X0{op:tP}{x:Ex}(h:chkE k x e=bh):nz op e=false:=by
 have p:=uf h
 cases e<;>first|rfl|exact bK p
theorem u7(h:zA e=bj):Zf e:=by
 intro o i
 cases e<;>first|rfl|(exact bK h)
theorem kI{o:bU}{n:bF}(h:qZ o=bh):pH o n env (eval o env)=eval o env:=by
 cases o<;>first|rfl|skip
 next f as ks p =>
 cases f<;>first|rfl|skip
 cases as<;>first|rfl|skip
 cases ks<;>first|rfl|exact bK h
theorem jP{x:Ex}(p:PE X e (tD X.K C x))(he:∀whole,isTrue e X.env whole=(do let v <- whole;jjR e.pos;jjh [v] (truthy v))):PT X e (tDT X.K C x):=PT.imp (λ_ _ _=>jcY) (jan p he)
theorem jdj{op:BoolOp}{vs:List bU}{t:TT}(h:PT X (.BoolOp op vs pos) t):PW X (.BoolOp op vs pos) t:=λwhole pins s τ H Q I w=>h pins s τ H Q I w
def Qg(cells:List (bF×Addr)):List (bF×mR)->List (bF×Addr)->List (bF×Addr)
 |[],cs=>cs
 |(n,kd)::r,cs=>Qg cells r (if kd == .free then (match cells.lookup n with|some c=>(n,c)::cs|none=>cs) else cs)
theorem Xo{cells:List (bF×Addr)}:∀(l:List (bF×mR)) (cs:List (bF×Addr)),(∀y c,(y,c)∈cs->cells.lookup y=ba c)->∀y c,(y,c)∈Qg cells l cs->cells.lookup y=ba c
 |[],cs,h,y,c,m=>h y c m
 |(n,kd)::r,cs,h,y,c,m=>by
  refine Xo r _ (λz d hz=>?_) y c m;split at hz
  ·split at hz
   ·next q =>
    rcases bG.mp hz with e|e
    ·cases e;exact q
    ·exact h z d e
   ·exact h z d hz
  ·exact h z d hz
theorem QP{cells:List (bF×Addr)}:∀(l:List (bF×mR)) (cs:List (bF×Addr)) (z:bF×Addr),z∈cs->z∈Qg cells l cs
 |[],cs,z,h=>h
 |(n,kd)::r,cs,z,h=>by
  refine QP r _ z ?_;split
  ·split
   ·exact bD _ h
   ·exact h
  ·exact h
theorem Q5{cells:List (bF×Addr)}:∀(l:List (bF×mR)) (cs:List (bF×Addr)) (y:bF) (c:Addr),(y,.free)∈l->cells.lookup y=ba c->(y,c)∈Qg cells l cs
 |[],cs,y,c,h,e=>nomatch h
 |(n,kd)::r,cs,y,c,h,e=>by
  rcases bG.mp h with z|z
  ·cases z;refine QP r _ _ ?_;simp only[beq_self_eq_true,if_true,e];exact bJ ..
  ·exact Q5 r _ y c z e
theorem vS{l:List (bF×α)}{c:α}(h:l.lookup y=ba c):(y,c)∈l:=mH h
theorem XS{l:List (bF×α)}{c:α}(h:(y,c)∈l):∃d,l.lookup y=ba d:=by
 induction l with
 |nil=>cases h
 |cons a r ih =>
  obtain⟨n,b⟩:=a;by_cases e:y=n
  ·subst e;exact⟨b,by simp[dW]⟩
  ·rcases bG.mp h with z|z
   ·cases z;exact absurd rfl e
   ·obtain⟨d,q⟩:=ih z;refine⟨d,?_⟩
    have:(y == n)=false:=by simpa using e
    rw[dW,this];exact q
theorem jcN(h:∀y∈sc.names,y.2=.free->∃c,env.cells.lookup y.1=ba c):jjq sc env=pure (Qg env.cells sc.names []):=by
 simp only[jjq];generalize ([]:List (bF×Addr))=cs;generalize sc.names=l at h
 induction l generalizing cs with
 |nil=>rfl
 |cons a r ih =>
  obtain⟨n,kd⟩:=a
  have ih':=λcs=>ih cs λy hy=>h y (bD _ hy)
  rw[nP];by_cases e:kd=.free
  ·subst e;obtain⟨c,hc⟩:=h (n,.free) (bJ ..) rfl
   have e1:cellOf env n=pure c:=by unfold cellOf;rw[hc]
   simp only[beq_self_eq_true,if_true,e1,Qg];rw[hc];exact ih' _
  ·have e1:(kd == tm)=false:=by simpa using e
   simp only[e1,du,if_false,Qg];exact ih' _
theorem Ok.rel(ok:Ok X k C)(sc:Scope):(tV sc X.env).names=Q7 sc.names k.names:=by
 unfold tV Q7 jjz;rw[ok.names,ok.kd];simp
theorem Ok.comp_nE(ok:Ok X k C)(h:compCk k x sc=bh):dum X.N ∉ X.N:=by
 unfold compCk at h;simp only[bz,gS,List.contains_eq_mem,decide_eq_false_iff_not]at h;rw[ok.N];exact h.2
theorem vG{names out:List (bF×mR)}{kd:mR}(h:(Q7 names out).lookup y=ba kd):∃kd',(y,kd')∈names/\(kd=kd'\/(kd'=.free/\kd=.cell)):=by
 have m:=vS h;unfold Q7 at m;obtain⟨⟨n,q⟩,hq,e⟩:=gD.mp m;simp only at e;split at e
 ·next hc =>
  simp only[bz,beq_iff_eq]at hc;cases e;exact⟨q,hq,.inr ⟨hc.1,rfl⟩⟩
 ·cases e;exact⟨kd,hq,.inl rfl⟩
theorem Ok.comp'(ok:Ok X k C)(h:compCk k x sc=bh)(has:∀x,(X.env.kindOf x=ba .cell\/X.env.kindOf x=ba .free)->∃c,X.env.cells.lookup x=ba c):∃cl,CompOk X x sc cl:=by
 unfold compCk at h;simp only[bz,gS,dC,decide_eq_true_eq,gX,beq_iff_eq,beq_eq_false_iff_ne,ne_eq]at h;obtain⟨⟨⟨⟨⟨⟨⟨⟨h1,h2⟩,h3⟩,h4⟩,h5⟩,h6⟩,h7⟩,h8⟩,h9⟩:=h
 have hc:∀y∈sc.names,y.2=.free->∃c,X.env.cells.lookup y.1=ba c:=λy hy e=>by
  refine has y.1 ?_;unfold jjz;rw[ok.names];rcases h6 y hy with(z|z)|z
  ·exact absurd e z
  ·exact .inl z
  ·exact .inr z
 have sub:∀y c,(Qg X.env.cells sc.names []).lookup y=ba c->X.env.cells.lookup y=ba c:=λy c e=>Xo _ _ (λ_ _ z=>absurd z (by simp)) y c (vS e)
 refine⟨Qg X.env.cells sc.names [],jcN hc,h1,h2,λy hy e=>?_,h4,λy e=>?_,λy hyx e=>?_,sub,by rw[ok.N];exact h7,by rw[ok.names,ok.N];exact h8⟩
 ·rcases h3 y hy with z|z
  ·exact absurd e z
  ·exact z
 ·rw[ok.rel]at e;obtain⟨kd,m,z|⟨_,z⟩⟩:=vG e
  ·rcases h5 _ m with(q|q)|q
   ·exact absurd z.symm q
   ·exact .inl q
   ·refine .inr ⟨?_,by rw[ok.N];exact q.2⟩;rw[ok.N];simpa using q.1
  ·cases z
 ·rw[ok.rel]at e
  have m:(y,tm)∈sc.names:=by
   rcases e with e|e
   ·obtain⟨kd,m,z|⟨z,_⟩⟩:=vG e
    ·exfalso;rw[<- z]at m
     have q:(y,pI)∈sc.names.filter λy=>y.2 == .cell:=jhh.mpr ⟨m,rfl⟩
     rw[h2]at q;split at q
     ·simp only[bG,tj,bV,or_false]at q;exact hyx q.1
     ·cases q
    ·rw[<- z];exact m
   ·obtain⟨kd,m,z|⟨_,z⟩⟩:=vG e
    ·rw[z];exact m
    ·cases z
  obtain⟨c,hcc⟩:=hc _ m rfl;have k6:=h6 _ m;refine⟨?_,?_,XS (Q5 _ _ y c m hcc)⟩
  ·unfold Vis;rw[ok.names];rcases k6 with(z|z)|z
   ·exact absurd rfl z
   ·exact .inr (.inl z)
   ·exact .inr (.inr z)
  ·rw[ok.names];rcases k6 with(z|z)|z
   ·exact absurd rfl z
   ·intro q;simp only at z;rw[z]at q;cases q
   ·intro q;simp only at z;rw[z]at q;cases q
theorem Ok.comp(ok:Ok X k C)(h:compCk k x sc=bh)(xo:X.Ok):∃cl,CompOk X x sc cl:=ok.comp' h xo.has
theorem Ok.block(ok:Ok X k C){cl:List (bF×Addr)}(h:compCk k x sc=bh)(co:CompOk X x sc cl)(s:Shared)(H:Hp)(fp:List Addr)(Ca:Addr):Ok (qP X s H fp x sc cl Ca) (k.block x sc) C where
 N:=by show qv X.N x=qv k.N x;rw[ok.N]
 nd:=JY ok.nd (ok.comp_nE h) co.ne
 names:=ok.rel sc
 kd:=co.kind
 calm:=ok.calm
 xe:=rfl
 units:=ok.units
 fns:=ok.fns
 cns:=ok.cns
 blt:=ok.blt
 E:=ok.E
theorem uN(w:tD K C (.compF a c b) τ H Q):zh (jbV K (tD K C a)) (tDT K C c) (tD K C b) τ H Q:=by
 obtain⟨σ,O,R,w⟩:=w;refine⟨σ,O,R,ja a (λd wd v H1 s1 i1=>?_) w⟩;obtain⟨xs,e1,hx,wd⟩:=wd;have wd':=qF (p:=λd Q=>wpE C c (σ ++ [ba (.sh d)]) (isB Q)) (f:=λd Q=>wpE C b (σ ++ [ba (.sh d)]) Q) (λd _ _ hq=>ja c λ_=>jT hq) (λd _ _ hq=>ja b hq) _ (λys (wy:Wd K O H Q (.lst ys))=>wy.mono s1) wd;obtain⟨J,hw,g1,g2,g3⟩:=walk_of e1 i1;exact⟨J,hw,Xq (R.mono s1) hx (λj H2 s2=>g1 j H2 O (jb s2)) (λj H2 s2=>g2 j H2 O (jb s2)) (λj H2 v H' d s2=>g3 j H2 O v H' d (jb s2)) wd'⟩
def tPt(K:bx)(C:Cfg)(l:Ex):TO:=λτ H R=>∃σ O,Reps K O H σ τ/\prt (xN l) (λQ=>wpE C l σ Q) λo=>∀H',jd H H'->R o H'
theorem jgb{l:Ex}(h:(lo.isNone == xN l)=bh)(p:∀x,lo=ba x->xN l=bj->PE X x (tD X.K C l)):PO X lo (tPt X.K C l):=by
 cases lo with
 |none =>
  have e:xN l=true:=by simpa using h
  intro pins s τ H R I w;obtain⟨σ,O,r,w⟩:=w;unfold prt at w;rw[if_pos e]at w
  exact jcd pins s τ H R I (w _ (jd.refl H))
 |some x =>
  have e:xN l=false:=by simpa using h
  intro pins s τ H R I w;refine jcl (p x rfl e) pins s τ H R I ?_;obtain⟨σ,O,r,w⟩:=w;unfold prt at w;rw[if_neg (by rw[e];decide)]at w;refine⟨σ,O,r,ja l (λd wd v H1 s1 i1=>?_) w⟩
  cases d<;>first|exact wd.elim|(cases jk i1;exact⟨_,rfl,wd _ s1⟩)
theorem Iss.drop{K:bx}{S:Hp}:∀ {ds:List D} {vs:List V} (n:Nat),Iss K S ds vs->Iss K S (ds.drop n) (vs.drop n)
 |ds,vs,0,i=>i
 |[],vs,n+1,i=>by
  have:vs=[]:=by have:=i.length;simpa using this
  subst this
  simpa using i
 |d::ds,vs,n+1,i=>by
  unfold Iss at i;obtain⟨v,ws,rfl,_,i2⟩:=i;simpa using Iss.drop n i2
theorem Iss.take{K:bx}{S:Hp}:∀ {ds:List D} {vs:List V} (n:Nat),Iss K S ds vs->Iss K S (ds.take n) (vs.take n)
 |ds,vs,0,i=>by simp only[List.take_zero];unfold Iss;rfl
 |[],vs,n+1,i=>by
  have:vs=[]:=by have:=i.length;simpa using this
  subst this
  simpa using i
 |d::ds,vs,n+1,i=>by
  unfold Iss at i;obtain⟨v,ws,rfl,i1,i2⟩:=i;simp only[jhT];unfold Iss;exact⟨v,_,rfl,i1,Iss.take n i2⟩
theorem VS(n d:Nat)(o:Option Int):sIx n d o=HT.sIx n d o:=by cases o<;>rfl
theorem Iss.cut{S:Hp}(lo hi:Option Int)(i:Iss K S ds vs):Iss K S (jcF ds lo hi) (Z7 vs lo hi):=by
 have l:=i.length;unfold jcF Z7;rw[VS,VS,<- l];exact(i.drop _).take _
def jd6(K:bx):V->List V->Hp->VK->Prop:=λx vs H Q=>∃(a:Addr) (ns:List Int) (k:Int) (j:Nat),x=.ref a/\vs=[.int k]/\SqL K H a (ns.map V.int)/\(ns[j]?=ba k/\∀m,m<j->ns[m]? ≠ ba k)/\Q (.int j) H
theorem U7:MtM X "list.index" (jd6 X.K):=by
 intro pins s σ H x vs v us Q I rx rv h;obtain⟨a,ns,k,j,rfl,rfl,hq,⟨hj,hno⟩,q⟩:=h;cases rx;obtain⟨u,rfl,t,rfl⟩:=rv.one;obtain⟨its,r,p,hz⟩:=I.list hq;obtain⟨o,n,ho,hc,hd,hs⟩:=p;have hl:=r.length;rw[bW]at hl hz;have hjl:j<ns.length:=(dH.mp hj).1
 let eqi:bq->Bool:=λy=>match y with|.int b _=>b == k|_=>bj
 have val:∀(m:Nat) (hm:m<its.toArray.size),∃t',its.toArray[m]=.int (ns.getD m 0) t':=λm hm=>xA r m _ (by rw[bO (by simpa using hm)];simp)
 obtain⟨cl,dd,dt,sl⟩:=o;simp only at hc hd hs;subst hc hd hs;refine n8 F.slot_list_index ⟨_,ho,rfl⟩ F.entry_list_index (F.args_list_index_2 _ _) (PySem.SeqAt.list_indexAt a its.toArray n bc sl (.int k t) eqi j (by simp;lia) (by rw[dI]at hz;lia) ?_ ?_) ⟨ho,?_,⟨.int j,H,I.tok _,⟨_,rfl⟩,q⟩⟩
 ·obtain⟨t',e⟩:=val j (by simp;lia);rw[e]
  have:ns.getD j 0=k:=by rw[wm,hj];rfl
  show (ns.getD j 0 == k)=bh;rw[this];simp
 ·intro m hm hmj;obtain⟨t',e⟩:=val m hm;rw[e];show (ns.getD m 0 == k)=bj;have:=hno m hmj
  have hm':m<ns.length:=by lia
  rw[bO hm']at this;rw[wm,bO hm'];simp only[Option.getD_some,beq_eq_false_iff_ne]
  exact λz=>this (by rw[z])
 ·intro y hy;obtain⟨m,hm,rfl⟩:=Array.getElem_of_mem hy;obtain⟨t',e⟩:=val m hm;rw[e];exact jjE _ _ _ _
mutual
theorem sB:∀ {X:Cx} {k:Ck} (ok:Ok X k C) (x:Ex) (e:bU),chkE k x e=bh->PE X e (tD X.K C x)/\PT X e (tDT X.K C x)
 |X,k,ok,.var i,e,h=>by
  exists Z.anName,h,x,pos
  obtain⟨h1,h2,h3,h4⟩:=ok.vis h
  have p:PE X (.Name x pos) (tD X.K C (.var i)):=by
   refine PE.imp (λτ H Q w=>?_) (jY h1 (jX h2) h3 h4);obtain⟨σ,O,R,w⟩:=w;rw[jW]at w
   cases g:ji σ i with
   |none=>rw[g]at w;exact w.elim
   |some z =>
    rw[g]at w
    cases z with
    |sh d =>
     obtain⟨v,e1,e2⟩:=R.sh i d g
     exact⟨v,e1,w v H (jd.refl H) e2⟩
    |ow ds=>exact w.elim
    |ot _=>exact w.elim
  exact⟨p,jP p λ_=>rfl⟩
 |X,k,ok,.cst d,e,h=>by
  exists Z.anConst,h,c,j,pos
  have p:PE X (.Constant c j pos) (tD X.K C (.cst d)):=by
   cases d with
   |non =>
    cases c<;>first|exact bK h|skip
    exact PE.imp (λτ H Q ⟨σ,O,R,w⟩=>by exact w _ _ (jd.refl H) Jh) jbm
   |bl b =>
    cases c<;>first|exact bK h|skip
    have e:_=_:=eq_of_beq h;subst e
    exact PE.imp (λτ H Q ⟨σ,O,R,w⟩=>by exact w _ _ (jd.refl H) (j5 _)) Zr
   |int i =>
    cases c<;>first|exact bK h|skip
    have e:_=_:=of_decide_eq_true h;subst e
    exact PE.imp (λτ H Q ⟨σ,O,R,w⟩=>by exact w _ _ (jd.refl H) (ju _)) K6
   |str x =>
    cases c<;>first|exact bK h|skip
    have h':=(bz _ _).mp h;have e:_=_:=of_decide_eq_true h'.1;subst e
    exact PE.imp (λτ H Q ⟨σ,O,R,w⟩=>by exact w _ _ (jd.refl H) (kq h'.2)) xH
   |tup xs=>cases c<;>exact bK h
   |lst xs=>cases c<;>exact bK h
  exact⟨p,jP p λ_=>rfl⟩
 |X,k,ok,.con i,e,h=>by
  exists Z.anName,h,x,pos
  rw[bz,decide_eq_true_eq]at h;obtain⟨u,v,h1,h2,h3⟩:=ok.cns i x h.1;obtain⟨g1,g2,g3⟩:=ok.gl h.2;have p:PE X (.Name x pos) (tD X.K C (.con i)):=PE.imp (λτ H Q ⟨σ,O,R,w⟩=>by exact w _ _ (jd.refl H) (h3 _)) (u4 g1 h1 h2 g2)
  exact⟨p,jP p λ_=>rfl⟩
 |X,k,ok,.bin o a b,e,h=>by
  exists Z.anBin,h,l,op,r,pos
  rw[bz,bz]at h;have p:PE X (.BinOp l op r pos) (tD X.K C (.bin o a b)):=PE.imp (t':=tD X.K C (.bin o a b)) (λτ H Q ⟨σ,O,R,w⟩=>by exact K2 (f:=y6 o) JN R w) (jdf (Vd h.1.1) (sB ok a _ h.1.2).1 (sB ok b _ h.2).1)
  exact⟨p,jP p λ_=>rfl⟩
 |X,k,ok,.neg a,e,h=>by
  exists Z.anUn,h,op,x,pos
  rw[bz,decide_eq_true_eq]at h;obtain⟨ho,h⟩:=h;subst ho
  have p:PE X (.UnaryOp .USub x pos) (tD X.K C (.neg a)):=by
   refine PE.imp (λτ H Q w=>?_) (jfr jdD (sB ok a _ h).1);obtain⟨σ,O,R,w⟩:=w;refine⟨σ,O,R,ja a (λd wd v H1 s1 i1=>?_) w⟩
   cases d with
   |int i=>exact⟨i,jk i1,wd _ _ s1 (ju _)⟩
   |_=>exact wd.elim
  exact⟨p,jP p λ_=>rfl⟩
 |X,k,ok,.not a,e,h=>by
  exists Z.anUn,h,op,x,pos
  rw[bz,decide_eq_true_eq]at h;obtain⟨ho,h⟩:=h;subst ho;obtain⟨pa,ta⟩:=sB ok a _ h;refine⟨PE.imp (λτ H Q w=>?_) (jaO pa),PT.imp (λτ H Q w=>?_) (jbu ta)⟩
  ·obtain⟨σ,O,R,w⟩:=w;refine⟨σ,O,R,ja a (λd wd v H1 s1 i1=>?_) w⟩
   cases d with
   |bl c=>exact⟨c,k9 i1,wd _ _ s1 (j5 _)⟩
   |_=>exact wd.elim
  ·obtain⟨σ,O,R,w⟩:=w;refine⟨σ,O,R,ja a (λd wd=>?_) w⟩
   cases d with
   |bl c=>exact λH' s'=>wd H' s'
   |_=>exact wd.elim
 |X,k,ok,.cmp o a b,e,h=>by
  exists Z.anCmp,h,l,ops,cs,pos
  exists Z.an5,0,h,n1,n2,h1,h2,h3
  match ops,n1,cs,n2,h1,h3 with
  |[op],_,[r],_,h1,h3 =>
   have h:(cOk o op r=bh/\chkE k a l=bh)/\chkE k b r=true:=⟨⟨h1,h2⟩,h3⟩
   have pa:=(sB ok a _ h.1.2).1;have pb:=(sB ok b _ h.2).1;refine⟨PE.imp (λτ H Q w=>?_) (Ko (yx h.1.1 ok.units) pa pb (X0 h.2)),PT.imp (λτ H Q w=>?_) (KS (yx h.1.1 ok.units) pa pb (X0 h.2))⟩
   ·obtain⟨σ,O,R,w⟩:=w;exact K2 (f:=zb o) qd R w
   ·obtain⟨σ,O,R,w⟩:=w;refine K2 (f:=zb o) qd R (ja a (λx wx=>ja b (λy wy=>qd (o:=o) (λd wd v H1 s1 i1=>?_) wy) wx) w)
    cases d with
    |bl c=>exact⟨c,k9 i1,wd H1 s1⟩
    |_=>exact wd.elim
 |X,k,ok,.chain o p a b c,e,h=>by
  exists Z.anCmp,h,l,ops,cs,pos
  exists Z.an7,0,h,n1,n2,h1,h2,h3,h4,h5
  match ops,n1,cs,n2,h1,h2,h4,h5 with
  |[op,op'],_,[r,r'],_,h1,h2,h4,h5 =>
   have h:(((cOk o op r=bh/\cOk p op' r'=bh)/\chkE k a l=bh)/\chkE k b r=bh)/\chkE k c r'=true:=⟨⟨⟨⟨h1,h2⟩,h3⟩,h4⟩,h5⟩
   have pa:=(sB ok a _ h.1.1.2).1;have pb:=(sB ok b _ h.1.2).1;have pc:=(sB ok c _ h.2).1
   have hm:jjH [op,op'] [r,r']=false:=by
    show nz op' r'=bj;exact X0 h.2
   refine⟨PE.imp (λτ H Q w=>?_) (jaS (yx h.1.1.1.1 ok.units) (yx h.1.1.1.2 ok.units) pa pb pc hm),PT.imp (λτ H Q w=>?_) (VX (yx h.1.1.1.1 ok.units) (yx h.1.1.1.2 ok.units) pa pb pc hm)⟩
   ·obtain⟨σ,O,R,w⟩:=w;exact Q4 R w
   ·obtain⟨σ,O,R,w⟩:=w;refine Q4 R (ja _ (λd wd v H1 s1 i1=>?_) w)
    cases d with
    |bl c=>exact⟨c,k9 i1,wd H1 s1⟩
    |_=>exact wd.elim
 |X,k,ok,.and a b,e,h=>by
  exists Z.anBool,h,op,vs,pos
  exists Z.an4,0,h,ho,n1,h1,h2
  subst ho
  match vs,n1,h1,h2 with
  |x::y::r,_,h1,h2 =>
   have h:chkE k a x=bh/\(if r.isEmpty then chkE k b y else chkE k b (.BoolOp .And (y::r) pos))=true:=by
    refine⟨h1,?_⟩
    cases r with
    |nil=>simpa using h2
    |cons z r=>simpa using h2
   obtain⟨pa,ta⟩:=sB ok a _ h.1
   have hb:PE X (.BoolOp .And (y::r) pos) (tD X.K C b)/\PW X (.BoolOp .And (y::r) pos) (tDT X.K C b):=by
    cases r with
    |nil =>
     have:=sB ok b y h.2
     exact⟨Yu this.1,YO this.2⟩
    |cons z r =>
     have:=sB ok b (.BoolOp .And (y::z::r) pos) h.2;exact⟨this.1,jdj this.2⟩
   refine⟨PE.imp (λτ H Q w=>?_) (V2 pa hb.1),PT.imp (λτ H Q w=>?_) (VT ta hb.2).pt⟩
   ·obtain⟨σ,O,R,w⟩:=w;refine⟨σ,O,R,ja a (λd wd v H1 s1 i1=>?_) w⟩
    cases d with
    |bl c =>
     refine⟨c,k9 i1,?_⟩
     cases c with
     |true=>exact⟨σ,O,R.mono s1,ja b (λd=>Wd.mono s1) wd⟩
     |false=>exact wd _ _ s1 (j5 _)
    |_=>exact wd.elim
   ·obtain⟨σ,O,R,w⟩:=w;refine⟨σ,O,R,ja a (λd wd=>?_) w⟩
    cases d with
    |bl c =>
     intro H1 s1
     cases c with
     |true=>exact⟨σ,O,R.mono s1,ja b (λd=>jT λc q H' s'=>q H' (s1.trans s')) wd⟩
     |false=>exact wd H1 s1
    |_=>exact wd.elim
 |X,k,ok,.or a b,e,h=>by
  exists Z.anBool,h,op,vs,pos
  exists Z.an4,0,h,ho,n1,h1,h2
  subst ho
  match vs,n1,h1,h2 with
  |x::y::r,_,h1,h2 =>
   have h:chkE k a x=bh/\(if r.isEmpty then chkE k b y else chkE k b (.BoolOp .Or (y::r) pos))=true:=by
    refine⟨h1,?_⟩
    cases r with
    |nil=>simpa using h2
    |cons z r=>simpa using h2
   obtain⟨pa,ta⟩:=sB ok a _ h.1
   have hb:PE X (.BoolOp .Or (y::r) pos) (tD X.K C b)/\PW X (.BoolOp .Or (y::r) pos) (tDT X.K C b):=by
    cases r with
    |nil =>
     have:=sB ok b y h.2
     exact⟨Yu this.1,jeM this.2⟩
    |cons z r =>
     have:=sB ok b (.BoolOp .Or (y::z::r) pos) h.2;exact⟨this.1,jdj this.2⟩
   refine⟨PE.imp (λτ H Q w=>?_) (jfh pa hb.1),PT.imp (λτ H Q w=>?_) (jgd ta hb.2).pt⟩
   ·obtain⟨σ,O,R,w⟩:=w;refine⟨σ,O,R,ja a (λd wd v H1 s1 i1=>?_) w⟩
    cases d with
    |bl c =>
     refine⟨c,k9 i1,?_⟩
     cases c with
     |false=>exact⟨σ,O,R.mono s1,ja b (λd=>Wd.mono s1) wd⟩
     |true=>exact wd _ _ s1 (j5 _)
    |_=>exact wd.elim
   ·obtain⟨σ,O,R,w⟩:=w;refine⟨σ,O,R,ja a (λd wd=>?_) w⟩
    cases d with
    |bl c =>
     intro H1 s1
     cases c with
     |false=>exact⟨σ,O,R.mono s1,ja b (λd=>jT λc q H' s'=>q H' (s1.trans s')) wd⟩
     |true=>exact wd H1 s1
    |_=>exact wd.elim
 |X,k,ok,.ife c a b,e,h=>by
  exists Z.anIf,h,t,x,y,pos
  replace h:=Z.tb_ 3 h;obtain⟨pc,tc⟩:=sB ok c _ h.1.1;obtain⟨pa,ta⟩:=sB ok a _ h.1.2;obtain⟨pb,tb⟩:=sB ok b _ h.2;refine⟨PE.imp (λτ H Q w=>?_) (Jp tc pa pb),λpins s τ H Q I w=>?_⟩
  ·obtain⟨σ,O,R,w⟩:=w;refine⟨σ,O,R,ja c (λd wd=>?_) w⟩
   cases d with
   |bl k =>
    intro H1 s1
    cases k with
    |true=>exact⟨σ,O,R.mono s1,ja a (λd=>Wd.mono s1) wd⟩
    |false=>exact⟨σ,O,R.mono s1,ja b (λd=>Wd.mono s1) wd⟩
   |_=>exact wd.elim
  ·obtain⟨σ,O,R,w⟩:=w;refine isTrue_IfExp (thn (tc pins s τ H (λd H1=>if d=bh then tDT X.K C a τ H1 Q else tDT X.K C b τ H1 Q) I ⟨σ,O,R,ja c (λd wd=>?_) w⟩) λd s1 ⟨H1,I1,q1⟩=>?_)
   ·cases d with
    |bl k =>
     intro H1 s1
     cases k with
     |true=>exact⟨σ,O,R.mono s1,ja a (λd=>jT λc q H' s'=>q H' (s1.trans s')) wd⟩
     |false=>exact⟨σ,O,R.mono s1,ja b (λd=>jT λc q H' s'=>q H' (s1.trans s')) wd⟩
    |_=>exact wd.elim
   ·cases d with
    |true=>exact ta pins s1 τ H1 Q I1 q1
    |false=>exact tb pins s1 τ H1 Q I1 q1
 |X,k,ok,.tup es,e,h=>by
  exists Z.anTup,h,xs,j,pos
  rw[bz,decide_eq_true_eq]at h
  have p:PE X (.Tuple xs j pos) (tD X.K C (.tup es)):=by
   refine PE.imp (λτ H Q w=>?_) (XG (sA ok es xs h.2));obtain⟨σ,O,R,w⟩:=w;refine⟨σ,O,R,jD es (λds ⟨hl,wd⟩ vs H1 s1 i1=>⟨?_,λp hp=>?_⟩) (xk es w)⟩
   ·rw[i1.length,hl,yz h.2,dI];lia
   ·exact wd _ _ (s1.trans (jt hp _)) (ur (kY (R.mono s1).own hp) (Iss.minus_upd hp i1))
  exact⟨p,jP p λ_=>rfl⟩
 |X,k,ok,.lst es,e,h=>by
  exists Z.anLst,h,xs,pos
  rw[bz,decide_eq_true_eq]at h
  have p:PE X (.List xs pos) (tD X.K C (.lst es)):=by
   refine PE.imp (λτ H Q w=>?_) (xb (sA ok es xs h.2));obtain⟨σ,O,R,w⟩:=w;refine⟨σ,O,R,jD es (λds ⟨hl,wd⟩ vs H1 s1 i1=>⟨?_,λp hp=>?_⟩) (xk es w)⟩
   ·rw[i1.length,hl,yz h.2,dI];lia
   ·exact wd _ _ (s1.trans (jt hp _)) (ke (SqL.of (kY (R.mono s1).own hp)) (Iss.minus_upd hp i1))
  exact⟨p,jP p λ_=>rfl⟩
 |X,k,ok,.slc a l u,e,h=>by
  exists Z.anSub,h,v,i,pos
  exists Z.anSlice,h,lo,hi,p2
  exists Z.an5,3,h,ha,hl1,hu1,hl2,hu2
  have pl:PO X lo (tPt X.K C l):=jgb hl1 λx ex nl=>by
   subst ex;rw[nl]at hl2;exact(sB ok l x hl2).1
  have pu:PO X hi (tPt X.K C u):=jgb hu1 λx ex nl=>by
   subst ex;rw[nl]at hu2;exact(sB ok u x hu2).1
  have p:PE X (.Subscript v (.Slice lo hi bc p2) pos) (tD X.K C (.slc a l u)):=by
   refine PE.imp (λτ H Q w=>?_) (V6 (jcs.or jcP) (sB ok a v ha).1 pl pu);obtain⟨σ,O,R,w⟩:=w;refine⟨σ,O,R,ja a (λd wd x H1 s1 i1=>⟨σ,O,R.mono s1,zo (λhq=>ja l hq) (λlo' wl H2 s2=>⟨σ,O,(R.mono s1).mono s2,zo (λhq=>ja u hq) (λhi' wh H3 s3=>?_) wl⟩) wd⟩) w⟩;have ss:=s2.trans s3
   cases d<;>first|exact wh.elim|skip
   ·obtain⟨rfl,o1⟩:=jL i1;refine .inr ⟨_,rfl,by rw[dI];exact wh.1,wh.2 _ _ (s1.trans ss) (kq (qj λc hc=>ki o1 (jhD (jhE hc))))⟩
   next xs =>
   obtain⟨b,vs,rfl,h1,h2⟩:=jA i1;refine .inl ⟨b,vs,rfl,(jc _ _).seq ((jb ss).seq h1),λp hp=>wh _ _ ((s1.trans ss).trans (jt hp _)) (ke (SqL.of (kY (((R.mono s1).mono s2).mono s3).own hp)) (Iss.minus_upd hp (Iss.cut lo' hi' (Iss.mono (jb ss) xs h2))))⟩
  exact⟨p,jP p λ_=>rfl⟩
 |X,k,ok,.sm o a b,e,h=>by
  exists Z.anCall,h,fe,xs,ks,cp
  exists Z.an4,2,h,hk,hl1,hat,he
  exists Z.anAttr,hat,ob,at',ap
  exists Z.an4,0,hat,ha1,ha2,ha3,ha4
  subst ha1 hk;obtain⟨y,rfl⟩:=jz hl1;have he:chkE k b y=true:=he
  have p:PE X (.Call (.Attribute ob o.nm ap) [y] [] cp) (tD X.K C (.sm o a b)):=by
   obtain⟨id,m1,m2,m3⟩:=jbe (X:=X) o;refine PE.imp (λτ H Q w=>?_) (zR sC m1 m2 m3 (sB ok a ob ha4).1 (jj (sB ok b y he).1 jB (jr he _ _)) (kI ha2) (by rw[jr he];rfl) ha3 (jr he _ _) rfl);obtain⟨σ,O,R,w⟩:=w;refine⟨σ,O,R,ja a (λd wd x H1 s1 i1=>?_) w⟩
   cases d<;>first|exact wd.elim|skip
   obtain⟨rfl,ox⟩:=jL i1;refine⟨rfl,σ,O,R.mono s1,ja b (λd2 wd2 x2 H2 s2 i2=>?_) wd⟩
   cases o<;>cases d2<;>first|exact wd2.elim|skip
   ·obtain⟨ss,⟨rfl,hl⟩,q⟩:=wd2;obtain⟨c,vs,rfl,h1,h2⟩:=jA i2;have hs:=Kw h2;cases qz h2;refine⟨_,c,ss,rfl,rfl,(jc _ _).seq h1,hl,q _ _ (s1.trans s2) (kq (qj λz hz=>?_))⟩
    cases ss with
    |nil=>cases hz
    |cons t l =>
     rcases mj.mp hz with hz|hz
     ·exact ki (hs t (bJ ..)) hz
     ·obtain⟨m,hm,hz⟩:=jg1.mp hz;obtain⟨u,hu,rfl⟩:=gD.mp hm;rcases mj.mp hz with hz|hz
      ·exact ki ox hz
      ·exact ki (hs u (bD _ hu)) hz
   ·obtain⟨⟨h1,h2,h3⟩,q⟩:=wd2;obtain⟨rfl,oy⟩:=jL i2;exact⟨_,_,rfl,rfl,h1,by rw[dI];exact h2,by rw[dI];exact h3,λp hp=>q _ _ ((s1.trans s2).trans (jt hp _)) (ke (SqL.of (kY ((R.mono s1).mono s2).own hp)) (Iss.minus_upd hp (Kq (Qz ox))))⟩
  exact⟨p,jP p λ_=>rfl⟩
 |X,k,ok,.fst es,e,h=>by
  exists Z.anJoin,h,vs,pos
  replace h:=Z.tb_ 0 h;have pj:=sJ ok es vs h.2
  have p:PE X (.JoinedStr vs pos) (tD X.K C (.fst es)):=by
   intro pins s τ H Q I w;obtain⟨σ,O,R,w⟩:=w
   match vs,h.1,pj with
   |v1::v2::rest,_,pj =>
    exact JoinedStr_many (pj pins s τ H [] Q I (gf _) ⟨σ,O,R,yI es (λl ⟨lo,q⟩ H' s'=>q _ _ s' (kq (qj lo))) w⟩)
  exact⟨p,jP p λ_=>rfl⟩
 |X,k,ok,.lix a b,e,h=>by
  exists Z.anCall,h,fe,xs,ks,cp
  exists Z.an4,2,h,hk,hl1,hat,he
  exists Z.anAttr,hat,ob,at',ap
  exists Z.an4,0,hat,ha1,ha2,ha3,ha4
  subst ha1 hk;obtain⟨y,rfl⟩:=jz hl1;have he:chkE k b y=true:=he
  have p:PE X (.Call (.Attribute ob "index" ap) [y] [] cp) (tD X.K C (.lix a b)):=by
   refine PE.imp (λτ H Q w=>?_) (zR ma PySem.F.slot_list_index PySem.F.type_list_index U7 (sB ok a ob ha4).1 (jj (sB ok b y he).1 jB (jr he _ _)) (kI ha2) (by rw[jr he];rfl) ha3 (jr he _ _) rfl);obtain⟨σ,O,R,w⟩:=w;refine⟨σ,O,R,ja a (λd wd x H1 s1 i1=>?_) w⟩
   cases d<;>first|exact wd.elim|skip
   obtain⟨c,vs,rfl,h1,h2⟩:=jA i1;refine⟨.inl ⟨rfl,vs,(jc _ _).seq h1⟩,σ,O,R.mono s1,ja b (λd2 wd2 x2 H2 s2 i2=>?_) wd⟩
   cases d2<;>first|exact wd2.elim|skip
   obtain⟨ns,j,rfl,⟨hn,hj,hno⟩,q⟩:=wd2;cases jk i2;cases kD h2;exact⟨c,ns,_,j,rfl,rfl,(jc _ _).seq ((jb s2).seq h1),⟨hj,hno⟩,q _ _ (s1.trans s2) (ju _)⟩
  exact⟨p,jP p λ_=>rfl⟩
 |X,k,ok,.ix a b,e,h=>by
  exists Z.anSub,h,v,i,pos
  replace h:=Z.tb_ 1 h;have p:PE X (.Subscript v i pos) (tD X.K C (.ix a b)):=PE.imp (t':=tD X.K C (.ix a b)) (λτ H Q ⟨σ,O,R,w⟩=>by exact K2 (f:=ixD) QK R w) (YL jfL (sB ok a _ h.1.2).1 (sB ok b _ h.2).1 (u7 h.1.1))
  exact⟨p,jP p λ_=>rfl⟩
 |X,k,ok,.call f es,e,h=>by
  exists Z.anCallN,h,x,xs,pos,q
  exists Z.an3,0,h,h1,h2,h4
  obtain⟨g1,g2,g3⟩:=ok.gl h2;obtain⟨fa,fd,ps,lv,F,hr,hm,hk,hb⟩:=ok.fns f x _ h1
  cases xs with
  |nil =>
   have p:PE X (.Call (.Name x q) [] [] pos) (tD X.K C (.call f es)):=by
    refine PE.imp (λτ H Q w=>?_) (VM (CX:=CXz X.prog X.w X.mg) (E:=E0) (dvs:=[]) F hr g1 hm hk hb .nil Jm g2);obtain⟨σ,O,R,w⟩:=w
    have el:es=[]:=by have:=yz h4;simpa using this
    subst el;have wd:(C.ct f).wp [] (Wd X.K O H Q) (C.E):=w;exact⟨O,[],rfl,R.own,by unfold Iss;rfl,wd.1,λd r=>(wd.2.1 d r).rw R.own,λx hx=>(ok.E x (wd.2.2 x hx)).elim⟩
   exact⟨p,jP p λ_=>rfl⟩
  |cons y ys =>
  have hs:bY (y::ys) X.env=(bj,eval y X.env)::bY ys X.env/\(backTo pos (bY ys X.env)).any (·.1)=false:=by
   cases es with
   |nil=>have:=kr h4;cases this
   |cons z zs =>
    obtain⟨y',ys',e',h5,h6⟩:=kh h4;cases e';exact⟨jr h5 _ _,qr h6 _ _⟩
  have p:PE X (.Call (.Name x q) (y::ys) [] pos) (tD X.K C (.call f es)):=by
   refine PE.imp (λτ H Q w=>?_) (qC (CX:=CXz X.prog X.w X.mg) (E:=E0) (dvs:=[]) F hr g1 hm hk hb .nil Jm (sA ok es _ h4) g2 hs.1 hs.2);obtain⟨σ,O,R,w⟩:=w;refine⟨σ,O,R,jD es (λds ⟨hl,wd⟩ vs H1 s1 i1=>?_) (xk es w)⟩;show spD X.K (y::ys).length (C.fr f) (C.f2 f) (C.ct f) (vs ++ []) H1 Q E0;rw[dv];exact⟨O,ds,by rw[hl,yz h4],(R.mono s1).own,i1,wd.1,λd r=>((wd.2.1 d r).mono s1).rw (R.mono s1).own,λx hx=>(ok.E x (wd.2.2 x hx)).elim⟩
  exact⟨p,jP p λ_=>rfl⟩
 |X,k,ok,.bi f es,e,h=>by
  exists Z.anCallN,h,x,xs,pos,q
  exists Z.an4,0,h,h1,h2,hne,h4
  obtain⟨y,ys,rfl⟩:=kZ hne;subst h1;obtain⟨g1,g2,g3⟩:=ok.gl h2;have hm:=ok.blt _ (jes f)
  have hs:bY (y::ys) X.env=(bj,eval y X.env)::bY ys X.env/\(backTo pos (bY ys X.env)).any (·.1)=false:=by
   cases es with
   |nil=>have:=kr h4;cases this
   |cons z zs =>
    obtain⟨y',ys',e',h5,h6⟩:=kh h4;cases e';exact⟨jr h5 _ _,qr h6 _ _⟩
  have w':∀τ H Q,tD X.K C (.bi f es) τ H Q->tCB (cD X.K (biD f)) (tDs X.K C es) τ H Q:=by
   rintro τ H Q ⟨σ,O,R,w⟩;exact⟨σ,O,R,jD es (λds wd vs H1 s1 i1=>⟨O,ds,(R.mono s1).own,i1,QY (λd=>Wd.mono s1) wd⟩) w⟩
  have cb:kJ X f.val (cD X.K (biD f)):=K1 ok.calm
  have p:PE X (.Call (.Name f.nm q) (y::ys) [] pos) (tD X.K C (.bi f es)):=by
   cases f with
   |abs=>exact PE.imp w' (kj (id:="abs") cb g1 hm jj4 (sA ok es _ h4) g3 g2 hs.1 hs.2)
   |max=>exact PE.imp w' (kj (id:="max") cb g1 hm jht (sA ok es _ h4) g3 g2 hs.1 hs.2)
   |mxl=>exact PE.imp w' (kj (id:="max") cb g1 hm jht (sA ok es _ h4) g3 g2 hs.1 hs.2)
   |min=>exact PE.imp w' (kj (id:="min") cb g1 hm jj5 (sA ok es _ h4) g3 g2 hs.1 hs.2)
   |len=>exact PE.imp w' (kj (id:="len") cb g1 hm jhH (sA ok es _ h4) g3 g2 hs.1 hs.2)
   |int=>exact PE.imp w' (k8 (T:="int") cb g1 hm jhs (sA ok es _ h4) g3 g2 hs.1 hs.2)
   |list=>exact PE.imp w' (k8 (T:="list") cb g1 hm sy (sA ok es _ h4) g3 g2 hs.1 hs.2)
   |sum=>exact PE.imp w' (kj (id:="sum") cb g1 hm jj6 (sA ok es _ h4) g3 g2 hs.1 hs.2)
   |all=>exact PE.imp w' (kj (id:="all") cb g1 hm jj7 (sA ok es _ h4) g3 g2 hs.1 hs.2)
   |str=>exact PE.imp w' (k8 (T:="str") cb g1 hm nX (sA ok es _ h4) g3 g2 hs.1 hs.2)
   |tuple=>exact PE.imp w' (k8 (T:="tuple") cb g1 hm jg2 (sA ok es _ h4) g3 g2 hs.1 hs.2)
   |dvm=>exact PE.imp w' (kj (id:="divmod") cb g1 hm jjF (sA ok es _ h4) g3 g2 hs.1 hs.2)
   |any=>exact PE.imp w' (kj (id:="any") cb g1 hm jj8 (sA ok es _ h4) g3 g2 hs.1 hs.2)
   |srt=>exact PE.imp w' (kj (id:="sorted") cb g1 hm jjG (sA ok es _ h4) g3 g2 hs.1 hs.2)
  exact⟨p,jP p λ_=>rfl⟩
 |X,k,ok,.meth m o,e,h=>by
  exists Z.anCall,h,fe,xs,ks,pos
  exists Z.an3,3,h,n1,n2,h
  exists Z.anAttr,h,v,x,ap
  replace h:=Z.tb_ 0 h
  match xs,n1,ks,n2 with
  |[],_,[],_ =>
   obtain⟨⟨⟨h1,h2⟩,h3⟩,h4⟩:=h;subst h1
   have p:PE X (.Call (.Attribute v m.nm ap) [] [] pos) (tD X.K C (.meth m o)):=by
    cases m with
    |bitlen =>
     refine PE.imp (λτ H Q w=>?_) (jdA (T:="int") PySem.F.plainAttrs_int PySem.F.slot_int_bit_length PySem.F.type_int_bit_length Vg (sB ok o _ h4).1 (kI h2) h3);obtain⟨σ,O,R,w⟩:=w;refine⟨σ,O,R,ja o (λd wd v H1 s1 i1=>?_) w⟩
     cases d with
     |int i=>cases jk i1;exact⟨rfl,rfl,i,rfl,wd _ _ s1 (ju _)⟩
     |_=>exact wd.elim
   exact⟨p,jP p λ_=>rfl⟩
 |X,k,ok,.isi a t,e,h=>by
  exists Z.anCallN,h,x,xs,pos,q
  exists Z.an6,0,h,h1,h2,n1,h3,h4,h5
  obtain⟨y,ny,rfl⟩:=qH n1;obtain⟨q',rfl⟩:=jK h3;have h5:chkE k a y=true:=h5
  try simp only at h1 h2
  subst h1;obtain⟨g1,g2,g3⟩:=ok.gl h2;obtain⟨k1,k2,k3⟩:=ok.gl h4;have pn:PE X (.Name t.nm q') (tC (.ty t.s)):=jbZ k1 (ok.blt _ (jdV t)) (jcK t) rfl k3 k2
  have p:PE X (.Call (.Name "isinstance" q) [y,.Name t.nm q'] [] pos) (tD X.K C (.isi a t)):=by
   refine PE.imp (λτ H Q w=>?_) (kj (Ud (t:=t)) g1 (ok.blt _ (by decide)) jjd (jj (sB ok a _ h5).1 (jj pn jB rfl) (jr h5 _ _)) g3 g2 (jr h5 _ _) rfl);obtain⟨σ,O,R,w⟩:=w;exact⟨σ,O,R,ja a (λd wd v H1 s1 i1=>⟨O,d,v,rfl,i1,wd.mono s1⟩) w⟩
  exact⟨p,jP p λ_=>rfl⟩
 |X,k,ok,.compR es b,e,h=>by
  exists Z.anComp,h,elt,x,iter,sc,px,pos
  exists Z.an3,3,h,h1,h2,h3
  exists Z.anCallN,h2,f,args,p2,q
  exists Z.an4,1,h2,hf,hg,hne,ha
  subst hf;obtain⟨g1,_,_⟩:=ok.gl hg
  have p:PE X (.ListComp elt [⟨.Name x px,.Call (.Name "range" q) args [] p2,[],0⟩] sc pos) (tD X.K C (.compR es b)):=by
   cases args with
   |nil=>simp at hne
   |cons y ys =>
    have hs:bY (y::ys) X.env=(bj,eval y X.env)::bY ys X.env/\(backTo p2 (bY ys X.env)).any (·.1)=false:=by
     cases es with
     |nil=>have:=kr ha;cases this
     |cons z zs =>
      obtain⟨y',ys',e',h5,h6⟩:=kh ha;cases e';exact⟨jr h5 _ _,qr h6 _ _⟩
    intro pins s τ H Q I w;obtain⟨cl,co⟩:=ok.comp h1 I.ok;refine zJ (te:=tD X.K C b) ok.calm ok.nd (ok.comp_nE h1) co (Vw g1 (ok.blt _ (by decide)) (sA ok es _ ha) hs.1 hs.2) (λ_ _ _ _=>qh) (λs H fp Ca=>(sB (ok.block h1 co s H fp Ca) b elt h3).1) (λ_=>rfl) pins s τ H Q I ?_;obtain⟨σ,O,R,w⟩:=w;refine⟨σ,O,R,jD es (λds wd vs H1 s1 i1=>?_) w⟩;obtain⟨lo,hi,st,e,c,hx,wd⟩:=Yy i1 wd;refine⟨lo,hi,st,e,c,?_⟩;refine xY (R.mono s1) hx ?_ ?_ ?_ (jO (f:=λd Q=>wpE C b (σ ++ [ba (.sh d)]) Q) (λd _ _ hq=>ja b hq) _ (λys wy=>wy.mono s1) wd)
    ·intro j H _ hj;rw[jN]at hj;exact hj
    ·intro j H _ hj;rw[jN]at hj;exact hj
    ·intro j H v H' d _ y hd;obtain⟨e1,e2⟩:=y
     have hj:j<(if lo<hi then (hi-lo-1) / st+1 else 0).toNat:=by
      rcases gL j (if lo<hi then (hi-lo-1) / st+1 else 0).toNat with z|z
      ·exact z
      ·rw[bZ (by rw[jN];exact z)]at hd;cases hd
     rw[xW _ _ _ _ hj]at hd;cases hd;exact⟨e1,by rw[e2];exact ju _⟩
  exact⟨p,jP p λ_=>rfl⟩
 |X,k,ok,.compE a b,e,h=>by
  exists Z.anComp,h,elt,x,iter,sc,px,pos
  exists Z.an4,1,h,h1,hn,ha,h3
  have p:PE X (.ListComp elt [⟨.Name x px,iter,[],0⟩] sc pos) (tD X.K C (.compE a b)):=by
   intro pins s τ H Q I w;obtain⟨cl,co⟩:=ok.comp h1 I.ok;refine zJ (te:=tD X.K C b) ok.calm ok.nd (ok.comp_nE h1) co (yn (sB ok a iter ha).1) (λ_ _ _ _=>qh) (λs H fp Ca=>(sB (ok.block h1 co s H fp Ca) b elt h3).1) (kH hn _) pins s τ H Q I ?_;obtain⟨σ,O,R,w⟩:=w;refine⟨σ,O,R,ja a (λd wd v H1 s1 i1=>?_) w⟩;obtain⟨xs,e1,hx,wd⟩:=wd;have wd':=jO (f:=λd Q=>wpE C b (σ ++ [ba (.sh d)]) Q) (λd _ _ hq=>ja b hq) _ (λys (wy:Wd X.K O H Q (.lst ys))=>wy.mono s1) wd;obtain⟨J,hw,g1,g2,g3⟩:=walk_of e1 i1;exact⟨J,hw,xY (R.mono s1) hx (λj H2 s2=>g1 j H2 O (jb s2)) (λj H2 s2=>g2 j H2 O (jb s2)) (λj H2 v H' d s2=>g3 j H2 O v H' d (jb s2)) wd'⟩
  exact⟨p,jP p λ_=>rfl⟩
 |X,k,ok,.compF a c b,e,h=>by
  exists Z.anCompF,h,elt,x,iter,sc,cnd,px,pos
  exists Z.an5,1,h,h1,hn,ha,hcd,h3
  have p:PE X (.ListComp elt [⟨.Name x px,iter,[cnd],0⟩] sc pos) (tD X.K C (.compF a c b)):=by
   intro pins s τ H Q I w;obtain⟨cl,co⟩:=ok.comp h1 I.ok;exact zJ (te:=tD X.K C b) ok.calm ok.nd (ok.comp_nE h1) co (yn (sB ok a iter ha).1) (λs H fp Ca=>Y8 (sB (ok.block h1 co s H fp Ca) c cnd hcd).2) (λs H fp Ca=>(sB (ok.block h1 co s H fp Ca) b elt h3).1) (kH hn _) pins s τ H Q I (uN w)
  exact⟨p,jP p λ_=>rfl⟩
 |X,k,ok,.compZ a b c,e,h=>by
  exists Z.anComp,h,elt,x,iter,sc,px,pos
  exists Z.an3,3,h,h1,h2,h3
  exists Z.anCallN,h2,f,args,p2,q
  exists Z.an5,0,h2,hf,hg,hn,ha,hb
  subst hf;obtain⟨g1,_,_⟩:=ok.gl hg;obtain⟨y1,y2,rfl⟩:=qH hn;have ha:chkE k a y1=true:=ha;have hb:chkE k b y2=true:=hb
  have p:PE X (.ListComp elt [⟨.Name x px,.Call (.Name "zip" q) [y1,y2] [] p2,[],0⟩] sc pos) (tD X.K C (.compZ a b c)):=by
   intro pins s τ H Q I w;obtain⟨cl,co⟩:=ok.comp h1 I.ok;refine zJ (te:=tD X.K C c) ok.calm ok.nd (ok.comp_nE h1) co (VV g1 (ok.blt _ (by decide)) (jj (sB ok a y1 ha).1 (jj (sB ok b y2 hb).1 jB (jr hb _ _)) (jr ha _ _)) (jr ha _ _) (by rw[jr hb];rfl)) (λ_ _ _ _=>qh) (λs H fp Ca=>(sB (ok.block h1 co s H fp Ca) c elt h3).1) (λ_=>rfl) pins s τ H Q I ?_;obtain⟨σ,O,R,w⟩:=w;refine⟨σ,O,R,ja a (λd wd v H1 s1 i1=>⟨σ,O,R.mono s1,ja b (λd2 wd2 v2 H2 s2 i2=>?_) wd⟩) w⟩;obtain⟨xs,ys,⟨rfl,rfl⟩,hx,wz⟩:=wd2;have i1':=Is.mono (jb s2) _ i1;obtain⟨ad,vs,rfl,hq,hv⟩:=jA i1';obtain⟨ad2,ws,rfl,hq2,hv2⟩:=jA i2;have hq':=(jc _ _).seq hq;have hq2':=(jc _ _).seq hq2;have s12:=s1.trans s2;exact⟨ad,ad2,rfl,⟨vs,hq'⟩,⟨ws,hq2'⟩,JL (R.mono s12) hx hq' hq2' hv hv2 (jO (f:=λd Q=>wpE C c (σ ++ [ba (.sh d)]) Q) (λd _ _ hq=>ja c hq) _ (λys wy=>wy.mono s12) wz)⟩
  exact⟨p,jP p λ_=>rfl⟩
 |X,k,ok,.compN a c,e,h=>by
  exists Z.anComp,h,elt,x,iter,sc,px,pos
  exists Z.an3,3,h,h1,h2,h3
  exists Z.anCallN,h2,f,args,p2,q
  exists Z.an4,0,h2,hf,hg,hn,ha
  subst hf;obtain⟨g1,_,_⟩:=ok.gl hg;obtain⟨y1,rfl⟩:=jz hn;have ha:chkE k a y1=true:=ha
  have p:PE X (.ListComp elt [⟨.Name x px,.Call (.Name "enumerate" q) [y1] [] p2,[],0⟩] sc pos) (tD X.K C (.compN a c)):=by
   intro pins s τ H Q I w;obtain⟨cl,co⟩:=ok.comp h1 I.ok;refine zJ (te:=tD X.K C c) ok.calm ok.nd (ok.comp_nE h1) co (K8 g1 (ok.blt _ (by decide)) (jj (sB ok a y1 ha).1 jB (jr ha _ _)) (jr ha _ _) rfl) (λ_ _ _ _=>qh) (λs H fp Ca=>(sB (ok.block h1 co s H fp Ca) c elt h3).1) (λ_=>rfl) pins s τ H Q I ?_;obtain⟨σ,O,R,w⟩:=w;refine⟨σ,O,R,ja a (λd wd v H1 s1 i1=>?_) w⟩;obtain⟨xs,rfl,hx,wz⟩:=wd;obtain⟨ad,vs,rfl,hq,hv⟩:=jA i1;have hq':=(jc _ _).seq hq;exact⟨ad,rfl,⟨vs,hq'⟩,Kc (R.mono s1) hx hq' hv (jO (f:=λd Q=>wpE C c (σ ++ [ba (.sh d)]) Q) (λd _ _ hq=>ja c hq) _ (λys wy=>wy.mono s1) wz)⟩
  exact⟨p,jP p λ_=>rfl⟩
theorem sJ:∀ {X:Cx} {k:Ck} (ok:Ok X k C) (xs:List Ex) (es:List bU),JJ k xs es=bh->PJ X C xs es
 |X,k,ok,[],es,h=>by
  have e:es=[]:=by rw[JJ]at h;simpa using h
  subst e;intro pins s τ H out Q I hl w;obtain⟨σ,O,R,w⟩:=w;unfold zd at w
  exact joinParts_nil ⟨.str _,H,I.tok _,⟨_,rfl⟩,w H (jd.refl H)⟩ (by show out.toArray.size<=_;rw[bQ];exact hl)
 |X,k,ok,x::xs,es,h=>by
  rw[JJ,bz,gX]at h;obtain⟨h1,h2⟩:=h
  cases es with
  |nil =>
   rcases h1 with h1|h1
   ·cases h1
   ·obtain⟨_,_,_,_,e⟩:=Xc h1
    cases e
  |cons y ys =>
   have h1:((jck y).any λy=>chkE k x y)=bh\/cstPart x y=true:=h1;have h2:JJ k xs ys=true:=h2;intro pins s τ H out Q I hl w;obtain⟨σ,O,R,w⟩:=w;unfold zd at w
   have h24:lim=sizeLine:=by rw[dI];rfl
   have ap:∀z:bF,((⟨out.toArray⟩:bF)++z)=⟨(out++z.cps.toList).toArray⟩:=λz=>by
    show (⟨out.toArray++z.cps⟩:bF)=_;congr 1;apply jie;simp
   have go:∀(z:bF) (u:Tok) (s1:Shared) (H1:Hp),Inv X pins τ H1 s1->jd H H1->out.length+z.length<=lim->zd C xs (out++z.cps.toList) σ (λl=>∀H',jd H H'->Q (.str ⟨l.toArray⟩) H') ->
    (((⟨out.toArray⟩:bF)++z).length<=sizeLine/\wpAny (model X.prog X.w) X.A (jjO ((⟨out.toArray⟩:bF)++z) (evalEach ys X.env)) (EP X pins τ Q) X.xe s1):=λz u s1 H1 I1 sm hz wz=>by
    have hlen:(out++z.cps.toList).length<=sizeLine:=by
     have e:(out++z.cps.toList).length=out.length+z.length:=by simp[jg8]
     lia
    rw[ap];refine⟨by show (out++z.cps.toList).toArray.size<=_;rw[bQ];exact hlen,?_⟩;exact sJ ok xs ys h2 pins s1 τ H1 _ Q I1 hlen ⟨σ,O,R.mono sm,yI xs (λl q H' s'=>q H' (sm.trans s')) wz⟩
   show wpAny _ _ (jjO _ (eval y X.env::evalEach ys X.env)) _ _ _;refine joinParts_cons ?_;rcases h1 with h1|h1
   ·obtain⟨v,hv,h3⟩:=jf h1;obtain⟨p,rfl⟩:=jf5 hv
    let Q1:VK:=λvv H1=>jd H H1/\((∃z,vv=.str z/\out.length+z.length<=lim/\zd C xs (out++z.cps.toList) σ λl=>∀H',jd H H'->Q (.str ⟨l.toArray⟩) H')\/∃i:Int,vv=.int i/\i.natAbs.log2<1920/\out.length+(nK (toString i)).length<=lim/\zd C xs (out++(nK (toString i)).cps.toList) σ λl=>∀H',jd H H'->Q (.str ⟨l.toArray⟩) H')
    have t1:tD X.K C x τ H Q1:=by
     refine⟨σ,O,R,ja x (λd wd vv H1 s1 i1=>⟨s1,?_⟩) w⟩;obtain⟨z,⟨e1,e2⟩,wd⟩:=wd;unfold jdF at e1;split at e1
     ·cases e1;exact .inl ⟨_,(jL i1).1,e2,wd⟩
     ·split at e1
      ·next hb =>
       cases e1;exact .inr ⟨_,jk i1,hb,e2,wd⟩
      ·cases e1
     ·cases e1
    refine FormattedValue_plain (thn ((sB ok x v h3).1 pins s τ H Q1 I t1) λu s1 q=>?_);obtain⟨vv,H1,I1,r1,sm,q1⟩:=q;rcases q1 with⟨z,rfl,hz,wz⟩|⟨i,rfl,hb,hz,wz⟩
    ·obtain⟨t,rfl⟩:=r1;exact formatField_str (λt' tk=>go z t' _ H1 (I1.tok _) sm hz wz) (by lia)
    ·obtain⟨t,rfl⟩:=r1;exact formatField_int_small hb (go _ 0 _ H1 (I1.tok _) sm hz wz)
   ·obtain⟨z,j,p,rfl,rfl⟩:=Xc h1;obtain⟨z',⟨e1,e2⟩,wz⟩:=w;have e1:ba z=ba z':=e1;cases e1;exact jh7 (go z 0 _ H (I.tok _) (jd.refl H) e2 wz)
theorem sA:∀ {X:Cx} {k:Ck} (ok:Ok X k C) (xs:List Ex) (es:List bU),qk k xs es=bh->PA X es (tDs X.K C xs)
 |X,k,ok,[],es,h=>by
  rw[kr h]
  exact PA.imp (λτ H Q ⟨σ,O,R,w⟩=>by unfold j4 at w;exact w _ _ (jd.refl H) (by unfold Iss;rfl)) jB
 |X,k,ok,x::xs,es,h=>by
  obtain⟨e,es,rfl,h1,h2⟩:=kh h;refine PA.imp (λτ H Q w=>?_) (jj (sB ok x e h1).1 (sA ok xs es h2) (jr h1 _ _));obtain⟨σ,O,R,w⟩:=w;unfold j4 at w;exact⟨σ,O,R,ja x (λd wd v H1 s1 i1=>⟨σ,O,R.mono s1,jD xs (λds wds vs H2 s2 i2=>wds _ _ (s1.trans s2) (by unfold Iss;exact⟨v,vs,rfl,Is.mono (jb s2) d i1,i2⟩)) wd⟩) w⟩
end
def qO(e:bU):Bool:=(UD e).isSome
def CompP(X:Cx)(k:Ck)(C:Cfg)(z:Ex)(e:bU):Prop:=∃(x:bF) (px:Pos) (iter elt:bU) (ifs:List bU) (sc:Scope) (pos:Pos) (wi:TI) (tt:TT) (te:TE),e=.ListComp elt [⟨.Name x px,iter,ifs,0⟩] sc pos/\compCk k x sc=bh/\PI X (.Name x px) iter wi/\(∀v,gQ iter X.env v=pure v) /\
    (∀cl,CompOk X x sc cl->(∀s H fp Ca,PTs (qP X s H fp x sc cl Ca) ifs tt)/\∀s H fp Ca,PE (qP X s H fp x sc cl Ca) elt te)/\∀τ H Q,tD X.K C z τ H Q->zh wi tt te τ H Q
theorem vF(ok:Ok X k C)(z:Ex)(e:bU)(h:chkE k z e=bh)(hc:qO e=bh):CompP X k C z e:=by
 cases z with
 |compR es b =>
  exists Z.anComp,h,elt,x,iter,sc,px,pos
  exists Z.an3,3,h,h1,h2,h3
  exists Z.anCallN,h2,f,args,p2,q
  exists Z.an4,1,h2,hf,hg,hne,ha
  subst hf;obtain⟨g1,_,_⟩:=ok.gl hg
  cases args with
  |nil=>simp at hne
  |cons y ys =>
   have hs:bY (y::ys) X.env=(bj,eval y X.env)::bY ys X.env/\(backTo p2 (bY ys X.env)).any (·.1)=false:=by
    cases es with
    |nil=>have:=kr ha;cases this
    |cons z zs =>
     obtain⟨y',ys',e',h5,h6⟩:=kh ha;cases e';exact⟨jr h5 _ _,qr h6 _ _⟩
   unfold CompP;refine⟨x,px,_,elt,[],sc,pos,_,V3,tD X.K C b,rfl,h1,Vw g1 (ok.blt _ (by decide)) (sA ok es _ ha) hs.1 hs.2,λ_=>rfl,λcl co=>⟨λ_ _ _ _=>qh,λs H fp Ca=>(sB (ok.block h1 co s H fp Ca) b elt h3).1⟩,λτ H Q w=>?_⟩;obtain⟨σ,O,R,w⟩:=w;refine⟨σ,O,R,jD es (λds wd vs H1 s1 i1=>?_) w⟩;obtain⟨lo,hi,st,e,c,hx,wd⟩:=Yy i1 wd;refine⟨lo,hi,st,e,c,?_⟩;refine xY (R.mono s1) hx ?_ ?_ ?_ (jO (f:=λd Q=>wpE C b (σ ++ [ba (.sh d)]) Q) (λd _ _ hq=>ja b hq) _ (λys wy=>wy.mono s1) wd)
   ·intro j H _ hj;rw[jN]at hj;exact hj
   ·intro j H _ hj;rw[jN]at hj;exact hj
   ·intro j H v H' d _ y hd;obtain⟨e1,e2⟩:=y
    have hj:j<(if lo<hi then (hi-lo-1) / st+1 else 0).toNat:=by
     rcases gL j (if lo<hi then (hi-lo-1) / st+1 else 0).toNat with z|z
     ·exact z
     ·rw[bZ (by rw[jN];exact z)]at hd;cases hd
    rw[xW _ _ _ _ hj]at hd;cases hd
    exact⟨e1,by rw[e2];exact ju _⟩
 |compF a c b =>
  exists Z.anCompF,h,elt,x,iter,sc,cnd,px,pos
  exists Z.an5,1,h,h1,hn,ha,hcd,h3
  unfold CompP
  exact⟨x,px,iter,elt,[cnd],sc,pos,_,_,tD X.K C b,rfl,h1,yn (sB ok a iter ha).1,kH hn _,λcl co=>⟨λs H fp Ca=>Y8 (sB (ok.block h1 co s H fp Ca) c cnd hcd).2,λs H fp Ca=>(sB (ok.block h1 co s H fp Ca) b elt h3).1⟩,λτ H Q w=>uN w⟩
 |compE a b =>
  exists Z.anComp,h,elt,x,iter,sc,px,pos
  exists Z.an4,1,h,h1,hn,ha,h3
  unfold CompP;refine⟨x,px,iter,elt,[],sc,pos,_,V3,tD X.K C b,rfl,h1,yn (sB ok a iter ha).1,kH hn _,λcl co=>⟨λ_ _ _ _=>qh,λs H fp Ca=>(sB (ok.block h1 co s H fp Ca) b elt h3).1⟩,λτ H Q w=>?_⟩;obtain⟨σ,O,R,w⟩:=w;refine⟨σ,O,R,ja a (λd wd v H1 s1 i1=>?_) w⟩;obtain⟨xs,e1,hx,wd⟩:=wd;have wd':=jO (f:=λd Q=>wpE C b (σ ++ [ba (.sh d)]) Q) (λd _ _ hq=>ja b hq) _ (λys (wy:Wd X.K O H Q (.lst ys))=>wy.mono s1) wd;obtain⟨J,hw,g1,g2,g3⟩:=walk_of e1 i1
  exact⟨J,hw,xY (R.mono s1) hx (λj H2 s2=>g1 j H2 O (jb s2)) (λj H2 s2=>g2 j H2 O (jb s2)) (λj H2 v H' d s2=>g3 j H2 O v H' d (jb s2)) wd'⟩
 |compZ a b c =>
  exists Z.anComp,h,elt,x,iter,sc,px,pos
  exists Z.an3,3,h,h1,h2,h3
  exists Z.anCallN,h2,f,args,p2,q
  exists Z.an5,0,h2,hf,hg,hn,ha,hb
  subst hf;obtain⟨g1,_,_⟩:=ok.gl hg;obtain⟨y1,y2,rfl⟩:=qH hn;have ha:chkE k a y1=true:=ha;have hb:chkE k b y2=true:=hb;unfold CompP;refine⟨x,px,_,elt,[],sc,pos,_,V3,tD X.K C c,rfl,h1,VV g1 (ok.blt _ (by decide)) (jj (sB ok a y1 ha).1 (jj (sB ok b y2 hb).1 jB (jr hb _ _)) (jr ha _ _)) (jr ha _ _) (by rw[jr hb];rfl),λ_=>rfl,λcl co=>⟨λ_ _ _ _=>qh,λs H fp Ca=>(sB (ok.block h1 co s H fp Ca) c elt h3).1⟩,λτ H Q w=>?_⟩;obtain⟨σ,O,R,w⟩:=w;refine⟨σ,O,R,ja a (λd wd v H1 s1 i1=>⟨σ,O,R.mono s1,ja b (λd2 wd2 v2 H2 s2 i2=>?_) wd⟩) w⟩;obtain⟨xs,ys,⟨rfl,rfl⟩,hx,wz⟩:=wd2;have i1':=Is.mono (jb s2) _ i1;obtain⟨ad,vs,rfl,hq,hv⟩:=jA i1';obtain⟨ad2,ws,rfl,hq2,hv2⟩:=jA i2;have hq':=(jc _ _).seq hq;have hq2':=(jc _ _).seq hq2;have s12:=s1.trans s2
  exact⟨ad,ad2,rfl,⟨vs,hq'⟩,⟨ws,hq2'⟩,JL (R.mono s12) hx hq' hq2' hv hv2 (jO (f:=λd Q=>wpE C c (σ ++ [ba (.sh d)]) Q) (λd _ _ hq=>ja c hq) _ (λys wy=>wy.mono s12) wz)⟩
 |compN a c =>
  exists Z.anComp,h,elt,x,iter,sc,px,pos
  exists Z.an3,3,h,h1,h2,h3
  exists Z.anCallN,h2,f,args,p2,q
  exists Z.an4,0,h2,hf,hg,hn,ha
  subst hf;obtain⟨g1,_,_⟩:=ok.gl hg;obtain⟨y1,rfl⟩:=jz hn;have ha:chkE k a y1=true:=ha;unfold CompP;refine⟨x,px,_,elt,[],sc,pos,_,V3,tD X.K C c,rfl,h1,K8 g1 (ok.blt _ (by decide)) (jj (sB ok a y1 ha).1 jB (jr ha _ _)) (jr ha _ _) rfl,λ_=>rfl,λcl co=>⟨λ_ _ _ _=>qh,λs H fp Ca=>(sB (ok.block h1 co s H fp Ca) c elt h3).1⟩,λτ H Q w=>?_⟩;obtain⟨σ,O,R,w⟩:=w;refine⟨σ,O,R,ja a (λd wd v H1 s1 i1=>?_) w⟩;obtain⟨xs,rfl,hx,wz⟩:=wd;obtain⟨ad,vs,rfl,hq,hv⟩:=jA i1;have hq':=(jc _ _).seq hq
  exact⟨ad,rfl,⟨vs,hq'⟩,Kc (R.mono s1) hx hq' hv (jO (f:=λd Q=>wpE C c (σ ++ [ba (.sh d)]) Q) (λd _ _ hq=>ja c hq) _ (λys wy=>wy.mono s1) wz)⟩
 |_ =>
  exfalso;obtain⟨⟨a,b,c⟩,q⟩:=wK.mp hc;obtain⟨p,rfl⟩:=ja7 q
  first|exact bK (show bj=bh from h)|(obtain⟨y,hy,_⟩:=jf h;first|cases hy|(simp[jI,qm]at hy))
end
def yl:d9->Option (List bU×bU)
 |.Assign ts v _=>ba (ts,v)
 |_=>bc
def xM:d9->Option (Option bU)
 |.Return v _=>ba v
 |_=>bc
def JV:d9->Option (bU×List d9×List d9)
 |.If t x y _=>ba (t,x,y)
 |_=>bc
def Vf:d9->Option (bU×List d9×List d9)
 |.While t x y _=>ba (t,x,y)
 |_=>bc
def JQ:d9->Option (bU×bU×List d9×List d9)
 |.For t i x y _=>ba (t,i,x,y)
 |_=>bc
def jdg:d9->Bool
 |.Break _=>bh
 |_=>bj
def jdl:d9->Bool
 |.Continue _=>bh
 |_=>bj
def Xm:d9->Option bU
 |.Expr e _=>ba e
 |_=>bc
local macro_rules | `(tactic|exists ($r),$h:ident,$e:ident)=>`(tactic|(refine Z.inv ($r) $h ?_;clear $h;(first|induction $e:ident using jif|induction $e:ident using jig)<;>first|exact Z.nI rfl|(intro x h;cases h;first|rfl|exact⟨_,rfl⟩|exact⟨_,_,rfl⟩)))
theorem jeD{s:d9}(h:Xm s=ba e):∃p,s=.Expr e p:=by exists (λx e=>∃p,e=.Expr x p),h,s
def z9:Sm->Bool
 |.shr _=>bh
 |_=>bj
theorem jdy{s:Sm}(h:z9 s=bh):∃i,s=.shr i:=by cases s<;>first|exact⟨_,rfl⟩|exact bK h
theorem VI{s:d9}{ts:List bU}{v:bU}(h:yl s=ba (ts,v)):∃p,s=.Assign ts v p:=by exists (λx e=>∃p,e=.Assign x.1 x.2 p),h,s
theorem yj{s:d9}{v:Option bU}(h:xM s=ba v):∃p,s=.Return v p:=by exists (λx e=>∃p,e=.Return x p),h,s
variable{x y:List d9}
theorem jd4{s:d9}(h:JV s=ba (t,x,y)):∃p,s=.If t x y p:=by exists (λx e=>∃p,e=.If x.1 x.2.1 x.2.2 p),h,s
theorem jdS{s:d9}(h:Vf s=ba (t,x,y)):∃p,s=.While t x y p:=by exists (λx e=>∃p,e=.While x.1 x.2.1 x.2.2 p),h,s
theorem jdI{s:d9}{i:bU}(h:JQ s=ba (t,i,x,y)):∃p,s=.For t i x y p:=by exists (λx e=>∃p,e=.For x.1 x.2.1 x.2.2.1 x.2.2.2 p),h,s
variable{t_:d9}{f_:bU×List d9×List d9->Bool}
theorem anAsg{f_:List bU×bU->Bool}{G:Prop}(h:(yl t_).any f_=bh)(k_:∀ts v p,t_=.Assign ts v p->f_ (ts,v)=bh->G):G:=by
 obtain⟨⟨ts,v⟩,z,h⟩:=jf h;obtain⟨p,q_⟩:=VI z;exact k_ ts v p q_ h
theorem anIfS{G:Prop}(h:(JV t_).any f_=bh)(k_:∀t x y p,t_=.If t x y p->f_ (t,x,y)=bh->G):G:=by
 obtain⟨⟨t,x,y⟩,z,h⟩:=jf h;obtain⟨p,q_⟩:=jd4 z;exact k_ t x y p q_ h
theorem anWhl{G:Prop}(h:(Vf t_).any f_=bh)(k_:∀t x y p,t_=.While t x y p->f_ (t,x,y)=bh->G):G:=by
 obtain⟨⟨t,x,y⟩,z,h⟩:=jf h;obtain⟨p,q_⟩:=jdS z;exact k_ t x y p q_ h
variable{f_:bU->Bool}
theorem anFor{f_:bU×bU×List d9×List d9->Bool}{G:Prop}(h:(JQ t_).any f_=bh)(k_:∀t i x y p,t_=.For t i x y p->f_ (t,i,x,y)=bh->G):G:=by
 obtain⟨⟨t,i,x,y⟩,z,h⟩:=jf h;obtain⟨p,q_⟩:=jdI z;exact k_ t i x y p q_ h
theorem anExp{G:Prop}(h:(Xm t_).any f_=bh)(k_:∀e p,t_=.Expr e p->f_ e=bh->G):G:=by
 obtain⟨e,z,h⟩:=jf h;obtain⟨p,q_⟩:=jeD z;exact k_ e p q_ h
theorem jeA{s:d9}:jdg s=bh->∃p,s=.Break p:=by induction s using jj1<;>first|exact bK|exact λ_=>⟨_,rfl⟩
theorem je3{s:d9}:jdl s=bh->∃p,s=.Continue p:=by induction s using jj1<;>first|exact bK|exact λ_=>⟨_,rfl⟩
def uW(ts:List bU):Option bU:=if ts.length=1 then ts[0]? else bc
theorem VZ{ts:List bU}(h:uW ts=ba t):ts=[t]:=by
 unfold uW at h
 match ts with
 |[]=>simp at h
 |[a]=>simp at h;rw[h]
 |_::_::_=>simp at h
theorem anSole{t_:List bU}{G:Prop}(h:(uW t_).any f_=bh)(k_:∀t,t_=[t]->f_ t=bh->G):G:=by
 obtain⟨t,z,h⟩:=jf h;exact k_ t (VZ z) h
def ja5(ts:List d9):Option d9:=if ts.length=1 then ts[0]? else bc
theorem jdR{ts:List d9}{t:d9}(h:ja5 ts=ba t):ts=[t]:=by
 unfold ja5 at h;split at h
 ·next hl =>
  match ts,hl with
  |[x],_=>simp at h;rw[h]
 ·cases h
def vN(k:Ck):List Nat->List bU->Bool
 |[],es=>es.isEmpty
 |i::is,es=>!es.isEmpty&&((jo (es.getD 0 (.Tuple [] 0 ⟨0,0,0,0⟩))).any λx=>k.loc i x)&&vN k is (es.drop 1)
theorem Yz{is:List Nat}(h:vN k (i::is) es=bh):∃x p ys,es=.Name x p::ys/\k.loc i x=bh/\vN k is ys=true:=by
 rw[vN]at h
 cases es with
 |nil=>simp at h
 |cons y ys =>
  simp only[bz,pF,nG]at h;obtain⟨x,hx,hl⟩:=jf h.1.2;have hx':jo y=ba x:=hx;obtain⟨p,rfl⟩:=jK hx';exact⟨x,p,ys,rfl,hl,h.2⟩
mutual
noncomputable def xj(k:Ck):Sm->d9->Bool
 |.set i e,s=>(yl s).any λz=>(uW z.1).any λt=>(jo t).any λx=>k.loc i x&&chkE k e z.2
 |.unp is e,s=>(yl s).any λz=>(uW z.1).any λt=>(QX t).any λts=>vN k is ts&&(QX z.2).isNone&&chkE k e z.2
 |.ret e,s=>(xM s).any λv=>v.any λv=>chkE k e v
 |.ite c a b,s=>(JV s).any λz=>chkE k c z.1&&yi k a z.2.1&&yi k b z.2.2
 |.whl c b,s=>(Vf s).any λz=>z.2.2.isEmpty&&chkE k c z.1&&yi k b z.2.1
 |.forR i es b,s=>(JQ s).any λz=>(jo z.1).any λx=>(jI z.2.1).any λc=>z.2.2.2.isEmpty&&k.loc i x&&decide (c.1=("range":bF))&&k.gl c.1 && !c.2.1.isEmpty&&qk k es c.2.1&&yi k b z.2.2.1
 |.forE i e b,s=>(JQ s).any λz=>(jo z.1).any λx=>z.2.2.2.isEmpty&&k.loc i x && !Jg z.2.1&&chkE k e z.2.1&&yi k b z.2.2.1
 |.brk,s=>jdg s
 |.cnt,s=>jdl s
 |.never,_=>bh
 |.new i,s=>(yl s).any λz=>(uW z.1).any λt=>(jo t).any λx=>k.loc i x&&(Jf z.2).any (·.isEmpty)
 |.app i e,s=>(Xm s).any λz=>(qm z).any λc=>c.2.2.1.isEmpty&&decide (c.2.1.length=1)&&((kL c.1).any λy=>decide (y.2.1=("append":bF))&&((jo y.1).any λx=>k.loc i x)&&(y.2.2.endLine == c.2.2.2.line))&&chkE k e (c.2.1.getD 0 z)
 |.shr _,_=>bj
 |.raise _,_=>bj
 |.retX _ _ _,_=>bj
 |.raiseA _ _,_=>bj
 |.setX _ _ _ _,_=>bj
 |.ext i e,s=>(Xm s).any λz=>(qm z).any λc=>c.2.2.1.isEmpty&&decide (c.2.1.length=1)&&((kL c.1).any λy=>decide (y.2.1=("extend":bF))&&((jo y.1).any λx=>k.loc i x)&&(y.2.2.endLine == c.2.2.2.line))&&chkE k e (c.2.1.getD 0 z)
 |.forN i e b,s=>(JQ s).any λz=>(jo z.1).any λx=>(jI z.2.1).any λc=>z.2.2.2.isEmpty&&k.loc i x&&decide (c.1=("enumerate":bF))&&k.gl c.1&&decide (c.2.1.length=1)&&chkE k e (c.2.1.getD 0 z.2.1)&&yi k b z.2.2.1
 |.forU i j m e,s=>(JQ s).any λz=>(jo z.1).any λx=>(jo z.2.1).any λy=>z.2.2.2.isEmpty&&k.loc i x&&k.loc j y&&decide (i≠j)&&decide (m≠j)&&(ja5 z.2.2.1).any λb=>(yl b).any λq=>(uW q.1).any λt=>(jo t).any λu=>k.loc m u && !qO q.2&&chkE k e q.2
 |.nop,_=>bj
 |.seq _ _,_=>bj
noncomputable def yi(k:Ck):Sm->List d9->Bool
 |.nop,ss=>ss.isEmpty
 |.seq a b,ss=>if z9 a then yi k b ss else !ss.isEmpty&&xj k a (ss.getD 0 (.Pass ⟨0,0,0,0⟩))&&yi k b (ss.drop 1)
 |_,_=>bj
end
variable{a b:Sm}{ss:List d9}
theorem UZ(hs:z9 a=bh)(h:yi k (.seq a b) ss=bh):yi k b ss=true:=by
 rw[yi,if_pos hs]at h;exact h
theorem Z6(hs:z9 a=bj)(h:yi k (.seq a b) ss=bh):∃s r,ss=s::r/\xj k a s=bh/\yi k b r=true:=by
 rw[yi,if_neg (by rw[hs];decide)]at h
 cases ss with
 |nil=>simp at h
 |cons s r =>
  simp only[bz,pF,nG]at h;exact⟨s,r,rfl,h.1.2,h.2⟩
structure Good (O₀:List Addr) (H₀:Hp) (O:List Addr) (H:Hp):Prop where
 same:jd H₀ H
 sub:∀a∈O₀,a∈O
 new:∀a∈O,a∈O₀\/H₀ a=bc
variable{O₀:List Addr}{H₀:Hp}
theorem Good.mono(g:Good O₀ H₀ O H)(e:jd H H'):Good O₀ H₀ O H':=⟨g.same.trans e,g.sub,g.new⟩
def MT(O₀:List Addr)(H:Hp)(σ:Sto)(τ:L2.St):Prop:=∀(i:Nat) (rows:List (List D)) (a:Addr) (as:List Addr),ji σ i=ba (.ot rows)->τ[i]?=ba (ba (.ref a))->H a=ba (.lst (as.map .ref))->a ∉ O₀/\∀b∈as,b ∉ O₀
theorem MT.step(h:MT O₀ H σ τ)(hT:∀i rows,ji σ' i=ba (.ot rows)->ji σ i=ba (.ot rows)/\τ'[i]?=τ[i]?)
 (hH:∀i rows a,ji σ i=ba (.ot rows)->τ[i]?=ba (ba (.ref a))->H' a=H a):MT O₀ H' σ' τ':=λi rows a as g e t=>by
 obtain⟨g0,e0⟩:=hT i rows g;rw[e0]at e;rw[hH i rows a g0 e]at t;exact h i rows a as g0 e t
theorem OT.same(h:OT K O H σ τ)(e:jd H H'):∀i rows a,ji σ i=ba (.ot rows)->τ[i]?=ba (ba (.ref a))->H' a=H a:=λi rows a g q=>by
 obtain⟨b,as,e1,t,_⟩:=h.1 i rows g;rw[q]at e1;cases e1;rw[t.top];exact e _ _ t.top
structure RepS (O₀:List Addr) (K:bx) (O:List Addr) (H:Hp) (σ:Sto) (τ:L2.St):Prop extends Reps K O H σ τ where
 mine:∀i ds a,ji σ i=ba (.ow ds)->τ[i]?=ba (ba (.ref a))->a ∉ O₀
 mineT:MT O₀ H σ τ
theorem RepS.mono(r:RepS O₀ K O H σ τ)(e:jd H H'):RepS O₀ K O H' σ τ:=⟨r.toReps.mono e,r.mine,r.mineT.step (λ_ _ g=>⟨g,rfl⟩) (r.tt.same e)⟩
def Jy(K:bx)(O₀:List Addr)(H₀:Hp)(ex:XD->Prop)(D:Ends)(O:List Addr)(H:Hp):DE where
 xn:=ex
 nx σ':=∀τ' H' O',Good O₀ H₀ O' H'->jd (minus H O) (minus H' O')->RepS O₀ K O' H' σ' τ'->D.nx τ' H'
 rt d:=∀v H',jd H₀ H'->Is K (minus H' O₀) d v->D.rt v H'
 bk σ':=∀τ' H' O',Good O₀ H₀ O' H'->jd (minus H O) (minus H' O')->RepS O₀ K O' H' σ' τ'->D.bk τ' H'
 ct σ':=∀τ' H' O',Good O₀ H₀ O' H'->jd (minus H O) (minus H' O')->RepS O₀ K O' H' σ' τ'->D.ct τ' H'
 rf ds:=∀a H' vs,jd H₀ H'->H₀ a=bc->H' a=ba (.lst vs)->Iss K (minus H' (a::O₀)) ds vs->D.rt (.ref a) H'
 rg rows:=∀a as H',jd H₀ H'->(H₀ a=bc/\∀b∈as,H₀ b=bc)->OwT K (a::as++O₀) H' rows a as->D.rt (.ref a) H'
theorem qE{ex:XD->Prop}{D:Ends}(e:jd (minus H O) (minus H' O')):DE.le (Jy K O₀ H₀ ex D O H) (Jy K O₀ H₀ ex D O' H') where
 nx:=λ_ q τ' H'' O'' g s r=>q τ' H'' O'' g (e.trans s) r
 rt:=λ_ q=>q
 bk:=λ_ q τ' H'' O'' g s r=>q τ' H'' O'' g (e.trans s) r
 ct:=λ_ q τ' H'' O'' g s r=>q τ' H'' O'' g (e.trans s) r
 rf:=λ_ q=>q
inductive tS (K:bx) (C:Cfg) (O₀:List Addr) (H₀:Hp) (ex:XD->Prop) (s:Sm) (D:Ends) (τ:L2.St) (H:Hp):Prop
 |mk (σ:Sto) (O:List Addr) (g:Good O₀ H₀ O H) (R:RepS O₀ K O H σ τ) (w:wpS C s (Jy K O₀ H₀ ex D O H) σ)
theorem qK(σ:Sto)(i:Nat)(v:Option Sl):(jC σ i v).length=σ.length:=zz σ i v
theorem jG(σ:Sto)(i j:Nat)(v:Option Sl):ji (jC σ i v) j=if i=j/\i<σ.length then v else ji σ j:=qX σ i j v
section
variable {K:bx} {O:List Addr} {H:Hp} {σ:Sto} {τ:L2.St}
theorem Reps.set(R:Reps K O H σ τ){d:D}{v:V}(h:Is K (minus H O) d v):Reps K O H (jC σ i (ba (.sh d))) (τ.set i (ba v)) where
 len:=by rw[qK,nR];exact R.len
 own:=R.own
 sh:=λj e g=>by
  rw[jG]at g;by_cases hj:i=j/\i<σ.length
  ·rw[if_pos hj]at g;obtain⟨rfl,hl⟩:=hj;cases g;exact⟨v,by rw[dM (by rw[<- R.len];exact hl)],h⟩
  ·rw[if_neg hj]at g;obtain⟨w,e1,e2⟩:=R.sh j e g;refine⟨w,?_,e2⟩;by_cases hij:i=j
   ·subst hij
    have:¬ i<τ.length:=by rw[<- R.len];lia
    rw[bZ (by lia)]at e1;cases e1
   ·rw[bP hij];exact e1
 ow:=λj ds g=>by
  rw[jG]at g;by_cases hj:i=j/\i<σ.length
  ·rw[if_pos hj]at g;cases g
  ·rw[if_neg hj]at g;obtain⟨a,vs,e1,e2,e3,e4⟩:=R.ow j ds g;refine⟨a,vs,?_,e2,e3,e4⟩;by_cases hij:i=j
   ·subst hij
    have:¬ i<τ.length:=by rw[<- R.len];lia
    rw[bZ (by lia)]at e1;cases e1
   ·rw[bP hij];exact e1
 dj:=λj l ds es hjl g1 g2=>by
  rw[jG]at g1 g2;by_cases hj:i=j/\i<σ.length
  ·rw[if_pos hj]at g1;cases g1
  ·rw[if_neg hj]at g1;by_cases hl:i=l/\i<σ.length
   ·rw[if_pos hl]at g2;cases g2
   ·rw[if_neg hl]at g2;have hd:=R.dj j l ds es hjl g1 g2;obtain⟨a,_,e1,_⟩:=R.ow j ds g1;obtain⟨b,_,e2,_⟩:=R.ow l es g2
    have nj:i≠j:=λz=>by
     subst z
     have:¬ i<τ.length:=by rw[<- R.len];lia
     rw[bZ (by lia)]at e1;cases e1
    have nl:i≠l:=λz=>by
     subst z
     have:¬ i<τ.length:=by rw[<- R.len];lia
     rw[bZ (by lia)]at e2;cases e2
    rw[bP nj,bP nl];exact hd
 tt:=by
  refine R.tt.step (λj rows g=>?_) (λ_ _ _ _ _ _ _ t=>t) λ_ _ _ _ j ds b _ _ g q=>?_
  ·rw[jG]at g;by_cases hj:i=j/\i<σ.length
   ·rw[if_pos hj]at g;cases g
   ·rw[if_neg hj]at g;obtain⟨a,as,e1,_⟩:=R.tt.1 j rows g
    have hij:i≠j:=λz=>by
     subst z
     have:¬ i<τ.length:=by rw[<- R.len];lia
     rw[bZ (by lia)]at e1;cases e1
    exact⟨g,bP hij⟩
  ·rw[jG]at g;by_cases hj:i=j/\i<σ.length
   ·rw[if_pos hj]at g;cases g
   ·rw[if_neg hj]at g;obtain⟨a,vs,e1,_⟩:=R.ow j ds g
    have hij:i≠j:=λz=>by
     subst z
     have:¬ i<τ.length:=by rw[<- R.len];lia
     rw[bZ (by lia)]at e1;cases e1
    rw[bP hij]at q;exact .inl ⟨ds,g,q⟩
end
theorem YD{v w:Option V}(h:(τ.set i v)[j]?=ba w):(i=j/\w=v)\/(i≠j/\τ[j]?=ba w):=by
 by_cases hij:i=j
 ·subst hij;rcases gL i τ.length with z|z
  ·rw[dM z]at h;cases h;exact .inl ⟨rfl,rfl⟩
  ·rw[bZ (by rw[nR];exact z)]at h;cases h
 ·rw[bP hij]at h;exact .inr ⟨hij,h⟩
variable{a:Addr}{o:HO}
section
variable {K:bx} {O₀ O:List Addr} {H H':Hp} {σ:Sto} {τ:L2.St}
theorem RepS.set(R:RepS O₀ K O H σ τ){d:D}{v:V}(h:Is K (minus H O) d v):RepS O₀ K O H (jC σ i (ba (.sh d))) (τ.set i (ba v)):=by
 refine⟨R.toReps.set h,λj ds a g e=>?_,R.mineT.step (λj rows g=>?_) λ_ _ _ _ _=>rfl⟩
 rotate_left
 ·rw[jG]at g;by_cases hj:i=j/\i<σ.length
  ·rw[if_pos hj]at g;cases g
  ·rw[if_neg hj]at g;obtain⟨a,as,e1,_⟩:=R.tt.1 j rows g
   have hij:i≠j:=λz=>by
    subst z
    have:¬ i<τ.length:=by rw[<- R.len];lia
    rw[bZ (by lia)]at e1;cases e1
   exact⟨g,bP hij⟩
 rw[jG]at g;by_cases hj:i=j/\i<σ.length
 ·rw[if_pos hj]at g;cases g
 ·rw[if_neg hj]at g;rcases YD e with⟨q,_⟩|⟨_,q⟩
  ·exfalso;subst q;obtain⟨_,_,e1,_⟩:=R.ow i ds g
   have:i<τ.length:=by
    rcases gL i τ.length with z|z
    ·exact z
    ·rw[bZ z]at e1;cases e1
   exact hj ⟨rfl,by rw[R.len];exact this⟩
  ·exact R.mine j ds a g q
theorem Good.fresh(g:Good O₀ H₀ O H)(s:jd H H')(h:H a=bc):Good O₀ H₀ (a::O) H':=by
 refine⟨g.same.trans s,λb hb=>bD _ (g.sub b hb),λb hb=>?_⟩;rcases bG.mp hb with rfl|hb
 ·right
  cases q:H₀ b with
  |none=>rfl
  |some o=>rw[g.same b o q]at h;cases h
 ·exact g.new b hb
theorem Zq(hi:i<τ.length)(R:RepS O₀ K O H σ τ):∀j rows,ji (jC σ i (ba (.ow xs))) j=ba (.ot rows)->ji σ j=ba (.ot rows)/\(τ.set i (ba (.ref a)))[j]?=τ[j]?:=λj rows g=>by
 rw[jG]at g;by_cases hj:i=j/\i<σ.length
 ·rw[if_pos hj]at g;cases g
 ·rw[if_neg hj]at g
  have hij:i≠j:=λz=>hj ⟨z,by rw[R.len];exact hi⟩
  exact⟨g,bP hij⟩
theorem RepS.fresh(R:RepS O₀ K O H σ τ)(sub:∀b∈O₀,b∈O)(s:jd H H')(h:H a=bc)(h1:H' a=ba (.lst vs))(is:Iss K (minus H' (a::O)) xs vs)(hi:i<τ.length) :
 RepS O₀ K (a::O) H' (jC σ i (ba (.ow xs))) (τ.set i (ba (.ref a))) where
 len:=by rw[qK,nR];exact R.len
 own:=λb hb=>by
  rcases bG.mp hb with rfl|hb
  ·rw[h1];exact λz=>nomatch z
  ·exact(R.toReps.mono s).own b hb
 sh:=λj d g=>by
  rw[jG]at g;by_cases hj:i=j/\i<σ.length
  ·rw[if_pos hj]at g;cases g
  ·rw[if_neg hj]at g;obtain⟨v,e1,e2⟩:=R.sh j d g
   have hij:i≠j:=λz=>hj ⟨z,by rw[R.len];exact hi⟩
   exact⟨v,by rw[bP hij];exact e1,Is.mono (kS s h) d e2⟩
 ow:=λj ds g=>by
  rw[jG]at g;by_cases hj:i=j/\i<σ.length
  ·rw[if_pos hj]at g;obtain⟨rfl,_⟩:=hj;cases g;exact⟨a,vs,dM hi,bJ ..,h1,is⟩
  ·rw[if_neg hj]at g;obtain⟨b,ws,e1,e2,e3,e4⟩:=R.ow j ds g
   have hij:i≠j:=λz=>hj ⟨z,by rw[R.len];exact hi⟩
   exact⟨b,ws,by rw[bP hij];exact e1,bD _ e2,s _ _ e3,Iss.mono (kS s h) ds e4⟩
 dj:=λj l ds es hjl g1 g2=>by
  have key:∀j ds,i≠j->ji σ j=ba (.ow ds)->τ[j]? ≠ ba (ba (.ref a)):=λj ds _ g e=>by
   obtain⟨b,_,e1,e2,e3,_⟩:=R.ow j ds g;rw[e1]at e;cases e;rw[h]at e3;cases e3
  rw[jG]at g1 g2;by_cases hj:i=j/\i<σ.length
  ·obtain⟨rfl,_⟩:=hj;rw[if_neg λz=>hjl z.1]at g2;rw[dM hi,bP hjl]
   exact λz=>key l es hjl g2 z.symm
  ·rw[if_neg hj]at g1
   have hij:i≠j:=λz=>hj ⟨z,by rw[R.len];exact hi⟩
   by_cases hl:i=l/\i<σ.length
   ·obtain⟨rfl,_⟩:=hl;rw[dM hi,bP hij];exact key j ds hij g1
   ·rw[if_neg hl]at g2
    have hil:i≠l:=λz=>hl ⟨z,by rw[R.len];exact hi⟩
    rw[bP hij,bP hil];exact R.dj j l ds es hjl g1 g2
 mine:=λj ds b g e=>by
  rw[jG]at g;rcases YD e with⟨rfl,q⟩|⟨hij,q⟩
  ·cases q
   exact λz=>R.own _ (sub _ z) h
  ·rw[if_neg λz=>hij z.1]at g;exact R.mine j ds b g q
 tt:=by
  refine R.tt.step (Zq hi R) (λj rows b as g e d t=>⟨s _ _ t.top,t.nd,⟨bD _ t.inO.1,λc hc=>bD _ (t.inO.2 c hc)⟩,t.rw.imp (kS s h) λc _ vs q=>s _ _ q⟩) λ_ _ b as j ds c _ t g q=>?_
  rw[jG]at g;rcases YD q with⟨rfl,q'⟩|⟨hij,q⟩
  ·cases q';refine .inr ⟨λz=>?_,λz=>?_⟩
   ·subst z;rw[t.top]at h;cases h
   ·obtain⟨_,e⟩:=t.rw.isL _ z;rw[e]at h;cases h
  ·rw[if_neg λz=>hij z.1]at g;exact .inl ⟨ds,g,q⟩
 mineT:=R.mineT.step (Zq hi R) (R.tt.same s)
theorem qg(h:a∈O):minus (upd H a o) O=minus H O:=by
 funext b;unfold minus;by_cases hb:b∈O
 ·rw[if_pos hb,if_pos hb]
 ·rw[if_neg hb,if_neg hb,je λz=>hb (by rw[z];exact h)]
theorem Good.write(g:Good O₀ H₀ O H)(h:a∈O)(hn:a ∉ O₀):Good O₀ H₀ O (upd H a o):=by
 refine⟨λb u q=>?_,g.sub,g.new⟩;have h0:H₀ a=none:=(g.new a h).resolve_left hn;rw[je λz=>by subst z;rw[h0]at q;cases q];exact g.same b u q
theorem Zo(es:List D):∀j rows,ji (jC σ i (ba (.ow es))) j=ba (.ot rows)->ji σ j=ba (.ot rows)/\τ[j]?=τ[j]?:=λj rows g=>by
 rw[jG]at g;by_cases hj:i=j/\i<σ.length
 ·rw[if_pos hj]at g;cases g
 ·rw[if_neg hj]at g;exact⟨g,rfl⟩
theorem RepS.write{vs:List V}{es:List D}(R:RepS O₀ K O H σ τ)(g:ji σ i=ba (.ow ds))(e1:τ[i]?=ba (ba (.ref a)))(e2:a∈O)(is:Iss K (minus H O) es ws) :
 RepS O₀ K O (upd H a (.lst ws)) (jC σ i (ba (.ow es))) τ where
 len:=by rw[qK];exact R.len
 own:=λb hb=>by
  by_cases z:b=a
  ·subst z;rw[jh];exact λz=>nomatch z
  ·rw[je z];exact R.own b hb
 sh:=λj d h=>by
  rw[jG]at h;by_cases hj:i=j/\i<σ.length
  ·rw[if_pos hj]at h;cases h
  ·rw[if_neg hj]at h;rw[qg e2];exact R.sh j d h
 ow:=λj fs h=>by
  rw[jG]at h;by_cases hj:i=j/\i<σ.length
  ·rw[if_pos hj]at h;obtain⟨rfl,_⟩:=hj;cases h;exact⟨a,ws,e1,e2,jh ..,by rw[qg e2];exact is⟩
  ·rw[if_neg hj]at h;obtain⟨b,us,h1,h2,h3,h4⟩:=R.ow j fs h
   have hij:i≠j:=λz=>hj ⟨z,by
    rw[R.len];rcases gL i τ.length with q|q
    ·exact q
    ·rw[bZ q]at e1;cases e1⟩
   have hb:b≠a:=λz=>by subst z;exact R.dj i j ds fs hij g h (e1.trans h1.symm)
   exact⟨b,us,h1,h2,by rw[je hb];exact h3,by rw[qg e2];exact h4⟩
 dj:=λj l fs gs hjl g1 g2=>by
  have old:∀j fs,ji (jC σ i (ba (.ow es))) j=ba (.ow fs)->∃fs',ji σ j=ba (.ow fs'):=λj fs h=>by
   rw[jG]at h;by_cases hj:i=j/\i<σ.length
   ·obtain⟨rfl,_⟩:=hj;exact⟨_,g⟩
   ·rw[if_neg hj]at h;exact⟨_,h⟩
  obtain⟨_,k1⟩:=old j fs g1;obtain⟨_,k2⟩:=old l gs g2;exact R.dj j l _ _ hjl k1 k2
 mine:=λj fs b h e=>by
  rw[jG]at h;by_cases hj:i=j/\i<σ.length
  ·obtain⟨rfl,_⟩:=hj;exact R.mine i ds b g e
  ·rw[if_neg hj]at h;exact R.mine j fs b h e
 tt:=by
  refine R.tt.step (Zo es) (λj rows b as q e d t=>?_) λ_ _ _ _ j fs c _ _ q e=>?_
  ·obtain⟨n1,n2⟩:=d i ds a g e1;exact⟨by rw[je (gC n1)];exact t.top,t.nd,t.inO,t.rw.imp (by rw[qg e2];exact jd.refl _) λc hc vs z=>by rw[je (show c≠a from λy=>n2 (by rw[<- y];exact hc))];exact z⟩
  ·rw[jG]at q;by_cases hj:i=j/\i<σ.length
   ·obtain⟨rfl,_⟩:=hj;exact .inl ⟨ds,g,e⟩
   ·rw[if_neg hj]at q;exact .inl ⟨fs,q,e⟩
 mineT:=R.mineT.step (Zo es) λj rows b q e=>by
  obtain⟨b',as,e3,t,d⟩:=R.tt.1 j rows q;rw[e]at e3;cases e3;exact je (gC (d i ds a g e1).1)
theorem RepS.share(R:RepS O₀ K O H σ τ)(g:ji σ i=ba (.ow ds))(e1:τ[i]?=ba (ba (.ref a)))(e3:H a=ba (.lst vs))(e4:Iss K (minus H O) ds vs):RepS O₀ K (less O a) H (jC σ i (ba (.sh (.lst ds)))) τ:=by
 refine⟨R.toReps.share g e1 e3 e4,λj fs b h e=>?_,R.mineT.step (λj rows q=>?_) λ_ _ _ _ _=>rfl⟩
 rotate_left
 ·rw[jG]at q;by_cases hj:i=j/\i<σ.length
  ·rw[if_pos hj]at q;cases q
  ·rw[if_neg hj]at q;exact⟨q,rfl⟩
 rw[jG]at h;by_cases hj:i=j/\i<σ.length
 ·rw[if_pos hj]at h;cases h
 ·rw[if_neg hj]at h;exact R.mine j fs b h e
theorem Good.share(g:Good O₀ H₀ O H)(hn:a ∉ O₀):Good O₀ H₀ (less O a) H :=
 ⟨g.same,λb hb=>ky.mpr ⟨g.sub b hb,λz=>hn (z ▸ hb)⟩,λb hb=>g.new b (ky.mp hb).1⟩
end
section
variable {X:Cx} {k:Ck} {C:Cfg} {O₀:List Addr} {H₀:Hp}
theorem Qw{x:Ex}(h:chkE k x e=bh)(hc:qO e=bj)(t:Option bU)(n:Nat)(env:tR):mm e t n env=pure false:=by
 have p:=uf h
 cases e<;>first|rfl|exact bK p|exact bK hc
theorem Z2(e:bU)(n:Nat)(env:tR):mm e (ba (.Tuple es j p)) n env=pure false:=by
 cases e<;>rfl
theorem ze{elt:bU}{gs:List jh1}{py:Pos}{y:bF}(n:Nat)(env:tR):∃b,mm (.ListComp elt gs sc pos) (ba (.Name y py)) n env=pure b:=⟨_,rfl⟩
structure OkS (X:Cx) (k:Ck) (C:Cfg):Prop extends Ok X k C where
 fn:∀x,X.fn x=bh
def Yk:List Nat->TGs
 |[]=>jdN
 |i::is=>Qu (qQ i) (Yk is)
theorem JZ(ok:OkS X k C):∀(is:List Nat) (ts:List bU),vN k is ts=bh->PGs X ts (Yk is)/\(mO ts X.env).length=is.length/\(mO ts X.env).findIdx? (·.1)=bc
 |[],ts,h=>by
  have e:ts=[]:=by rw[vN]at h;simpa using h
  subst e
  exact⟨Y5,rfl,rfl⟩
 |i::is,ts,h=>by
  obtain⟨x,pos,ts,rfl,h1,h2⟩:=Yz h;obtain⟨h1,h3,h4,h5⟩:=ok.vis h1;obtain⟨p,l,f⟩:=JZ ok is ts h2;refine⟨zF (yc ok.nd h1 h3 (.inl (ok.fn _))) p,?_,?_⟩
  ·show (mO ts X.env).length+1=is.length+1;rw[l]
  ·show List.findIdx? _ ((bj,assign (.Name x pos) X.env)::mO ts X.env)=bc;rw[List.findIdx?_cons,f];rfl
theorem uw{K:bx}{O₀ O:List Addr}{H:Hp}{Q:L2.St->Hp->Prop}:∀(is:List Nat) {ds:List D} {vs:List V} {σ σ':Sto} {τ:L2.St},RepS O₀ K O H σ τ->Iss K (minus H O) ds vs->km is ds σ=ba σ'->(∀τ',RepS O₀ K O H σ' τ'->Q τ' H)->Yk is vs τ H Q
 |[],ds,vs,σ,σ',τ,R,i,e,q=>by
  cases ds with
  |nil =>
   unfold Iss at i;simp only[km,mh]at e;subst e
   exact⟨i,q τ R⟩
  |cons d ds=>simp[km]at e
 |n::is,ds,vs,σ,σ',τ,R,i,e,q=>by
  cases ds with
  |nil=>simp[km]at e
  |cons d ds =>
   unfold Iss at i;obtain⟨v,r,rfl,i1,i2⟩:=i;simp only[km]at e;exact⟨v,r,rfl,uw is (R.set i1) i2 e q⟩
theorem y8:∀(is:List Nat) {ds:List D} {σ σ':Sto},km is ds σ=ba σ'->ds.length=is.length
 |[],ds,σ,σ',e=>by cases ds with|nil=>rfl|cons d ds=>simp[km]at e
 |n::is,ds,σ,σ',e=>by
  cases ds with
  |nil=>simp[km]at e
  |cons d ds=>simp only[km]at e;simp[y8 is e]
end
def jgi(h:dR)(it l:Addr)(j:Int):Prop:=∃o,h.get? it=ba o/\o.cls=.type "list_reverseiterator" /\ o.data=.fields #[.ref l,.int j 0]
theorem jgi.ty{s:Shared}{l:Addr}{j:Int}(x:jgi s.heap it l j):s.TypeIs (.ref it) "list_reverseiterator":=let ⟨o,ho,hc,_⟩:=x;⟨o,ho,hc⟩
section
variable {X:Cx} {k:Ck} {C:Cfg}
theorem jal(h:∀b,b∈O ↔ b∈O'):minus H O=minus H O':=by
 funext b;unfold minus;by_cases z:b∈O
 ·rw[if_pos z,if_pos ((h b).mp z)]
 ·rw[if_neg z,if_neg λy=>z ((h b).mpr y)]
theorem Rws.own(h:∀b,b∈O ↔ b∈O')(r:Rws K O H rows as):Rws K O' H rows as:=r.imp (by rw[jal h];exact jd.refl _) λ_ _ _ z=>z
variable {K:bx} {O₀ O O':List Addr} {H H' H₀:Hp} {σ:Sto} {τ:L2.St}
theorem Reps.ofGet(R:Reps K O H σ τ)(hl:σ'.length=σ.length)(h:∀j z,ji σ' j=ba z->ji σ j=ba z):Reps K O H σ' τ where
 len:=by rw[hl];exact R.len
 own:=R.own
 sh:=λj d g=>R.sh j d (h j _ g)
 ow:=λj ds g=>R.ow j ds (h j _ g)
 dj:=λj l ds es n g1 g2=>R.dj j l ds es n (h j _ g1) (h l _ g2)
 tt:=R.tt.step (λj rows g=>⟨h j _ g,rfl⟩) (λ_ _ _ _ _ _ _ t=>t) λ_ _ _ _ j ds b _ _ g q=>.inl ⟨ds,h j _ g,q⟩
def jev(σ:Sto)(i j:Nat)(rows:List (List D)):Sto:=jC (jC σ i (ba (.ot rows))) j bc
structure RowAt (K:bx) (O₀:List Addr) (H₀:Hp) (σ:Sto) (i j l:Nat) (a:Addr) (as:List Addr) (rows:List (List D)) (O:List Addr) (H:Hp) (τ:L2.St):Prop where
 g:Good O₀ H₀ O H
 R:RepS O₀ K O H (jev σ i j rows) τ
 ia:τ[i]?=ba (ba (.ref a))
 top:H a=ba (.lst (as.map V.ref))
 row:∃b,as[l]?=ba b/\τ[j]?=ba (ba (.ref b))
theorem RowAt.rest{l:Nat}(A:RowAt K O₀ H₀ σ i j l a as rows O H τ)(hij:i≠j):Reps K O H (jC (jC σ i bc) j bc) τ:=by
 refine A.R.toReps.ofGet (by unfold jev;simp only[qK]) λm z g=>?_
 unfold jev;rw[jG]at g ⊢;simp only[qK]at g ⊢;split at g
 ·cases g
 ·next h1 =>
  rw[if_neg h1];rw[jG]at g ⊢;split at g
  ·cases g
  ·next h2=>rw[if_neg h2];exact g
end
end Z
namespace Z
open PySem PySem.Spec PySem.Calls PyProof.Rows PySem.W L2
section
variable {X:Cx} {D:Addr} {y:bF}
def fl(y:bF)(cs:List bF):List Bool:=cs.map λc=>decide (c=y)
end
end Z
namespace Z
open PySem PySem.Spec PyProof.Rows L2
variable{J:It}{i:Nat}{body:Sm}{τ:L2.St}{H1 H:Hp}{σ:Sto}{O1:List Addr}{f:List D->Prop}
section
variable {X:Cx} {k:Ck} {C:Cfg} {O₀:List Addr} {H₀:Hp} {ex:XD->Prop}
theorem Qm:∀ {σ:Sto} {i:Nat} (v:Option Sl),σ.length<=i->jC σ i v=σ
 |[],i,v,_=>rfl
 |x::r,0,v,h=>by simp at h
 |x::r,i+1,v,h=>by simp only[jC];rw[Qm v (by simpa using h)]
theorem for_turnsG{xs:List D}{S:Hp}{D:Ends}(g1:Good O₀ H₀ O1 H1)(R1:RepS O₀ X.K O1 H1 σ τ)
 (hgo:∀j H O,jd (minus H1 O1) (minus H O)->j<xs.length->J.go j H) (hst:∀j H O,jd (minus H1 O1) (minus H O)->xs.length<=j->J.stop j H)
 (hy:∀j H O v H' d,(∀a∈O,H a≠bc)->jd (minus H1 O1) (minus H O)->J.yld j H v H'->xs[j]?=ba d->jd H H'/\Is X.K (minus H' O) d v)
 (w:forL (λK σ=>wpS C body K σ) i (Jy X.K O₀ H₀ ex D O1 H1) xs σ) :
 ∃W:Nat->Nat->L2.St->Hp->Prop,(∃m,W 0 m τ H1)/\∀j m τ H,W j m τ H->(J.stop j H/\D.nx τ H)\/(J.go j H/\∃N:L2.St->Hp->Prop,(∀τ' H',N τ' H'->∃m',m'<m/\W (j+1) m' τ' H') /\
  ∀x H',J.yld j H x H'->qQ i x τ H' λτ2 H2=>tS X.K C O₀ H₀ ex body { D with nx:=N,ct:=N,bk:=D.nx } τ2 H2):=by
 refine⟨λj m τ H=>m=xs.length-j/\j<=xs.length/\∃σ O,Good O₀ H₀ O H/\jd (minus H1 O1) (minus H O)/\RepS O₀ X.K O H σ τ/\forL (λK σ=>wpS C body K σ) i (Jy X.K O₀ H₀ ex D O1 H1) (xs.drop j) σ,
  ⟨_,rfl,gf _,σ,O1,g1,jd.refl _,R1,by simpa using w⟩,?_⟩
 rintro j m τ H ⟨rfl,hj,σ,O,g,sm,R,w⟩;by_cases hlt:j<xs.length
 ·refine .inr ⟨hgo j H O sm hlt,λτ' H'=>j+1<=xs.length/\∃σ O,Good O₀ H₀ O H'/\jd (minus H1 O1) (minus H' O)/\RepS O₀ X.K O H' σ τ'/\forL (λK σ=>wpS C body K σ) i (Jy X.K O₀ H₀ ex D O1 H1) (xs.drop (j+1)) σ,
   λτ' H' ⟨h1,h2⟩=>⟨xs.length-(j+1),by lia,rfl,h1,h2⟩,λx H' y=>?_⟩
  obtain⟨e,is⟩:=hy j H O x H' xs[j] R.own sm y (bO hlt);rw[d8 hlt]at w;rw[forL]at w;refine⟨_,O,g.mono e,(R.mono e).set is,js body ?_ w⟩;exact⟨λσ' q τ' H' O' g' s' r'=>⟨hlt,σ',O',g',(sm.trans (jb e)).trans s',r',q⟩,λ_ q=>q,λσ' q τ' H' O' g' s' r'=>q τ' H' O' g' ((sm.trans (jb e)).trans s') r',λσ' q τ' H' O' g' s' r'=>⟨hlt,σ',O',g',(sm.trans (jb e)).trans s',r',q⟩,λ_ q=>q,λ_ q=>q,λ_ q=>q⟩
 ·have e:j=xs.length:=by lia
  subst e;refine .inl ⟨hst _ H O sm (bN _),?_⟩;rw[jg3]at w;exact w τ H O g sm R
theorem Kh{xs:List D}{S:Hp}{D:Ends}(g1:Good O₀ H₀ O1 H1)(R1:RepS O₀ X.K O1 H1 σ τ)
 (hgo:∀j H O,jd (minus H1 O1) (minus H O)->j<xs.length->J.go j H) (hst:∀j H O,jd (minus H1 O1) (minus H O)->xs.length<=j->J.stop j H)
 (hy:∀j H O v H' d,jd (minus H1 O1) (minus H O)->J.yld j H v H'->xs[j]?=ba d->H'=H/\Is X.K (minus H O) d v)
 (w:forL (λK σ=>wpS C body K σ) i (Jy X.K O₀ H₀ ex D O1 H1) xs σ) :
 ∃W:Nat->Nat->L2.St->Hp->Prop,(∃m,W 0 m τ H1)/\∀j m τ H,W j m τ H->(J.stop j H/\D.nx τ H)\/(J.go j H/\∃N:L2.St->Hp->Prop,(∀τ' H',N τ' H'->∃m',m'<m/\W (j+1) m' τ' H') /\
  ∀x H',J.yld j H x H'->qQ i x τ H' λτ2 H2=>tS X.K C O₀ H₀ ex body { D with nx:=N,ct:=N,bk:=D.nx } τ2 H2) :=
 for_turnsG (S:=S) g1 R1 hgo hst (λj H O v H' d _ s y e=>by obtain⟨q,i⟩:=hy j H O v H' d s y e;subst q;exact⟨jd.refl _,i⟩) w
theorem Um(l:Addr)(items:Array bq)(n:Nat)(b:Addr)(items2:Array bq)(n2:Nat)(sl:Array (Option bq))(hc0:¬(!items.isEmpty&&mr (items.size+items2.size))=bh)(hc1:items.size<=sizeLine)(hs2:items.size+items2.size<=sizeLine+1) :
 Meets (pA.«list.extend» ⟨[.ref l,.ref b],[]⟩) (λ_ R s=>s.heap.get? l=ba { cls:=.type "list",dict:=bc,data:=.seq items n,slots:=#[] }/\s.heap.get? b=ba { cls:=.type "list",dict:=bc,data:=.seq items2 n2,slots:=sl }/\R (.ok (.ret gG)) { s with heap:=s.heap.update l (gH λx=>x++items2),toks:=s.toks }) :=
 .of_wp λprog w A R s h=>by
  obtain⟨hp,g,d,tk,os⟩:=s;obtain⟨hl,hb,h⟩:=h;have f1:=AutoSeq1.idx_int;have f2:=AutoSeq1.sub_tuple_tuple;have f3:=AutoSeq1.sub_list_list;have f4:=AutoSeq1.sub_tuple_list;have f5:=AutoSeq1.sub_list_tuple
  have hz':(items++items2).size<=sizeLine+1:=by rw[Array.size_append];exact hs2
  wp_walk using(m8 hl rfl (hz:=hc1) (_hz':=hz')),wN hl,wN hb;exact⟨_,rfl,h⟩
def jfp(K:bx):V->List V->Hp->VK->Prop:=λx vs H Q=>∃l b xs zs,x=.ref l/\vs=[.ref b]/\H l=ba (.lst xs)/\SqL K H b zs/\xs.length+zs.length<=sizeLine/\Q .non (upd H l (.lst (xs++zs)))
theorem jcy{X:Cx}:MtM X "list.extend" (jfp X.K):=by
 intro pins s σ H x vs v us Q I rx rv h;obtain⟨l,b,xs,zs,rfl,rfl,hH,hB,hz,q⟩:=h;cases rx;obtain⟨u,rfl,ru⟩:=rv.one;cases ru;obtain⟨z,its,n,r,hl,e⟩:=I.lstM hH;obtain⟨its2,r2,⟨⟨cl,dd,dt,sl⟩,n2,e2,hc,hd,hs⟩,z2⟩:=I.list hB;simp only at hc hd hs;subst hc hd hs;have hl2:=r2.length
 have hsz:its.toArray.size+its2.toArray.size<=sizeLine:=by rw[bQ,bQ];lia
 have hlong:¬ (!its.toArray.isEmpty&&mr (its.toArray.size+its2.toArray.size))=true:=by
  rw[notLongL hsz,Bool.and_false];exact df
 refine n8 wO ⟨_,e,rfl⟩ PySem.F.entry_list_extend (PySem.F.args_list_extend_2 _ _)
  (Um l its.toArray n b its2.toArray n2 sl hlong (by rw[bQ];lia) (by lia)) ⟨e,e2,?_⟩
 refine⟨.non,_,I.lset (its':=its++its2) hH e (by simp) (r.append r2) ?_,rfl,q⟩;rw[dS];lia
theorem jeE{o:Option Sl}(w:KU f o):∃ds,o=ba (.ow ds)/\f ds:=by
 match o,w with
 |some (.ow ds),w=>exact⟨ds,rfl,w⟩
theorem jeF{d:D}(w:isL f d):∃xs,d=.lst xs/\f xs:=by
 cases d<;>first|exact w.elim|exact⟨_,rfl,w⟩
theorem YB{c:Ex}{j m0:Nat}{a:Addr}{vs:List V}{Dd:Ends}{O:List Addr}{ds:List D}(hij:i≠j)(g:Good O₀ H₀ O H)(R:RepS O₀ X.K O H σ τ)(gs:ji σ j=ba (.ow ds))(ea:τ[j]?=ba (ba (.ref a)))(h1:H a=ba (.lst vs))(is:Iss X.K (minus H O) ds vs)
 (w:z8 (λσ Q=>wpE C c σ Q) i m0 (Jy X.K O₀ H₀ ex Dd O H) ds σ) :
 ∃W:Nat->Nat->L2.St->Hp->Prop,(∃m,W 0 m τ H)/\∀l m τ H,W l m τ H->((Itl X.K a).stop l H/\Dd.nx τ H)\/((Itl X.K a).go l H/\∃N:L2.St->Hp->Prop,(∀τ' H',N τ' H'->∃m',m'<m/\W (l+1) m' τ' H') /\
  ∀x H',(Itl X.K a).yld l H x H'->qQ i x τ H' λτ2 H2=>Xb (tD X.K C c) (qQ m0) { Dd with nx:=N,ct:=N,bk:=Dd.nx } τ2 H2):=by
 have hl:=is.length
 refine⟨λl m τ' H'=>m=ds.length-l/\l<=ds.length/\jd H H'/\∃σ',RepS O₀ X.K O H' σ' τ'/\z8 (λσ Q=>wpE C c σ Q) i m0 (Jy X.K O₀ H₀ ex Dd O H) (ds.drop l) σ',
  ⟨_,rfl,gf _,jd.refl _,σ,R,by simpa using w⟩,?_⟩
 rintro l m τ' H' ⟨rfl,hlt,sm,σ',R',w⟩
 have sq:∀ {H2:Hp},jd H H2->SqL X.K H2 a vs:=λs2=>SqL.of (s2 _ _ h1)
 by_cases hl2:l<ds.length
 ·refine .inr ⟨⟨vs,vs[l],sq sm,bO (by lia)⟩,λτ2 H2=>l+1<=ds.length/\jd H H2/\∃σ',RepS O₀ X.K O H2 σ' τ2/\z8 (λσ Q=>wpE C c σ Q) i m0 (Jy X.K O₀ H₀ ex Dd O H) (ds.drop (l+1)) σ',
   λτ2 H2 q=>⟨ds.length-(l+1),by lia,rfl,q.1,q.2.1,q.2.2⟩,λx H2 y=>?_⟩
  obtain⟨e2,y⟩:=y;subst e2;obtain⟨z,e3,e4⟩:=is.get (bO hl2);have:=y vs (sq sm);rw[e3]at this;cases this;rw[d8 hl2]at w;have R2:=R'.set (i:=i) (Is.mono (jb sm) _ e4);exact⟨_,O,R2.toReps,ja c (λd wb v H3 s3 i3=>⟨hl2,sm.trans s3,_,(R2.mono s3).set i3,wb⟩) w⟩
 ·have e:l=ds.length:=by lia
  subst e;refine .inl ⟨⟨vs,sq sm,by lia⟩,?_⟩;rw[jg3]at w;exact w τ' H' O (g.mono sm) (jb sm) R'
theorem Va{K:bx}{C:Cfg}{O₀:List Addr}{H₀:Hp}{ex:XD->Prop}{a b:Sm}{D:Ends}(hs:z9 a=bh)(w:tS K C O₀ H₀ ex (.seq a b) D τ H):tS K C O₀ H₀ ex b D τ H:=by
 obtain⟨i,e⟩:=jdy hs;obtain⟨σ,O,g,R,w⟩:=w;subst e;rw[jen,Xy]at w
 cases gs:ji σ i with
 |none=>rw[gs]at w;exact w.elim
 |some u =>
  rw[gs]at w
  cases u with
  |sh d=>exact w.elim
  |ot _=>exact w.elim
  |ow ds =>
   obtain⟨a,vs,e1,e2,e3,e4⟩:=R.ow i ds gs;exact⟨_,_,g.share (R.mine i ds a gs e1),R.share gs e1 e3 e4,js b (qE (jM λx hx=>(ky.mp hx).1)) w⟩
mutual
theorem sS(ok:OkS X k C):∀(s:Sm) (st:d9),xj k s st=bh->PS X st (tS X.K C O₀ H₀ ex s)
 |.nop,st,h=>zff h
 |.seq a b,st,h=>zff h
 |.set i e,st,h=>by
  exists Z.anAsg,h,ts,v,pos
  exists Z.anSole,h,t
  exists Z.anName,h,x,p
  ·rw[bz]at h;obtain⟨h1,h2,h3,h4⟩:=ok.vis h.1
   have plain:mm v (ba (.Name x p)) pos.line X.env=pure bj->PS X (.Assign [.Name x p] v pos) (tS X.K C O₀ H₀ ex (.set i e)):=λhsw=>by
    refine PS.imp (λD τ H w=>?_) (x9 ok.nd h1 h2 (sB ok.toOk e v h.2).1 hsw (.inl (ok.fn _)));obtain⟨σ,O,g,R,w⟩:=w;exact⟨σ,O,R.toReps,ja e (λd wd v H1 s1 i1=>wd _ H1 O (g.mono s1) (jb s1) ((R.mono s1).set i1)) w⟩
   cases hq:qO v with
   |false=>exact plain (Qw h.2 hq _ _ _)
   |true =>
    obtain⟨y,py,iter,elt,ifs,sc,ps,wi,tt,te,rfl,hck,hpi,hfo,hel,hco⟩:=vF ok.toOk e v h.2 hq;obtain⟨b,hb⟩:=ze (elt:=elt) (gs:=[⟨.Name y py,iter,ifs,0⟩]) (sc:=sc) (pos:=ps) (py:=p) (y:=x) pos.line X.env
    cases b with
    |false=>exact plain hb
    |true =>
     intro pins s τ H D I w;obtain⟨cl,co⟩:=ok.toOk.comp hck I.ok;refine YR ok.calm ok.nd (ok.toOk.comp_nE hck) co hpi (hel cl co).1 (hel cl co).2 hfo hb h1 h2 (.inl (ok.fn _)) pins s τ H D I (hco τ H _ ?_);obtain⟨σ,O,g,R,w⟩:=w
     exact⟨σ,O,R.toReps,ja e (λd wd v H1 s1 i1=>wd _ H1 O (g.mono s1) (jb s1) ((R.mono s1).set i1)) w⟩
 |.unp is e,st,h=>by
  exists Z.anAsg,h,ts,v,pos
  exists Z.anSole,h,t
  exists Z.anTup,h,es,j,p
  ·simp only[bz]at h;obtain⟨⟨h1,h2⟩,h3⟩:=h;obtain⟨pg,hl,hf⟩:=JZ ok is es h1
   have hsw:swappedStores [.Tuple es j p] v X.env=pure none:=by
    cases v<;>first|rfl|exact bK h2
   refine PS.imp (λD τ H w=>?_) (jai (sB ok.toOk e v h3).1 (jf1 ok.calm pg hl hf) (by unfold swapsWithSole;exact Z2 _ _ _) hsw rfl);obtain⟨σ,O,g,R,w⟩:=w;refine⟨σ,O,R.toReps,ja e (λd wd v H1 s1 i1=>?_) w⟩
   cases d with
   |tup ds =>
    obtain⟨σ',e1,q⟩:=wd;obtain⟨a,vs,rfl,h4,h5⟩:=kU i1
    exact .inl ⟨a,vs,rfl,(j9 (jc _ _) h4),by rw[h5.length,y8 is e1],uw is (R.mono s1) h5 e1 λτ' R'=>q τ' H1 O (g.mono s1) (jb s1) R'⟩
   |lst ds =>
    obtain⟨σ',e1,q⟩:=wd;obtain⟨a,vs,rfl,h4,h5⟩:=jA i1
    exact .inr ⟨a,vs,rfl,(jc _ _).seq h4,by rw[h5.length,y8 is e1],uw is (R.mono s1) h5 e1 λτ' R'=>q τ' H1 O (g.mono s1) (jb s1) R'⟩
   |_=>exact wd.elim
 |.ret e,st,h=>by
  replace h:=jf h;obtain⟨ov,ho,h⟩:=h;replace h:=jf h;obtain⟨v,hv,h⟩:=h;subst hv;obtain⟨pos,rfl⟩:=yj ho
  ·refine PS.imp (λD τ H w=>?_) (qx (sB ok.toOk e v h).1);obtain⟨σ,O,g,R,w⟩:=w
   exact⟨σ,O,R.toReps,ja e (λd wd v H1 s1 i1=>wd v H1 (g.same.trans s1) (Is.mono (jM g.sub) d i1)) w⟩
 |.ite c a b,st,h=>by
  exists Z.anIfS,h,t,x,y,pos
  replace h:=Z.tb_ 3 h;refine PS.imp (λD τ H w=>?_) (uI (sB ok.toOk c t h.1.1).2 (sK ok a x h.1.2) (sK ok b y h.2));obtain⟨σ,O,g,R,w⟩:=w;refine⟨σ,O,R.toReps,ja c (λd=>jT λt wt H1 s1=>?_) w⟩
  cases t with
  |true=>exact⟨σ,O,g.mono s1,R.mono s1,js a (qE (jb s1)) wt⟩
  |false=>exact⟨σ,O,g.mono s1,R.mono s1,js b (qE (jb s1)) wt⟩
 |.whl c b,st,h=>by
  exists Z.anWhl,h,t,x,oe,pos
  exists Z.an3,2,h,he,h1,h2
  subst he
  ·have h:chkE k c t=bh/\yi k b x=true:=⟨h1,h2⟩
   refine PS.imp (λD τ H w=>?_) (jbh (by rw[ok.xe];exact nS) (sB ok.toOk c t h.1).2 (sK ok b x h.2));obtain⟨σ,O,g,R,w⟩:=w;obtain⟨W,⟨m,w0⟩,zT⟩:=w;refine⟨λm τ' H'=>∃σ' O',Good O₀ H₀ O' H'/\jd (minus H O) (minus H' O')/\RepS O₀ X.K O' H' σ' τ'/\W m σ',⟨m,σ,O,g,jd.refl _,R,w0⟩,?_⟩;rintro m τ1 H1 ⟨σ1,O1,g1,s1,R1,w1⟩;refine⟨σ1,O1,R1.toReps,ja c (λd=>jT λt wt H2 s2=>?_) (zT m σ1 w1)⟩;have s12:jd (minus H O) (minus H2 O1):=s1.trans (jb s2)
   cases t with
   |true =>
    refine⟨λτ' H'=>∃m',m'<m/\∃σ' O',Good O₀ H₀ O' H'/\jd (minus H O) (minus H' O')/\RepS O₀ X.K O' H' σ' τ'/\W m' σ',λτ' H' q=>q,σ1,O1,g1.mono s2,R1.mono s2,js b ?_ wt⟩
    exact⟨λσ' ⟨m',l,q⟩ τ' H' O' g' s' r'=>⟨m',l,σ',O',g',s12.trans s',r',q⟩,λ_ q=>q,λσ' q τ' H' O' g' s' r'=>q τ' H' O' g' (s12.trans s') r',λσ' ⟨m',l,q⟩ τ' H' O' g' s' r'=>⟨m',l,σ',O',g',s12.trans s',r',q⟩,λ_ q=>q,λ_ q=>q,λ_ q=>q⟩
   |false=>exact wt τ1 H2 O1 (g1.mono s2) s12 (R1.mono s2)
 |.forR i es b,st,h=>by
  exists Z.anFor,h,tg,it,body,oe,pos
  replace h:=jf h;obtain⟨x,hxn,h⟩:=h;obtain⟨p,e1⟩:=jK hxn;clear hxn
  try simp only at e1
  subst e1
  exists Z.anCallN,h,f,args,p2,q
  exists Z.an7,2,h,he,hx,hf,hg,hne,ha,hb
  subst he hf
  ·skip
   obtain⟨h1,h2,h3,h4⟩:=ok.vis hx;obtain⟨g1,_,_⟩:=ok.gl hg
   cases args with
   |nil=>simp at hne
   |cons y ys =>
    have hs:bY (y::ys) X.env=(bj,eval y X.env)::bY ys X.env/\(backTo p2 (bY ys X.env)).any (·.1)=false:=by
     cases es with
     |nil=>have:=kr ha;cases this
     |cons z zs =>
      obtain⟨y',ys',e',h5,h6⟩:=kh ha;cases e';exact⟨jr h5 _ _,qr h6 _ _⟩
    refine PS.imp (λD τ H w=>?_) (Jc (by rw[ok.xe];exact nS) ok.calm (Vw g1 (ok.blt _ (by decide)) (sA ok.toOk es _ ha) hs.1 hs.2) (yc ok.nd h1 h2 (.inl (ok.fn _))) (sK ok b body hb) (λ_=>rfl));obtain⟨σ,O,g,R,w⟩:=w;refine⟨σ,O,R.toReps,jD es (λds wd vs H1 s1 i1=>?_) w⟩;obtain⟨lo,hi,st,e,c,wd⟩:=Yy i1 wd;refine⟨lo,hi,st,e,c,?_⟩;refine Kh (S:=H1) (g.mono s1) (R.mono s1) (xs:=ko lo st (if lo<hi then (hi-lo-1) / st+1 else 0).toNat) ?_ ?_ ?_ (k7 (body:=λK σ=>wpS C b K σ) (λK K' σ h w=>js b h w) (qE (jb s1)) _ wd)
    ·intro j H O _ hj;rw[jN]at hj;exact hj
    ·intro j H O _ hj;rw[jN]at hj;exact hj
    ·intro j H O v H' d _ y hd;obtain⟨e1,e2⟩:=y
     have hj:j<(if lo<hi then (hi-lo-1) / st+1 else 0).toNat:=by
      rcases gL j (if lo<hi then (hi-lo-1) / st+1 else 0).toNat with z|z
      ·exact z
      ·rw[bZ (by rw[jN];exact z)]at hd;cases hd
     rw[xW _ _ _ _ hj]at hd;cases hd
     exact⟨e1,by rw[e2];exact ju _⟩
 |.forE i e b,st,h=>by
  exists Z.anFor,h,tg,it,body,oe,pos
  replace h:=jf h;obtain⟨x,hxn,h⟩:=h;obtain⟨p,e1⟩:=jK hxn;clear hxn
  try simp only at e1
  subst e1;simp only[bz,gS,td]at h;obtain⟨⟨⟨⟨he0,hx⟩,hn⟩,he⟩,hb⟩:=h;subst he0
  ·skip
   obtain⟨h1,h2,h3,h4⟩:=ok.vis hx;have pe:=(sB ok.toOk e it he).1;refine PS.imp (λD τ H w=>?_) (Jc (by rw[ok.xe];exact nS) ok.calm (yn pe) (yc ok.nd h1 h2 (.inl (ok.fn _))) (sK ok b body hb) (kH hn _));obtain⟨σ,O,g,R,w⟩:=w;refine⟨σ,O,R.toReps,ja e (λd wd v H1 s1 i1=>?_) w⟩;obtain⟨xs,e1,wd⟩:=wd;have wd':=k7 (body:=λK σ=>wpS C b K σ) (λK K' σ h w=>js b h w) (qE (K:=X.K) (O₀:=O₀) (H₀:=H₀) (ex:=ex) (D:=D) (jb (O:=O) s1)) _ wd;obtain⟨J,hw,g1,g2,g3⟩:=walk_of e1 i1
   exact⟨J,hw,Kh (S:=H1) (g.mono s1) (R.mono s1) g1 g2 g3 wd'⟩
 |.brk,st,h=>by
  obtain⟨pos,rfl⟩:=jeA h;refine PS.imp (λD τ H w=>?_) U3;obtain⟨σ,O,g,R,w⟩:=w
  exact w τ H O g (jd.refl _) R
 |.cnt,st,h=>by
  obtain⟨pos,rfl⟩:=je3 h;refine PS.imp (λD τ H w=>?_) Q9;obtain⟨σ,O,g,R,w⟩:=w
  exact w τ H O g (jd.refl _) R
 |.never,st,h=>by
  refine PS.imp (λD τ H w=>?_) jbl;obtain⟨σ,O,g,R,w⟩:=w
  exact w
 |.new i,st,h=>by
  exists Z.anAsg,h,ts,v,pos
  exists Z.anSole,h,t
  exists Z.anName,h,x,p
  rw[bz]at h;obtain⟨h1,h2,h3,h4⟩:=ok.vis h.1;obtain⟨es,he,h5⟩:=jf h.2
  have hes:es=[]:=by simpa using h5
  subst hes;obtain⟨lp,e2⟩:=X3 he
  try simp only at e2
  subst e2;refine PS.imp (λD τ H w=>?_) (x9 ok.nd h1 h2 (xb jB) rfl (.inl (ok.fn _)));obtain⟨σ,O,g,R,w⟩:=w;rw[jef]at w;refine⟨by decide,λl hl=>?_⟩;have hi:i<τ.length\/τ.length<=i:=gL ..;have s1:jd H (upd H l (.lst [])):=jt hl _;rcases hi with hi|hi
  ·exact w _ _ (l::O) (g.fresh s1 hl) (kS s1 hl) (R.fresh g.sub s1 hl (jh ..) (by unfold Iss;rfl) hi)
  ·have e1:jC σ i (ba (.ow []))=σ:=Qm _ (by rw[R.len];exact hi);have e2:τ.set i (ba (.ref l))=τ:=List.set_eq_of_length_le hi;rw[e1]at w;show D.nx (τ.set i (ba (.ref l))) _;rw[e2]
   exact w _ _ O (g.mono s1) (jb s1) (R.mono s1)
 |.app i e,st,h=>by
  exists Z.anExp,h,z,pos
  exists Z.anCall,h,fe,xs,ks,cp
  exists Z.an4,2,h,hk,hl1,hat,he
  exists Z.anAttr,hat,ob,at',ap
  exists Z.an3,0,hat,ha1,ha2,ha3
  subst ha1 hk;refine Z.anName ha2 ?_;clear ha2;rintro x q rfl hloc;obtain⟨y,rfl⟩:=jz hl1;have he:chkE k e y=true:=he;obtain⟨h1,h2,h3,h4⟩:=ok.vis hloc;refine PS.imp (λD τ H w=>?_) (xB (zR ma pM PySem.F.type_list_append ud (jY h1 (jX h2) h3 h4) (jj (sB ok.toOk e y he).1 jB (jr he _ _)) rfl (by rw[jr he];rfl) ha3 (jr he _ _) rfl));obtain⟨σ,O,g,R,w⟩:=w;rw[Xt]at w
  cases gs:ji σ i with
  |none=>rw[gs]at w;exact w.elim
  |some u =>
   rw[gs]at w
   cases u with
   |sh d=>exact w.elim
   |ot _=>exact w.elim
   |ow ds =>
    obtain⟨a,vs,e1,e2,e3,e4⟩:=R.ow i ds gs;refine⟨.ref a,e1,.inl ⟨rfl,vs,SqL.of e3⟩,σ,O,R.toReps,ja e (λd wd v H1 s1 i1=>?_) w.2⟩;have hl:=e4.length;have hlim:=w.1;refine⟨a,vs,v,rfl,rfl,s1 _ _ e3,by rw[dI];unfold lim at hlim;lia,?_⟩;have i2:Iss X.K (minus H1 O) (ds ++ [d]) (vs ++ [v]):=(Iss.mono (jb s1) ds e4).append (by unfold Iss;exact⟨v,[],rfl,i1,by unfold Iss;rfl⟩);refine wd τ _ O ((g.mono s1).write e2 (R.mine i ds a gs e1)) ?_ ((R.mono s1).write (vs:=vs) gs e1 e2 i2);rw[qg e2]
    exact jb s1
 |.shr _,_,h=>zff h
 |.raise _,_,h=>zff h
 |.retX _ _ _,_,h=>zff h
 |.raiseA _ _,_,h=>zff h
 |.setX _ _ _ _,_,h=>zff h
 |.ext i e,st,h=>by
  exists Z.anExp,h,z,pos
  exists Z.anCall,h,fe,xs,ks,cp
  exists Z.an4,2,h,hk,hl1,hat,he
  exists Z.anAttr,hat,ob,at',ap
  exists Z.an3,0,hat,ha1,ha2,ha3
  subst ha1 hk;refine Z.anName ha2 ?_;clear ha2;rintro x q rfl hloc;obtain⟨y,rfl⟩:=jz hl1;have he:chkE k e y=true:=he;obtain⟨h1,h2,h3,h4⟩:=ok.vis hloc;refine PS.imp (λD τ H w=>?_) (xB (zR ma wO PySem.F.type_list_extend jcy (jY h1 (jX h2) h3 h4) (jj (sB ok.toOk e y he).1 jB (jr he _ _)) rfl (by rw[jr he];rfl) ha3 (jr he _ _) rfl));obtain⟨σ,O,g,R,w⟩:=w;rw[jbj]at w
  cases gs:ji σ i with
  |none=>rw[gs]at w;exact w.elim
  |some u =>
   rw[gs]at w
   cases u with
   |sh d=>exact w.elim
   |ot _=>exact w.elim
   |ow ds =>
    obtain⟨a,vs,e1,e2,e3,e4⟩:=R.ow i ds gs;refine⟨.ref a,e1,.inl ⟨rfl,vs,SqL.of e3⟩,σ,O,R.toReps,ja e (λd wd v H1 s1 i1=>?_) w⟩
    cases d with
    |lst zs =>
     obtain⟨hlim,wd⟩:=wd;obtain⟨b,ws,rfl,h5,h6⟩:=jA i1;have hl:=e4.length;have hl2:=h6.length;refine⟨a,b,vs,ws,rfl,rfl,s1 _ _ e3,(jc _ _).seq h5,by rw[dI];unfold lim at hlim;lia,?_⟩;have i2:Iss X.K (minus H1 O) (ds++zs) (vs++ws):=(Iss.mono (jb s1) ds e4).append h6;refine wd τ _ O ((g.mono s1).write e2 (R.mine i ds a gs e1)) ?_ ((R.mono s1).write (vs:=vs) gs e1 e2 i2);rw[qg e2]
     exact jb s1
    |_=>exact wd.elim
 |.forN i e b,st,h=>by
  exists Z.anFor,h,tg,it,body,oe,pos
  replace h:=jf h;obtain⟨x,hxn,h⟩:=h;obtain⟨p,e1⟩:=jK hxn;clear hxn
  try simp only at e1
  subst e1
  exists Z.anCallN,h,f,args,p2,q
  exists Z.an7,2,h,he,hx,hf,hg,hne,ha,hb
  subst he hf;obtain⟨y,rfl⟩:=jz hne;have ha:chkE k e y=true:=ha;obtain⟨h1,h2,h3,h4⟩:=ok.vis hx;obtain⟨g1,_,_⟩:=ok.gl hg;refine PS.imp (λD τ H w=>?_) (Jc (by rw[ok.xe];exact nS) ok.calm (K8 g1 (ok.blt _ (by decide)) (sA ok.toOk [e] [y] (by simp[qk,ha])) (jr ha _ _) rfl) (yc ok.nd h1 h2 (.inl (ok.fn _))) (sK ok b body hb) (λ_=>rfl));obtain⟨σ,O,g,R,w⟩:=w;refine⟨σ,O,R.toReps,?_⟩;simp only[j4];refine ja e (λd wd us H1 s1 i1=>?_) w;obtain⟨ys,rfl,wd⟩:=jeF wd;obtain⟨v,rfl,j1⟩:=yV i1;have wd':=k7 (body:=λK σ=>wpS C b K σ) (λK K' σ h w=>js b h w) (qE (K:=X.K) (O₀:=O₀) (H₀:=H₀) (ex:=ex) (D:=D) (jb (O:=O) s1)) _ wd;obtain⟨a,vs,rfl,h5,h6⟩:=jA j1;have hl:=h6.length
  have ln:(yR ys).length=ys.length:=by unfold yR;simp
  have sq:∀ {H:Hp} {O':List Addr},jd (minus H1 O) (minus H O')->SqL X.K H a vs:=λsm=>(jc _ _).seq (sm.seq h5)
  refine⟨a,rfl,⟨vs,(jc _ _).seq h5⟩,for_turnsG (S:=H1) (g.mono s1) (R.mono s1) ?_ ?_ ?_ wd'⟩
  ·intro j H O' sm hj;rw[ln]at hj;exact⟨vs,vs[j]'(by lia),sq sm,bO _⟩
  ·intro j H O' sm hj;rw[ln]at hj;exact⟨vs,sq sm,by lia⟩
  ·intro j H O' v H' d ho sm y hd;obtain⟨T,x,rfl,hT,hx',rfl⟩:=y;have hz:(yR ys)[j]?=ba d:=hd;unfold yR at hz;rw[dQ,jhG]at hz
   cases hzz:ys[j]? with
   |none=>rw[hzz]at hz;cases hz
   |some a1 =>
    rw[hzz]at hz;simp only[nM,mh,jjZ]at hz;subst hz;obtain⟨u1,g2,k1⟩:=h6.get hzz;rw[hx' vs (sq sm)]at g2;cases g2;have s':=jt hT (.tup [.int j,x]);refine⟨s',ur (kY ho hT) ?_⟩
    ·have sm2:=sm.trans (jb (O:=O') s');unfold Iss;refine⟨.int j,[x],rfl,ju _,?_⟩;unfold Iss
     exact⟨x,[],rfl,Is.mono sm2 a1 k1,by unfold Iss;rfl⟩
 |.forU i j m e,st,h=>by
  exists Z.anFor,h,tg,it,body,oe,pos
  replace h:=jf h;obtain⟨x,hxn,h⟩:=h;obtain⟨p,e1⟩:=jK hxn;clear hxn
  try simp only at e1
  subst e1;replace h:=jf h;obtain⟨y,hyn,h⟩:=h;obtain⟨q,e1⟩:=jK hyn;clear hyn
  try simp only at e1
  subst e1
  exists Z.an6,2,h,he,hx,hy,hij,hmj,hb
  subst he;replace hb:=jf hb;obtain⟨b,hb1,hb⟩:=hb;have e2:=jdR hb1
  try simp only at e2
  subst e2
  exists Z.anAsg,hb,ts,v,ap
  exists Z.anSole,hb,t
  exists Z.anName,hb,u,up
  exists Z.an3,1,hb,hm,hc,hb
  obtain⟨h1,h2,h3,h4⟩:=ok.vis hx;obtain⟨h5,h6,h7,h8⟩:=ok.vis hy;obtain⟨m1,m2,m3,m4⟩:=ok.vis hm;refine PS.imp (λD τ H w=>?_) (Jc (by rw[ok.xe];exact nS) ok.calm (yn (jY h5 (jX h6) h7 h8)) (yc ok.nd h1 h2 (.inl (ok.fn _))) (jbC (x9 ok.nd m1 m2 (sB ok.toOk e v hb).1 (Qw hb hc _ _ _) (.inl (ok.fn _)))) (λ_=>rfl));obtain⟨σ,O,g,R,w⟩:=w;obtain⟨ds,gs,w⟩:=jeE w;obtain⟨a,vs,e1,e2,e3,e4⟩:=R.ow j ds gs;exact⟨.ref a,e1,_,.inl ⟨a,rfl,.inl ⟨⟨vs,SqL.of e3⟩,rfl⟩⟩,YB hij g R gs e1 e3 e4 w⟩
theorem sK(ok:OkS X k C):∀(s:Sm) (st:List d9),yi k s st=bh->PSs X st (tS X.K C O₀ H₀ ex s)
 |.nop,st,h=>by
  have e:st=[]:=by rw[yi]at h;simpa using h
  subst e;refine PSs.imp (λD τ H w=>?_) jF;obtain⟨σ,O,g,R,w⟩:=w
  exact w τ H O g (jd.refl _) R
 |.seq a b,st,h=>by
  by_cases hs:z9 a=bh
  ·exact PSs.imp (λD τ H w=>Va hs w) (sK ok b st (UZ hs h))
  ·have hs:z9 a=false:=by simpa using hs
   obtain⟨s,r,rfl,h1,h2⟩:=Z6 hs h;refine PSs.imp (λD τ H w=>?_) (jl (sS ok a s h1) (sK ok b r h2));obtain⟨σ,O,g,R,w⟩:=w;refine⟨σ,O,g,R,js a ?_ w⟩
   exact⟨λσ' q τ' H' O' g' s' r'=>⟨σ',O',g',r',js b (qE s') q⟩,λ_ q=>q,λ_ q=>q,λ_ q=>q,λ_ q=>q,λ_ q=>q,λ_ q=>q⟩
 |.set _ _,_,h=>zff h
 |.unp _ _,_,h=>zff h
 |.ret _,_,h=>zff h
 |.ite _ _ _,_,h=>zff h
 |.whl _ _,_,h=>zff h
 |.forR _ _ _,_,h=>zff h
 |.forE _ _ _,_,h=>zff h
 |.brk,_,h=>zff h
 |.cnt,_,h=>zff h
 |.never,_,h=>zff h
 |.new _,_,h=>zff h
 |.app _ _,_,h=>zff h
 |.shr _,_,h=>zff h
 |.raise _,_,h=>zff h
 |.retX _ _ _,_,h=>zff h
 |.raiseA _ _,_,h=>zff h
 |.setX _ _ _ _,_,h=>zff h
 |.ext _ _,_,h=>zff h
 |.forN _ _ _,_,h=>zff h
 |.forU _ _ _ _,_,h=>zff h
end
end
end Z
namespace Z
open PySem PySem.Spec PySem.Calls PyProof.Rows PySem.W L2
theorem jbn:entryFor table "type.__getattribute__"=ba pA.«type.__getattribute__»:=jiV (by kernel_rfl)
theorem jca(self:bq):bindSpecial (.builtin "type.__getattribute__") self=pure (.builtin "type.__getattribute__",[self]):=by rfl
variable{K:Frag}{M:Model}{h:dR}{n:bF}
theorem KJ{r:Option bq}(X:K.In h)(e:jij "wrapper_descriptor" n=ba r):jkj M h (jjL (.builtin "type.__init__") n) r:=looks_specialIn X (show specialIn K (.builtin "type.__init__") n=ba r from e)
section
variable {prog:dg} {w:World} {A:gz} {E:bq->Shared->Prop} {h:dR} {g:Array m9} {d:Drawn} {t:Nat} {os:jiy} {K:Frag} {T:Addr} {ddT:Option Addr} {cdT:jiP} {slT:Array (Option bq)}
theorem ja6{expr:Bool}{Q:bq->Shared->Prop}(X:K.In h)(tt:h.get? T=ba ⟨.type "type",ddT,.cls cdT,slT⟩)(op:nsIn K jjA "thirdparty.any"=ba bc)(fi:findIn K (.ref T) "__init__"=ba (ba (.builtin "ValueError.__init__")))
 (hq:Q (.builtin "ValueError.__init__") ⟨h,g,d,t+1,os⟩):wpAny (model prog w) A (jhN (.ref T) "__init__" expr) Q E ⟨h,g,d,t,os⟩:=by
 have L0:jkj (model prog w) h (typeOf (.ref T)) (.type "type"):=(jiC tt).andThen .now;have L1:=jhg (M:=model prog w) X (show findIn K (.type "type") "__getattribute__"=ba (ba (.builtin "type.__getattribute__")) from by show jij "type" "__getattribute__"=_;decide +kernel);have L2:=looks_opaque (M:=model prog w) (C:=T) X op;have L3:=jhg (M:=model prog w) X (show findIn K (.type "type") "__init__"=ba (ba (.builtin "type.__init__")) from by show jij "type" "__init__"=_;decide +kernel);have L4:=KJ (M:=model prog w) (n:="__get__") (r:=ba (.builtin "wrapper_descriptor.__get__")) X (by decide +kernel);have L5:=KJ (M:=model prog w) (n:="__set__") (r:=bc) X (by decide +kernel);have L6:=KJ (M:=model prog w) (n:="__delete__") (r:=bc) X (by decide +kernel);have L7:=jhg (M:=model prog w) X fi
 have y0:(expr&&jjK (pL "type.__getattribute__"))=false:=by cases expr<;>rfl
 unfold jhN getAttrBy;refine bo (wpAny_mkText (dN (bo (L0.at (bo (L1.at ?_))))));show wpAny _ _ (jje _ _ _ _ _ _) _ _ _;unfold jje hookBefore;refine bo (bA (bo (pK (dN ?_))));unfold callGetattribute;rw[if_neg (by rw[y0];decide)];unfold boundAndCalled;refine bo (nv (jca _) ?_);refine pT (nu (by decide +kernel) jbn ?_)
 have hk:builtinKind "type.__getattribute__"=ba .slot:=by decide +kernel
 have hsp:splitId "type.__getattribute__"=ba ("type","__getattribute__"):=by decide +kernel
 simp only[sW,hk,hsp];refine bo ?_;unfold jhc;refine bo (L0.at ?_);refine nv (show isSubtype (.type "type") (.type "type")=pure bh from by rfl) ?_;rw[if_neg (by decide)];refine nv (show _=pure () from (show argsOk "type.__getattribute__" ⟨[.ref T,.str "__init__" t],[]⟩ from rfl)) ?_;unfold pA.«type.__getattribute__»;refine bo (nv (show asStr? (.str "__init__" t)=pure (ba ("__init__":bF)) from rfl) ?_);show wpAny _ _ (do let x <- opaqueClassAbove (.ref T);_) _ _ _;refine bo (L2.at ?_);refine bo (L0.at (bo (L3.at (bo (L4.at (bo (L5.at ?_)))))));rw[if_neg (by decide)];refine bo (L6.at (bo (bA ?_)));show wpAny _ _ (do let z <- mf (.ref T) ("__init__":bF);_) _ _ _;refine bo (L7.at ?_);simp only[];rw[if_neg (by decide +kernel)];refine bo (nv (show typeOf (.builtin "ValueError.__init__")=pure (.type "wrapper_descriptor") from rfl) ?_);rw[if_pos (by decide +kernel)];refine bA ?_;refine nv (show handedOut (.builtin "ValueError.__init__")=pure (.builtin "ValueError.__init__") from rfl) ?_;exact hq
end
theorem jb8{N:Addr}{m:bF->Option bq}{v:bq}(X:K.In h)(G:h.Ns N m)(e:nsIn K N n=ba (ba v)):m n=ba v:=by
 obtain⟨o,es,ep,ho,hd,_,hf⟩:=G;unfold nsIn at e;split at e
 ·next cls dict es1 epoch slots heq =>
  have this:=X _ _ heq;rw[ho]at this;cases this;cases hd;split at e
  ·next e1 h1 =>
   cases e;rw[<- hf n];unfold nsFind findBy;rw[<- jh8,h1];rfl
  ·split at e<;>cases e
 ·cases e
structure InitF (K:Frag) (mg:bF->Option bq) (C T f:Addr) (n:bF):Prop where
 lk:∃nm q N bs sn sub ab col dd k0 k1 k2 k3 k5,K.lookup C=ba (gF nm q C N bs (.ref T::bmV) bh sn sub ab col dd k0 k1 k2 k3 k5 JB)/\nsOkIn K N=bh/\nsIn K N "__init__"=ba (ba (.ref f))/\∀x ∈ [("__getattribute__":bF),"__getattr__","__setattr__",n],nsIn K N x=ba bc
 lt:∃dd cd sl,K.lookup T=ba ⟨.type "type",dd,.cls cd,sl⟩/\nsOkIn K cd.ns=bh/\∀x∈n::("__setattr__":bF)::tf,nsIn K cd.ns x=ba bc
 op:nsIn K jjA "thirdparty.any"=ba bc
 fi:findIn K (.ref T) "__init__"=ba (ba (.builtin "ValueError.__init__"))
 te:mg "TrueError"=ba (.ref T)
 fn:isFn K (.ref f)=bh
 kp:keepIn K (.ref C)=bh
 bl:mf (.type "ValueError") n=pure bc
structure InitH (h:dR) (C T f N:Addr) (n:bF) (o:mE) (mN:bF->Option bq):Prop where
 hC:h.get? C=ba o
 hn:h.Ns N mN
 hi:mN "__init__"=ba (.ref f)
 no:∀x ∈ [("__getattribute__":bF),"__getattr__","__setattr__",n],mN x=bc
 tl:jiz h bmV (.ref T::bmV)
 tq:jjt h bmV (.ref T::bmV)
 tn:∀x∈n::("__setattr__":bF)::tf,TailN x h bmV (.ref T::bmV)
 hf:∃oI,h.get? f=ba oI/\oI.cls=.type "function"
variable{mg:bF->Option bq}{f:Addr}
theorem InitF.heap{C T:Addr}(F:InitF K mg C T f n)(X:K.In h) :
 ∃nm q N bs sn sub ab col dd k0 k1 k2 k3 k5 mN,InitH h C T f N n (gF nm q C N bs (.ref T::bmV) bh sn sub ab col dd k0 k1 k2 k3 k5 JB) mN:=by
 obtain⟨nm,q,N,bs,sn,sub,ab,col,dd,k0,k1,k2,k3,k5,l1,l2,l3,l4⟩:=F.lk;obtain⟨ddT,cd,sl,t1,t2,t3⟩:=F.lt;have nT:=jjf (jjw X t2);have nN:=jjf (jjw X l2)
 have mT:∀x∈n::("__setattr__":bF)::tf,h.nsMap cd.ns x=none:=λx hx=>w8 X t2 (t3 x hx)
 refine⟨nm,q,N,bs,sn,sub,ab,col,dd,k0,k1,k2,k3,k5,h.nsMap N,X _ _ l1,nN,jb8 X nN l3,λx hx=>w8 X l2 (l4 x hx),.own (X _ _ t1) nT (mT _ (by simp[tf])) .base,.own (X _ _ t1) nT (λx hx=>mT x (bD _ (bD _ hx))) .base,λx hx=>.own (X _ _ t1) nT (mT x hx) .base,?_⟩;have:=F.fn;unfold isFn typeIn at this;simp only at this
 cases q:K.lookup f with
 |none=>rw[q]at this;cases this
 |some oI =>
  rw[q]at this;exact⟨oI,X _ _ q,by simpa using this⟩
def jem(C t:Addr)(dct:Option Addr):mE:={ cls:=.ref C,dict:=dct,data:=.fields #[.ref t,.none,.none,.none,.bool bj,.none] }
abbrev xo(e C:Addr)(dct:Option Addr):HO:=.ext λh=>∃t,h.get? e=ba (jem C t dct)
variable{P:dg}{w:World}{H:Hp}{e:bU}
theorem jaJ{e C t:Addr}{dct:Option Addr}(he:h.get? e=ba (jem C t dct)):kO P w H h e (xo e C dct):=⟨⟨t,he⟩,⟨_,he⟩,λh1 h2 ⟨t,q⟩ k=>⟨t,k _ q⟩⟩
theorem jdY{a:Addr}{o:HO}(h:H a=ba o):upd H a o=H:=by
 funext b;unfold upd;split
 ·next e=>rw[e,h]
 ·rfl
variable{A:gz}{E:bq->Shared->Prop}
theorem Vq{prog:dg}{s:Shared}{T:Addr}{ddT:Option Addr}{cdT:jiP}{slT:Array (Option bq)}{pl:Sem Bool}{Q:bq×List bq->Shared->Prop}(X:K.In s.heap)(tt:s.heap.get? T=ba ⟨.type "type",ddT,.cls cdT,slT⟩)(op:nsIn K jjA "thirdparty.any"=ba bc)(fi:findIn K (.ref T) "__init__"=ba (ba (.builtin "ValueError.__init__")))
 (hq:Q (.builtin "ValueError.__init__",[]) { s with toks:=s.toks+1 }):wpAny (model prog w) A (jjP (.ref T) "__init__" pl) Q E s:=by
 obtain⟨h,g,d,t,os⟩:=s;have L0:jkj (model prog w) h (typeOf (.ref T)) (.type "type"):=(jiC tt).andThen .now;have L1:=jhg (M:=model prog w) X (show findIn K (.type "type") "__getattribute__"=ba (ba (.builtin "type.__getattribute__")) from by show jij "type" "__getattribute__"=_;decide +kernel);unfold jjP jjL;refine bo (bo (L0.at (L1.at ?_)));simp only[];rw[if_pos (by decide +kernel)];exact bo (ja6 X tt op fi (bA hq))
variable{sp ap cp pos:Pos}{i j:Nat}{x:bF}
section
variable {X:Cx} {C T f:Addr} {n:bF}
theorem Ve{tp xp:Pos}{y:bF}(gl:Gl X "TrueError")(hT:X.mg "TrueError"=ba (.ref T))(hi:X.N[i]?=ba x)(hj:X.N[j]?=ba y)(vx:Vis X.env.scope x)(vy:Vis X.env.scope y)
 (dx:(x == ("__debug__":bF))=bj/\(x == ("__classdict__":bF))=bj) (dy:(y == ("__debug__":bF))=bj/\(y == ("__classdict__":bF))=bj) (F:InitF X.K X.mg C T f n) (hline:(ap.endLine == cp.line)=bh) :
 PS X (.Expr (.Call (.Attribute (.Name "TrueError" tp) "__init__" ap) [.Name x sp,.Name y xp] [] cp) pos) (λD σ H=>∃e v,σ[i]?=ba (ba (.ref e))/\σ[j]?=ba (ba v)/\H e=ba (xo e C bc)/\D.nx σ H):=by
 refine Z.PS.imp (λD σ H w=>?_) (xB (te:=λσ H Q=>∃e v,σ[i]?=ba (ba (.ref e))/\σ[j]?=ba (ba v)/\H e=ba (xo e C bc)/\Q .non H) ?_)
 ·exact w
 intro pins s σ H Q I w;obtain⟨e,v,e1,e2,he,q⟩:=w;obtain⟨ddT,cd,sl,t1,t2,t3⟩:=F.lt
 have hfew:methodCallForm ([jjQ x sp,.Name y xp].length+([]:List jir).length) (backTo cp (bY [jjQ x sp,.Name y xp] X.env)) (backToKw cp (keywordEach [] X.env))=true:=by rfl
 rw[arm_eval_Call,show pH (.Name "TrueError" tp) "__init__" X.env (eval (.Name "TrueError" tp) X.env)=eval (.Name "TrueError" tp) X.env from rfl];refine bo (qu I gl hT ?_ (by decide));refine bo (nW ?_);unfold methodCall methodCallPos;rw[hfew,hline];refine bo (dN ?_);show wpAny _ _ (jjP (.ref T) "__init__" _) _ _ _;refine Vq I.kIn (I.kIn _ _ t1) F.op F.fi ?_;refine bo (bA ?_);have pa:PA X [.Name x sp,.Name y xp] _:=jj (jY hi vx dx.1 dx.2) (jj (jY hj vy dy.1 dy.2) jB);refine sM (thn (pa cp pins _ σ H (λvs H1=>vs=[.ref e,v]/\H1=H) (I.tok _) ⟨_,e1,_,e2,rfl,rfl⟩) λus s1 ⟨vs,H1,I1,r1,q1,q2⟩=>?_);subst q1 q2;obtain⟨nm,qn,N,bs,sn,sub,ab,col,dd,k0,k1,k2,k3,k5,mN,hh⟩:=F.heap I1.kIn
 cases r1 with
 |cons r2 r3 =>
  obtain rfl:_=dG e:=r2
  cases r3 with
  |cons r4 r5 =>
   cases r5;obtain⟨⟨t0,he1⟩,_⟩:=I1.hok e _ he;obtain⟨hp,g,d,tk,os⟩:=s1
   refine UA mi hh.tl hh.hC he1 (by show 1<=sizeLine;decide) λh' kp g1 g2=>?_
   refine⟨.non,H1,?_,rfl,q⟩;have:=I1.write (x:=e) (e:=e) (o:=xo e C bc) (t':=tk) (h':=h') (by rw[he];trivial) (.inl rfl) kp ⟨_,g1⟩ (jaJ g1);rw[jdY he]at this;exact this
theorem Y3{value:bU}{tv:TE}(hi:X.N[i]?=ba x)(vx:Vis X.env.scope x)(dx:(x == ("__debug__":bF))=bj/\(x == ("__classdict__":bF))=bj)(hv:PE X value tv)(F:InitF X.K X.mg C T f n)(hs:mm value (ba (.Attribute (.Name x sp) n ap)) pos.line X.env=pure bj) :
 PS X (.Assign [.Attribute (.Name x sp) n ap] value pos) (λD σ H=>tv σ H λy H1=>∃e,σ[i]?=ba (ba (.ref e))/\H1 e=ba (xo e C bc)/\∀dA,H1 dA=bc->dA≠e->D.nx σ (upd (upd H1 dA (.xd [(n,y)])) e (xo e C (ba dA)))):=by
 intro pins s σ H D I w;refine sE (thn (hv pins s σ H _ I w) λu s1 ⟨y,H1,I1,ry,e,e1,he,q⟩=>thn (jY hi vx dx.1 dx.2 pins s1 σ H1 (λv H2=>v=.ref e/\H2=H1) I1 ⟨_,e1,rfl,rfl⟩) λov s2 ⟨v,H2,I2,rx,q1,q2⟩=>?_) hs;subst q1 q2;obtain rfl:ov=dG e:=rx;obtain⟨nm,qn,N,bs,sn,sub,ab,col,dd,k0,k1,k2,k3,k5,mN,hh⟩:=F.heap I2.kIn;obtain⟨⟨t0,he1⟩,_⟩:=I2.hok e _ he;obtain⟨hp,g,d,tk,os⟩:=s2
 refine Xa PySem.F.store_ValueError hh.hC hh.hn (hh.no _ (by simp)) (hh.tn _ (by simp)) (hh.no _ (by simp)) (hh.tn _ (by simp)) F.bl he1 rfl rfl rfl λh' tk' g1 g2 g3=>?_
 have ne:hp.objs.size≠e:=nh (bH he1);have fr:H2 hp.objs.size=none:=I2.hok.fresh (bN _);refine⟨σ,_,?_,q hp.objs.size fr ne⟩;have I3:=I2.write (x:=e) (e:=e) (o:=xo e C (ba hp.objs.size)) (t':=tk') (h':=h') (by rw[he];trivial) (.inl rfl) g3 ⟨_,g1⟩ (jaJ g1)
 have sz:∀ {b:Addr} {o:mE},hp.get? b=ba o->b≠hp.objs.size:=λ{b o} q=>dB (bH q)
 have I4:=ue (v:=.xd [(n,y)]) I3 (a:=hp.objs.size) (n5 I2.sz) (by rw[je ne];exact fr) (λH'=>⟨_,g2,λz=>?_⟩) (nh I2.lt) (λz c qc=>by obtain⟨v,o,ho,_⟩:=I2.cell z c qc;exact sz ho) (λp hp=>sz (I2.pin p hp).1)
 ·have e3:upd (upd H2 e (xo e C (ba hp.objs.size))) hp.objs.size (.xd [(n,y)])=upd (upd H2 hp.objs.size (.xd [(n,y)])) e (xo e C (ba hp.objs.size)):=by
   funext b;by_cases hb:b=e
   ·subst hb;rw[je ne.symm,jh,jh]
   ·rw[je hb];by_cases hb2:b=hp.objs.size
    ·subst hb2;rw[jh,jh]
    ·rw[je hb2,je hb2,je hb]
  rw[e3]at I4;exact I4
 ·by_cases hz:z=n
  ·subst hz;simp only[dW,beq_self_eq_true,if_true];exact ry
  ·have hb:(z == n)=false:=by simpa using hz
   simp only[dW,hb,List.lookup_nil,if_neg hz];trivial
end
def KZ(s:d9):Bool:=(Xm s).any λz=>(qm z).any λc=>c.2.2.1.isEmpty&&decide (c.2.1.length=2)&&decide (jo (c.2.1.getD 0 z)=ba ("self":bF))&&decide (jo (c.2.1.getD 1 z)=ba ("text":bF))&&(kL c.1).any λy=>decide (y.2.1=("__init__":bF))&&decide (jo y.1=ba ("TrueError":bF))&&(y.2.2.endLine == c.2.2.2.line)
theorem jbk{s:d9}(h:KZ s=bh):∃tp ap sp xp cp pos,s=.Expr (.Call (.Attribute (.Name "TrueError" tp) "__init__" ap) [.Name "self" sp,.Name "text" xp] [] cp) pos/\(ap.endLine == cp.line)=true:=by
 unfold KZ at h
 exists Z.anExp,h,z,pos
 exists Z.anCall,h,f,xs,ks,cp
 exists Z.an5,0,h,h3,h4,h5,h6,h
 obtain⟨a,b,rfl⟩:=qH h4;obtain⟨sp,rfl⟩:=jK (show jo a=_ from h5);obtain⟨xp,rfl⟩:=jK (show jo b=_ from h6)
 exists Z.anAttr,h,o,n,ap
 exists Z.an3,0,h,e_,h8,h9;subst e_
 obtain⟨tp,rfl⟩:=jK h8
 have e3:ks=[]:=by simpa using h3
 subst e3;exact⟨_,_,_,_,_,_,rfl,h9⟩
def jeR(p:bF)(e:bU):Bool:=(vj e).any λq=>decide (jo q.1=ba p)&&decide (q.2.1=[.Is])&&decide (q.2.2.length=1)&&decide (ku (q.2.2.getD 0 e)=ba .none)
def jdP(p:bF)(e:bU):Bool:=(U0 e).any λf=>jeR p f.1&&(Jf f.2.1).any (·.isEmpty)&&jaT "list" p e f.2.2
def jau(n p:bF)(l:Bool)(s:d9):Bool:=(yl s).any λz=>(uW z.1).any λt=>(kL t).any λy=>decide (jo y.1=ba ("self":bF))&&decide (y.2.1=n)&&if l=bh then jdP p z.2 else decide (jo z.2=ba p)
variable{p:bF}
theorem jfS(h:jeR p e=bh):∃cp j kp mp,e=.Compare (.Name p cp) [.Is] [.Constant .none j kp] mp:=by
 unfold jeR at h
 exists Z.anCmp,h,x,ops,xs,mp
 exists Z.an4,0,h,h2,e_,h3,h4;subst e_
 obtain⟨cp,rfl⟩:=jK h2;obtain⟨k,rfl⟩:=jz h3;obtain⟨j,kp,rfl⟩:=xg (show ku k=_ from h4);exact⟨_,_,_,_,rfl⟩
theorem jfq(h:jdP p e=bh):∃cp j kp mp lp gp qp dp ip,e=.IfExp (.Compare (.Name p cp) [.Is] [.Constant .none j kp] mp) (.List [] lp) (.Call (.Name "list" gp) [.Name p qp] [] dp) ip:=by
 unfold jdP at h
 exists Z.anIf,h,c,a,b,ip
 exists Z.an3,3,h,h2,h3,h4
 obtain⟨_,_,_,_,rfl⟩:=jfS h2;obtain⟨_,_,_,rfl⟩:=jet h4
 exists Z.anLst,h3,ys,lp
 cases td.mp h3;exact⟨_,_,_,_,_,_,_,_,_,rfl⟩
variable{l:Bool}
theorem jek{s:d9}(h:jau n p l s=bh):(l=bj/\∃sp ap pp pos,s=.Assign [.Attribute (.Name "self" sp) n ap] (.Name p pp) pos) \/
 (l=bh/\∃sp ap cp j kp mp lp gp qp dp ip pos,s=.Assign [.Attribute (.Name "self" sp) n ap] (.IfExp (.Compare (.Name p cp) [.Is] [.Constant .none j kp] mp) (.List [] lp) (.Call (.Name "list" gp) [.Name p qp] [] dp) ip) pos):=by
 unfold jau at h
 exists Z.anAsg,h,ts,v,pos
 replace h:=jf h;obtain⟨t,h2,h⟩:=h;cases VZ h2;replace h:=jf h;obtain⟨⟨o,n',ap⟩,h3,h⟩:=h;cases Za h3
 exists Z.an3,0,h,h4,e_,h;subst e_
 obtain⟨sp,rfl⟩:=jK h4
 cases l with
 |false =>
  obtain⟨pp,rfl⟩:=jK (of_decide_eq_true h)
  exact .inl ⟨rfl,_,_,_,_,rfl⟩
 |true =>
  obtain⟨_,_,_,_,_,_,_,_,_,rfl⟩:=jfq (e:=v) h;exact .inr ⟨rfl,_,_,_,_,_,_,_,_,_,_,_,_,rfl⟩
def Je(n p:bF)(l:Bool):List d9->Bool
 |[a,b]=>KZ a&&jau n p l b
 |_=>bj
def spI(K:Frag)(C:Addr)(n:bF)(l:Bool):Sp:=λvs H Q _=>∃e tx v,vs=[.ref e,tx,v]/\H e=ba (xo e C bc) /\
 (if l=bh then ∃a ys,v=.ref a/\SqL K H a ys/\∀q dA,H q=bc->H dA=bc->q≠dA->Q .non (upd (upd (upd H q (.lst ys)) dA (.xd [(n,.ref q)])) e (xo e C (ba dA)))
  else ∀dA,H dA=bc->Q .non (upd (upd H dA (.xd [(n,v)])) e (xo e C (ba dA))))
theorem jcD{base:dR}{CX:CXT}{C T:Addr}{st:d9}{q:bF}{dV oc kV doc pm cdv ct:bq}{od an:Option Addr}{osl:Array (Option bq)}
 (lk:K.lookup f=ba ⟨oc,od,.func (fnOf x q (qo st) (jm st) (jg st) dV kV doc pm an cdv ct),osl⟩) (hcd:codeIn K cdv q=bh) (S:FnScope ["self","text",p] ["self","text",p] (jg st)) (F:InitF K mg C T f n)
 (dp:(p == ("__debug__":bF))=bj/\(p == ("__classdict__":bF))=bj) (gl:(jg st).names.lookup ("TrueError":bF)=ba .globalImplicit) (gl2:l=bh->(jg st).names.lookup ("list":bF)=ba .globalImplicit) (ml:mg "list"=bc) (hb:Je n p l (jm st)=bh) :
 FnOk P w K mg base CX 1 f (fnOf x q (qo st) (jm st) (jg st) dV kV doc pm an cdv ct) ["self","text",p] (spI K C n l):=by
 refine jc3 (k:=0) lk hcd S (λvs H Q E h=>by obtain⟨e,tx,v,rfl,_⟩:=h;rfl) λA outer s H vs Q E hr h=>?_
 obtain⟨e,tx,v,rfl,he,h⟩:=h;generalize hX:qN CX P w K mg base ["self","text",p] q (jg st) f cdv A outer s H E=X
 have vis:∀c ∈ [("self":bF),"text",p],Vis X.env.scope c:=λc hc=>by subst hX;exact(S.par c hc).elim .inl λz=>.inr (.inl z)
 have hN:X.N=[("self":bF),"text",p]:=by subst hX;rfl
 have hK:X.K=K:=by subst hX;rfl
 have hm:X.mg=mg:=by subst hX;rfl
 have hcx:X.env.scope=jg st:=by subst hX;rfl
 have FX:InitF X.K X.mg C T f n:=by rw[hK,hm];exact F
 match hd:jm st,hb with
 |[a,b],hb =>
  unfold Je at hb;rw[bz]at hb;obtain⟨tp,ap,sp,xp,cp,pos,rfl,hline⟩:=jbk hb.1;have p1:=Ve (X:=X) (tp:=tp) (sp:=sp) (xp:=xp) (ap:=ap) (cp:=cp) (pos:=pos) (i:=0) (j:=1) (x:="self") (y:="text") (show X.env.scope.names.lookup _=_ by rw[hcx];exact gl) (by rw[hm];exact F.te) (by rw[hN];rfl) (by rw[hN];rfl) (vis _ (by simp)) (vis _ (by simp)) ⟨by decide,by decide⟩ ⟨by decide,by decide⟩ FX hline
  have pv:∀pp,PE X (.Name p pp) (Z5 2):=λpp=>jY (by rw[hN];rfl) (vis _ (by simp)) dp.1 dp.2
  rcases jek hb.2 with⟨rfl,sp2,ap2,pp,pos2,rfl⟩|⟨rfl,sp2,ap2,cp2,j,kp,mp,lp,gp,qp,dp2,ip,pos2,rfl⟩
  ·rw[if_neg (by decide)]at h;have p2:=Y3 (X:=X) (i:=0) (x:="self") (sp:=sp2) (ap:=ap2) (pos:=pos2) (by rw[hN];rfl) (vis _ (by simp)) ⟨by decide,by decide⟩ (pv pp) FX rfl;exact⟨_,jl p1 (jl p2 jF),e,tx,rfl,rfl,he,v,rfl,e,rfl,he,λdA h1 _=>h dA h1⟩
  ·rw[if_pos rfl]at h;obtain⟨aw,ys,rfl,sq,h⟩:=h;have pl:PE X (.Call (.Name "list" gp) [.Name p qp] [] dp2) _:=k8 (T:="list") yb (show X.env.scope.names.lookup _=_ by rw[hcx];exact gl2 rfl) (by rw[hm];exact ml) sy (jj (pv qp) jB);have pi:PE X (.IfExp (.Compare (.Name p cp2) [.Is] [.Constant .none j kp] mp) (.List [] lp) (.Call (.Name "list" gp) [.Name p qp] [] dp2) ip) _:=Jp (jeg (jez (pv cp2))) (xb jB) pl;have p2:=Y3 (X:=X) (i:=0) (x:="self") (sp:=sp2) (ap:=ap2) (pos:=pos2) (by rw[hN];rfl) (vis _ (by simp)) ⟨by decide,by decide⟩ pi FX rfl;refine⟨_,jl p1 (jl p2 jF),e,tx,rfl,rfl,he,⟨_,rfl,bj,rfl,?_⟩⟩;refine⟨_,rfl,aw,ys,rfl,.inl (by rw[hK];exact sq),λq hq=>⟨e,rfl,?_,λdA h1 h2=>?_⟩⟩
   ·have ne:e≠q:=λz=>by rw[<- z,he]at hq;cases hq
    rw[je ne];exact he
   ·have n1:dA≠q:=λz=>by rw[z,jh]at h1;cases h1
    rw[je n1]at h1;exact h q dA hq h1 n1.symm
structure InitX (X:Cx) (C T f:Addr) (n:bF) (l:Bool):Prop where
 F:InitF X.K X.mg C T f n
 fn:∃fd p,FnOk X.prog X.w X.K X.mg X.base (CXz X.prog X.w X.mg) 1 f fd ["self","text",p] (spI X.K C n l)/\kP X.K fd ["self","text",p] []
 rm:Room 2 X.A
variable{pins:List (Addr×mE)}{σ:L2.St}
section
variable {X:Cx} {C T f:Addr} {n x:bF} {l:Bool} {e1 e2:bU} {np pos cp:Pos} {t:TA}
theorem jaH{s:Shared}{h':dR}{e:Addr}{args:List bq}(I:Inv X pins σ H s)(w:Own X)(m:pd s.heap h' e (.ref C) args):H e=bc/\X.s₀.heap.get? e=bc/\Inv X pins σ (upd H e (xo e C bc)) { s with heap:=h' }:=by
 have hH:H e=none:=by
  cases q:H e with
  |none=>rfl
  |some u =>
   obtain⟨o,z⟩:=uZ (I.hok e u q);rw[m.new]at z;cases z
 have old:∀ {b:Addr} {o:mE},s.heap.get? b=ba o->b≠e:=λ{b o} z y=>by rw[y,m.new]at z;cases z
 have h0:X.s₀.heap.get? e=none:=by
  cases q:X.s₀.heap.get? e with
  |none=>rfl
  |some o =>
   obtain⟨o',z⟩:=I.base.there e o q (by rw[w.ex];simp);exact absurd rfl (old z)
 have I1:Inv X pins σ H { s with heap:=h' }:=I.un (t':=s.toks) (Un.kept m.keeps) (I.hok.kept m.keeps);obtain⟨t0,g1,_⟩:=m.there;exact⟨hH,h0,ue I1 h0 hH (λ_=>jaJ g1) (λz=>by obtain⟨m',⟨o,_,_,ho',_⟩,_⟩:=I.loc;exact old ho' z.symm) (λy cc q=>by obtain⟨v,o,ho',_⟩:=I.cell y cc q;exact old ho') (λp hp=>old (I.pin p hp).1)⟩
theorem jdG(w:Own X)(ix:InitX X C T f n l)(hg:Gl X x)(hm:X.mg x=ba (.ref C))(ha:PA X [e1,e2] t)(hdb:(x == ("__debug__":bF))=bj)(he:bY [e1,e2] X.env=(bj,eval e1 X.env)::bY [e2] X.env)(hpl:(backTo cp (bY [e2] X.env)).any (·.1)=bj) :
 PE X (.Call (.Name x np) [e1,e2] [] cp) (λσ H Q=>t σ H λvs H1=>vs.length=2/\∀e,H1 e=bc->X.s₀.heap.get? e=bc->spI X.K C n l (.ref e::vs) (upd H1 e (xo e C bc)) (λr H2=>r=.non/\Q (.ref e) H2) E0):=by
 intro pins s σ H Q I h;refine gY (qu I hg hm ?_ hdb);refine jh9 (h₀:=X.base) I.ok.mod.kin ix.F.kp (thn (ha cp pins s σ H _ I h) λus s1 ⟨vs,H1,I1,r,hl,q⟩=>⟨I1.kIn,?_⟩) he hpl;obtain⟨fd,p,FO,hb⟩:=ix.fn;obtain⟨nm,qn,N,bs,sn,sub,ab,col,dd,k0,k1,k2,k3,k5,mN,hh⟩:=ix.F.heap I1.kIn;obtain⟨oI,hfI,hfc⟩:=hh.hf;obtain⟨hp,g,d,tk,os⟩:=s1
 have hu:us.length=2:=by rw[<- r.length];exact hl
 refine Xx (Q:=EP X pins σ Q) mi (by decide +kernel) mi hh.tl hh.hC hh.hn hh.hi hfI hfc (λh' e md=>?_) (by rw[show ([]:List bq)++us=us from rfl,hu];decide);obtain⟨hH,h0,I2⟩:=jaH (C:=C) I1 w md;have r2:jv (V.ref e::vs) (dG e::us):=.cons rfl r
 refine pT (pq (FO.run _ X.stack _ _ ⟨dG e::us,[]⟩ (dG e::us) _ _ E0 (ix.rm.make C us []) (I2.env0.make C us []) (by
  have:=hb ⟨h',g,d,tk,os⟩ (dG e::us) I2.kIn (by simp[hu]);rw[dv]at this
  exact this) r2 (q e hH h0)) λrr s' hq'=>?_)
 cases rr with
 |error e=>exact(Jm (X:=X) pins σ _ _ e s' I2 hq')
 |ok fl =>
  cases fl with
  |ret u =>
   obtain⟨v,H',I3,rv,ev,q3⟩:=I2.after hq';subst ev
   exact⟨rv,⟨V.ref e,H',I3,rfl,q3⟩⟩
  |next=>exact gu hq'
  |brk=>exact gu hq'
  |cont=>exact gu hq'
theorem jbK{s:Shared}{y:bU}{te:TE}{Q:Flow->Shared->Prop}(I:Inv X pins σ H s)(hh:X.A.handled=bc)(F:InitF X.K X.mg C T f n)(hy:PE X y te)
 (h:te σ H λv H1=>∃e dct,v=.ref e/\H1 e=ba (xo e C dct)/\∀s1,Inv X pins σ H1 s1->X.xe (.ref e) s1):wpAny (model X.prog X.w) X.A (exec (.Raise (ba y) bc pos) X.env) Q X.xe s:=by
 rw[arm_exec_Raise];refine bo (nW ?_);obtain⟨nm,qn,N,bs,sn,sub,ab,col,dd,k0,k1,k2,k3,k5,l1,_⟩:=F.lk;show wpAny _ _ (jjJ X.env (ba (do let v <- eval y X.env;jjR pos;pure v)) bc) _ _ _;refine Yp (C:=C) (nm:=nm) (q:=qn) (N:=N) (bs:=bs) (bm:=.ref T::bmV) (hdct:=bh) (sn:=sn) (sub:=sub) (ab:=ab) (col:=col) (dd:=dd) (k0:=k0) (k1:=k1) (k2:=k2) (k3:=k3) (k5:=k5) (newId:=JB) (by rfl) hh ?_;refine bo (thn (hy pins s σ H _ I h) λu s1 ⟨v,H1,I1,r,e,dct,ev,he,q⟩=>bo (nW (bA ?_)));subst ev;obtain rfl:u=dG e:=r;obtain⟨⟨t0,he1⟩,_⟩:=I1.hok e _ he;exact⟨e,t0,dct,rfl,I1.kIn _ _ l1,he1,q _ I1⟩
end
structure Alone (X:Cx):Prop where
 fn:∃f fd,FnOk X.prog X.w X.K X.mg X.base (CXz X.prog X.w X.mg) 1 f fd ["_law_e"] (spA X.K X.mg)/\X.mg "_law_alone"=ba (.ref f)/\me X.K (.ref f)=bh/\kP X.K fd ["_law_e"] []
 rm:X.A.depth+3*1+5<wc/\X.A.units+16*1+200<cLine
 int:X.mg "int"=bc
section
variable {X:Cx} {D:Addr} {y:bF} {i:Nat}
theorem jbO{ea T:Addr}{y0:bF}{p:Pos}(F:InitF X.K X.mg D T f n)(hi:X.N[i]?=ba y0)(hl:X.env.scope.names.lookup y0=ba .local)(d1:(y0 == ("__debug__":bF))=false:=by decide)(d2:(y0 == ("__classdict__":bF))=false:=by decide) :
 PE (mkX X ea) (.Attribute (.Name y0 p) n pos) (λσ H Q=>∃e oe u vs dA v,σ[i]?=ba (ba (.ref e))/\H e=ba (.frz oe u)/\oe.cls=.ref D/\oe.data=.fields vs/\oe.dict=ba dA/\H dA=ba (.xd [(n,v)])/\Q v H):=by
 intro pins s σ H Q I h;obtain⟨e,oe,u,vs,dA,v,e1,he,hc,hd,hdc,hx,q⟩:=h;refine YM rfl (thn (jY (X:=mkX X ea) hi (.inl hl) d1 d2 pins s σ H (λv H2=>v=.ref e/\H2=H) I ⟨_,e1,rfl,rfl⟩) λov s1 ⟨v1,H1,I1,rx,q1,q2⟩=>?_);subst q1 q2;obtain rfl:ov=dG e:=rx;obtain⟨nm,qn,N,bs,sn,sub,ab,col,dd,k0,k1,k2,k3,k5,mN,hh⟩:=F.heap I1.kIn;obtain⟨he1,_⟩:=I1.hok e _ he;obtain⟨mA,hns,hf⟩:=I1.hok dA _ hx;have hf:=hf n;simp only[dW,beq_self_eq_true,if_true]at hf;obtain⟨hp,g,d,tk,os⟩:=s1
 cases hv:mA n with
 |none=>rw[hv]at hf;exact hf.elim
 |some uv =>
  rw[hv]at hf;have rv:jH v uv:=hf;refine U9 PySem.F.attrBase_ValueError hh.hC hh.hn (hh.no _ (by simp)) (hh.no _ (by simp)) hh.tq (hh.tn _ (by simp[tf])) (hh.tn _ (by simp[tf])) (hh.tn _ (by simp)) F.bl (hh.no _ (by simp)) he1 hc hd hdc hns.ns hv ?_ ⟨v,H1,I1.tok _,rv,q⟩;intro id z;subst z
  cases v<;>first|exact nomatch rv|(obtain⟨_,z⟩:=rv;exact nomatch z)
end
variable{es:List Ex}
section
variable {X:Cx} {pins:List (Addr×mE)} {σ:L2.St} {H:Hp} {s:Shared}
theorem kX{st:d9}{t:TS}(h:PS X.nox st t):PS X st t:=λpins s σ H D I hw =>
 dE (h pins s σ H D (I.wish _) hw) (λf s' z=>z.unwish) λ_ _ z=>z.elim
theorem jey{t:TE}(h:PE X.nox e t):PE X e t:=λpins s σ H Q I hw =>
 dE (h pins s σ H Q (I.wish _) hw) (λu s' ⟨v,H',J,r,q⟩=>⟨v,H',J.unwish,r,q⟩) λ_ _ z=>z.elim
theorem XW{es:List bU}{t:TA}(h:PA X.nox es t):PA X es t:=λpos pins s σ H Q I hw =>
 dE (h pos pins s σ H Q (I.wish _) hw) (λus s' ⟨vs,H',J,r,q⟩=>⟨vs,H',J.unwish,r,q⟩) λ_ _ z=>z.elim
theorem Uy{Q:Unit->Shared->Prop}(I:Inv X pins σ H s)(w:Own X)(hl:X.env.scope.names.lookup n=ba .local)
 (hq:∀s',Inv X pins (bE X.N.length bc) H s'->Q () s'):wpAny M A (do bindName X.env n .none;tK X.env n pos) Q E s:=by
 obtain⟨m,hn,_⟩:=I.loc
 refine wpAny_nameGoes hl hn (by rw[I.ok.kind];rfl) λh' m' hn' sb=>hq _ ?_
 have old:∀ {b:Addr} {o:mE},X.s₀.heap.get? b=ba o->b≠X.env.locals:=λ{b o} e z=>by
  have:=bH e;rw[z]at this;exact absurd this (sU.mpr I.ok.above)
 have same:∀b,b≠X.env.locals->h'.get? b=s.heap.get? b:=λb hb=>sb.2 b hb
 refine⟨I.ok,I.os,I.bare,⟨λb o e n hb hx=>?_,λb o e n hb hx=>?_,I.base.free,λb o e hx=>?_,I.base.tups,I.base.frzs,I.base.tbls⟩,⟨m',hn',λi x v _ h2 _=>?_⟩,λx c e=>?_,I.free,I.freeC,λp hp=>?_,λb u e=>?_,by simp⟩
 ·exact(same b (old e)).trans (I.base.keep b o e n hb hx)
 ·obtain⟨sl,q⟩:=I.base.slot b o e n hb hx;exact⟨sl,(same b (old e)).trans q⟩
 ·obtain⟨o',q⟩:=I.base.there b o e hx;exact⟨o',(same b (old e)).trans q⟩
 ·rw[pW]at h2
  split at h2<;>cases h2
 ·obtain⟨v,o,q,d⟩:=I.cell x c e;exact⟨v,o,(same c (I.cne x c e)).trans q,d⟩
 ·obtain⟨g1,g2,g3,g4⟩:=I.pin p hp;exact⟨(same p.1 g3).trans g1,g2,g3,g4⟩
 ·refine(I.hok b u e).stay (λc v hc q=>(same c λz=>?_).trans q) (λ_ z=>z) λ_ _ z=>z
  have hf:=I.free;rcases hc with hc|hc
  ·rw[<- z,hc,e]at hf;cases hf
  ·rw[<- z,hc]at hf;cases hf
end
def zQ:d9->Option bU
 |.Raise (ba e) bc _=>ba e
 |_=>bc
theorem VN{s:d9}(h:zQ s=ba e):∃p,s=.Raise (ba e) bc p:=by
 unfold zQ at h;split at h
 ·cases h;exact⟨_,rfl⟩
 ·cases h
theorem anRaise{t_:d9}{f_:bU->Bool}{G:Prop}(h:(zQ t_).any f_=bh)(k_:∀e p,t_=.Raise (ba e) bc p->f_ e=bh->G):G:=by
 obtain⟨e,z,h⟩:=jf h;obtain⟨p,q_⟩:=VN z;exact k_ e p q_ h
def Vb:Const->Bool
 |.str _=>bh
 |_=>bj
def jdE:gw->Option (bU×bF×List d9)
 |.ExceptHandler (ba t) (ba n) (b::suite) _=>ba (t,n,b::suite)
 |_=>bc
theorem jfA{s:gw}{t:bU}{b:List d9}(h:jdE s=ba (t,n,b)):∃b0 suite p,s=.ExceptHandler (ba t) (ba n) (b0::suite) p/\b=b0::suite:=by
 unfold jdE at h;split at h
 ·cases h;exact⟨_,_,_,rfl,rfl⟩
 ·cases h
def XU(x:bF):Bool:=x == ("BadText":bF) ||x == ("Dependent":bF)
theorem jaw{X:Cx}{v:D}{u:Const}(h:yJ v u=bh):∃cv,PE X (.Constant u j cp) (tC cv)/\∀K S,Is K S v cv:=by
 cases v<;>cases u<;>first|exact bK h|skip
 ·exact⟨.non,jbm,λ_ _=>Jh⟩
 ·have:_=_:=beq_iff_eq.mp h;subst this;exact⟨_,Zr,λ_ _=>j5 _⟩
 ·have:=of_decide_eq_true h;subst this;exact⟨_,K6,λ_ _=>ju _⟩
 ·unfold yJ at h;rw[bz]at h;have:=of_decide_eq_true h.1;subst this;exact⟨_,xH,λ_ _=>kq h.2⟩
def jaq(x:bF)(v:D):gw->Bool
 |.ExceptHandler t n b _=>n.isNone&&t.any (λt=>decide (jo t=ba x))&&decide (b.length=1)&&(xM (b.getD 0 (.Pass ⟨0,0,0,0⟩))).any λo=>o.any λe=>(ku e).any λu=>yJ v u
theorem jc8{v:D}{e:gw}(h:jaq x v e=bh):∃np p u j cp rp,e=.ExceptHandler (ba (.Name x np)) bc [.Return (ba (.Constant u j cp)) rp] p/\yJ v u=true:=by
 obtain⟨t,n,b,p⟩:=e;have h:(n.isNone&&t.any (λt=>decide (jo t=ba x))&&decide (b.length=1)&&(xM (b.getD 0 (.Pass ⟨0,0,0,0⟩))).any λo=>o.any λe=>(ku e).any λu=>yJ v u)=true:=h;simp only[bz,decide_eq_true_eq,Option.isNone_iff_eq_none]at h;obtain⟨⟨⟨rfl,h1⟩,h2⟩,h3⟩:=h;replace h1:=jf h1;obtain⟨t,rfl,h1⟩:=h1;obtain⟨np,rfl⟩:=jK (of_decide_eq_true h1);obtain⟨s,rfl⟩:=jz h2;replace h3:=jf h3;obtain⟨o,h4,h3⟩:=h3;obtain⟨rp,e4⟩:=yj (show xM s=_ from h4);subst e4;replace h3:=jf h3;obtain⟨e,rfl,h3⟩:=h3
 exists Z.anConst,h3,u,j,cp
 exact⟨_,_,_,_,_,_,rfl,h3⟩
def uX(k:Ck)(f:Nat)(es:List Ex):List (Nat×List Ex)->bU->Bool
 |[],v=>(jI v).any λc=>decide (k.fns[f]?=ba (c.1,c.2.1.length))&&k.gl c.1 && !c.2.1.isEmpty&&qk k es c.2.1
 |gr::rest,v=>(jI v).any λc=>decide (k.fns[gr.1]?=ba (c.1,c.2.1.length))&&k.gl c.1 && !c.2.1.isEmpty&&uX k f es rest (c.2.1.getD 0 v)&&qk k gr.2 (c.2.1.drop 1)
mutual
noncomputable def jeC(k:Ck):Sm->d9->Bool
 |.ite c a b,s=>(JV s).any λz=>chkE k c z.1&&zt k a z.2.1&&zt k b z.2.2
 |.raise x,s=>k.rs&&decide (x∈k.cls)&&k.gl x && !XU x&&(zQ s).any λe=>(jI e).any λc=>decide (c.1=x)&&decide (c.2.1.length=1)&&(ku (c.2.1.getD 0 e)).any Vb
 |.retX fs f es,s=>(xM s).any λv=>v.any λv=>uX k f es fs v
 |.raiseA x e,s=>k.rs&&decide (x∈k.cls)&&k.gl x&&XU x&&(zQ s).any λy=>(jI y).any λc=>decide (c.1=x)&&decide (c.2.1.length=2)&&(ku (c.2.1.getD 0 y)).any Vb&&chkE k e (c.2.1.getD 1 y)
 |.setX i fs f es,s=>(yl s).any λz=>(uW z.1).any λt=>(jo t).any λx=>k.loc i x&&uX k f es fs z.2
 |.nop,_=>bj
 |.seq _ _,_=>bj
 |.shr _,_=>bj
 |.set i e,s=>xj k (.set i e) s
 |.unp i e,s=>xj k (.unp i e) s
 |.ret e,s=>xj k (.ret e) s
 |.whl c b,s=>xj k (.whl c b) s
 |.forR i e b,s=>xj k (.forR i e b) s
 |.forE i e b,s=>xj k (.forE i e b) s
 |.brk,s=>xj k .brk s
 |.cnt,s=>xj k .cnt s
 |.never,s=>xj k .never s
 |.new i,s=>xj k (.new i) s
 |.app i e,s=>xj k (.app i e) s
 |.ext i e,s=>xj k (.ext i e) s
 |.forN i e b,s=>xj k (.forN i e b) s
 |.forU i j m e,s=>xj k (.forU i j m e) s
noncomputable def zt(k:Ck):Sm->List d9->Bool
 |.nop,ss=>ss.isEmpty
 |.seq a b,ss=>if z9 a then zt k b ss else !ss.isEmpty&&jeC k a (ss.getD 0 (.Pass ⟨0,0,0,0⟩))&&zt k b (ss.drop 1)
 |_,_=>bj
end
structure ClsOk (K:Frag) (mg:bF->Option bq) (x:bF) (Ca:Addr) (al:Bool):Prop where
 cl:Kl K Ca
 pl:XU x=bj->excIn K Ca bmV JB=bh
 ow:XU x=bh->∃T f,InitF K mg Ca T f (yT x)/\∀(P:dg) (w:World) (base:dR),∃fd p,FnOk P w K mg base (CXz P w mg) 1 f fd ["self","text",p] (spI K Ca (yT x) (x == ("Dependent":bF)))/\kP K fd ["self","text",p] []
 al:al=bh->AloneF K mg x Ca
structure OkX (X:Cx) (k:Ck) (C:Cfg) (O₀:List Addr) (H₀:Hp) (ex:XD->Prop):Prop where
 ok:OkS X.nox k C
 own:Own X
 o0:∀a∈O₀,H₀ a≠bc
 thr:∀y Ca,ex y->X.mg y.t=ba (.ref Ca)->∀pins σ H s H1 da e s',Inv X pins σ H s->jd H₀ H1->Fld X.K O₀ y H1 da->qM X.prog X.w Ca X.stack H s H1 da e s'->X.xe e s'
 raz:k.rs=bh->∀x Ca,ex ⟨0,x,[]⟩->X.mg x=ba (.ref Ca)->∀pins σ H s h1 e args,Inv X pins σ H s->jd H₀ H->pd s.heap h1 e (.ref Ca) args->X.xe (.ref e) { s with heap:=h1 }
 rax:k.rs=bh->Room 2 X.A/\∀y Ca,ex y->X.mg y.t=ba (.ref Ca)->∀pins σ H s e da,Inv X pins σ H s->H e=ba (xo e Ca da)->H₀ e=bc->X.s₀.heap.get? e=bc->jd H₀ (del H e)->Fld X.K O₀ y (del H e) da->X.xe (.ref e) s
 exc:∀x∈k.cls,∃Ca,X.mg x=ba (.ref Ca)/\ClsOk X.K X.mg x Ca k.al
 al:k.al=bh->Alone X
variable{f:Nat}
section
variable {k:Ck} {C:Cfg} {O₀:List Addr} {H₀:Hp}
theorem jaA{k:Ck}{fs:List (Nat×List Ex)}{v:bU}(h:uX k f es fs v=bh):∃c,jI v=ba c:=by
 cases fs<;>rw[uX]at h<;>(obtain⟨c,e,_⟩:=jf h)<;>exact⟨c,e⟩
theorem jaL{k:Ck}{fs:List (Nat×List Ex)}{v:bU}(h:uX k f es fs v=bh)(ys:List bU)(env:tR):bY (v::ys) env=(bj,eval v env)::bY ys env:=by
 obtain⟨⟨x,xs,cp⟩,hc⟩:=jaA h;obtain⟨q,rfl⟩:=yk hc;rfl
def XE0(K:Frag)(O₀:List Addr)(H₀:Hp)(ex:XD->Prop):XK:=λv da H=>∃y:XD,v=.str y.t 0/\ex y/\jd H₀ H/\Fld K O₀ y H da
theorem sN{X:Cx}{k:Ck}{ex:XD->Prop}(ok:OkX X k C O₀ H₀ ex)(f:Nat)(es:List Ex):∀(fs:List (Nat×List Ex)) (v:bU),uX k f es fs v=bh->PE X v λτ H Q=>∃σ O,jd H₀ H/\(∀a∈O₀,a∈O)/\Reps X.K O H σ τ/\wpN C σ f es fs (Wd X.K O H Q) ex
 |[],v,h=>by
  rw[uX]at h
  exists Z.anCallN,h,fx,xs,cp,q
  exists Z.an4,0,h,k1,k2,hne,k4
  obtain⟨y,ys,rfl⟩:=kZ hne;obtain⟨g1,g2,g3⟩:=ok.ok.toOk.gl k2;obtain⟨fa,fd,ps,lv,F,hr,hm,hk,hb⟩:=ok.ok.toOk.fns f fx _ k1
  have hs:bY (y::ys) X.env=(bj,eval y X.env)::bY ys X.env/\(backTo cp (bY ys X.env)).any (·.1)=false:=by
   cases es with
   |nil=>have:=kr k4;cases this
   |cons z zs =>
    obtain⟨y',ys',e',h5,h6⟩:=kh k4;cases e';exact⟨jr h5 _ _,qr h6 _ _⟩
  have pass:xm (CXz X.prog X.w X.mg) X (XE0 X.K O₀ H₀ ex):=λpins σ H s e s' I ⟨x,Ca,H1,da,⟨y,e1,hx,sm,fd⟩,hm,T⟩=>by
   cases e1;exact ok.thr y Ca hx hm pins σ H s H1 da e s' I sm fd T
  refine PE.imp (λτ H Q w=>?_) (qC (CX:=CXz X.prog X.w X.mg) (E:=XE0 X.K O₀ H₀ ex) (dvs:=[]) F hr g1 hm hk hb .nil pass (XW (sA ok.ok.toOk es _ k4)) g2 hs.1 hs.2);obtain⟨σ,O,sm,so,R,w⟩:=w;unfold wpN at w;refine⟨σ,O,R,jD es (λds ⟨hl,wd⟩ vs H1 s1 i1=>?_) (xk es w)⟩;show spD X.K (y::ys).length (C.fr f) (C.f2 f) (C.ct f) (vs ++ []) H1 _ _;rw[dv]
  exact⟨O,ds,by rw[hl,yz k4],(R.mono s1).own,i1,wd.1,λd r=>((wd.2.1 d r).mono s1).rw (R.mono s1).own,λz hz H2 da s2 fd=>⟨z,rfl,wd.2.2 z hz,(sm.trans s1).trans s2,fd.less so⟩⟩
 |(g,r)::rest,v,h=>by
  rw[uX]at h
  exists Z.anCallN,h,fx,xs,cp,q
  exists Z.an5,0,h,k1,k2,hne,k3,k4
  obtain⟨y,ys,rfl⟩:=kZ hne;have k3:uX k f es rest y=true:=k3;have k4:qk k r ys=true:=k4;obtain⟨g1,g2,g3⟩:=ok.ok.toOk.gl k2;obtain⟨fa,fd,ps,lv,F,hr,hm,hk,hb⟩:=ok.ok.toOk.fns g fx _ k1;have pa:PA X (y::ys) _:=jj (sN ok f es rest y k3) (XW (sA ok.ok.toOk r ys k4)) (jaL k3 _ _);refine PE.imp (λτ H Q w=>?_) (qC (CX:=CXz X.prog X.w X.mg) (E:=E0) (dvs:=[]) F hr g1 hm hk hb .nil Jm pa g2 (jaL k3 _ _) (qr k4 _ _));obtain⟨σ,O,sm,so,R,w⟩:=w;unfold wpN at w;refine⟨σ,O,sm,so,R,xR rest (λd wd v H1 s1 i1=>⟨σ,O,R.mono s1,jD r (λds ⟨hl,wds⟩ vs H2 s2 i2=>?_) (xk r wd)⟩) (λ_ q=>q) w⟩;show spD X.K (y::ys).length (C.fr g) (C.f2 g) (C.ct g) ((v::vs) ++ []) H2 Q E0;rw[dv];exact⟨O,d::ds,by simp[hl,yz k4],((R.mono s1).mono s2).own,by unfold Iss;exact⟨v,vs,rfl,Is.mono (jb s2) d i1,i2⟩,wds.1,λd' q=>((wds.2.1 d' q).mono (s1.trans s2)).rw ((R.mono s1).mono s2).own,λx hx=>(ok.ok.toOk.E x (wds.2.2 x hx)).elim⟩
mutual
theorem sY{X:Cx}{k:Ck}{ex:XD->Prop}(ok:OkX X k C O₀ H₀ ex)(f:Nat)(es:List Ex)(v:bU)(h:uX k f es [] v=bh):PE X v λτ H Q=>∃σ O,jd H₀ H/\(∀a∈O₀,a∈O)/\Reps X.K O H σ τ/\j4 C es σ λds=>C.fr f=bh/\(C.ct f).wp ds (λd=>WdF X.K O H Q d) ex:=by
 rw[uX]at h
 exists Z.anCallN,h,fx,xs,cp,q
 exists Z.an4,0,h,k1,k2,hne,k4
 obtain⟨y,ys,rfl⟩:=kZ hne;obtain⟨g1,g2,g3⟩:=ok.ok.toOk.gl k2;obtain⟨fa,fd,ps,lv,F,hr,hm,hk,hb⟩:=ok.ok.toOk.fns f fx _ k1
 have hs:bY (y::ys) X.env=(bj,eval y X.env)::bY ys X.env/\(backTo cp (bY ys X.env)).any (·.1)=false:=by
  cases es with
  |nil=>have:=kr k4;cases this
  |cons z zs =>
   obtain⟨y',ys',e',h5,h6⟩:=kh k4;cases e';exact⟨jr h5 _ _,qr h6 _ _⟩
 have pass:xm (CXz X.prog X.w X.mg) X (XE0 X.K O₀ H₀ ex):=λpins σ H s e s' I ⟨x,Ca,H1,da,⟨y,e1,hx,sm,fd⟩,hm,T⟩=>by
  cases e1;exact ok.thr y Ca hx hm pins σ H s H1 da e s' I sm fd T
 refine PE.imp (λτ H Q w=>?_) (qC (CX:=CXz X.prog X.w X.mg) (E:=XE0 X.K O₀ H₀ ex) (dvs:=[]) F hr g1 hm hk hb .nil pass (XW (sA ok.ok.toOk es _ k4)) g2 hs.1 hs.2);obtain⟨σ,O,sm,so,R,w⟩:=w;refine⟨σ,O,R,jD es (λds ⟨hl,wd⟩ vs H1 s1 i1=>?_) (xk es w)⟩;show spD X.K (y::ys).length (C.fr f) (C.f2 f) (C.ct f) (vs ++ []) H1 _ _;rw[dv];refine⟨O,ds,by rw[hl,yz k4],(R.mono s1).own,i1,wd.2.1,λd r=>?_,λz hz H2 da s2 fd=>⟨z,rfl,wd.2.2.2 z hz,(sm.trans s1).trans s2,fd.less so⟩⟩;unfold Rw;rw[if_pos wd.1];exact(wd.2.2.1 d r).mono s1
theorem sX:∀ {X:Cx} {k:Ck} {ex:XD->Prop} (ok:OkX X k C O₀ H₀ ex) (s:Sm) (st:d9),jeC k s st=bh->PS X st (tS X.K C O₀ H₀ ex s)
 |X,k,ex,ok,.ite c a b,st,h=>by
  exists Z.anIfS,h,t,x,y,pos
  replace h:=Z.tb_ 3 h;refine PS.imp (λD τ H w=>?_) (uI (sB ok.ok.toOk c t h.1.1).2.nox (sXB ok a x h.1.2) (sXB ok b y h.2));obtain⟨σ,O,g,R,w⟩:=w;refine⟨σ,O,R.toReps,ja c (λd=>jT λt wt H1 s1=>?_) w⟩
  cases t with
  |true=>exact⟨σ,O,g.mono s1,R.mono s1,js a (qE (jb s1)) wt⟩
  |false=>exact⟨σ,O,g.mono s1,R.mono s1,js b (qE (jb s1)) wt⟩
 |X,k,ex,ok,.raise x,st,h=>by
  replace h:(_&&_)=true:=h
  exists Z.an5,0,h,hrs,hcl,hgl,hpl,h
  replace hpl:XU x=false:=by simpa using hpl
  exists Z.anRaise,h,e,pos
  exists Z.anCallN,h,x',xs,cp,np
  exists Z.an3,0,h,h1,h2,h3
  subst h1;obtain⟨z,rfl⟩:=jz h2;replace h3:=jf h3;obtain⟨cc,hcc,h3⟩:=h3;obtain⟨j,zp,rfl⟩:=xg (show ku z=_ from hcc)
  obtain⟨tx,rfl⟩:∃tx,cc=.str tx:=by
   cases cc with
   |str tx=>exact⟨tx,rfl⟩
   |_=>cases h3
  obtain⟨Ca,hm,co⟩:=ok.exc x' hcl;have hq:=co.pl hpl;obtain⟨g1,g2,g3⟩:=ok.ok.toOk.gl hgl;intro pins s τ H D I w;obtain⟨σ,O,g,R,w⟩:=w;have hh:X.A.handled=none:=I.ok.hd ok.ok.calm;obtain⟨bm,N,nm,qn,bs,hd,sn,sub,ab,col,dd,k0,k1,k2,k3,k5,mN,hC,hN,hni,TL⟩:=Zg I.mod.kin hq
  refine wpAny_Raise_call_subU (C:=Ca) (nm:=nm) (q:=qn) (N:=N) (bs:=bs) (bm:=bm) (hdct:=hd) (sn:=sn) (sub:=sub) (ab:=ab) (col:=col) (dd:=dd) (k0:=k0) (k1:=k1) (k2:=k2) (k3:=k3) (k5:=k5) (mN:=mN)
   mi (by decide +kernel) mi (TL.hasType (by decide +kernel)) hh rfl hni (qu I g1 hm ⟨rfl,?_⟩ g2)
  have pa:PA X [.Constant (.str tx) j zp] _:=jj xH jB;refine jhy (dE (pa cp pins s τ H (λvs H'=>vs.length<=1/\jd H₀ H') I ⟨by simp,g.same⟩) (λus s2 ⟨vs,H2,J,r,q1,q2⟩=>?_) λ_ _ z=>z)
  have hl:us.length<=sizeLine:=by rw[<- r.length];exact dU q1 (by decide)
  exact⟨rfl,hl,J.bk _ _ hC,hN.keeps J.bk,TL.keeps J.bk,λh' e hx=>ok.raz hrs x' Ca w hm pins τ H2 s2 h' e us J q2 hx⟩
 |X,k,ex,ok,.retX fs f es,st,h=>by
  replace h:=jf h;obtain⟨ov,ho,h⟩:=h;replace h:=jf h;obtain⟨v,hv,h⟩:=h;subst hv;obtain⟨pos,rfl⟩:=yj ho;refine PS.imp (λD τ H w=>?_) (qx (sN ok f es fs v h));obtain⟨σ,O,g,R,w⟩:=w
  exact⟨σ,O,g.same,g.sub,R.toReps,xR fs (λd rt v H' s2 i2=>rt v H' (g.same.trans s2) (Is.mono (jM g.sub) d i2)) (λ_ q=>q) w⟩
 |X,k,ex,ok,.raiseA x e,st,h=>by
  replace h:(_&&_)=true:=h
  exists Z.an5,0,h,hrs,hcl,hgl,hpl,h
  exists Z.anRaise,h,y,pos
  exists Z.anCallN,h,x',xs,cp,np
  exists Z.an4,0,h,h1,h2,h3,h4
  subst h1;obtain⟨z,z2,rfl⟩:=qH h2;replace h3:=jf h3;obtain⟨cc,hcc,h3⟩:=h3;obtain⟨j,zp,rfl⟩:=xg (show ku z=_ from hcc)
  obtain⟨tx,rfl⟩:∃tx,cc=.str tx:=by
   cases cc with
   |str tx=>exact⟨tx,rfl⟩
   |_=>cases h3
  obtain⟨Ca,hm,co⟩:=ok.exc x' hcl;obtain⟨T,f,F,fn⟩:=co.ow hpl;obtain⟨g1,g2,g3⟩:=ok.ok.toOk.gl hgl;obtain⟨rm,rax⟩:=ok.rax hrs;have h4:chkE k e z2=true:=h4;have pa:PA X [.Constant (.str tx) j zp,z2] _:=jj xH (jj (jey (sB ok.ok.toOk e z2 h4).1) jB (jr h4 _ _));have px:=jdG (np:=np) (cp:=cp) ok.own ⟨F,fn X.prog X.w X.base,rm⟩ g1 hm pa g2 rfl (by rw[jr h4];rfl);intro pins s τ H D I w;obtain⟨σ,O,g,R,w⟩:=w;have hh:X.A.handled=none:=I.ok.hd ok.ok.calm;refine jbK (te:=_) I hh F px ?_;refine⟨σ,O,R.toReps,ja e (λd wd v H1 s1 i1=>⟨rfl,λea h0 h0'=>?_⟩) w⟩;have sm:jd H₀ H1:=g.same.trans s1;have fr0:H₀ ea=none:=sm.free h0
  have ne:∀ {b:Addr} {u:HO},H1 b=ba u->b≠ea:=λ{b u} q z=>by rw[z,h0]at q;cases q
  refine⟨ea,.str tx,v,rfl,jh ..,?_⟩;obtain⟨fo,xn⟩:=wd;have xn:ex ⟨0,x',[d]⟩:=xn;split
  ·next hd =>
   obtain⟨xs,rfl⟩:=fo (by simpa using hd);obtain⟨a,vs,rfl,sq,iv⟩:=jA i1;refine⟨a,vs,rfl,?_,λq dA hq hdA nq=>⟨rfl,ea,ba dA,rfl,jh ..,λs2 I2=>?_⟩⟩
   ·rcases(jc _ _).seq sq with(z|⟨o,z⟩)|z
    ·exact .inl (.inl (by rw[je (ne z)];exact z))
    ·exact .inl (.inr ⟨o,by rw[je (ne z)];exact z⟩)
    ·exact .inr z
   ·have nq':q≠ea:=λz=>by rw[z,jh]at hq;cases hq
    have nd':dA≠ea:=λz=>by rw[z,jh]at hdA;cases hdA
    have hq0:H1 q=none:=by rw[je nq']at hq;exact hq
    have hd0:H1 dA=none:=by rw[je nd']at hdA;exact hdA
    have sd:jd H1 (del (upd (upd (upd (upd H1 ea (xo ea Ca bc)) q (.lst vs)) dA (.xd [(yT x',.ref q)])) ea (xo ea Ca (ba dA))) ea):=λb o z=>by
     have n1:=ne z
     have n2:b≠q:=λy=>by rw[y,hq0]at z;cases z
     have n3:b≠dA:=λy=>by rw[y,hd0]at z;cases z
     rw[kT n1,je n1,je n3,je n2,je n1];exact z
    have at1:del (upd (upd (upd (upd H1 ea (xo ea Ca bc)) q (.lst vs)) dA (.xd [(yT x',.ref q)])) ea (xo ea Ca (ba dA))) ea dA=ba (.xd [(yT x',.ref q)]):=by rw[kT nd',je nd',jh]
    have at2:del (upd (upd (upd (upd H1 ea (xo ea Ca bc)) q (.lst vs)) dA (.xd [(yT x',.ref q)])) ea (xo ea Ca (ba dA))) ea q=ba (.lst vs):=by rw[kT nq',je nq',je nq,jh]
    refine rax ⟨0,x',[.lst xs]⟩ Ca xn hm pins τ _ s2 ea (ba dA) I2 (jh ..) fr0 h0' (sm.trans sd) λd hd=>?_
    rw[dr.mp hd]
    have nO:q ∉ O₀:=λz=>(R.mono s1).own q (g.sub q z) hq0
    refine⟨dA,.ref q,rfl,at1,ke (SqL.of ?_) (Iss.mono ((jM g.sub).trans (jb sd)) xs iv)⟩;rw[jw nO];exact at2
  ·next hd =>
   intro dA hdA
   have nd':dA≠ea:=λz=>by rw[z,jh]at hdA;cases hdA
   have hd0:H1 dA=none:=by rw[je nd']at hdA;exact hdA
   have sd:jd H1 (del (upd (upd (upd H1 ea (xo ea Ca bc)) dA (.xd [(yT x',v)])) ea (xo ea Ca (ba dA))) ea):=λb o z=>by
    have n1:=ne z
    have n3:b≠dA:=λy=>by rw[y,hd0]at z;cases z
    rw[kT n1,je n1,je n3,je n1];exact z
   have at1:del (upd (upd (upd H1 ea (xo ea Ca bc)) dA (.xd [(yT x',v)])) ea (xo ea Ca (ba dA))) ea dA=ba (.xd [(yT x',v)]):=by rw[kT nd',je nd',jh]
   refine⟨rfl,ea,ba dA,rfl,jh ..,λs2 I2=>?_⟩
   refine rax ⟨0,x',[d]⟩ Ca xn hm pins τ _ s2 ea (ba dA) I2 (jh ..) fr0 h0' (sm.trans sd) λd' hd=>?_
   rw[dr.mp hd]
   exact⟨dA,v,rfl,at1,Is.mono ((jM g.sub).trans (jb sd)) d i1⟩
 |X,k,ex,ok,.setX i fs f es,st,h=>by
  exists Z.anAsg,h,ts,v,pos
  exists Z.anSole,h,t
  exists Z.anName,h,x,p
  rw[bz]at h;obtain⟨h1,h2,h3,h4⟩:=ok.ok.toOk.vis h.1
  have hsw:mm v (ba (.Name x p)) pos.line X.env=pure false:=by
   obtain⟨c,hc⟩:=jaA h.2;obtain⟨q,rfl⟩:=yk hc;rfl
  refine PS.imp (λD τ H w=>?_) (x9 (X:=X) ok.ok.nd h1 h2 (sN ok f es fs v h.2) hsw (.inl (ok.ok.fn _)));obtain⟨σ,O,g,R,w⟩:=w
  exact⟨σ,O,g.same,g.sub,R.toReps,xR fs (λd wd v H1 s1 i1=>wd _ H1 O (g.mono s1) (jb s1) ((R.mono s1).set i1)) (λ_ q=>q) w⟩
 |X,k,ex,ok,.nop,st,h=>zff h
 |X,k,ex,ok,.seq a b,st,h=>zff h
 |X,k,ex,ok,.shr i,st,h=>zff h
 |X,k,ex,ok,.set i e,st,h=>by exact kX (sS ok.ok _ st h)
 |X,k,ex,ok,.unp i e,st,h=>by exact kX (sS ok.ok _ st h)
 |X,k,ex,ok,.ret e,st,h=>by exact kX (sS ok.ok _ st h)
 |X,k,ex,ok,.whl c b,st,h=>by exact kX (sS ok.ok _ st h)
 |X,k,ex,ok,.forR i e b,st,h=>by exact kX (sS ok.ok _ st h)
 |X,k,ex,ok,.forE i e b,st,h=>by exact kX (sS ok.ok _ st h)
 |X,k,ex,ok,.brk,st,h=>by exact kX (sS ok.ok _ st h)
 |X,k,ex,ok,.cnt,st,h=>by exact kX (sS ok.ok _ st h)
 |X,k,ex,ok,.never,st,h=>by exact kX (sS ok.ok _ st h)
 |X,k,ex,ok,.new i,st,h=>by exact kX (sS ok.ok _ st h)
 |X,k,ex,ok,.app i e,st,h=>by exact kX (sS ok.ok _ st h)
 |X,k,ex,ok,.ext i e,st,h=>by exact kX (sS ok.ok _ st h)
 |X,k,ex,ok,.forN i e b,st,h=>by exact kX (sS ok.ok _ st h)
 |X,k,ex,ok,.forU i j m e,st,h=>by exact kX (sS ok.ok _ st h)
theorem sXB:∀ {X:Cx} {k:Ck} {ex:XD->Prop} (ok:OkX X k C O₀ H₀ ex) (s:Sm) (st:List d9),zt k s st=bh->PSs X st (tS X.K C O₀ H₀ ex s)
 |X,k,ex,ok,.nop,st,h=>by
  have e:st=[]:=by rw[zt]at h;simpa using h
  subst e;refine PSs.imp (λD τ H w=>?_) jF;obtain⟨σ,O,g,R,w⟩:=w
  exact w τ H O g (jd.refl _) R
 |X,k,ex,ok,.seq a b,st,h=>by
  by_cases hs:z9 a=bh
  ·rw[zt,if_pos hs]at h;exact PSs.imp (λD τ H w=>Va hs w) (sXB ok b st h)
  rw[zt,if_neg hs]at h
  cases st with
  |nil=>simp at h
  |cons s r =>
   simp only[bz,pF,nG]at h;refine PSs.imp (λD τ H w=>?_) (jl (sX ok a s h.1.2) (sXB ok b r h.2));obtain⟨σ,O,g,R,w⟩:=w;refine⟨σ,O,g,R,js a ?_ w⟩
   exact⟨λσ' q τ' H' O' g' s' r'=>⟨σ',O',g',r',js b (qE s') q⟩,λ_ q=>q,λ_ q=>q,λ_ q=>q,λ_ q=>q,λ_ q=>q,λ_ q=>q⟩
 |X,k,ex,ok,.set _ _,_,h=>zff h
 |X,k,ex,ok,.unp _ _,_,h=>zff h
 |X,k,ex,ok,.ret _,_,h=>zff h
 |X,k,ex,ok,.ite _ _ _,_,h=>zff h
 |X,k,ex,ok,.whl _ _,_,h=>zff h
 |X,k,ex,ok,.forR _ _ _,_,h=>zff h
 |X,k,ex,ok,.forE _ _ _,_,h=>zff h
 |X,k,ex,ok,.brk,_,h=>zff h
 |X,k,ex,ok,.cnt,_,h=>zff h
 |X,k,ex,ok,.never,_,h=>zff h
 |X,k,ex,ok,.new _,_,h=>zff h
 |X,k,ex,ok,.app _ _,_,h=>zff h
 |X,k,ex,ok,.ext _ _,_,h=>zff h
 |X,k,ex,ok,.shr _,_,h=>zff h
 |X,k,ex,ok,.forN _ _ _,_,h=>zff h
 |X,k,ex,ok,.forU _ _ _ _,_,h=>zff h
 |X,k,ex,ok,.raise _,_,h=>zff h
 |X,k,ex,ok,.retX _ _ _,_,h=>zff h
 |X,k,ex,ok,.raiseA _ _,_,h=>zff h
 |X,k,ex,ok,.setX _ _ _ _,_,h=>zff h
end
end
end Z
namespace Z
open PySem PySem.Spec PyProof.Rows L2
structure FnI where
 x:bF
 st:d9
 N:List bF
 ps:List bF
 b:Sm
 c:Ctr
 fr:Bool:=bj
 rz:Bool:=bj
 cls:List bF:=[]
 al:Bool:=bh
 g:Bool:=bj
def FnI.Keep(i:FnI)(C:Cfg):Prop:=if i.rz=bh then if i.fr=bh then jeV C i.N.length i.b i.c else i.fr=bj/\(if i.g=bh then jeO C i.N.length i.b i.c else jac C i.N.length i.b i.c) else if i.fr=bh then jdB C i.N.length i.b i.c else if i.g=bh then je4 C i.N.length i.b i.c else QI C i.N.length i.b i.c
def FnI.ck(i:FnI)(L:List FnI)(cns:List bF):Ck:={ N:=i.N,names:=(jg i.st).names,fns:=L.map λj=>(j.x,j.ps.length),cns:=cns,cls:=i.cls,rz:=i.rz,rs:=i.rz,al:=i.al }
def jV(i:FnI):Bool :=
 decide ((jg i.st).kind=.function) && !(jg i.st).isCoroutine && !(jg i.st).isGenerator&&decide i.N.Nodup&&decide (i.N.take i.ps.length=i.ps) &&
  i.ps.all (λx=>decide ((jg i.st).names.lookup x=ba .local) ||decide ((jg i.st).names.lookup x=ba .cell))&&(jg i.st).names.all λy=>decide (y.2 ≠ .free)
variable{i:FnI}
theorem xh(h:jV i=bh):FnScope i.N i.ps (jg i.st):=by
 unfold jV at h;simp only[bz,decide_eq_true_eq,gS,dC,gX]at h;obtain⟨⟨⟨⟨⟨⟨h1,h2⟩,h3⟩,h4⟩,h5⟩,h6⟩,h7⟩:=h;exact⟨h1,h2,h3,h4,h5,h6,h7⟩
def vV(i:FnI)(L:List FnI)(cns:List bF):Bool:=jV i&&if i.rz=bh then zt (i.ck L cns) i.b (jm i.st) else yi (i.ck L cns) i.b (jm i.st)
def Kz(L:List FnI)(cns:List bF):Bool:=(gq L.length).all λn=>match L[n]? with
 |some i=>vV i (L.take n) cns
 |none=>bh
variable{n:Nat}
theorem je0{L:List FnI}{cns:List bF}(h:Kz L cns=bh)(e:L[n]?=ba i):vV i (L.take n) cns=true:=by
 unfold Kz at h;rw[dC]at h
 have hn:n<L.length:=by
  rcases gL n L.length with z|z
  ·exact z
  ·rw[bZ z]at e;cases e
 have:=h n (p8.mpr hn);rw[e]at this;exact this
structure FnAt (K:bx) (mg:bF->Option bq) (i:FnI) (f:Addr) (fd:gV):Prop where
 fn:Fun K i.x i.x i.st f fd
 mg:mg i.x=ba (.ref f)
 bd:∀us:List bq,us.length=i.ps.length->jiq fd ⟨us,[]⟩=pure (i.ps.zip us)
def x6(K:bx)(mg:bF->Option bq)(i:FnI):Prop:=∃f fd,FnAt K mg i f fd
section
variable {α:Type} {P:List α->Prop}
theorem len0(k:P []):∀us,us.length=0->P us
 |[],_=>k
theorem len1(k:∀a,P [a]):∀us,us.length=1->P us
 |[a],_=>k a
theorem len2(k:∀a b,P [a,b]):∀us,us.length=2->P us
 |[a,b],_=>k a b
theorem len3(k:∀a b c,P [a,b,c]):∀us,us.length=3->P us
 |[a,b,c],_=>k a b c
theorem len4(k:∀a b c d,P [a,b,c,d]):∀us,us.length=4->P us
 |[a,b,c,d],_=>k a b c d
end
variable{K:bx}{h:dR}{mg:bF->Option bq}{f:Addr}{od an:Option Addr}{sl:Array (Option bq)}{oc pm:bq}
theorem fact_mk{kV dc cd ct:bq}(X:K.In h)(G:h.Ns dh mg)
 (b:∀(kV doc pm:bq) (an:Option Addr) (cdv ct:bq) (us:List bq),us.length=i.ps.length->jiq (ni i.x i.x (qo i.st) (jm i.st) (jg i.st) .none kV doc pm an cdv ct) ⟨us,[]⟩=pure (i.ps.zip us))
 (a:gc K dh i.x=ba (ba (.ref f))) (l:K.lookup f=ba ⟨oc,od,.func (ni i.x i.x (qo i.st) (jm i.st) (jg i.st) .none kV dc pm an cd ct),sl⟩) (c:sj K cd i.x=bh) (k:me K (.ref f)=bh):x6 K mg i :=
 ⟨f,_,jeJ l c k,nB X G a,λus h=>b kV dc pm an cd ct us h⟩
variable{H:Hp}{N:List bF}{x:bF}{fd:gV}
section
variable {P:dg} {w:World} {K:bx} {mg:bF->Option bq} {base:dR} {C:Cfg} {cns:List bF}
theorem uh:∀(ds:List D) (j m:Nat) (rs:List (List D)),ji (jS m ds) j≠ba (.ot rs):=by
 intro ds j m rs;unfold jS;generalize m-ds.length=r
 induction ds generalizing j with
 |nil =>
  have:∀(m j:Nat),ji (bE m bc) j=none:=by
   intro m
   induction m with
   |zero=>intro j;rfl
   |succ m ih=>intro j;cases j with|zero=>rfl|succ j=>exact ih j
  simp only[gK,gJ]
  rw[this];exact λz=>nomatch z
 |cons e es ih =>
  cases j with
  |zero=>simp only[b5,dw,ji];exact λz=>nomatch z
  |succ j=>simp only[b5,dw,ji];exact ih j
theorem zc{O:List Addr}{ds:List D}{vs:List V}(hn:N.length=n)(ho:∀a∈O,H a≠bc)(i:Iss K (minus H O) ds vs):Reps K O H (jS n ds) (L2.start N vs) where
 len:=by
  unfold jS L2.start;rw[dS,dS,bW,bW,sG,sG,i.length,hn]
 own:=ho
 sh:=λj d g=>by
  have aux:∀(ds:List D) (vs:List V) (j:Nat) (d:D) (m m':Nat),Iss K (minus H O) ds vs->ji (ds.map (λd=>ba (Sl.sh d))++bE m bc) j=ba (.sh d)->∃v,(vs.map ba++bE m' bc)[j]?=ba (ba v)/\Is K (minus H O) d v:=by
   intro ds
   induction ds with
   |nil =>
    intro vs j d m m' i g
    have:∀(m j:Nat),ji (bE m bc) j=none:=by
     intro m
     induction m with
     |zero=>intro j;rfl
     |succ m ih=>intro j;cases j with|zero=>rfl|succ j=>exact ih j
    simp only[gK,gJ]at g
    rw[this]at g;cases g
   |cons e es ih =>
    intro vs j d m m' i g;unfold Iss at i;obtain⟨v,r,rfl,i1,i2⟩:=i
    cases j with
    |zero =>
     simp only[b5,dw,ji]at g;cases g
     exact⟨v,rfl,i1⟩
    |succ j =>
     simp only[b5,dw,ji]at g;obtain⟨u,e1,e2⟩:=ih r j d m m' i2 g;exact⟨u,by simpa using e1,e2⟩
  exact aux ds vs j d _ _ i g
 ow:=λj es g=>by
  exfalso
  have aux:∀(ds:List D) (j:Nat) (m:Nat),ji (ds.map (λd=>ba (Sl.sh d))++bE m bc) j≠ba (.ow es):=by
   intro ds
   induction ds with
   |nil =>
    intro j m
    have:∀(m j:Nat),ji (bE m bc) j=none:=by
     intro m
     induction m with
     |zero=>intro j;rfl
     |succ m ih=>intro j;cases j with|zero=>rfl|succ j=>exact ih j
    simp only[gK,gJ]
    rw[this];exact λz=>nomatch z
   |cons e es ih =>
    intro j m
    cases j with
    |zero=>simp only[b5,dw,ji];exact λz=>nomatch z
    |succ j=>simp only[b5,dw,ji];exact ih j m
  exact aux ds j _ g
 dj:=λj l es fs hjl g1 g2=>by
  exfalso
  have aux:∀(ds:List D) (j:Nat) (m:Nat),ji (ds.map (λd=>ba (Sl.sh d))++bE m bc) j≠ba (.ow es):=by
   intro ds
   induction ds with
   |nil =>
    intro j m
    have:∀(m j:Nat),ji (bE m bc) j=none:=by
     intro m
     induction m with
     |zero=>intro j;rfl
     |succ m ih=>intro j;cases j with|zero=>rfl|succ j=>exact ih j
    simp only[gK,gJ]
    rw[this];exact λz=>nomatch z
   |cons e es ih =>
    intro j m
    cases j with
    |zero=>simp only[b5,dw,ji];exact λz=>nomatch z
    |succ j=>simp only[b5,dw,ji];exact ih j m
  exact aux ds j _ g1
 tt:=⟨λj rows g=>absurd g (uh ds j _ rows),λj l rs qs g1 _=>absurd g1 (uh ds j _ rs)⟩
theorem jaD:∀(ds:List D) (j m:Nat) (es:List D),ji (jS m ds) j≠ba (.ow es):=by
 intro ds j m es;unfold jS;generalize m-ds.length=r
 induction ds generalizing j with
 |nil =>
  have:∀(m j:Nat),ji (bE m bc) j=none:=by
   intro m
   induction m with
   |zero=>intro j;rfl
   |succ m ih=>intro j;cases j with|zero=>rfl|succ j=>exact ih j
  simp only[gK,gJ]
  rw[this];exact λz=>nomatch z
 |cons e es ih =>
  cases j with
  |zero=>simp only[b5,dw,ji];exact λz=>nomatch z
  |succ j=>simp only[b5,dw,ji];exact ih j
theorem vc{CX:CXT}{qual:bF}{st:d9}{ps:List bF}{k:Nat}{sp:Sp}(F:Fun K x qual st f fd)(S:FnScope N ps (jg st))(len:∀vs H Q E,sp vs H Q E->vs.length=ps.length)
 (hb:∀(cdv:bq) (A:gz) (outer:List tR) (s:Shared) (H:Hp) (vs:List V) (Q:VK) (E:XK),Room k (A.deeper (envOfC qual (jg st) s.heap.objs.size f cdv))->sp vs H Q E ->
  ∃t,PSs (qN CX P w K mg base N qual (jg st) f cdv A outer s H E) (jm st) t/\t { nx:=λ_ H'=>Q .non H',rt:=Q } (L2.start N vs) H):FnOk P w K mg base CX (k+1) f fd ps sp:=by
 obtain⟨oc,od,kV,doc,pm,an,cdv,ct,osl,rfl,lk,hcd⟩:=F.ex
 exact jc3 lk hcd S len λA outer s H vs Q E hr hsp=>hb cdv A outer s H vs Q E hr hsp
structure ExcOk (K:bx) (mg:bF->Option bq) (cls:List bF) (b:Bool):Prop where
 al:b=bj
 exc:∀x∈cls,∃Ca,mg x=ba (.ref Ca)/\ClsOk K mg x Ca b
theorem zS{L:List FnI}{lv:Nat}(h2:2<=lv)(F:FnAt K mg i f fd)(hc:vV i L cns=bh)(hk:i.Keep C)
 (fns:∀n j,L[n]?=ba j->∃f fd,FnOk P w K mg base (CXz P w mg) lv f fd j.ps (spD K j.ps.length (C.fr n) (C.f2 n) (C.ct n))/\FnAt K mg j f fd)
 (hcn:∀n x,cns[n]?=ba x->∃u v,mg x=ba u/\jH v u/\∀S,Is K S (C.cn n) v) (hb:∀x∈blts,mg x=bc) (hE:∀x,¬ C.E x) (hz:i.rz=bh->ExcOk K mg i.cls i.al) :
 FnOk P w K mg base (CXz P w mg) (lv+1) f fd i.ps (spD K i.ps.length i.fr i.g i.c):=by
 unfold vV at hc;rw[bz]at hc;have S:=xh hc.1;refine vc F.fn S (λvs H Q E h=>?_) (λcdv A outer s H vs Q E hr h=>?_)
 ·obtain⟨O,ds,hl,_,is,_⟩:=h;rw[is.length,hl]
 obtain⟨O,ds,hl,ho,is,hp,hq,hx⟩:=h
 have hun:(A.deeper (envOfC i.x (jg i.st) s.heap.objs.size f cdv)).units+100<cLine:=by have:=hr.un;lia
 have hdp:=hr.dp
 have hcalm:A.handled.isNone=true:=by
  have e:A.handled=none:=hr.hd h2;rw[e];rfl
 have ok:OkS (qN (CXz P w mg) P w K mg base i.N i.x (jg i.st) f cdv A outer s H E).nox (i.ck L cns) C:=by
  refine⟨⟨rfl,S.nd,rfl,S.kind,hcalm,rfl,hun,?_,hcn,hb,hE⟩,λ_=>rfl⟩;intro n x m e;have e':(L.map λj=>(j.x,j.ps.length))[n]?=ba (x,m):=e;rw[dQ]at e'
  cases q:L[n]? with
  |none=>rw[q]at e';cases e'
  |some j =>
   rw[q]at e';cases e';obtain⟨f',fd',F',A'⟩:=fns n j q;exact⟨f',fd',j.ps,lv,F',hr,A'.mg,A'.fn.kp,.all A'.bd⟩
 have st:=zc (K:=K) (N:=i.N) rfl ho is
 have mine:∀j es a,ji (jS i.N.length ds) j=ba (.ow es)->(L2.start i.N vs)[j]?=ba (ba (.ref a))->a ∉ O:=λj es a g=>(jaD ds j _ es g).elim
 have mineT:MT O H (jS i.N.length ds) (L2.start i.N vs):=λj rs a as g=>(uh ds j _ rs g).elim
 unfold FnI.Keep at hk;by_cases hrz:i.rz=bh
 ·rw[if_pos hrz]at hk;rw[if_pos hrz]at hc;have eo:=hz hrz
  have own:Own (qN (CXz P w mg) P w K mg base i.N i.x (jg i.st) f cdv A outer s H E):=⟨rfl,rfl,rfl⟩
  have okx:OkX (qN (CXz P w mg) P w K mg base i.N i.x (jg i.st) f cdv A outer s H E) (i.ck L cns) C O H (i.c.exn ds):=by
   refine⟨ok,own,ho,?_,?_,λ_=>⟨hr.mono h2,?_⟩,eo.exc,λq=>absurd (eo.al.symm.trans q) df⟩
   ·intro y Ca hex hm pins σ H' s' H1 da e s2 I sm fd T
    exact Kf I own sm T λs3 T3=>⟨y.t,Ca,H1,da,hx y hex H1 da sm fd,hm,T3⟩
   ·intro _ x Ca hex hm pins σ H' s' h1 e args I sm M
    exact uG I own sm M λs3 T3=>⟨x,Ca,H',bc,hx ⟨0,x,[]⟩ hex H' bc sm (λd hd=>nomatch hd),hm,T3⟩
   ·intro y Ca hex hm pins σ H' s' e da I he h0 h0' sm fd;obtain⟨⟨t0,he1⟩,_⟩:=I.hok e _ he
    exact vD (Zl I he h0) own sm he1 rfl rfl rfl rfl rfl rfl vT h0' λs3 T3=>⟨y.t,Ca,_,da,hx y hex _ da sm fd,hm,T3⟩
  by_cases hfr:i.fr=bh
  ·rw[if_pos hfr]at hk;unfold Rw at hq;simp only[hfr,if_true]at hq;refine⟨_,sXB (O₀:=O) okx i.b _ hc.2,jS i.N.length ds,O,⟨jd.refl _,λ_ z=>z,λ_ z=>.inl z⟩,⟨st,mine,mineT⟩,js i.b ?_ (hk ds hp)⟩;exact⟨λ_ z=>z.elim,λ_ z=>z.elim,λ_ z=>z.elim,λ_ z=>z.elim,λxs q a H' us s' h0 hl' is'=>hq _ q xs a H' us rfl s' h0 hl' is',λ_ z=>z,λ_ z=>z.elim⟩
  rw[if_neg hfr]at hk;obtain⟨hf,hk⟩:=hk;unfold Rw at hq;simp only[hf,du,if_false]at hq;by_cases hg:i.g=bh
  ·rw[if_pos hg]at hk;simp only[hg,if_true]at hq;refine⟨_,sXB (O₀:=O) okx i.b _ hc.2,jS i.N.length ds,O,⟨jd.refl _,λ_ z=>z,λ_ z=>.inl z⟩,⟨st,mine,mineT⟩,js i.b ?_ (hk ds hp)⟩;exact⟨λ_ z=>z.elim,λd q v H' s' i'=>(hq d q.2).2 q.1 v H' s' i',λ_ z=>z.elim,λ_ z=>z.elim,λ_ z=>z.elim,λ_ z=>z,λrows q a as H' s' h0 t=>(hq _ q).1 rows a as H' rfl s' h0 t⟩
  rw[if_neg hg]at hk;simp only[hg,du,if_false]at hq;refine⟨_,sXB (O₀:=O) okx i.b _ hc.2,jS i.N.length ds,O,⟨jd.refl _,λ_ z=>z,λ_ z=>.inl z⟩,⟨st,mine,mineT⟩,js i.b ?_ (hk ds hp)⟩;exact⟨λσ' q τ' H' O' g' s' r'=>hq _ q _ _ g'.same Jh,λd q v H' s' i'=>hq d q v H' s' i',λ_ z=>z.elim,λ_ z=>z.elim,λ_ z=>z.elim,λ_ z=>z,λ_ z=>z.elim⟩
 rw[if_neg hrz]at hk;rw[if_neg hrz]at hc;refine⟨tS K C O H (λ_=>False) i.b,PSs.nox (sK ok i.b _ hc.2),?_⟩;unfold Rw at hq;by_cases hf:i.fr=bh
 ·rw[if_pos hf]at hk;simp only[hf,if_true]at hq;refine⟨jS i.N.length ds,O,⟨jd.refl _,λ_ z=>z,λ_ z=>.inl z⟩,⟨st,mine,mineT⟩,js i.b ?_ (hk ds hp)⟩;exact⟨λ_ z=>z.elim,λ_ z=>z.elim,λ_ z=>z.elim,λ_ z=>z.elim,λxs q a H' us s' h0 hl' is'=>hq _ q xs a H' us rfl s' h0 hl' is',λ_ z=>z,λ_ z=>z.elim⟩
 rw[if_neg hf]at hk;by_cases hg:i.g=bh
 ·rw[if_pos hg]at hk;simp only[hf,hg,du,if_false,if_true]at hq;refine⟨jS i.N.length ds,O,⟨jd.refl _,λ_ z=>z,λ_ z=>.inl z⟩,⟨st,mine,mineT⟩,js i.b ?_ (hk ds hp)⟩;exact⟨λ_ z=>z.elim,λ_ z=>z.elim,λ_ z=>z.elim,λ_ z=>z.elim,λ_ z=>z.elim,λ_ z=>z,λrows q a as H' s' h0 t=>(hq _ q).1 rows a as H' rfl s' h0 t⟩
 ·rw[if_neg hg]at hk;simp only[hf,hg,du,if_false]at hq;refine⟨jS i.N.length ds,O,⟨jd.refl _,λ_ z=>z,λ_ z=>.inl z⟩,⟨st,mine,mineT⟩,js i.b ?_ (hk ds hp)⟩;exact⟨λσ' q τ' H' O' g' s' r'=>hq _ q _ _ g'.same Jh,λd q v H' s' i'=>hq d q v H' s' i',λ_ z=>z.elim,λ_ z=>z.elim,λ_ z=>z.elim,λ_ z=>z,λ_ z=>z.elim⟩
theorem UH{L:List FnI}(F:∀i∈L,x6 K mg i)(hc:Kz L cns=bh)(hk:∀i∈L,i.Keep C)(ct:∀n i,L[n]?=ba i->C.ct n=i.c/\C.fr n=i.fr/\C.f2 n=i.g)
 (hcn:∀n x,cns[n]?=ba x->∃u v,mg x=ba u/\jH v u/\∀S,Is K S (C.cn n) v) (hb:∀x∈blts,mg x=bc) (hE:∀x,¬ C.E x) (hz:∀i∈L,i.rz=bh->ExcOk K mg i.cls i.al) :
 ∀(n:Nat) (i:FnI) (f:Addr) (fd:gV),L[n]?=ba i->FnAt K mg i f fd->FnOk P w K mg base (CXz P w mg) (n+3) f fd i.ps (spD K i.ps.length i.fr i.g i.c):=by
 intro n
 induction n using Nat.strongRecOn with
 |ind n ih =>
  intro i f fd e A;refine zS (L:=L.take n) (lv:=n+2) (by lia) A (je0 hc e) (hk i (gv e)) (λm j q=>?_) hcn hb hE (hz i (gv e))
  have hm:m<n:=by
   rcases gL m n with z|z
   ·exact z
   ·rw[bZ (by rw[pz];lia)]at q;cases q
  rw[nA hm]at q;obtain⟨f',fd',A'⟩:=F j (gv q);rw[(ct m j q).1,(ct m j q).2.1,(ct m j q).2.2];exact⟨f',fd',(ih m hm j f' fd' q A').mono (by lia),A'⟩
end
theorem exc_okR{cls:List bF}(_:K.In h)(ex:∀x∈cls,∃Ca,mg x=ba (.ref Ca)/\ClsOk K mg x Ca bj):ExcOk K mg cls false:=⟨rfl,ex⟩
theorem exc_mk{b:Bool}(X:K.In h)(G:h.Ns dh mg){D:Addr}(a:gc K dh x=ba (ba (.ref D)))(q:PySem.W.excIn K D bmV JB=bh)(hf:XU x=bj)(al:b=bh->AloneF K mg x D):∃Ca,mg x=ba (.ref Ca)/\ClsOk K mg x Ca b :=
 ⟨D,nB X G a,jbv q,λ_=>q,(λz=>by rw[hf]at z;cases z),al⟩
theorem jfY:mf (.type "ValueError") "at"=pure none:=by kernel_rfl
theorem jgs:mf (.type "ValueError") "weights"=pure none:=by kernel_rfl
theorem jgr(x:bF):mf (.type "ValueError") (yT x)=pure none:=by
 unfold yT;split
 ·exact jgs
 ·exact jfY
@[inline] def clsDef:d9->d9
  |.ClassDef _ _ _ b ..=>b.getD 0 (.Pass ⟨0,0,0,0⟩)
  |s=>s
def XC(e:pY):Bool:=match e.key with
 |.str ..=>bh
 |_=>bj
variable{N:Addr}
theorem YZ{c:bq}{d:Option Addr}{es:Array pY}{ep:Nat}(l:K.lookup N=ba ⟨c,d,.dict es ep,sl⟩)(a:es.toList.all XC=bh):jjB K N=true:=by
 unfold jjB;rw[l];simp only;rw[<- jg0];exact a
def jdh(x:bF)(i:FnI):Bool:=jV i&&match i.ps with
 |[a,b,p]=>decide (i.N=i.ps)&&decide (a=("self":bF))&&decide (b=("text":bF)) && !(p == ("__debug__":bF)) && !(p == ("__classdict__":bF))&&decide ((jg i.st).names.lookup ("TrueError":bF)=ba .globalImplicit)&&(!(x == ("Dependent":bF)) ||decide ((jg i.st).names.lookup ("list":bF)=ba .globalImplicit))&&Je (yT x) p (x == ("Dependent":bF)) (jm i.st)
 |_=>bj
theorem exc_mkO{bb:Bool}(X:K.In h)(G:h.Ns dh mg){C T:Addr}{nm qn q:bF}{bs:List bq}{sn:List bF}{sub:List bq}{ab:Bool}{col:Option Bool}{dd ddT d1 d2 dD:Option Addr}{k0 k1 k2 k3 k5:Option bq}{cdT:jiP}{slT sl1 sl2 osl slD:Array (Option bq)}{c1 c2 d0 cD kV doc cdv ct:bq}{Td:Addr}{nD:Nat}{es1 es2:Array pY}{ep1 ep2:Nat}
 (hs:jdh x i=bh) (hf:XU x=bh)
 (b:∀(kV doc pm:bq) (an:Option Addr) (cdv ct d0 u1 u2 u3:bq) (Td:Addr),∃k,jiq (ni "__init__" q (qo i.st) (jm i.st) (jg i.st) (.ref Td) kV doc pm an cdv ct) ⟨[u1,u2,u3],[]⟩=sV (.ref Td) >>= k/\k (ba #[d0])=pure (i.ps.zip [u1,u2,u3]))
 (a:gc K dh x=ba (ba (.ref C))) (te:gc K dh "TrueError"=ba (ba (.ref T))) (ml:gc K dh "list"=ba bc)
 (l:K.lookup C=ba (gF nm qn C N bs (.ref T::bmV) bh sn sub ab col dd k0 k1 k2 k3 k5 JB)) (lN:K.lookup N=ba ⟨c1,d1,.dict es1 ep1,sl1⟩) (aN:es1.toList.all XC=bh)
 (lT:K.lookup T=ba ⟨.type "type",ddT,.cls cdT,slT⟩) (lM:K.lookup cdT.ns=ba ⟨c2,d2,.dict es2 ep2,sl2⟩) (aM:es2.toList.all XC=bh)
 (ii:gc K N "__init__"=ba (ba (.ref f))) (n1:gc K N "__getattribute__"=ba bc) (n2:gc K N "__getattr__"=ba bc) (n3:gc K N "__setattr__"=ba bc) (n4:gc K N (yT x)=ba bc)
 (m1:gc K cdT.ns (yT x)=ba bc) (m2:gc K cdT.ns "__setattr__"=ba bc) (m3:gc K cdT.ns "__init__"=ba bc) (m4:gc K cdT.ns "__getattribute__"=ba bc) (m5:gc K cdT.ns "__getattr__"=ba bc) (m6:gc K cdT.ns "args"=ba bc)
 (op:gc K jjA "thirdparty.any"=ba bc) (fi:mP K (.ref T) "__init__"=ba (ba (.builtin "ValueError.__init__"))) (fn:jjW K (.ref f)=bh) (kp:me K (.ref C)=bh)
 (lf:K.lookup f=ba ⟨oc,od,.func (ni "__init__" q (qo i.st) (jm i.st) (jg i.st) (.ref Td) kV doc pm an cdv ct),osl⟩) (lD:K.lookup Td=ba ⟨cD,dD,.seq #[d0] nD,slD⟩) (hcd:sj K cdv q=bh) (al:bb=bh->AloneF K mg x C):∃Ca,mg x=ba (.ref Ca)/\ClsOk K mg x Ca bb:=by
 have F:InitF K mg C T f (yT x):=by
  refine⟨⟨nm,qn,N,bs,sn,sub,ab,col,dd,k0,k1,k2,k3,k5,l,YZ lN aN,ii,λy hy=>?_⟩,⟨ddT,cdT,slT,lT,YZ lM aM,λy hy=>?_⟩,op,fi,nB X G te,fn,kp,jgr x⟩
  ·simp only[bG,bV,or_false]at hy
   rcases hy with rfl|rfl|rfl|rfl<;>assumption
  ·simp only[tf,bG,bV,or_false]at hy
   rcases hy with rfl|rfl|rfl|rfl|rfl|rfl<;>assumption
 unfold jdh at hs;rw[bz]at hs;obtain⟨hsc,hs⟩:=hs;have S:=xh hsc;split at hs
 ·next a' b' p hps =>
  simp only[bz,decide_eq_true_eq,gS,gX]at hs;obtain⟨⟨⟨⟨⟨⟨⟨hN,rfl⟩,rfl⟩,hp1⟩,hp2⟩,hg1⟩,hg2⟩,hb⟩:=hs;rw[hN,hps]at S;rw[hps]at b;refine⟨C,nB X G a,?_,(λz=>by rw[hf]at z;cases z),λ_=>⟨T,f,F,λP w base=>⟨_,p,jcD lf hcd S F ⟨hp1,hp2⟩ hg1 (λz=>?_) (wo X G ml) hb,λs us Xs hl=>?_⟩⟩,al⟩
  ·intro h' X';obtain⟨_,_,_,_,_,_,_,_,_,_,_,_,_,_,_,hh⟩:=F.heap X';exact⟨_,_,_,_,_,_,_,_,_,_,_,_,_,_,_,_,hh.hC,hh.tl⟩
  ·rcases hg2 with q|q
   ·rw[z]at q;cases q
   ·exact q
  ·rw[dv]at hl ⊢;obtain⟨u1,r,rfl⟩:=kZ (xs:=us) (by cases us<;>first|rfl|cases hl);obtain⟨u2,u3,rfl⟩:=qH (xs:=r) (by simpa using hl);obtain⟨k,e1,e2⟩:=b kV doc pm an cdv ct d0 u1 u2 u3 Td;exact BindsTo.of_defaults rfl (Xs _ _ lD) rfl e1 e2
 ·cases hs
variable{i:Int}{t:Tok}
theorem cn_mk(X:K.In h)(G:h.Ns dh mg)(z:gc K dh x=ba (ba (.int i t))):∃u v,mg x=ba u/\jH v u/\∀S,Is K S (.int i) v :=
 ⟨_,.int i,nB X G z,⟨_,rfl⟩,λ_=>ju i⟩
theorem cn_mkS{y:bF}(X:K.In h)(G:h.Ns dh mg)(ok:b9 y=bh)(z:gc K dh x=ba (ba (.str y t))):∃u v,mg x=ba u/\jH v u/\∀S,Is K S (.str y) v :=
 ⟨_,.str y,nB X G z,⟨_,rfl⟩,λ_=>kq ok⟩
variable{a:Addr}
theorem cn_mkT{o:mE}{j:Int}{t':Tok}(X:K.In h)(G:h.Ns dh mg)(z:gc K dh x=ba (ba (.ref a)))(l:K.lookup a=ba o)(c:o.cls=.type "tuple")(e:o.data=.seq #[.int i t,.int j t'] n):∃u v,mg x=ba u/\jH v u/\∀S,Is K S (.tup [.int i,.int j]) v :=
 ⟨_,.ref a,nB X G z,rfl,λS=>zE (.inr ⟨o,_,n,l,c,e,by show 2<=sizeLine;decide,(show jv [V.int i,V.int j] [.int i t,.int j t'] from .cons ⟨_,rfl⟩ (.cons ⟨_,rfl⟩ .nil))⟩) (by unfold Iss;exact⟨_,_,rfl,ju _,by unfold Iss;exact⟨_,_,rfl,ju _,by unfold Iss;rfl⟩⟩)⟩
theorem jd7{ns:List Int}(hl:ns.length<=63)(h:SqL K H a (ns.map V.int)):spD K 1 bj bj yY [.ref a] H (λv _=>v=.bl bh) λ_ _ _=>False:=by
 have is:∀ns:List Int,Iss K (minus H []) (ns.map D.int) (ns.map V.int):=by
  intro ns
  induction ns with
  |nil=>unfold Iss;rfl
  |cons n r ih =>
   simp only[b5];unfold Iss;exact⟨_,_,rfl,ju n,ih⟩
 refine⟨[],[.lst (ns.map .int)],rfl,(λ_ z=>nomatch z),?_,⟨ns,rfl,hl⟩,λd e v H' s i=>?_,λ_ z=>z.elim⟩
 ·unfold Iss;refine⟨_,_,rfl,ke ?_ (is ns),?_⟩
  ·have e:minus H []=H:=by
    funext b;exact jw (by simp)
   rw[e];exact h
  ·unfold Iss;rfl
 ·have e':d=.bl true:=e;subst e';exact k9 i
end Z
namespace Z
open PySem PySem.Spec PySem.Calls PyProof.Rows PySem.W L2
variable{e ea:Addr}{oe:mE}{ws:Array bq}{i:Nat}
section
variable {prog:dg} {w:World} {A:gz} {E:bq->Shared->Prop} {s:Shared}
theorem Jw:entryFor table "proto.unchain"=ba pA.«proto.unchain»:=jiV (by kernel_rfl)
theorem Yw{α:Type}{o:mE}{vs:Array bq}{Q:α->Shared->Prop}(hh:A.handled=ba (.ref ea))(he:s.heap.get? ea=ba oe)(hd:oe.data=.fields ws)(h2:ws[2]?=ba .none)(hx:s.heap.get? e=ba o)(hxd:o.data=.fields vs)(hsz:2<vs.size)(ne:ea≠e)
 (h:E (.ref e) { s with heap:=s.heap.update e (gW (·.setIfInBounds 2 (.ref ea))) }):wpAny (model prog w) A (raiseNew (.ref e):Sem α) Q E s:=by
 unfold raiseNew;refine bo (wpAny_handled ?_);rw[hh]
 have q:((dG ea != dG e)=bh):=by simpa using ne
 dsimp only;rw[if_pos q];refine bo (dN (wpAny_runValue (m7 Jw ?_)));unfold pA.«proto.unchain»;refine bo (dJ he hd h2 ?_);rw[if_pos (by decide)];refine bo (bA ?_);refine bA ?_;refine bo ?_;have:=nH (M:=model prog w) (A:=A) (E:=E) (Q:=λ_ s'=>wpAny (model prog w) A (throw (dG e):Sem α) Q E s') (x:=.ref ea) hx hxd hsz (wpAny_throw h);simpa only[pJ]using this
theorem Z0{it l:Addr}{items:Array bq}{Q:Option bq->Shared->Prop}(hh:A.handled=ba (.ref ea))(he:s.heap.get? ea=ba oe)(hde:oe.data=.fields ws)(h2:ws[2]?=ba .none)(ne:ea≠it)
 (hit:s.heap.IsListIter it l i) (hl:s.heap.IsList l items) (hx:items[i]?=bc) (hQ:∀h',jkm it s.heap h'->Q bc { s with heap:=h' }):wpAny (model prog w) A (pyNext (.ref it)) Q E s:=by
 obtain⟨o,ho,hc,hd⟩:=id hit;obtain⟨ol,hol,_,nl,hdl⟩:=hl;unfold pyNext;refine bo (pK (mC (name:=nK "__next__") hit.typeIs wQ (mn wQ hit.typeIs PySem.entry_listiter_next ?_ (PySem.args_listiter_next _))));show wpAny (model prog w) A.in1 (field (.ref it) 0 >>= _) _ _ s;refine bo (dJ ho hd (x:=.ref l) rfl ?_);have n0:¬ ((dG l == gG)=bh):=df;show wpAny (model prog w) A.in1 (if (dG l == gG)=bh then _ else _) _ _ s;rw[if_neg n0];show wpAny (model prog w) A.in1 (field (.ref it) 1 >>= _) _ _ s;refine bo (dJ ho hd (x:=.int i 0) rfl ?_);show wpAny (model prog w) A.in1 (sV (.ref l) >>= _) _ _ s;refine bo (gE hol hdl ?_);simp only[Int.toNat_natCast,hx];refine bo (jic (bo (nH ho hd (by simp) (?_))));show wpAny (model prog w) A.in1 (newExc (.type "StopIteration") [] >>= _) _ _ _;refine bo ?_;simp only[newExc,newTuple];refine bo (nk ?_ (by size_fits));refine bo (m:=firstArgMember _ _) (nv (a:=gG) (by first|rfl|(simp only[firstArgMember];rfl)) (nk ?_ (by size_fits)));generalize hG:((s.heap.update it (gW (·.setIfInBounds 0 gG))).push { cls:=.type "tuple",dict:=bc,data:=.seq ([]:List bq).toArray })=G
 have eb:jkm it s.heap G:=by rw[<- hG];exact(jhV ..).extBut.push _
 dsimp only;generalize hB:({ cls:=pR "StopIteration",data:=jkk _ }:mE)=ob
 have hob:ob.cls=.type "StopIteration" /\ ∃us:Array bq,ob.data=.fields us/\2<us.size:=by rw[<- hB];exact⟨rfl,_,rfl,by simp;lia⟩
 obtain⟨c1,us,d1,z1⟩:=hob;have heG:G.get? ea=ba oe:=eb ea oe ne he;have hx1:(G.push ob).get? G.objs.size=ba ob:=bM _ (mW d1);have nx:ea≠G.objs.size:=dB (bH heG);refine Yw (s:={ s with heap:=G.push ob }) (A:=A.in1) hh (bu _ heG) hde h2 hx1 d1 z1 nx ?_;have d3:=pV d1 (·.setIfInBounds 2 (dG ea));refine bo (w5 (T:="StopIteration") (b:=bh) ⟨_,gj _ hx1 (mW d3),by rw[jiA];exact c1⟩ PySem.isSubtype_stop ?_);rw[if_pos rfl];refine bA (hQ _ λb o hb q=>?_);have q2:=eb b o hb q;rw[b8 _ _ (nh (bH q2))];exact bu _ q2
end
def Hnd(X:Cx):Prop:=∃ea oe u ws,X.A.handled=ba (.ref ea)/\X.H₀ ea=ba (.frz oe u)/\oe.data=.fields ws/\ws[2]?=ba .none
variable{tg:bU}
theorem jfW{X:Cx}(hd:Hnd X)(a it:Addr):TurnC X tg (Itl X.K a) [it] it (λi h=>h.IsListIter it a i) where
 obj:=(xQ (P:=X.prog) (w:=X.w) (K:=X.K) (tg:=tg) a it).obj
 keep:=(xQ (P:=X.prog) (w:=X.w) (K:=X.K) (tg:=tg) a it).keep
 self:=(xQ (P:=X.prog) (w:=X.w) (K:=X.K) (tg:=tg) a it).self
 item:=by
  intro Y e1 e2 e3 e4 e5 _ i pins s σ H E I hf st hg;rw[<- e3]at hg ⊢;obtain⟨xs,x,hq,hx⟩:=hg;obtain⟨its,rv,p,hz⟩:=I.list hq;obtain⟨u,hu,ru⟩:=rv.get hx;obtain⟨f0,f1,f2,f3,f4,f5⟩:=hf it (dr.mpr rfl)
  refine sf st p.isList (x:=u) (by simpa using hu) λh' st' sb=>?_
  have J:Inv Y pins σ H { s with heap:=h' }:=I.turned (t':=s.toks) (λb o hb e=>(sb.2 b hb).trans e) f0 f1 f3 f4 f5;obtain⟨o,e,c,d⟩:=id st';exact⟨u,rfl,Xi (s:={ s with heap:=h' }) e c d (by decide) ⟨x,H,J,ru,⟨rfl,λys hy=>by rw[I.list_inj hy hq];exact hx⟩,st',λb hb=>(hf b hb).1⟩⟩
 done:=by
  intro Y e1 e2 e3 e4 e5 fz i pins s σ H E I hf st hg;rw[<- e3]at hg;obtain⟨xs,hq,hx⟩:=hg;obtain⟨its,rv,p,hz⟩:=I.list hq;obtain⟨f0,f1,f2,f3,f4,f5⟩:=hf it (dr.mpr rfl);obtain⟨ea,oe,u,ws,hh,h1,h2,h3⟩:=hd;have hH:H ea=ba (.frz oe u):=I.base.frzs _ _ _ (fz _ _ _ h1);have hl:=rv.length
  refine Z0 (by rw[e4];exact hh) (I.hok ea _ hH).1 h2 h3 (λz=>by rw[z,f0]at hH;cases hH) st p.isList (by simp;lia) λh' eb=>⟨rfl,I.turned (t':=s.toks) (λb o hb e=>eb b o hb e) f0 f1 f3 f4 f5⟩
theorem pcH{X:Cx}(hd:Hnd X){l:bU}{tl:TE}(hl:PE X l tl):PC X tg l (jc7 X.K tl):=by
 intro pins s σ H R I h
 refine thn (hl pins s σ H _ I h) λv s1 ⟨x,H1,I1,r1,a,e,⟨xs,hq⟩,q⟩=>?_
 subst e;cases r1;obtain⟨its,rv,p,hz⟩:=I1.list hq;refine gP p.isList ⟨s1.heap.objs.size,[s1.heap.objs.size],_,_,H1,rfl,I1.kept (t':=s1.toks) λb o e=>bu _ e,jfW hd a _,⟨_,bM _ rfl,rfl,rfl⟩,λb hb=>?_,q⟩;rw[dr.mp hb];exact I1.fpOk (bN _) (I1.hok.fresh (bN _))
variable{a0:bq}{dct:Option Addr}
section
variable {M:Model} {A:gz} {E:bq->Shared->Prop} {s:Shared}
theorem jeQ{base:dR}{env:tR}{outer:List tR}{L:Addr}{cls fl:bq}{cx:Option bq}{Q:Unit->Shared->Prop}
 (hfr:A.frames=ba (env::outer)) (hf:env.frame=ba L) (hkb:base.StaysIn s.heap) (hen:base.get? e=bc) (hl:s.heap.FunFrames base (env::outer)) (ht:s.heap.TracedAtW base e cls a0 fl) (hdc:qy s.heap e dct cx)
 (h:∀h',mw base outer e cls a0 h'->qy h' e dct cx->s.heap.UpToSlots h'->Q () { s with heap:=h' }):wpAny M A (ti env (.ref e)) Q E s:=by
 have land:∀(s2:Shared) (fl2:bq),s2.gens=s.gens->s2.toks=s.toks->s2.drawn=s.drawn->s2.os=s.os->base.StaysIn s2.heap->s2.heap.FunFrames base (env::outer)->s2.heap.TracedAtW base e cls a0 fl2->qy s2.heap e dct cx->s.heap.UpToSlots s2.heap->wpAny M A (tZ (.ref e) bc) Q E s2:=by
  intro s2 fl2 z1 z2 z3 z4 x1 x2 x3 dd us
  refine Qr x1 hen x2 x3 dd λh3 fl d3 us2=>?_
  obtain⟨y1,y2,⟨_,_,y3⟩,y4⟩:=fl;have:=h h3 ⟨y1,y2,y3,y4⟩ d3 (us.trans us2);obtain⟨_,_,_,_,_⟩:=s2;obtain⟨_,_,_,_,_⟩:=s;dsimp only at z1 z2 z3 z4;subst z1 z2 z3 z4;exact this
 unfold ti;refine bo ?_;obtain⟨oe,vs,T,oT,ts,he,⟨hc,h0⟩,hd,h1,hnT,hTe,hT,hdT,h3⟩:=id ht;obtain⟨o,ws,ho,hdo,hdd,hd2⟩:=id hdc;rw[he]at ho;cases ho;rw[hd]at hdd;cases hdd;subst hc hdo hd2;unfold pZ;simp only[hf];refine bo (dJ he hd h1 ?_);rw[if_pos (by simp)];refine bo (dJ hT hdT h3 ?_);by_cases hq:(fl == rawInt L)=bh
 ·rw[if_pos hq];exact bA (land s fl rfl rfl rfl rfl hkb hl ht hdc (jko _))
 rw[if_neg hq];refine bo (nH hT hdT (gi.mp h3).1 ?_);generalize hh:s.heap.update T (gW (·.setIfInBounds 3 gG))=h2
 have ot:∀b,b≠T->h2.get? b=s.heap.get? b:=λb hb=>by rw[<- hh];exact b8 _ _ (gC hb)
 have nT:∀b o,s.heap.get? b=ba o->(∀vs,o.data ≠ .fields vs)->b≠T:=λb o q n z=>by
  rw[z,hT]at q;cases q;exact n ts hdT
 exact ja9 (s:={ s with heap:=h2 }) hfr (hl.of_keeps λb o q n=>⟨o,(ot b (nT b o q n)).trans q,rfl⟩) hf ((ot e (gC hTe)).trans he) (λb o q=>(ot b λz=>by rw[z,hnT]at q;cases q).trans (hkb b o q)) hen hd (gi.mp h1).1 h0 λh' ⟨x1,x2,x3,x4⟩ dd =>
  land { s with heap:=h' } _ rfl rfl rfl rfl x1 x2 x3 dd λb o q n=>x4 b o ((ot b (nT b o q n)).trans q) n
end
section
variable {P:dg} {w:World} {H H1:Hp} {h0 h h' B:dR} {outer l:List tR}
theorem UK(u:Un (frs outer) [] H H1 h0 h)(k:HOk P w H1 h)(trk:∀b u o,H1 b=ba u->h.get? b=ba o->B.get? b=ba o)(old:∀b o o',h0.get? b=ba o->b ∉ frs outer->h.get? b=ba o'->B.get? b=ba o')(st:B.StaysIn h')(up:∀b o,b∈frs outer->h.get? b=ba o->∃s,h'.get? b=ba { o with slots:=s }) :
 Un (frs outer) [] H H1 h0 h'/\HOk P w H1 h'/\Cover B outer H1 h0 h':=by
 refine⟨⟨λb o e n hb hx=>?_,λb o e n hb hx=>?_,u.free,λb o e hx=>?_,u.tups,u.frzs,u.tbls⟩,λa o e=>?_,⟨λb v o e q=>?_,λb o o' e hb q=>?_⟩⟩
 ·exact st _ _ (old b o o e hb (u.keep b o e n hb hx))
 ·obtain⟨s1,e1⟩:=u.slot b o e n hb hx;obtain⟨s2,e2⟩:=up b _ hb e1;exact⟨s2,e2⟩
 ·obtain⟨o',e'⟩:=u.there b o e hx;by_cases hb:b∈frs outer
  ·obtain⟨s2,e2⟩:=up b _ hb e';exact⟨_,e2⟩
  ·exact⟨o',st _ _ (old b o o' e hb e')⟩
 ·refine(k a o e).stay (λb v hb q=>?_) (λ_ z=>z) λ_ _ z=>z
  rcases hb with rfl|hb
  ·exact st _ _ (trk _ _ _ e q)
  ·exact st _ _ (trk _ _ _ hb q)
 ·obtain⟨o',e'⟩:=uZ (k b v e);have z:=trk b v o' e e';have:=st _ _ z;rw[q]at this;cases this;exact z
 ·obtain⟨o2,e2⟩:=u.there b o e (by simp);have z:=old b o o2 e hb e2;have:=st _ _ z;rw[q]at this;cases this;exact z
theorem JX{base:dR}:∀ {l:List tR},(∀b∈frs l,h'.get? b=h.get? b)->h.FunFrames base l->h'.FunFrames base l
 |[],_,_=>trivial
 |env::l,k,⟨hk,⟨L,o,hf,hn,ho,hd⟩,hr⟩=>by
  have e:frs (env::l)=L::frs l:=by unfold frs;rw[mG,hf]
  rw[e]at k;exact⟨hk,⟨L,o,hf,hn,(k L (bJ ..)).trans ho,hd⟩,JX (λb hb=>k b (bD _ hb)) hr⟩
end
section
variable {X:Cx} {pins:List (Addr×mE)} {σ:L2.St} {H1:Hp} {s' s3:Shared} {M:Model} {E:bq->Shared->Prop} {Q:Unit->Shared->Prop} {C:Addr}
theorem Xn{B:dR}{fl:bq}(I:Inv X pins σ H1 s')(w:Own X)(sm:jd X.H₀ H1)(hea:H1 ea=bc)(st:B.StaysIn s3.heap)(hen:B.get? ea=bc)(ff:s3.heap.FunFrames B X.stack)(tr:s3.heap.TracedAtW B ea (.ref C) a0 fl)
 (trk:∀b u o,H1 b=ba u->s'.heap.get? b=ba o->B.get? b=ba o) (old:∀b o o',X.s₀.heap.get? b=ba o->b ∉ frs X.outer->s'.heap.get? b=ba o'->B.get? b=ba o') (fr:∀b o,b∈frs X.outer->s'.heap.get? b=ba o->∃sl,s3.heap.get? b=ba { o with slots:=sl })
 (hdc:dct=bc\/qy s3.heap ea dct (ba .none)) (ho:s3.os=s'.os) (hg:p9 s3.gens) (hq:∀s4,qM X.prog X.w C X.outer X.H₀ X.s₀ H1 dct (.ref ea) s4->Q () s4):wpAny M X.A (ti X.env (.ref ea)) Q E s3:=by
 have hfr:X.A.frames=ba (X.env::X.outer):=by rw[<- w.stk];exact I.env0.frames
 have ff':s3.heap.FunFrames B (X.env::X.outer):=by rw[<- w.stk];exact ff
 obtain⟨oe,ws,_,_,_,e1,_,hdd,_⟩:=id tr
 refine jeQ hfr w.frm st hen ff' tr ⟨oe,ws,e1,rfl,hdd,rfl⟩ λh' f2 d2 us=>?_
 have ub:Un (frs X.outer) [] X.H₀ H1 X.s₀.heap s'.heap:=by have:=I.base;rw[w.ex]at this;exact this
 obtain⟨u2,k2,c2⟩:=UK ub I.hok trk old f2.1 λb o hb q=>by
  obtain⟨sl,q1⟩:=fr b o hb q;obtain⟨_,o2,q2,nf⟩:=ff.mem (yO w b hb);rw[q1]at q2;obtain⟨s2,q3⟩:=us b _ q1 (by cases q2;exact nf);exact⟨s2,q3⟩
 refine hq _ ⟨ea,a0,B,rfl,ho.trans I.os,hg,u2,k2,sm,f2,hea,c2,hdc.imp id λ⟨o,us,q1,q2,q3,q4⟩=>?_⟩;rw[e1]at q1;cases q1;rw[hdd]at q3;cases q3;rw[<- q2,<- q4];exact d2
end
def YU(X:Cx)(H₀:Hp)(ex:XD->Prop):Prop:=∀y Ca,ex y->X.mg y.t=ba (.ref Ca)->∀pins σ H1 s' s3 B ea a0 fl da,Inv X pins σ H1 s'->jd H₀ H1->Fld X.K [] y H1 da->H1 ea=bc->B.StaysIn s3.heap->B.get? ea=bc->s3.heap.FunFrames B X.stack->s3.heap.TracedAtW B ea (.ref Ca) a0 fl ->
 (∀b u o,H1 b=ba u->s'.heap.get? b=ba o->B.get? b=ba o)->(∀b o o',X.s₀.heap.get? b=ba o->b ∉ frs X.outer->s'.heap.get? b=ba o'->B.get? b=ba o')->(∀b o,b∈frs X.outer->s'.heap.get? b=ba o->∃sl,s3.heap.get? b=ba { o with slots:=sl }) ->
 (da=bc\/qy s3.heap ea da (ba .none))->s3.os=s'.os->p9 s3.gens->X.xe (.ref ea) s3
def EeC(X:Cx)(x:bF)(scope:Scope)(cl:List (bF×Addr))(H₀:Hp)(ex:XD->Prop)(s2:Shared)(H2:Hp)(fp:List Addr)(C:Addr):bq->Shared->Prop:=λe s' =>
 ∃y Ca pins τ H s H1 da,ex y/\X.mg y.t=ba (.ref Ca)/\Inv (qP X s2 H2 fp x scope cl C) pins τ H s/\jd H₀ H1/\Fld X.K [] y H1 da/\qM X.prog X.w Ca X.stack H s H1 da e s'
variable{px pos:Pos}{iter elt:bU}{wi:TI}{te:TE}
section
variable {X:Cx} {x:bF} {scope:Scope} {cl:List (bF×Addr)} {H₀:Hp} {ex:XD->Prop} {pins:List (Addr×mE)} {σ:L2.St}
theorem JP{Qv:bq->Shared->Prop}{use:Option (bq->Sem Unit)}(own:Own X)(hl:YU X H₀ ex){D C:Addr}{fp:List Addr}{s2:Shared}{H2:Hp}{e:bq}{s':Shared}(I2:Inv X pins σ H2 s2)(hC:s2.heap.objs.size<=C)(f2:∀b∈fp,yh X pins H2 b)(z:EeC X x scope cl H₀ ex s2 H2 fp C e s') :
 notedBy (model X.prog X.w) X.A (jjp scope (kW scope x cl C) C X.env) (λe s'=>jit (model X.prog X.w) X.A X.xe use Qv (.ref D) C (.error e) s') e s':=by
 obtain⟨y,Ca,pi,τ,H,s,H1,da,hex,hm,J,sm,fd,ea,a0,B,rfl,ho,hg,u,k,s1,fl,hea,cv,hdc⟩:=z
 have hCf:C ∉ frs X.stack:=λhb=>by
  rcases bG.mp (I2.stkSub C hb) with z|z
  ·exact absurd (bX I2.lt hC) (by rw[z];exact dX _)
  ·exact I2.nofs hC z
 obtain⟨m,hn,_⟩:=J.loc;have hn:s.heap.Ns C m:=hn;obtain⟨oC,es,ep,hoC,hdC,hrC⟩:=id hn;have HC:H C=none:=J.free;have hC':s'.heap.get? C=ba oC:=u.keep C oC hoC HC hCf (by simp);have H1C:H1 C=none:=u.free C oC hoC HC (by simp);have U:Un (frs X.stack) fp H2 H1 s2.heap s'.heap:=(J.base).trans (u.mono (λ_ z=>z) (λ_ z=>nomatch z))
 have I':Inv X pins σ H1 s':=I2.call' (ho.trans J.os) U k hg λb hb=>by
  obtain⟨g0,g1,g2,g3,g4,g5⟩:=f2 b hb;exact⟨g3,g1,g4,g5⟩
 have fl0:=flyingW_base (base:=wH B [C]) (λb o q=>jjv _ q) fl
 have hfr:X.A.frames=ba (X.env::X.outer):=by rw[<- own.stk];exact I2.env0.frames
 have fl1:mw (wH B [C]) (X.env::X.outer) ea (.ref Ca) a0 s'.heap:=by rw[<- own.stk];exact fl0
 obtain⟨oe,ws,e1,_,hdd,_⟩:=id fl.first
 show wpAny _ _ (pZ (.ref ea) X.env) _ _ _
 refine jaj hfr own.frm fl1 ⟨oe,ws,e1,rfl,hdd,rfl⟩ λh1 hd1 dd us=>?_
 obtain⟨sl,q1⟩:=us C oC hC' λvs q=>by rw[hdC]at q;cases q
 have un:∀ {s'':Shared},(∃m,s''.heap.Ns C m/\∀h',mq C s''.heap h'->∀cenv:tR,cenv.locals=C->wpAny (model X.prog X.w) X.A (jj2 "comprehension.variables-let-go" (.ref ea) cenv:Sem bq) (λ_ _=>False) X.xe { s'' with heap:=h' })->jit (model X.prog X.w) X.A X.xe use Qv (.ref D) C (.error (.ref ea)) s'':=λz=>by cases use<;>exact z
 refine un ⟨m,⟨_,es,ep,q1,hdC,hrC⟩,λh2 sb cenv _=>?_⟩;obtain⟨x1,x2,x3,oe2,vs,T,oT,ts,he,hcl,hd,hv1,hnT,hTe,hT,hdT,h3⟩:=hd1
 have nC:∀ {b:Addr} {o:mE} {vs:Array bq},h1.get? b=ba o->o.data=.fields vs->b≠C:=λ{b o vs} q1' q2 z=>by
  rw[z,q1]at q1';cases q1';rw[show oC.data=_ from hdC]at q2;cases q2
 have he':h2.get? ea=ba oe2:=(sb.2 ea (nC he hd)).trans he;have hT':h2.get? T=ba oT:=(sb.2 T (nC hT hdT)).trans hT;unfold jj2;refine bo (dJ he' hd hv1 ?_);rw[if_neg (by simp)]
 have fin:∀v:bq,X.xe (.ref ea) { s' with heap:=h2.update T (gW (·.setIfInBounds 3 v)) }:=λv=>by
  have sz:3<ts.size:=(gi.mp h3).1;have dT:=pV hdT (·.setIfInBounds 3 v)
  have ot:∀b,b≠T->(h2.update T (gW (·.setIfInBounds 3 v))).get? b=h2.get? b:=λb hb=>b8 _ _ (gC hb)
  have nT:∀ {b:Addr} {o:mE},h1.get? b=ba o->(∀vs,o.data ≠ .fields vs)->b≠T:=λ{b o} q n z=>by
   rw[z,hT]at q;cases q;exact n ts hdT
  have fs:∀b∈frs X.stack,(h2.update T (gW (·.setIfInBounds 3 v))).get? b=h1.get? b:=λb hb=>by
   obtain⟨_,o,q,nf⟩:=x3.mem (show b∈frs (X.env::X.outer) by rw[<- own.stk];exact hb);rw[ot b (nT q nf),sb.2 b λz=>hCf (z ▸ hb)]
  refine hl y Ca hex hm pins σ H1 s' { s' with heap:=h2.update T (gW (·.setIfInBounds 3 v)) } (wH B [C]) ea a0 v da I' sm fd hea (λb o q=>?_) x2 ?_ ?_ (λb u o q1 q2=>tJ _ (cv.trk b u o q1 q2) λz=>?_) (λb o o' q1 hb q2=>?_) (λb o hb q=>?_) ?_ rfl hg
  ·have q':=x1 b o q
   have bC:b≠C:=λz=>by rw[z,jiB _ (bJ ..)]at q;cases q
   rw[ot b λz=>by rw[z,hnT]at q;cases q];exact(sb.2 b bC).trans q'
  ·rw[own.stk]at fs ⊢;exact JX fs x3
  ·exact⟨oe2,vs,T,_,_,(ot ea (gC hTe)).trans he',hcl,hd,hv1,hnT,hTe,gj _ hT' (mW dT),dT,by simp[sz]⟩
  ·have:b=C:=by simpa using z
   rw[this,H1C]at q1;cases q1
  ·have bC:b≠C:=λz=>by
    have:=bH q1;rw[z]at this;exact absurd (bX this (dU I2.sz hC)) (dX _)
   obtain⟨o2,e2⟩:=I2.base.there b o q1 (by rw[own.ex];simp)
   obtain⟨o3,e3⟩:∃o3,s.heap.get? b=ba o3:=by
    by_cases hbf:b∈fp
    ·obtain⟨_,_,_,g3,_⟩:=f2 b hbf;rcases g3 with g|g
     ·rw[own.ex]at g;cases g
     ·exact absurd (bH q1) (sU.mpr g)
    ·exact J.base.there b o2 e2 hbf
   exact tJ _ (cv.old b o3 o' e3 (vi I2 own q1 hb) q2) (by simpa using bC)
  ·obtain⟨_,o2,q2,nf⟩:=fl.2.2.1.mem (yO own b hb)
   have:o=o2:=by rw[q]at q2;cases q2;rfl
   subst this;obtain⟨sl,q3⟩:=us b o q nf;exact⟨sl,(fs b (yO own b hb)).trans q3⟩
  ·refine hdc.imp id λ⟨o,us,q1,q2,q3,q4⟩=>?_
   rw[e1]at q1;cases q1;rw[hdd]at q3;cases q3;obtain⟨o2,us2,q5,q6,q7,q8⟩:=dd;rw[he]at q5;cases q5;exact⟨oe2,us2,(ot ea (gC hTe)).trans he',by rw[q6,q2],q7,by rw[q8,q4]⟩
 refine bo ?_;unfold tZ;refine bo (dJ he' hd hv1 ?_);rw[if_pos (by simp)];exact nH hT' hdT (gi.mp h3).1 (wpAny_throw (fin _))
theorem jag(own:Own X)(hl:YU X H₀ ex)(hc:X.calm=bh)(nd:X.N.Nodup)(hE:(dum X.N) ∉ X.N)(co:CompOk X x scope cl)(hi:PI X (.Name x px) iter wi)
 (he:∀s H fp C,PE (qD X (EeC X x scope cl H₀ ex s H fp C) s H fp x scope cl C) elt te) (hs:∀v,gQ iter X.env v=pure v):PE X (.ListComp elt [⟨.Name x px,iter,[],0⟩] scope pos) (Xr wi te):=by
 intro pins s σ H Q I h;rw[jhZ]
 refine xJ nd hE co (ZA hc hi) (EeC X x scope cl H₀ ex) (λ_ _ _ _=>qh) he hs I h (λD C H' s4 m I4 hn hC q=>?_) λD C fp s2 H2 e s' I2 hC f2 z=>JP own hl I2 hC f2 z
 obtain⟨g0,g1,g2,g3,g4,g5⟩:=hC;exact⟨m,hn,λh' sb=>⟨.ref D,H',I4.turned (t':=s4.toks) (λb o hb e=>(sb.2 b hb).trans e) g0 g1 g3 g4 g5,rfl,q⟩⟩
theorem VW{py spos:Pos}{y:bF}(own:Own X)(hl:YU X H₀ ex)(hc:X.calm=bh)(nd:X.N.Nodup)(hE:(dum X.N) ∉ X.N)(co:CompOk X x scope cl)(hi:PI X (.Name x px) iter wi)
 (he:∀s H fp C,PE (qD X (EeC X x scope cl H₀ ex s H fp C) s H fp x scope cl C) elt te) (hs:∀v,gQ iter X.env v=pure v)
 (hsw:mm (.ListComp elt [⟨.Name x px,iter,[],0⟩] scope pos) (ba (.Name y py)) spos.line X.env=pure bh) (hy:X.N[i]?=ba y) (hlo:L2.Loc X.env.scope y) (hf:X.fn y=bh\/X.env.scope.names.lookup y=ba .local) :
 PS X (.Assign [.Name y py] (.ListComp elt [⟨.Name x px,iter,[],0⟩] scope pos) spos) (λD σ H=>Xr wi te σ H λv H'=>D.nx (σ.set i (ba v)) H'):=by
 intro pins s σ H D I h;rw[jho _ _ _ _ hsw];refine bo (nW (bo ?_));show wpAny _ X.A (do let _ <- jhY (.ListComp elt [⟨.Name x px,iter,[],0⟩] scope pos) scope X.env (jiu [⟨.Name x px,iter,[],0⟩] pos) (newList []) (jjr [⟨.Name x px,iter,[],0⟩]) (jjI [⟨.Name x px,iter,[],0⟩] X.env) (ba (assign (.Name y py) X.env))) _ _ s;refine bo (dE (xJ (Qv:=λ_ s'=>SP X pins D .next s') nd hE co (ZA hc hi) (EeC X x scope cl H₀ ex) (λ_ _ _ _=>qh) he hs I h (λDa C H' s4 m I4 hn hC q=>?_) λD C fp s2 H2 e s' I2 hC f2 z=>JP own hl I2 hC f2 z) (λ_ s' hq=>bA (bA hq)) λ_ _ z=>z);refine se (um I4 nd hy hlo (v:=.ref Da) rfl (λs5 I5 ⟨a,sb,ha⟩=>?_) hf);obtain⟨g0,g1,g2,g3,g4,g5⟩:=hC
 have haC:a≠C:=by
  rcases ha with z|z
  ·rw[z];exact gC g1
  ·exact g4 y a z
 refine⟨m,hn.sameBut sb (gC haC),λh' sb'=>?_⟩;exact⟨_,H',I5.turned (t':=s5.toks) (λb o hb e=>(sb'.2 b hb).trans e) g0 g1 g3 g4 g5,q⟩
end
end Z
namespace Z
open PySem PySem.Spec PySem.Calls PyProof.Rows PySem.W L2
open PySem.Builtin PySem.Builtin.Str PySem.Builtin.BaseException PySem.Builtin.Exceptions
abbrev fx(C t:Addr)(dct:Option Addr):HO:=.frz (jem C t dct) (.ext λ_=>True)
structure Hand (X:Cx) (i:FnI) (L:List FnI) (cns:List bF) (C:Cfg) (lv:Nat):Prop where
 ok:OkS X.nox (i.ck L cns) C
 own:Own X
 rm:Room lv X.A
 sc:X.env.scope=jg i.st
theorem K7{P:dg}{w:World}{K:bx}{mg:bF->Option bq}{base:dR}{C:Cfg}{cns:List bF}{i:FnI}{L:List FnI}{lv:Nat}{f:Addr}{fd:gV}{sp:Sp}(h2:2<=lv)(F:FnAt K mg i f fd)(hsc:jV i=bh)
 (fns:∀n j,L[n]?=ba j->∃f fd,FnOk P w K mg base (CXz P w mg) lv f fd j.ps (spD K j.ps.length (C.fr n) (C.f2 n) (C.ct n))/\FnAt K mg j f fd)
 (hcn:∀n x,cns[n]?=ba x->∃u v,mg x=ba u/\jH v u/\∀S,Is K S (C.cn n) v) (hb:∀x∈blts,mg x=bc) (hE:∀x,¬ C.E x) (len:∀vs H Q E,sp vs H Q E->vs.length=i.ps.length)
 (body:∀(X:Cx) (H:Hp) (vs:List V) (Q:VK) (E:XK),Hand X i L cns C lv->(X.prog=P/\X.w=w/\X.K=K/\X.mg=mg/\X.base=base/\X.H₀=H)->sp vs H Q E ->
  ∃t,PSs X (jm i.st) t/\t { nx:=λ_ H'=>Q .non H',rt:=Q } (L2.start i.N vs) H) :
 FnOk P w K mg base (CXz P w mg) (lv+1) f fd i.ps sp:=by
 have S:=xh hsc;refine vc F.fn S len (λcdv A outer s H vs Q E hr h=>?_)
 have hun:(A.deeper (envOfC i.x (jg i.st) s.heap.objs.size f cdv)).units+100<cLine:=by have:=hr.un;lia
 have hcalm:A.handled.isNone=true:=by
  have e:A.handled=none:=hr.hd h2;rw[e];rfl
 have ok:OkS (qN (CXz P w mg) P w K mg base i.N i.x (jg i.st) f cdv A outer s H E).nox (i.ck L cns) C:=by
  refine⟨⟨rfl,S.nd,rfl,S.kind,hcalm,rfl,hun,?_,hcn,hb,hE⟩,λ_=>rfl⟩;intro n x m e;have e':(L.map λj=>(j.x,j.ps.length))[n]?=ba (x,m):=e;rw[dQ]at e'
  cases q:L[n]? with
  |none=>rw[q]at e';cases e'
  |some j =>
   rw[q]at e';cases e';obtain⟨f',fd',F',A'⟩:=fns n j q;exact⟨f',fd',j.ps,lv,F',hr,A'.mg,A'.fn.kp,.all A'.bd⟩
 exact body (qN (CXz P w mg) P w K mg base i.N i.x (jg i.st) f cdv A outer s H E) H vs Q E ⟨ok,⟨rfl,rfl,rfl⟩,hr,rfl⟩ ⟨rfl,rfl,rfl,rfl,rfl,rfl⟩ h
theorem law_walkH{l:ji2}{q:dg}{loose:List bF}{XP:(bF->Option bq)->dR->Prop}{YP:World->dR->Prop}{d:DefRec}{K:Params->bx}(lv:Nat)(i:FnI){x:bF}
 (hn:l.most=ba 63) (hdf:d.params.defaults=[]) (hY:∀(w:World) (h:dR),YP w h->(K w.params).In h) (hr:Room lv jha) (hx:i.ps=[x]) (hdn:d.name=i.x)
 (key:∀(w:World) (mg:bF->Option bq) (h:dR),(K w.params).In h->h.Ns dh mg->∃f fd,FnAt (K w.params) mg i f fd/\∀base:dR,FnOk l.prog w (K w.params) mg base (CXz l.prog w mg) lv f fd [x] (spD (K w.params) 1 bj bj yY)) :
 jjC q loose XP YP l.row.toRowW d [] (λf vs=>jjn f vs):=by
 refine L2.walk_of (n:=63) (k:=lv) (x:=x) (CX:=λ_=>λ_ _ _ E _ _=>∃v da H,E v da H) (sp:=λw=>spD (K w.params) 1 bj bj yY) hn (by decide) hdf hr hY ?_ (λw H a ns hl _ hS=>jd7 hl hS) λ_ _ _ _ _ ⟨_,_,_,z⟩=>z
 intro w mg fa h KX G hmg;obtain⟨f,fd,A,ok⟩:=key w mg h KX G
 have e:fa=f:=by
  have:=A.mg;rw[<- hdn,hmg]at this;cases this;rfl
 subst e;refine⟨fd,λs u=>.of_eq ?_,λbase _ _=>?_⟩
 ·have:=A.bd [u] (by rw[hx];rfl);rw[hx]at this;exact this
 ·exact⟨(ok base).len,λA outer s H args us vs Q E r e0 b rv hsp=>pq ((ok base).run A outer s H args us vs Q E r e0 b rv hsp) λr s' z=>by
   cases r with
   |ok fl=>cases fl<;>exact z
   |error e=>obtain⟨x,C,H1,da,z,_⟩:=z;exact⟨_,_,_,z⟩⟩
end Z
namespace Z.J11
open PySem PySem.Spec PySem.Calls PyProof.Rows PySem.W L2 Z
theorem UR(H:Hp):minus H []=H:=by
 funext b;exact jw (by simp)
def Sh(K:bx)(S:Hp):Sto->L2.St->Prop
 |[],[]=>True
 |none::σ,_::τ=>Sh K S σ τ
 |some (.sh d)::σ,ba v::τ=>Is K S d v/\Sh K S σ τ
 |_,_=>False
variable{K:bx}{H:Hp}{σ:Sto}{τ:L2.St}
theorem ZC(h:Sh K H σ τ):Reps K [] H σ τ:=by
 have key:∀ {σ:Sto} {τ:L2.St},Sh K H σ τ->σ.length=τ.length/\∀i z,ji σ i=ba z->∃d v,z=.sh d/\τ[i]?=ba (ba v)/\Is K H d v:=by
  intro σ
  induction σ with
  |nil =>
   intro τ h
   cases τ with
   |nil=>exact⟨rfl,λi z g=>by simp[ji]at g⟩
   |cons _ _=>exact h.elim
  |cons x σ ih =>
   intro τ h
   cases τ with
   |nil=>rcases x with _|(_|_|_)<;>exact h.elim
   |cons y τ =>
    rcases x with _|(d|_|_)
    ·obtain⟨l,q⟩:=ih (τ:=τ) (by cases y<;>exact h);refine⟨by simp[l],λi z g=>?_⟩
     cases i with
     |zero=>simp[ji]at g
     |succ i=>exact q i z (by simpa[ji]using g)
    ·cases y with
     |none=>exact h.elim
     |some v =>
      obtain⟨h1,h2⟩:=h;obtain⟨l,q⟩:=ih h2;refine⟨by simp[l],λi z g=>?_⟩
      cases i with
      |zero =>
       simp[ji]at g
       exact⟨d,v,g.symm,rfl,h1⟩
      |succ i=>exact q i z (by simpa[ji]using g)
    ·cases y<;>exact h.elim
    ·cases y<;>exact h.elim
 obtain⟨l,q⟩:=key h
 have no:∀i z,ji σ i=ba z->∃d,z=.sh d:=λi z g=>by obtain⟨d,_,e,_⟩:=q i z g;exact⟨d,e⟩
 refine⟨l,(λ_ z=>nomatch z),λi d g=>?_,λi ds g=>?_,λi j ds es _ g=>?_,⟨λi rows g=>?_,λi j rs qs g=>?_⟩⟩
 ·obtain⟨d',v,e,hv,is⟩:=q i _ g;cases e;exact⟨v,hv,by rw[UR];exact is⟩
 ·obtain⟨_,e⟩:=no _ _ g;cases e
 ·obtain⟨_,e⟩:=no _ _ g;cases e
 ·obtain⟨_,e⟩:=no _ _ g;cases e
 ·intro g2;obtain⟨_,e⟩:=no _ _ g2;cases e
variable{x:Ex}
theorem go{C:Cfg}{Q:VK}(w:wpE C x σ (Wd K [] H Q))(h:Sh K H σ τ):tD K C x τ H Q:=⟨σ,[],ZC h,w⟩
theorem goT{C:Cfg}{Q:Bool->Hp->Prop}(w:wpE C x σ (isB λc=>∀H',jd H H'->Q c H'))(h:Sh K H σ τ):tDT K C x τ H Q:=⟨σ,[],ZC h,w⟩
end Z.J11
namespace Z.EV
open PySem Z
def kF(w:(D->Prop)->Prop)(d:D):Prop:=∀Q:D->Prop,Q d->w Q
inductive BS {α β:Type} (a:Option α) (f:α->Option β) (r:β):Prop
 |mk (d:α) (e:a=ba d) (h:f d=ba r)
variable{α β:Type}
theorem bind_some{a:Option α}{f:α->Option β}{r:β}(h:a.bind f=ba r):BS a f r:=by
 cases a with
 |none=>cases h
 |some d=>exact⟨d,rfl,h⟩
def jQ(p:Prop)[Decidable p](x:Option α):Option α:=if p then x else bc
variable{p:Prop}
theorem jZ[Decidable p]{x:Option α}{r:α}(h:jQ p x=ba r):p/\x=ba r:=by
 unfold jQ at h;split at h
 ·exact⟨‹_›,h⟩
 ·cases h
theorem sq{P:α->Prop}{a b:α}(h:ba a=ba b)(q:P b):P a:=dF h ▸ q
theorem dq{d d':D}(h:ba d'=ba d):kF (λQ=>Q d') d:=λQ q=>sq (P:=Q) h q
theorem bb{a:Option α}{f:α->Option β}{r:β}{G:Prop}(h:a.bind f=ba r)(k:∀d,a=ba d->f d=ba r->G):G:=by
 obtain⟨d,e,h⟩:=bind_some h;exact k d e h
theorem bm{a:Option α}{f:α->β}{r:β}{G:Prop}(h:a.map f=ba r)(k:∀d,a=ba d->f d=r->G):G:=by
 cases a with
 |none=>exact nn h
 |some d=>exact k d rfl (dF h)
theorem bw[Decidable p]{x:Option α}{r:α}{G:Prop}(h:jQ p x=ba r)(k:p->x=ba r->G):G:=k (jZ h).1 (jZ h).2
variable{c:Ex}
theorem bf{c:Bool}{a b:Option β}{r:β}{A B:Prop}(h:(if c then a else b)=ba r)(ka:a=ba r->A)(kb:b=ba r->B):if c=bh then A else B:=by
 cases c with
 |true=>exact ka h
 |false=>exact kb h
instance (i j:Int):Decidable (JH i j):=inferInstanceAs (Decidable (_\/_\/_))
instance (i j:Int):Decidable (VP i j):=inferInstanceAs (Decidable (_/\_))
instance (n:Nat) (k:Int):Decidable (uK n k):=inferInstanceAs (Decidable (_/\_))
instance (i:Int):Decidable (xC i):=inferInstanceAs (Decidable (_/\_))
def uj(f:Int->Int->Option D):D->D->Option D
 |.int i,.int j=>f i j
 |_,_=>bc
variable{x y:D}
theorem kQ{f:Int->Int->Option D}{g:Int->Int->(D->Prop)->Prop}(hf:∀i j d,f i j=ba d->kF (g i j) d){d:D}(h:uj f x y=ba d):kF (yw g x y) d:=by
 cases x<;>first|exact nn h|(cases y<;>first|exact nn h|exact λQ q=>hf _ _ _ h Q q)
def jgA:D->D->Option D
 |.int i,.int j=>ba (.int (i+j))
 |.str x,.str y=>jQ (x.length+y.length<=lim) (ba (.str (x++y)))
 |.lst xs,.lst ys=>jQ (xs.length+ys.length<=lim) (ba (.lst (xs++ys)))
 |_,_=>bc
def jgm:D->D->Option D
 |.int i,.int j=>jQ (JH i j) (ba (.int (i*j)))
 |.lst xs,.int k=>jQ (uK xs.length k) (ba (.lst (bE k.toNat xs).flatten))
 |.str x,.int k=>jQ (uK x.length k) (ba (.str ⟨(bE k.toNat x.cps.toList).flatten.toArray⟩))
 |_,_=>bc
def jfz:BOp->D->D->Option D
 |.add=>jgA
 |.sub=>uj λi j=>ba (.int (i-j))
 |.mul=>jgm
 |.fdiv=>uj λi j=>jQ (j≠0/\xE j<=9000) (ba (.int (i.fdiv j)))
 |.mod=>uj λi j=>jQ (j≠0) (ba (.int (i.fmod j)))
 |.shl=>uj λi j=>jQ (VP i j) (ba (.int (i*2^j.toNat)))
 |.band=>uj λi j=>ba (.int (jhv i j))
theorem jJ[Decidable p]{d r:D}(h:jQ p (ba d)=ba r):kF (λQ=>p/\Q d) r:=λQ q=>by
 obtain⟨a,b⟩:=jZ h;cases b;exact⟨a,q⟩
theorem jcL{o:BOp}{d:D}(h:jfz o x y=ba d):kF (y6 o x y) d:=by
 cases o with
 |add=>cases x<;>first|exact nn h|(cases y<;>first|exact nn h|exact jJ h|exact dq h)
 |mul=>cases x<;>first|exact nn h|(cases y<;>first|exact nn h|exact jJ h)
 |sub=>exact kQ (λi j d e=>dq e) h
 |fdiv=>exact kQ (λi j d e=>jJ e) h
 |mod=>exact kQ (λi j d e=>jJ e) h
 |shl=>exact kQ (λi j d e=>jJ e) h
 |band=>exact kQ (λi j d e=>dq e) h
def yC:List D->Option (List Int)
 |[]=>ba []
 |.int i::ds=>(yC ds).map (i :: ·)
 |_=>bc
theorem kM:∀ {ds:List D} {ns:List Int},yC ds=ba ns->ds=ns.map .int
 |[],ns,h=>by cases h;rfl
 |d::ds,ns,h=>by
  cases d<;>first|exact nn h|skip
  next i=>exact bm h λm e h=>by rw[kM e,<- h];rfl
def Xd:List D->Option (List bF)
 |[]=>ba []
 |.str i::ds=>(Xd ds).map (i :: ·)
 |_=>bc
theorem zU:∀ {ds:List D} {ns:List bF},Xd ds=ba ns->ds=ns.map .str
 |[],ns,h=>by cases h;rfl
 |d::ds,ns,h=>by
  cases d<;>first|exact nn h|skip
  next i=>exact bm h λm e h=>by rw[zU e,<- h];rfl
def jcE:List D->Option (List Bool)
 |[]=>ba []
 |.bl i::ds=>(jcE ds).map (i :: ·)
 |_=>bc
theorem K0:∀ {ds:List D} {ns:List Bool},jcE ds=ba ns->ds=ns.map .bl
 |[],ns,h=>by cases h;rfl
 |d::ds,ns,h=>by
  cases d<;>first|exact nn h|skip
  next i=>exact bm h λm e h=>by rw[K0 e,<- h];rfl
def inF(t:Bool):D->D->Option D
 |.str i,.str j=>ba (.bl ((!(gA j i 0 j.length 1).isEmpty) == t))
 |.str i,.tup ys=>(Xd ys).bind λss=>jQ (ys.length<=lim) (ba (.bl (ss.contains i == t)))
 |.str i,.lst ys=>(Xd ys).bind λss=>jQ (ys.length<=lim) (ba (.bl (ss.contains i == t)))
 |.int i,.lst ys=>(yC ys).bind λns=>jQ (ys.length<=lim) (ba (.bl (ns.contains i == t)))
 |.int i,.tup ys=>(yC ys).bind λns=>jQ (ys.length<=lim) (ba (.bl (ns.contains i == t)))
 |_,_=>bc
def jaC:COp->D->D->Option D
 |.eq=>λx y=>jQ (min (qI x) (qI y)<=100) (ba (.bl (eqD x y)))
 |.ne=>λx y=>jQ (min (qI x) (qI y)<=100) (ba (.bl (!eqD x y)))
 |.lt=>uj λi j=>ba (.bl (decide (i<j)))
 |.le=>uj λi j=>ba (.bl (decide (i<=j)))
 |.gt=>uj λi j=>ba (.bl (decide (j<i)))
 |.ge=>uj λi j=>ba (.bl (decide (j<=i)))
 |.inn=>inF bh
 |.nin=>inF bj
theorem jaU{t:Bool}{d:D}(h:inF t x y=ba d):kF (inD t x y) d:=by
 cases x<;>first|exact nn h|(cases y<;>first|exact nn h|exact dq h|skip)
 ·replace h:=bind_some h;obtain⟨ns,e,h⟩:=h
  exact λQ q=>⟨ns,kM e,jJ h Q q⟩
 ·replace h:=bind_some h;obtain⟨ns,e,h⟩:=h
  exact λQ q=>⟨ns,kM e,jJ h Q q⟩
 ·replace h:=bind_some h;obtain⟨ns,e,h⟩:=h
  exact λQ q=>⟨ns,zU e,jJ h Q q⟩
 ·replace h:=bind_some h;obtain⟨ns,e,h⟩:=h
  exact λQ q=>⟨ns,zU e,jJ h Q q⟩
theorem vg{o:COp}{d:D}(h:jaC o x y=ba d):kF (zb o x y) d:=by
 cases o with
 |eq=>exact jJ h
 |ne=>exact jJ h
 |lt=>exact kQ (λi j d e=>dq e) h
 |le=>exact kQ (λi j d e=>dq e) h
 |gt=>exact kQ (λi j d e=>dq e) h
 |ge=>exact kQ (λi j d e=>dq e) h
 |inn=>exact jaU h
 |nin=>exact jaU h
def ixF:D->D->Option D
 |.lst xs,.int i=>atD xs i
 |.tup xs,.int i=>atD xs i
 |.str x,.int i=>jQ (x.length<=lim/\0<=i) ((x.cps[i.toNat]?).bind λc=>ba (.str ⟨#[c]⟩))
 |_,_=>bc
theorem VF{d:D}(h:ixF x y=ba d):kF (ixD x y) d:=by
 cases x<;>first|exact nn h|(cases y<;>first|exact nn h|exact λQ q=>⟨d,h,q⟩|skip)
 replace h:=jZ h;obtain⟨a,h⟩:=h;replace h:=bind_some h;obtain⟨c,e,h⟩:=h;cases h
 exact λQ q=>⟨c,⟨a.1,a.2,e⟩,q⟩
def je1:D->Option D
 |.lst xs=>ba (.int xs.length)
 |.tup xs=>ba (.int xs.length)
 |.str x=>jQ (x.length<=lim) (ba (.int x.length))
 |_=>bc
def jaQ:D->Option D
 |.int i=>ba (.int i)
 |.bl b=>ba (.int (if b then 1 else 0))
 |.str x=>jQ (x.length<=640) ((jhz x).bind λv=>ba (.int v))
 |_=>bc
def jgh:D->Option D
 |.lst xs=>(yC xs).bind λns=>jQ (ns ≠ []) (ba (.int (mmF bj 0 ns)))
 |_=>bc
def jf4:List D->Option D
 |[x]=>jgh x
 |[x,y]=>uj (λi j=>ba (.int (if j<i then j else i))) x y
 |_=>bc
def prF:D->Option (Int×Int)
 |.tup xs=>(yC xs).bind λns=>jQ (ns.length=2) (ba (ns.getD 0 0,ns.getD 1 0))
 |_=>bc
theorem je6{d:D}{p:Int×Int}(h:prF d=ba p):d=prD p:=by
 cases d<;>first|exact nn h|skip
 refine bb h λns e h=>bw h λa h=>?_
 cases dF h;rw[kM e]
 match ns,a with
 |[_,_],_=>rfl
def jeH:List D->Option (List (Int×Int))
 |[]=>ba []
 |d::ds=>(prF d).bind λp=>(jeH ds).map (p :: ·)
theorem Zj:∀ {ds:List D} {ps:List (Int×Int)},jeH ds=ba ps->ds=ps.map prD
 |[],ps,h=>by cases h;rfl
 |d::ds,ps,h=>bb h λp e h=>bm h λm e1 h=>by rw[je6 e,Zj e1,<- h];rfl
def jaR(p:Int×Int):List (Int×Int)->List (Int×Int)
 |[]=>[p]
 |q::qs=>if qR q p then q::jaR p qs else p::q::qs
def jfT(x:D):Option D:=match x with
 |.lst xs=>(jeH xs).bind λps=>jQ (xs.length<3/\(ps.foldr jaR []).isPerm ps=bh/\(ps.foldr jaR []).Pairwise (λa b=>qR b a=bj)) (ba (.lst ((ps.foldr jaR []).map prD)))
 |_=>bc
theorem jcT{d:D}(h:jfT x=ba d):kF (uD x) d:=by
 cases x<;>first|exact nn h|skip
 replace h:=bind_some h;obtain⟨ps,e,h⟩:=h;replace h:=jZ h;obtain⟨⟨a,b,c⟩,h⟩:=h;cases h;intro Q q;refine⟨a,ps,Zj e,λqs h1 h2=>?_⟩
 have e:qs=ps.foldr jaR []:=List.Perm.eq_of_pairwise (le:=λa b=>qR b a=bj) (λx y _ _ h1 h2=>by
  simp only[qR,decide_eq_false_iff_not,not_or,not_and]at h1 h2
  exact Prod.ext (by lia) (by lia)) h2 c (h1.trans (List.isPerm_iff.mp b).symm)
 rw[e];exact q
def yf(f:D->Option D):List D->Option D
 |[x]=>f x
 |_=>bc
def Vh(f:D->D->Option D):List D->Option D
 |[x,y]=>f x y
 |_=>bc
def jgF:D->Option D
 |.int i=>ba (.int (if i<0 then -i else i))
 |_=>bc
def jb1:D->Option D
 |.lst xs=>ba (.lst xs)
 |.tup xs=>ba (.lst xs)
 |_=>bc
def jeq:D->Option D
 |.lst xs=>ba (.tup xs)
 |.tup xs=>ba (.tup xs)
 |_=>bc
def jd0:D->Option D
 |.int i=>jQ (i.natAbs.log2<1920) (ba (.str (toString i:String)))
 |_=>bc
def Xe(f:List D->Option D):D->Option D
 |.lst xs=>f xs
 |_=>bc
def biF(f:Bi)(ds:List D):Option D:=match f with
 |.abs=>yf jgF ds
 |.max=>Vh (uj λi j=>ba (.int (if j > i then j else i))) ds
 |.min=>jf4 ds
 |.len=>yf je1 ds
 |.srt=>yf jfT ds
 |.mxl=>yf (Xe λxs=>(yC xs).bind λns=>jQ (ns ≠ []) (ba (.int (mmF bh 0 ns)))) ds
 |.int=>yf jaQ ds
 |.list=>yf jb1 ds
 |.tuple=>yf jeq ds
 |.str=>yf jd0 ds
 |.sum=>yf (Xe λxs=>(yC xs).bind λns=>ba (.int ns.sum)) ds
 |.all=>yf (Xe λxs=>(jcE xs).bind λbs=>ba (.bl (bs.all id))) ds
 |.any=>yf (Xe λxs=>(jcE xs).bind λbs=>ba (.bl (bs.any id))) ds
 |.dvm=>Vh (uj λi j=>jQ (0<j/\j<1073741824) (ba (.tup [.int (i / j),.int (i%j)]))) ds
variable{ds:List D}
theorem jce{d:D}(h:jf4 ds=ba d):kF (Vz ds) d:=by
 cases ds with
 |nil=>exact nn h
 |cons x r=>cases r with
  |nil=>cases x<;>first|exact nn h|exact bb h λns e h Q q=>⟨ns,kM e,jJ h Q q⟩
  |cons y r=>cases r with
   |nil=>exact kQ (λi j d e=>dq e) h
   |cons z r=>exact nn h
theorem Y0{d:D}(h:je1 x=ba d):kF (jgg x) d:=by
 cases x<;>first|exact nn h|exact jJ h|exact dq h
theorem Ue{d:D}(h:jaQ x=ba d):kF (jaa x) d:=by
 cases x<;>first|exact nn h|exact dq h|skip
 replace h:=jZ h;obtain⟨a,h⟩:=h;replace h:=bind_some h;obtain⟨v,e,h⟩:=h;cases h
 exact λQ q=>⟨v,⟨a,e⟩,q⟩
theorem kG{f:D->Option D}{g:D->(D->Prop)->Prop}(h:∀x d,f x=ba d->kF (g x) d){d:D}(e:yf f ds=ba d):kF (yU g ds) d:=by
 cases ds with
 |nil=>cases e
 |cons x r=>cases r with
  |nil=>exact h x d e
  |cons y r=>cases e
theorem Qk{f:D->D->Option D}{g:D->D->(D->Prop)->Prop}(h:∀x y d,f x y=ba d->kF (g x y) d){d:D}(e:Vh f ds=ba d):kF (UG g ds) d:=by
 cases ds with
 |nil=>cases e
 |cons x r=>cases r with
  |nil=>cases e
  |cons y r=>cases r with
   |nil=>exact h x y d e
   |cons z r=>cases e
theorem z7{f:List D->Option D}{g:List D->(D->Prop)->Prop}(h:∀xs d,f xs=ba d->kF (g xs) d)(x d:D)(e:Xe f x=ba d):kF (uH g x) d:=by
 cases x<;>first|exact nn e|exact h _ _ e
theorem jam{f:Bi}{d:D}(h:biF f ds=ba d):kF (biD f ds) d:=by
 cases f with
 |abs=>exact kG (λx d e=>by cases x<;>first|exact nn e|exact dq e) h
 |max=>exact Qk (λx y d e=>kQ (λi j d e=>dq e) e) h
 |min=>exact jce h
 |len=>exact kG (λx d e=>Y0 e) h
 |srt=>exact kG (λx d e=>jcT e) h
 |mxl=>exact kG (z7 λxs d e=>by replace e:=bind_some e;obtain⟨ns,e1,e⟩:=e;exact λQ q=>⟨ns,kM e1,jJ e Q q⟩) h
 |int=>exact kG (λx d e=>Ue e) h
 |list=>exact kG (λx d e=>by cases x<;>first|exact nn e|exact dq e) h
 |tuple=>exact kG (λx d e=>by cases x<;>first|exact nn e|exact dq e) h
 |str=>exact kG (λx d e=>by cases x<;>first|exact nn e|exact jJ e) h
 |sum=>exact kG (z7 λxs d e=>by replace e:=bind_some e;obtain⟨ns,e1,e⟩:=e;cases e;exact λQ q=>⟨ns,kM e1,q⟩) h
 |all=>exact kG (z7 λxs d e=>by replace e:=bind_some e;obtain⟨ns,e1,e⟩:=e;cases e;exact λQ q=>⟨ns,K0 e1,q⟩) h
 |any=>exact kG (z7 λxs d e=>by replace e:=bind_some e;obtain⟨ns,e1,e⟩:=e;cases e;exact λQ q=>⟨ns,K0 e1,q⟩) h
 |dvm=>exact Qk (λx y d e=>kQ (λi j d e=>jJ e) e) h
def mtF:Mt->D->Option D
 |.bitlen,.int i=>ba (.int (xE i))
 |_,_=>bc
variable{m:Nat}
theorem jeK{m:Mt}{d:D}(h:mtF m x=ba d):kF (mtD m x) d:=by
 cases m
 cases x<;>first|exact nn h|exact dq h
def slF:D->Option Int->Option Int->Option D
 |.lst xs,lo,hi=>ba (.lst (jcF xs lo hi))
 |.str x,lo,hi=>jQ (x.length<=lim) (ba (.str (Xk x lo hi)))
 |_,_,_=>bc
theorem jeh{d:D}{lo hi:Option Int}(h:slF x lo hi=ba d):kF (slD x lo hi) d:=by
 cases x<;>first|exact nn h|exact jJ h|exact dq h
def smF:SOp->bF->D->Option D
 |.jn,x,.lst ys=>(Xd ys).bind λss=>jQ ((ss.map (·.length)).sum+ss.length*x.length<=lim) (ba (.str ⟨(xu x ss).toArray⟩))
 |.spl,x,.str y=>jQ (y.length≠0/\x.length<=lim/\(jR x y).length<=lim) (ba (.lst ((jR x y).map .str)))
 |_,_,_=>bc
theorem jaE{o:SOp}{x:bF}{d:D}(h:smF o x y=ba d):kF (smD o x y) d:=by
 cases o with
 |jn =>
  cases y<;>first|exact nn h|skip
  replace h:=bind_some h;obtain⟨ss,e,h⟩:=h;replace h:=jZ h;obtain⟨a,h⟩:=h;cases h
  exact λQ q=>⟨ss,⟨zU e,a⟩,q⟩
 |spl =>
  cases y<;>first|exact nn h|exact jJ h
def vA:D->Option Int
 |.int i=>ba i
 |_=>bc
variable{i:Nat}
theorem z6{i:Int}(h:vA x=ba i):x=.int i:=by cases x<;>cases h;rfl
def rgF:List D->Option (List D)
 |[x]=>(vA x).bind λhi=>jQ (xC hi) (ba (ko 0 1 hi.toNat))
 |[x,y]=>(vA x).bind λlo=>(vA y).bind λhi=>jQ (xC lo/\xC hi) (ba (ko lo 1 (hi-lo).toNat))
 |_=>bc
variable{xs:List D}{Q:D->Prop}
theorem VJ(h:rgF ds=ba xs){Q:List D->Prop}(q:Q xs):rgD ds Q:=by
 cases ds with
 |nil=>exact nn h
 |cons x r=>cases r with
  |nil=>exact bb h λi e h=>by cases z6 e;exact bw h λa h=>⟨a,sq (P:=Q) h q⟩
  |cons y r=>cases r with
   |nil=>exact bb h λi e h=>bb h λj g h=>by cases z6 e;cases z6 g;exact bw h λa h=>⟨a,sq (P:=Q) h q⟩
   |cons z r=>exact nn h
def UC(f:D->Option D):List D->Option (List D)
 |[]=>ba []
 |d::ds=>(f d).bind λy=>(UC f ds).bind λys=>ba (y::ys)
theorem zH{f:D->Option D}{g:D->(D->Prop)->Prop}(hf:∀d y,f d=ba y->kF (g d) y):∀ {xs ys:List D},UC f xs=ba ys->∀Q:List D->Prop,Q ys->qw g xs Q
 |[],ys,h,Q,q=>by cases h;exact q
 |d::ds,ys,h,Q,q=>by
  exact bb h λy e h=>bb h λzs e2 h=>hf d y e _ (zH hf e2 _ (sq (P:=Q) h q))
def asB(x:D):Option Bool:=match x with|.bl k=>ba k|_=>bc
variable{k:Nat}
theorem q9{k:Bool}(h:asB x=ba k):x=.bl k:=by cases x<;>cases h;rfl
def Zi(p f:D->Option D):List D->Option (List D)
 |[]=>ba []
 |d::ds=>(p d).bind λx=>(asB x).bind λk=>if k then (f d).bind λy=>(Zi p f ds).bind λys=>ba (y::ys) else Zi p f ds
theorem vQ{p f:D->Option D}{w:D->(D->Prop)->Prop}{g:D->(D->Prop)->Prop}(hp:∀d y,p d=ba y->kF (w d) y)(hf:∀d y,f d=ba y->kF (g d) y) :
 ∀ {xs ys:List D},Zi p f xs=ba ys->∀Q:List D->Prop,Q ys->xl (λd Q=>w d (isB Q)) g xs Q
 |[],ys,h,Q,q=>by cases h;exact q
 |d::ds,ys,h,Q,q=>by
  replace h:=bind_some h;obtain⟨x,e,h⟩:=h;replace h:=bind_some h;obtain⟨k,e1,h⟩:=h;have ex:=q9 e1;subst ex;refine hp d _ e _ ?_
  cases k with
  |true =>
   rw[if_pos rfl]at h;replace h:=bind_some h;obtain⟨y,e,h⟩:=h;replace h:=bind_some h;obtain⟨zs,e2,h⟩:=h;cases h
   exact hf d y e _ (vQ hp hf e2 _ q)
  |false =>
   rw[if_neg (by decide)]at h;exact vQ hp hf h Q q
inductive R where
 |ok (d:D)
 |ex (y:XD)
inductive Out where
 |nx (σ:Sto)
 |rt (d:D)
 |bk (σ:Sto)
 |ct (σ:Sto)
 |xn (y:XD)
structure Ev where
 e:Ex->Sto->Option D
 s:Sm->Sto->Option Out
def okF:R->Option D
 |.ok d=>ba d
 |.ex _=>bc
theorem VC{r:R}{d:D}(h:okF r=ba d):r=.ok d:=by cases r<;>cases h;rfl
def evs(e:Ex->Sto->Option D)(σ:Sto):List Ex->Option (List D)
 |[]=>ba []
 |x::xs=>(e x σ).bind λd=>(evs e σ xs).bind λds=>ba (d::ds)
def jfb(e:Ex->Sto->Option D)(σ:Sto):List Ex->List Nat->Option (List Nat)
 |[],out=>ba out
 |x::xs,out=>(e x σ).bind λd=>(jdF d).bind λz=>jQ (out.length+z.length<=lim) (jfb e σ xs (out++z.cps.toList))
def jcV(b:Bool)(x:Option D):Option (Option Int):=if b then ba bc else x.bind λd=>match d with|.int i=>ba (ba i)|_=>bc
def Qb:D->Option (List D)
 |.lst xs=>ba xs
 |_=>bc
theorem u0(h:Qb x=ba xs):x=.lst xs:=by cases x<;>cases h;rfl
def jbs:D->Option bF
 |.str xs=>ba xs
 |_=>bc
theorem Zp{xs:bF}(h:jbs x=ba xs):x=.str xs:=by cases x<;>cases h;rfl
theorem bI{f:Int->Option β}{r:β}{P:Int->Prop}(h:(vA x).bind f=ba r)(k:∀i,f i=ba r->P i):isI P x:=by cases x<;>first|exact nn h|exact k _ h
theorem bB{f:Bool->Option β}{r:β}{P:Bool->Prop}(h:(asB x).bind f=ba r)(k:∀i,f i=ba r->P i):isB P x:=by cases x<;>first|exact nn h|exact k _ h
theorem bL{f:List D->Option β}{r:β}{P:List D->Prop}(h:(Qb x).bind f=ba r)(k:∀i,f i=ba r->P i):isL P x:=by cases x<;>first|exact nn h|exact k _ h
theorem bT{f:bF->Option β}{r:β}{P:bF->Prop}(h:(jbs x).bind f=ba r)(k:∀i,f i=ba r->P i):jdx x P:=by cases x<;>first|exact nn h|exact k _ h
def YN(k:Int):List Int->Nat->Option Nat
 |[],_=>bc
 |n::ns,j=>if n=k then ba j else YN k ns (j+1)
def jga(xs:List D)(y:D):Option D:=(vA y).bind λk=>(yC xs).bind λns=>jQ (ns.length<=lim) ((YN k ns 0).bind λj=>ba (.int j))
def evE(ca:Nat->List D->Option R)(cn:Nat->D)(e:Ex->Sto->Option D)(x:Ex)(σ:Sto):Option D :=
 match x with
 |.var i=>match ji σ i with|some (.sh d)=>ba d|_=>bc
 |.cst d=>ba d
 |.con k=>ba (cn k)
 |.bin o a b=>(e a σ).bind λx=>(e b σ).bind λy=>jfz o x y
 |.neg a=>(e a σ).bind λx=>(vA x).bind λi=>ba (.int (-i))
 |.not a=>(e a σ).bind λx=>(asB x).bind λk=>ba (.bl (!k))
 |.cmp o a b=>(e a σ).bind λx=>(e b σ).bind λy=>jaC o x y
 |.chain o p a b c=>(e a σ).bind λx=>(e b σ).bind λy=>(jaC o x y).bind λz=>(asB z).bind λk=>if k then (e c σ).bind λu=>jaC p y u else ba (.bl bj)
 |.and a b=>(e a σ).bind λx=>(asB x).bind λk=>if k then e b σ else ba (.bl bj)
 |.or a b=>(e a σ).bind λx=>(asB x).bind λk=>if k then ba (.bl bh) else e b σ
 |.ife c a b=>(e c σ).bind λx=>(asB x).bind λk=>if k then e a σ else e b σ
 |.tup es=>(evs e σ es).bind λds=>ba (.tup ds)
 |.lst es=>(evs e σ es).bind λds=>ba (.lst ds)
 |.ix a b=>(e a σ).bind λx=>(e b σ).bind λy=>ixF x y
 |.call f es=>(evs e σ es).bind λds=>(ca f ds).bind okF
 |.bi f es=>(evs e σ es).bind λds=>biF f ds
 |.meth m o=>(e o σ).bind λx=>mtF m x
 |.isi a t=>(e a σ).bind λx=>ba (.bl (tyD t x))
 |.compR es b=>(evs e σ es).bind λds=>(rgF ds).bind λxs=>jQ (xs.length<=lim) ((UC (λd=>e b (σ ++ [ba (.sh d)])) xs).bind λys=>ba (.lst ys))
 |.compE a b=>(e a σ).bind λd=>(yt d).bind λxs=>jQ (xs.length<=lim) ((UC (λd=>e b (σ ++ [ba (.sh d)])) xs).bind λys=>ba (.lst ys))
 |.compZ a b c=>(e a σ).bind λx=>(e b σ).bind λy=>(Qb x).bind λxs=>(Qb y).bind λys=>jQ ((Jx xs ys).length<=lim) ((UC (λd=>e c (σ ++ [ba (.sh d)])) (Jx xs ys)).bind λzs=>ba (.lst zs))
 |.compN a c=>(e a σ).bind λx=>(Qb x).bind λxs=>jQ ((yR xs).length<=lim) ((UC (λd=>e c (σ ++ [ba (.sh d)])) (yR xs)).bind λzs=>ba (.lst zs))
 |.compF a c b=>(e a σ).bind λd=>(yt d).bind λxs=>jQ (xs.length<=lim) ((Zi (λd=>e c (σ ++ [ba (.sh d)])) (λd=>e b (σ ++ [ba (.sh d)])) xs).bind λys=>ba (.lst ys))
 |.slc a l h=>(e a σ).bind λx=>(jcV (xN l) (e l σ)).bind λy=>(jcV (xN h) (e h σ)).bind λz=>slF x y z
 |.lix a b=>(e a σ).bind λx=>(Qb x).bind λxs=>(e b σ).bind λy=>jga xs y
 |.sm o a b=>(e a σ).bind λx=>(jbs x).bind λx=>(e b σ).bind λy=>smF o x y
 |.fst es=>(jfb e σ es []).bind λl=>jQ (∀c∈l,c<1114112) (ba (.str ⟨l.toArray⟩))
def ctE(ca:Nat->List D->Option R)(z:Nat->Bool)(i:Nat):Ctr where
 pre ds:=∃r,ca i ds=ba r/\(z i=bh\/∃d,r=.ok d)
 res ds d:=ca i ds=ba (.ok d)
 exn ds y:=z i=bh/\ca i ds=ba (.ex y)
variable{ca:Nat->List D->Option R}{E:XD->Prop}
theorem x8{z:Nat->Bool}{d:D}(h:ca i ds=ba (.ok d))(q:Q d):(ctE ca z i).wp ds Q E :=
 ⟨⟨_,h,.inr ⟨d,rfl⟩⟩,λd' h'=>(by rw[show ca i ds=ba (.ok d') from h']at h;cases h;exact q),λy h'=>(by rw[show ca i ds=ba (.ex y) from h'.2]at h;cases h)⟩
theorem VY{z:Nat->Bool}{y:XD}(h:ca i ds=ba (.ex y))(hz:z i=bh)(q:E y):(ctE ca z i).wp ds Q E :=
 ⟨⟨_,h,.inl hz⟩,λd' h'=>(by rw[show ca i ds=ba (.ok d') from h']at h;cases h),λy' h'=>(by rw[show ca i ds=ba (.ex y') from h'.2]at h;cases h;exact q)⟩
variable{σ:Sto}{b:Sm}{K:DE}
section
variable {C:Cfg} {ca c0:Nat->List D->Option R} {z:Nat->Bool} (hC:∀i,C.ct i=ctE ca z i) (hl:∀i ds r,c0 i ds=ba r->ca i ds=ba r)
variable {e:Ex->Sto->Option D} (he:∀x σ d,e x σ=ba d->kF (wpE C x σ) d)
include he in
theorem hb{x:Ex}{f:D->Option β}{r:β}(h:(e x σ).bind f=ba r)(k:∀d,f d=ba r->Q d):wpE C x σ Q:=bb h λd e1 h=>he _ _ _ e1 _ (k d h)
include he in
theorem Vj{σ:Sto}:∀ {xs:List Ex} {ds:List D},evs e σ xs=ba ds->∀Q:List D->Prop,Q ds->j4 C xs σ Q
 |[],ds,h,Q,q=>by unfold j4;exact sq (P:=Q) h q
 |x::xs,ds,h,Q,q=>by
  unfold j4
  exact hb he h λd h=>bb h λzs e2 h=>Vj e2 _ (sq (P:=Q) h q)
include he in
theorem hbs{xs:List Ex}{f:List D->Option β}{r:β}{Q:List D->Prop}(h:(evs e σ xs).bind f=ba r)(k:∀d,f d=ba r->Q d):j4 C xs σ Q:=bb h λd e1 h=>Vj he e1 _ (k d h)
include he in
theorem Zv{σ:Sto}:∀ {xs:List Ex} {out l:List Nat},jfb e σ xs out=ba l->∀Q:List Nat->Prop,Q l->zd C xs out σ Q
 |[],out,l,h,Q,q=>by unfold zd;exact sq (P:=Q) h q
 |x::xs,out,l,h,Q,q=>by
  unfold zd
  exact hb he h λd h=>bb h λz e2 h=>bw h λa h=>⟨z,⟨e2,a⟩,Zv h _ q⟩
theorem Xf{k:Int}:∀ {ns:List Int} {s j:Nat},YN k ns s=ba j->s<=j/\ns[j-s]?=ba k/\∀m,m<j-s->ns[m]? ≠ ba k
 |[],s,j,h=>by cases h
 |n::ns,s,j,h=>by
  unfold YN at h;by_cases hk:n=k
  ·rw[if_pos hk]at h;cases h;rw[jj3];exact⟨bN _,by rw[hk];rfl,λm hm=>absurd hm (Nat.not_lt_zero _)⟩
  ·rw[if_neg hk]at h;obtain⟨h1,h2,h3⟩:=Xf h
   have e:j-s=(j-(s+1))+1:=by lia
   refine⟨by lia,by rw[e];exact h2,λm hm=>?_⟩
   cases m with
   |zero=>intro z;exact hk (by injection z)
   |succ m=>exact h3 m (by lia)
theorem jbP{d:D}(h:jga xs y=ba d):kF (jcA (.lst xs) y) d:=by
 replace h:=bind_some h;obtain⟨k,e1,h⟩:=h;cases z6 e1;replace h:=bind_some h;obtain⟨ns,e2,h⟩:=h;replace h:=jZ h;obtain⟨a,h⟩:=h;replace h:=bind_some h;obtain⟨j,e3,h⟩:=h;cases h;obtain⟨_,h2,h3⟩:=Xf e3
 exact λQ q=>⟨ns,j,kM e2,⟨a,h2,h3⟩,q⟩
theorem Zw{b:Bool}{x:Option D}{w:(D->Prop)->Prop}(hw:∀d,x=ba d->kF w d){r:Option Int}(h:jcV b x=ba r){Q:Option Int->Prop}(q:Q r):prt b w Q:=by
 unfold jcV at h;unfold prt
 cases b with
 |true=>rw[if_pos rfl]at h;cases h;rw[if_pos rfl];exact q
 |false =>
  rw[if_neg (by decide)]at h;rw[if_neg (by decide)];replace h:=bind_some h;obtain⟨d,e,h⟩:=h;refine hw d e _ ?_
  cases d<;>first|exact nn h|(cases h;exact q)
include hC hl he in
theorem je9{cn:Nat->D}(hn:∀k,C.cn k=cn k)(x:Ex)(σ:Sto)(d:D)(h:evE c0 cn e x σ=ba d):kF (wpE C x σ) d:=by
 intro Q q
 cases x<;>first|exact nn h|skip
 case var i =>
  replace h:(match ji σ i with|some (.sh d)=>ba d|_=>bc)=ba d:=h;rw[jW]
  cases g:ji σ i with
  |none=>rw[g]at h;cases h
  |some s=>cases s<;>(rw[g]at h;first|exact nn h|exact sq (P:=Q) h q)
 case cst=>exact sq (P:=Q) h q
 case con k=>rw[jdQ,hn];exact sq (P:=Q) h q
 case bin o a b=>exact hb he (x:=a) h λx h=>hb he h λy h=>jcL h Q q
 case neg a=>exact hb he (x:=a) h λx h=>bI h λi h=>sq (P:=Q) h q
 case not a=>exact hb he (x:=a) h λx h=>bB h λi h=>sq (P:=Q) h q
 case cmp o a b=>exact hb he (x:=a) h λx h=>hb he h λy h=>vg h Q q
 case chain o p a b c=>exact hb he (x:=a) h λx h=>hb he h λy h=>bb h λz e3 h=>vg e3 _ (bB h λk h=>bf h (λh=>hb he h λu h=>vg h Q q) λh=>sq (P:=Q) h q)
 case and a b=>exact hb he (x:=a) h λx h=>bB h λk h=>bf h (λh=>he _ _ _ h _ q) λh=>sq (P:=Q) h q
 case or a b=>exact hb he (x:=a) h λx h=>bB h λk h=>bf h (λh=>sq (P:=Q) h q) λh=>he _ _ _ h _ q
 case ife c a b=>exact hb he (x:=c) h λx h=>bB h λk h=>bf h (λh=>he _ _ _ h _ q) λh=>he _ _ _ h _ q
 case tup es=>exact hbs he h λds h=>sq (P:=Q) h q
 case lst es=>exact hbs he h λds h=>sq (P:=Q) h q
 case ix a b=>exact hb he (x:=a) h λx h=>hb he h λy h=>VF h Q q
 case call f es =>
  rw[qU,hC]
  exact hbs he h λds h=>bb h λr e2 h=>x8 (hl _ _ _ (by rw[e2,VC h])) q
 case bi f es=>exact hbs he h λds h=>jam h Q q
 case meth m o=>exact hb he (x:=o) h λx h=>jeK h Q q
 case isi a t=>exact hb he (x:=a) h λx h=>sq (P:=Q) h q
 case compR es b=>exact hbs he h λds h=>bb h λxs e2 h=>VJ e2 (bw h λa h=>bb h λys e3 h=>⟨a,zH (λd y hd=>he _ _ _ hd) e3 _ (sq (P:=Q) h q)⟩)
 case compE a b=>exact hb he (x:=a) h λx h=>bb h λxs e2 h=>bw h λa h=>bb h λys e3 h=>⟨xs,e2,a,zH (λd y hd=>he _ _ _ hd) e3 _ (sq (P:=Q) h q)⟩
 case compZ a b c=>exact hb he (x:=a) h λx h=>hb he h λy h=>bb h λxs e3 h=>bb h λys e4 h=>bw h λa h=>bb h λzs e5 h=>⟨xs,ys,⟨u0 e3,u0 e4⟩,a,zH (λd y hd=>he _ _ _ hd) e5 _ (sq (P:=Q) h q)⟩
 case compN a c=>exact hb he (x:=a) h λx h=>bb h λxs e3 h=>bw h λa h=>bb h λzs e5 h=>⟨xs,u0 e3,a,zH (λd y hd=>he _ _ _ hd) e5 _ (sq (P:=Q) h q)⟩
 case compF a c b=>exact hb he (x:=a) h λx h=>bb h λxs e2 h=>bw h λa h=>bb h λys e3 h=>⟨xs,e2,a,vQ (λd y hd=>he _ _ _ hd) (λd y hd=>he _ _ _ hd) e3 _ (sq (P:=Q) h q)⟩
 case slc a l u=>exact hb he (x:=a) h λx h=>bb h λy e2 h=>bb h λz e3 h=>Zw (λd hd=>he _ _ _ hd) e2 (Zw (λd hd=>he _ _ _ hd) e3 (jeh h Q q))
 case lix a b=>exact hb he (x:=a) h λx h=>bL h λxs h=>hb he h λy h=>jbP h Q q
 case sm o a b=>exact hb he (x:=a) h λx h=>bT h λxs h=>hb he h λy h=>jaE h Q q
 case fst es=>exact bb h λl e1 h=>Zv he e1 _ (jJ h Q q)
def fin(K:DE):Out->Prop
 |.nx σ=>K.nx σ
 |.rt d=>K.rt d
 |.bk σ=>K.bk σ
 |.ct σ=>K.ct σ
 |.xn y=>K.xn y
theorem fq{o o':Out}(h:ba o'=ba o)(q:fin K o):fin K o':=dF h ▸ q
def frR(Q:D->Prop)(E:XD->Prop):R->Prop
 |.ok d=>Q d
 |.ex y=>E y
theorem fqR{o o':R}(h:ba o'=ba o)(q:frR Q E o):frR Q E o':=dF h ▸ q
def owF:Option Sl->Option (List D)
 |some (.ow ds)=>ba ds
 |_=>bc
theorem Qc{s:Option Sl}(h:owF s=ba ds):s=ba (.ow ds):=by
 cases s with
 |none=>cases h
 |some s=>cases s<;>cases h;rfl
def jgL:D->Option (List D)
 |.tup xs=>ba xs
 |.lst xs=>ba xs
 |_=>bc
def UV(s:Sto->Option Out)(i:Nat):List D->Sto->Option Out
 |[],σ=>ba (.nx σ)
 |d::ds,σ=>(s (jC σ i (ba (.sh d)))).bind λo=>match o with
  |.nx σ'=>UV s i ds σ'
  |.ct σ'=>UV s i ds σ'
  |.bk σ'=>ba (.nx σ')
  |.rt d=>ba (.rt d)
  |.xn y=>ba (.xn y)
def jas(e:Sto->Option D)(i s:Nat):List D->Sto->Option Out
 |[],σ=>ba (.nx σ)
 |d::ds,σ=>(e (jC σ i (ba (.sh d)))).bind λy=>jas e i s ds (jC (jC σ i (ba (.sh d))) s (ba (.sh y)))
def jfP(x:bF):D->Bool
 |.lst _=>bh
 |_=>!decide (x=("Dependent":bF))
def jcg(ca:Nat->List D->Option R)(z:Nat->Bool)(e:Ex->Sto->Option D)(σ:Sto)(f:Nat)(es:List Ex):List (Nat×List Ex)->Option R
 |[]=>(evs e σ es).bind λds=>(ca f ds).bind λr=>match r with|.ok d=>ba (.ok d)|.ex y=>jQ (z f=bh) (ba (.ex y))
 |gr::rest=>(jcg ca z e σ f es rest).bind λr=>match r with
  |.ok d=>(evs e σ gr.2).bind λds=>(ca gr.1 (d::ds)).bind λr=>(okF r).bind λd=>ba (.ok d)
  |.ex y=>ba (.ex y)
def jfi(ca:Nat->List D->Option R)(z:Nat->Bool)(e:Ex->Sto->Option D)(s:Sm->Sto->Option Out)(b:Sm)(σ:Sto):Option Out :=
 match b with
 |.nop=>ba (.nx σ)
 |.seq a b=>(s a σ).bind λo=>match o with|.nx σ'=>s b σ'|.rt d=>ba (.rt d)|.bk σ'=>ba (.bk σ')|.ct σ'=>ba (.ct σ')|.xn y=>ba (.xn y)
 |.set i x=>(e x σ).bind λd=>ba (.nx (jC σ i (ba (.sh d))))
 |.unp is x=>(e x σ).bind λd=>(jgL d).bind λds=>(km is ds σ).bind λσ'=>ba (.nx σ')
 |.ret x=>(e x σ).bind λd=>ba (.rt d)
 |.ite c a b=>(e c σ).bind λx=>(asB x).bind λk=>if k then s a σ else s b σ
 |.whl c b=>(e c σ).bind λx=>(asB x).bind λk=>if k then (s b σ).bind λo=>match o with
  |.nx σ'=>s (.whl c b) σ'
  |.ct σ'=>s (.whl c b) σ'
  |.bk σ'=>ba (.nx σ')
  |.rt d=>ba (.rt d)
  |.xn y=>ba (.xn y)
  else ba (.nx σ)
 |.forR i es b=>(evs e σ es).bind λds=>(rgF ds).bind λxs=>UV (s b) i xs σ
 |.forE i x b=>(e x σ).bind λd=>(yt d).bind λxs=>UV (s b) i xs σ
 |.forN i x b=>(e x σ).bind λd=>(Qb d).bind λxs=>UV (s b) i (yR xs) σ
 |.brk=>ba (.bk σ)
 |.cnt=>ba (.ct σ)
 |.new i=>ba (.nx (jC σ i (ba (.ow []))))
 |.ext i x=>(owF (ji σ i)).bind λds=>(e x σ).bind λd=>(Qb d).bind λxs=>jQ (ds.length+xs.length<=lim) (ba (.nx (jC σ i (ba (.ow (ds++xs))))))
 |.app i x=>(owF (ji σ i)).bind λds=>jQ (ds.length<lim) ((e x σ).bind λd=>ba (.nx (jC σ i (ba (.ow (ds ++ [d]))))))
 |.shr i=>(owF (ji σ i)).bind λds=>ba (.nx (jC σ i (ba (.sh (.lst ds)))))
 |.raise x=>ba (.xn ⟨0,x,[]⟩)
 |.raiseA x v=>(e v σ).bind λd=>jQ (jfP x d=bh) (ba (.xn ⟨0,x,[d]⟩))
 |.retX fs f es=>(jcg ca z e σ f es fs).bind λr=>match r with|.ok d=>ba (.rt d)|.ex y=>ba (.xn y)
 |.setX i fs f es=>(jcg ca z e σ f es fs).bind λr=>match r with|.ok d=>ba (.nx (jC σ i (ba (.sh d))))|.ex y=>ba (.xn y)
 |.forU i j k x=>(owF (ji σ j)).bind λds=>jas (e x) i k ds σ
 |_=>bc
include hC hl he in
theorem Ks{σ:Sto}{f:Nat}{es:List Ex}:∀ {fs:List (Nat×List Ex)} {r:R},jcg c0 z e σ f es fs=ba r->∀(Q:D->Prop) (E:XD->Prop),frR Q E r->wpN C σ f es fs Q E
 |[],r,h,Q,E,q=>by
  unfold wpN;rw[hC]
  refine hbs he h λds h=>bb h λr' e2 h=>?_
  cases r' with
  |ok d=>exact x8 (hl _ _ _ e2) (fqR h q)
  |ex y=>exact bw h λa h=>VY (hl _ _ _ e2) a (fqR h q)
 |gr::rest,r,h,Q,E,q=>by
  unfold wpN
  refine bb h λr' e1 h=>Ks e1 _ E ?_
  cases r' with
  |ok d=>exact(hbs he h λds h=>bb h λr2 e3 h=>bb h λd2 e4 h=>by rw[hC];exact x8 (hl _ _ _ (by rw[e3,VC e4])) (fqR h q))
  |ex y=>exact fqR (Q:=Q) h q
variable {s:Sm->Sto->Option Out} (hs:∀b σ o,s b σ=ba o->∀K:DE,fin K o->wpS C b K σ)
include hs in
theorem zr{b:Sm}{i:Nat}:∀ {xs:List D} {σ:Sto} {o:Out},UV (s b) i xs σ=ba o->∀K:DE,fin K o->forL (λK σ=>wpS C b K σ) i K xs σ
 |[],σ,o,h,K,q=>fq h q
 |d::ds,σ,o,h,K,q=>by
  refine bb h λo' e1 h=>hs _ _ _ e1 _ ?_
  cases o' with
  |nx σ'=>exact zr h K q
  |ct σ'=>exact zr h K q
  |bk σ'=>exact fq (K:=K) h q
  |rt d=>exact fq (K:=K) h q
  |xn y=>exact fq (K:=K) h q
include he in
theorem Ql{x:Ex}{i k:Nat}:∀ {xs:List D} {σ:Sto} {o:Out},jas (e x) i k xs σ=ba o->∀K:DE,fin K o->z8 (λσ Q=>wpE C x σ Q) i k K xs σ
 |[],σ,o,h,K,q=>fq h q
 |d::ds,σ,o,h,K,q=>hb he h λy h=>Ql h K q
theorem jcS(hc:kF (wpE C c σ) (.bl bj))(q:K.nx σ):wpS C (.whl c b) K σ:=by
 rw[Yj];refine⟨λ_ s=>s=σ,⟨0,rfl⟩,?_⟩;rintro m s rfl;exact hc _ q
theorem vB(hc:kF (wpE C c σ) (.bl bh))(hb:∀K':DE,K'.bk=K.nx->K'.rt=K.rt->K'.xn=K.xn->wpS C b K' σ):wpS C (.whl c b) K σ:=by
 rw[Yj];refine⟨λ_ s=>s=σ,⟨0,rfl⟩,?_⟩;rintro m s rfl;exact hc _ (hb _ rfl rfl rfl)
theorem QM{σ':Sto}(w:wpS C (.whl c b) K σ')(hc:kF (wpE C c σ) (.bl bh))(hb:∀K':DE,K'.nx σ'->K'.ct σ'->wpS C b K' σ):wpS C (.whl c b) K σ:=by
 rw[Yj]at w ⊢;obtain⟨W,⟨m0,w0⟩,hw⟩:=w;refine⟨λm s=>W m s\/(m=m0+1/\s=σ),⟨m0+1,.inr ⟨rfl,rfl⟩⟩,?_⟩;rintro m s (h|⟨rfl,rfl⟩)
 ·refine ja c (λd=>jT λt wt=>?_) (hw m s h)
  cases t with
  |true =>
   rw[if_pos rfl]at wt ⊢;refine js b ?_ wt
   exact⟨λσ ⟨m',h1,h2⟩=>⟨m',h1,.inl h2⟩,λ_ q=>q,λ_ q=>q,λσ ⟨m',h1,h2⟩=>⟨m',h1,.inl h2⟩,λ_ q=>q,λ_ q=>q,λ_ q=>q⟩
  |false=>rw[if_neg (by decide)]at wt ⊢;exact wt
 ·exact hc _ (hb _ ⟨m0,g9 _,.inl w0⟩ ⟨m0,g9 _,.inl w0⟩)
theorem jb0{x:bF}{d:D}(h:jfP x d=bh):jdo x d:=by
 intro hx
 cases d<;>first|exact⟨_,rfl⟩|(exfalso;have h:(!decide (x=("Dependent":bF)))=true:=h;rw[decide_eq_true hx]at h;cases h)
include hC hl he hs in
theorem jbY(b:Sm)(σ:Sto)(o:Out)(h:jfi c0 z e s b σ=ba o)(K:DE)(q:fin K o):wpS C b K σ:=by
 cases b<;>first|exact nn h|skip
 case nop=>exact fq h q
 case seq a b =>
  refine bb h λo' e1 h=>hs a _ _ e1 _ ?_
  cases o' with
  |nx σ'=>exact hs _ _ _ h K q
  |rt d=>exact fq (K:=K) h q
  |bk σ'=>exact fq (K:=K) h q
  |ct σ'=>exact fq (K:=K) h q
  |xn y=>exact fq (K:=K) h q
 case set i x=>exact hb he h λd h=>fq h q
 case unp is x=>exact hb he h λd h=>bb h λds e2 h=>bb h λσ' e3 h9=>by cases d<;>first|cases e2;done|(cases e2;exact⟨σ',e3,fq h9 q⟩)
 case ret x=>exact hb he h λd h=>fq h q
 case ite c a b=>exact hb he h λx h=>bB h λk h=>bf h (λh=>hs _ _ _ h K q) λh=>hs _ _ _ h K q
 case whl c b =>
  refine bb h λx e1 h=>bb h λk e4 h9=>?_
  have ez:=q9 e4;subst ez
  cases k with
  |true =>
   refine bb h9 λo' e2 h=>?_
   cases o' with
   |nx σ'=>exact QM (hs _ _ _ h K q) (he _ _ _ e1) λK' n _=>hs _ _ _ e2 K' n
   |ct σ'=>exact QM (hs _ _ _ h K q) (he _ _ _ e1) λK' _ n=>hs _ _ _ e2 K' n
   |bk σ'=>exact vB (he _ _ _ e1) λK' h1 h2 h3=>hs _ _ _ e2 K' (by show K'.bk _;rw[h1];exact fq h q)
   |rt d=>exact vB (he _ _ _ e1) λK' h1 h2 h3=>hs _ _ _ e2 K' (by show K'.rt _;rw[h2];exact fq h q)
   |xn y=>exact vB (he _ _ _ e1) λK' h1 h2 h3=>hs _ _ _ e2 K' (by show K'.xn _;rw[h3];exact fq h q)
  |false=>exact jcS (he _ _ _ e1) (fq h9 q)
 case forR i es b=>exact hbs he h λds h=>bb h λxs e2 h=>VJ e2 (zr hs h K q)
 case forE i x b=>exact hb he h λd h=>bb h λxs e2 h=>⟨xs,e2,zr hs h K q⟩
 case forN i x b=>exact hb he h λd h=>bL h λxs h=>zr hs h K q
 case brk=>exact fq h q
 case cnt=>exact fq h q
 case new i=>exact fq h q
 case ext i x =>
  refine bb h λds e1 h=>?_
  rw[jbj,Qc e1]
  exact hb he h λd h=>bL h λxs h=>bw h λa h=>⟨a,fq h q⟩
 case app i x =>
  refine bb h λds e1 h=>bw h λa h=>?_
  rw[Xt,Qc e1];exact⟨a,hb he h λd h=>fq h q⟩
 case shr i =>
  refine bb h λds e1 h=>?_
  rw[Xy,Qc e1];exact fq h q
 case raise x=>exact fq h q
 case raiseA x v=>exact hb he h λd h=>bw h λa h=>⟨jb0 a,fq h q⟩
 case retX fs f es=>exact bb h λr e1 h=>Ks hC hl he e1 _ _ (by cases r<;>exact fq h q)
 case setX i fs f es=>exact bb h λr e1 h=>Ks hC hl he e1 _ _ (by cases r<;>exact fq h q)
 case forU i j k x =>
  refine bb h λds e1 h=>?_
  rw[jbR,Qc e1];exact Ql he h K q
end
def ev(ca:Nat->List D->Option R)(z:Nat->Bool)(cn:Nat->D):Nat->Ev
 |0=>⟨λ_ _=>bc,λ_ _=>bc⟩
 |n+1=>⟨evE ca cn (ev ca z cn n).e,jfi ca z (ev ca z cn n).e (ev ca z cn n).s⟩
theorem ZI{C:Cfg}{ca c0:Nat->List D->Option R}{z:Nat->Bool}{cn:Nat->D}(hC:∀i,C.ct i=ctE ca z i)(hl:∀i ds r,c0 i ds=ba r->ca i ds=ba r)(hn:∀k,C.cn k=cn k) :
 ∀n,(∀x σ d,(ev c0 z cn n).e x σ=ba d->kF (wpE C x σ) d)/\∀b σ o,(ev c0 z cn n).s b σ=ba o->∀K:DE,fin K o->wpS C b K σ
 |0=>⟨λ_ _ _ h=>(by cases h),λ_ _ _ h=>(by cases h)⟩
 |n+1=>by
  have ih:=ZI hC hl hn n;exact⟨λx σ d h=>je9 hC hl ih.1 hn x σ d h,λb σ o h K q=>jbY hC hl ih.1 ih.2 b σ o h K q⟩
def jgO:Out->Option R
 |.rt d=>ba (.ok d)
 |.nx _=>ba (.ok .non)
 |.xn y=>ba (.ex y)
 |_=>bc
def tab(L:List (Sm×Nat))(z:Nat->Bool)(cn:Nat->D)(F:Nat):Nat->Nat->List D->Option R
 |0,_,_=>bc
 |k+1,j,ds=>if j=k then (L[k]?).bind λp=>((ev (tab L z cn F k) z cn F).s p.1 (jS p.2 ds)).bind jgO else tab L z cn F k j ds
theorem Yh{L:List (Sm×Nat)}{z:Nat->Bool}{cn:Nat->D}{F:Nat}:∀ {k j:Nat} {ds:List D} {r:R},tab L z cn F k j ds=ba r->j<k
 |0,j,ds,r,h=>by cases h
 |k+1,j,ds,r,h=>by
  unfold tab at h;by_cases e:j=k
  ·lia
  ·rw[if_neg e]at h;have:=Yh h;lia
theorem vM{L:List (Sm×Nat)}{z:Nat->Bool}{cn:Nat->D}{F:Nat}{k j:Nat}{ds:List D}(h:j<k):∀ {n:Nat},k<=n->tab L z cn F n j ds=tab L z cn F k j ds
 |0,hn=>by lia
 |n+1,hn=>by
  by_cases e:k=n+1
  ·rw[e]
  ·rw[tab,if_neg (by lia)];exact vM h (by lia)
variable{F n:Nat}
theorem jfK{L:List (Sm×Nat)}{z:Nat->Bool}{cn:Nat->D}{C:Cfg}(hC:∀i,C.ct i=ctE (tab L z cn F n) z i)(hn:∀k,C.cn k=cn k)(hk:L[k]?=ba (b,m))(kn:k<n)(hz:z k=bh):jac C m b (ctE (tab L z cn F n) z k):=by
 rintro ds ⟨r,h,_⟩;have h':=h;rw[vM (k:=k+1) (by lia) (by lia),tab,if_pos rfl,hk]at h';replace h':=bind_some (a:=ba (b,m)) h';obtain⟨p,ep,h'⟩:=h';cases ep;replace h':=bind_some h';obtain⟨o,e1,h'⟩:=h';refine(ZI hC (λi ds r q=>by rw[vM (Yh q) (by lia)];exact q) hn F).2 _ _ _ e1 _ ?_
 cases o with
 |rt d=>cases h';exact h
 |nx σ=>cases h';exact h
 |xn y=>cases h';exact⟨hz,h⟩
 |bk σ=>cases h'
 |ct σ=>cases h'
theorem jfD{L:List (Sm×Nat)}{z:Nat->Bool}{cn:Nat->D}{C:Cfg}(hC:∀i,C.ct i=ctE (tab L z cn F n) z i)(hn:∀k,C.cn k=cn k)(hk:L[k]?=ba (b,m))(kn:k<n)(hz:z k=bj):QI C m b (ctE (tab L z cn F n) z k):=by
 rintro ds ⟨r,h,hr⟩;have h':=h;rw[vM (k:=k+1) (by lia) (by lia),tab,if_pos rfl,hk]at h';replace h':=bind_some (a:=ba (b,m)) h';obtain⟨p,ep,h'⟩:=h';cases ep;replace h':=bind_some h';obtain⟨o,e1,h'⟩:=h';refine(ZI hC (λi ds r q=>by rw[vM (Yh q) (by lia)];exact q) hn F).2 _ _ _ e1 _ ?_
 cases o with
 |rt d=>cases h';exact h
 |nx σ=>cases h';exact h
 |xn y =>
  cases h';rcases hr with q|⟨d,q⟩
  ·rw[hz]at q;cases q
  ·cases q
 |bk σ=>cases h'
 |ct σ=>cases h'
theorem al{f:α->Bool}{l:List α}(n:Nat)(a:(l.take n).all f=bh)(b:(l.drop n).all f=bh):l.all f=true:=by
 rw[<- jhu n l,List.all_append,a,b];rfl
end Z.EV
namespace Z.DL
open PySem Z Z.EV
structure Dk where
 w:Int
 g:Int
 m:Bool
 T:List D
inductive Fd where
 |w|g|t
 deriving DecidableEq
def Fd.nm:Fd->bF
 |.w=>"width"
 |.g=>"digits"
 |.t=>"table"
def Fd.d(k:Dk):Fd->D
 |.w=>.int k.w
 |.g=>.int k.g
 |.t=>.lst k.T
inductive X where
 |pu (x:Ex)
 |fl (f:Fd)
 |call (f:Nat) (xs:List X)
 |dsk (b:Bool) (f:Nat) (xs:List X)
 |lst (xs:List X)
 |len (a:X)
 |ix (a b:X)
 |cmp (o:COp) (a b:X)
 |no (a:X)
 |and (a b:X)
 |ife (c a b:X)
 |jn (a:bF) (b:X)
 |comp (a b:X)
 |nin (i:Nat) (a:X)
 |item (i:Nat) (a:X)
 |lset (a:X)
 |str (a:X)
structure G where
 e:Ex->Sto->Option D
 ca:Nat->List D->Option R
 z:Nat->Bool
 da:Nat->Dk->List D->Option R
 dd:Nat->List (bF×D)
inductive Rs where
 |ok (ds:List D)
 |ex (y:XD)
def bR(r:Option R)(f:D->Option R):Option R:=match r with
 |some (.ok d)=>f d
 |some (.ex y)=>ba (.ex y)
 |none=>bc
def bS(r:Option R)(f:D->Option Rs):Option Rs:=match r with
 |some (.ok d)=>f d
 |some (.ex y)=>ba (.ex y)
 |none=>bc
def bT(r:Option Rs)(f:List D->Option R):Option R:=match r with
 |some (.ok d)=>f d
 |some (.ex y)=>ba (.ex y)
 |none=>bc
def cR(r:Option Rs)(d:D):Option Rs:=match r with
 |some (.ok ds)=>ba (.ok (d::ds))
 |some (.ex y)=>ba (.ex y)
 |none=>bc
def okR(d:Option D):Option R:=match d with
 |some d=>ba (.ok d)
 |none=>bc
def cmR(f:D->Option R):List D->Option Rs
 |[]=>ba (.ok [])
 |d::ds=>bS (f d) λy=>cR (cmR f ds) y
def nub(ns:List Int):List Int:=jj9 (λi=>ns.getD i 0) ns.length
def lsF(x:D):Option D:=(Qb x).bind λxs=>(yC xs).bind λns=>jQ (ns.length<=1000) (ba (.int (nub ns).length))
def getD?(l:List (bF×D))(s:bF):Option D:=match l with
 |[]=>bc
 |(x,d)::r=>if x=s then ba d else getD? r s
mutual
noncomputable def rn(g:G)(k:Dk):Sto->X->Option R
 |σ,.pu x=>okR (g.e x σ)
 |_,.fl f=>ba (.ok (f.d k))
 |σ,.call f xs=>bT (rns g k σ xs) λds=>(g.ca f ds).bind λr=>match r with|.ok d=>ba (.ok d)|.ex y=>jQ (g.z f=bh) (ba (.ex y))
 |σ,.dsk _ f xs=>bT (rns g k σ xs) λds=>g.da f k ds
 |σ,.lst xs=>bT (rns g k σ xs) λds=>ba (.ok (.lst ds))
 |σ,.len a=>bR (rn g k σ a) λx=>okR (je1 x)
 |σ,.ix a b=>bR (rn g k σ a) λx=>bR (rn g k σ b) λy=>okR (ixF x y)
 |σ,.cmp o a b=>bR (rn g k σ a) λx=>bR (rn g k σ b) λy=>okR (jaC o x y)
 |σ,.no a=>bR (rn g k σ a) λx=>(asB x).bind λt=>ba (.ok (.bl (!t)))
 |σ,.and a b=>bR (rn g k σ a) λx=>(asB x).bind λt=>if t then rn g k σ b else ba (.ok (.bl bj))
 |σ,.ife c a b=>bR (rn g k σ c) λx=>(asB x).bind λt=>if t then rn g k σ a else rn g k σ b
 |σ,.jn s b=>bR (rn g k σ b) λy=>okR (smF .jn s y)
 |σ,.comp a b=>bR (rn g k σ a) λx=>(yt x).bind λxs=>jQ (xs.length<=lim) (bT (cmR (λd=>rn g k (σ ++ [ba (.sh d)]) b) xs) λys=>ba (.ok (.lst ys)))
 |σ,.nin i a=>bR (rn g k σ a) λx=>(jbs x).bind λs=>ba (.ok (.bl (getD? (g.dd i) s).isNone))
 |σ,.item i a=>bR (rn g k σ a) λx=>(jbs x).bind λs=>okR (getD? (g.dd i) s)
 |σ,.lset a=>bR (rn g k σ a) λx=>okR (lsF x)
 |σ,.str a=>bR (rn g k σ a) λx=>okR (biF .str [x])
noncomputable def rns(g:G)(k:Dk):Sto->List X->Option Rs
 |_,[]=>ba (.ok [])
 |σ,x::xs=>bS (rn g k σ x) λd=>cR (rns g k σ xs) d
end
mutual
noncomputable def tb:X->Bool
 |.pu _=>bj
 |.fl f=>decide (f=.t)
 |.call _ xs=>tbs xs
 |.dsk b _ xs=>b ||tbs xs
 |.lst xs=>tbs xs
 |.len a=>tb a
 |.ix a b=>tb a ||tb b
 |.cmp _ a b=>tb a ||tb b
 |.no a=>tb a
 |.and a b=>tb a ||tb b
 |.ife c a b=>tb c ||(tb a ||tb b)
 |.jn _ b=>tb b
 |.comp a b=>tb a ||tb b
 |.nin _ a=>tb a
 |.item _ a=>tb a
 |.lset a=>tb a
 |.str a=>tb a
noncomputable def tbs:List X->Bool
 |[]=>bj
 |x::xs=>tb x ||tbs xs
end
def fi(r:Option R)(Q:D->Prop)(E:XD->Prop):Prop:=match r with
 |some (.ok d)=>Q d
 |some (.ex y)=>E y
 |none=>False
def fs(r:Option Rs)(Q:List D->Prop)(E:XD->Prop):Prop:=match r with
 |some (.ok d)=>Q d
 |some (.ex y)=>E y
 |none=>False
variable{r:Option R}{Q:D->Prop}{E E':XD->Prop}
theorem jq{Q':D->Prop}(q:∀d,r=ba (.ok d)->Q d->Q' d)(e:∀y,E y->E' y)(h:fi r Q E):fi r Q' E':=by
 rcases r with _|(d|y)
 ·exact h
 ·exact q d rfl h
 ·exact e y h
theorem xV{r:Option Rs}{Q Q':List D->Prop}(q:∀d,r=ba (.ok d)->Q d->Q' d)(e:∀y,E y->E' y)(h:fs r Q E):fs r Q' E':=by
 rcases r with _|(d|y)
 ·exact h
 ·exact q d rfl h
 ·exact e y h
theorem qA{f:D->Option R}(h:fi (bR r f) Q E):fi r (λd=>fi (f d) Q E) E:=by rcases r with _|(d|y)<;>exact h
theorem jc5{f:D->Option Rs}{Q:List D->Prop}(h:fs (bS r f) Q E):fi r (λd=>fs (f d) Q E) E:=by rcases r with _|(d|y)<;>exact h
variable{r:Option Rs}
theorem JM{f:List D->Option R}(h:fi (bT r f) Q E):fs r (λd=>fi (f d) Q E) E:=by rcases r with _|(d|y)<;>exact h
theorem jdd{d:D}{Q:List D->Prop}(h:fs (cR r d) Q E):fs r (λds=>Q (d::ds)) E:=by rcases r with _|(d|y)<;>exact h
theorem xD{r:Option D}(h:fi (okR r) Q E):∃d,r=ba d/\Q d:=by
 cases r with
 |none=>exact h.elim
 |some d=>exact⟨d,rfl,h⟩
inductive FB {α:Type} (a:Option α) (f:α->Option R) (Q:D->Prop) (E:XD->Prop):Prop
 |mk (x:α) (e:a=ba x) (h:fi (f x) Q E)
theorem qi{α:Type}{a:Option α}{f:α->Option R}(h:fi (a.bind f) Q E):FB a f Q E:=by
 cases a with
 |none=>exact h.elim
 |some x=>exact⟨x,rfl,h⟩
theorem Ku{p:Prop}[Decidable p]{a:Option R}(h:fi (jQ p a) Q E):p/\fi a Q E:=by
 unfold jQ at h;split at h
 ·exact⟨‹_›,h⟩
 ·exact h.elim
inductive S where
 |ex (x:X)
 |set (i:Nat) (x:X)
 |rif (c:X) (n:bF)
 |ret (x:X)
 |rtif (c x:X)
inductive Ou where
 |nx (σ:Sto)
 |rt (d:D)
 |ex (y:XD)
def oR(r:Option R)(f:D->Option Ou):Option Ou:=match r with
 |some (.ok d)=>f d
 |some (.ex y)=>ba (.ex y)
 |none=>bc
def stp(g:G)(k:Dk)(σ:Sto):S->Option Ou
 |.ex x=>oR (rn g k σ x) λ_=>ba (.nx σ)
 |.set i x=>oR (rn g k σ x) λd=>ba (.nx (jC σ i (ba (.sh d))))
 |.rif c n=>oR (rn g k σ c) λd=>(asB d).bind λt=>if t then ba (.ex ⟨0,n,[]⟩) else ba (.nx σ)
 |.ret x=>oR (rn g k σ x) λd=>ba (.rt d)
 |.rtif c x=>oR (rn g k σ c) λd=>(asB d).bind λt=>if t then oR (rn g k σ x) λd=>ba (.rt d) else ba (.nx σ)
def Uo(g:G)(k:Dk):List S->Sto->Option R
 |[],_=>ba (.ok .non)
 |s::r,σ=>match stp g k σ s with
  |some (.nx σ')=>Uo g k r σ'
  |some (.rt d)=>ba (.ok d)
  |some (.ex y)=>ba (.ex y)
  |none=>bc
def tbS:S->Bool
 |.ex x=>tb x
 |.set _ x=>tb x
 |.rif c _=>tb c
 |.ret x=>tb x
 |.rtif c x=>tb c ||tb x
end Z.DL
namespace Z.DL
open PySem PySem.Spec PySem.Calls PyProof.Rows PySem.W L2 Z Z.EV
structure DictK (K:Frag) (pr:Params) (P:bq->D->Prop) (a:Addr) (l:List (bF×D)):Prop where
 ob:∃es n,K.lookup a=ba ⟨.type "dict",bc,.dict es n,#[]⟩/\KeysLit pr es.toList/\wJ (λ(e:pY) (p:bF×D)=>(∃t,e.key=.str p.1 t)/\P e.val p.2) es.toList l
 lo:(a == jh5)=bj
theorem jay{P:bq->D->Prop}{s:bF}:∀ {es:List pY} {l:List (bF×D)},wJ (λ(e:pY) (p:bF×D)=>(∃t,e.key=.str p.1 t)/\P e.val p.2) es l ->
 ((es.find? λd=>pG s d.key).map (·.val)=bc/\getD? l s=bc)\/∃v d,(es.find? λd=>pG s d.key).map (·.val)=ba v/\getD? l s=ba d/\P v d
 |_,_,.nil=>.inl ⟨rfl,rfl⟩
 |_,_,.cons (a:=e) (b:=p) h t=>by
  obtain⟨⟨tk,hk⟩,hp⟩:=h;obtain⟨x,d⟩:=p;by_cases q:x=s
  ·subst q;refine .inr ⟨e.val,d,?_,by unfold getD?;rw[if_pos rfl],hp⟩;rw[jjg,hk];simp[pG]
  ·have n:pG s e.key=false:=by rw[hk];simpa[pG]using q
   rw[jjg,n];unfold getD?;rw[if_neg q];exact jay t
variable{K:Frag}{P:bq->D->Prop}{a:Addr}{l:List (bF×D)}
theorem jfO{prog:dg}{w:World}{h:dR}(F:DictK K w.params P a l)(X:K.In h):∃f:bF->Option bq,h.MapOf (strKind prog w) a f/\∀s,(f s=bc/\getD? l s=bc)\/∃v d,f s=ba v/\getD? l s=ba d/\P v d:=by
 obtain⟨es,n,lk,kl,pr⟩:=F.ob;refine⟨_,mapOf_K (prog:=prog) X lk kl,λs=>?_⟩;have:=jay (s:=s) pr;obtain⟨es⟩:=es;unfold findBy;rw[List.find?_toArray];exact this
def PD(K:Frag)(v:bq)(d:D):Prop:=∃u,jH u v/\∀S,Is K S d u
theorem YJ{X:Cx}(F:DictK X.K X.w.params P a l):OpR X (gU .NotIn) (λx y H Q=>∃s,x=.str s/\y=.ref a/\Q (.bl (getD? l s).isNone) H):=by
 rintro pins s σ H x y u v Q I rx ry ⟨z,rfl,rfl,q⟩
 obtain⟨t,rfl⟩:=(show ∃t,u=jhM z t from rx)
 cases (show v=dG a from ry);obtain⟨f,hm,hf⟩:=jfO (prog:=X.prog) F I.kIn;refine wpAny_notIn_of (strKind_is X.prog X.w z t) F.lo hm ?_;rcases hf z with⟨h1,h2⟩|⟨v,d,h1,h2,_⟩
 ·rw[h1];rw[h2]at q;exact⟨.bl bh,H,I.tok _,rfl,q⟩
 ·rw[h1];rw[h2]at q;exact⟨.bl bj,H,I.tok _,rfl,q⟩
theorem jfI{X:Cx}(F:DictK X.K X.w.params P a l):IxR X (λx y H Q=>∃s d,x=.ref a/\y=.str s/\getD? l s=ba d/\∀u,P u d->∃v,jH v u/\Q v H):=by
 rintro value slice pins s σ H x y v u Q I rx ry ⟨z,d,rfl,rfl,hd,q⟩ hs;cases (show v=dG a from rx)
 obtain⟨t,rfl⟩:=(show ∃t,u=jhM z t from ry)
 obtain⟨f,hm,hf⟩:=jfO (prog:=X.prog) F I.kIn;rcases hf z with⟨_,h2⟩|⟨v,d',h1,h2,hp⟩
 ·rw[hd]at h2;cases h2
 ·rw[hd]at h2;cases h2;obtain⟨v',r,q⟩:=q v hp;exact tail_any hm.typeIs slot_dict_getitem.lookup (wpAny_getItem_of (strKind_is X.prog X.w z t) hm h1 ⟨v',H,I.tok _,r,q⟩) hs
theorem Qo:∀ {ns:List Int} {us:List bq},jv (ns.map V.int) us->jis us ns
 |[],_,.nil=>.nil
 |n::ns,_,.cons r t=>by
  obtain⟨tk,rfl⟩:=(show ∃t,_=wR n t from r)
  exact .cons _ _ (Qo t)
structure DeskC (K:Frag) (C:Addr):Prop where
 cl:Cls K C
 na:∀f:Fd,zf K C f.nm
def j7(K:Frag)(C:Addr)(H:Hp)(a t:Addr)(k:Dk):Prop:=∃dx fs,H a=ba (.ins C dx fs)/\fs.lookup ("width":bF)=ba (.int k.w)/\fs.lookup ("digits":bF)=ba (.int k.g)/\fs.lookup ("table":bF)=ba (.ref t)/\fs.length<=100 /\
 if k.m=bh then ∃vs,H t=ba (.lst vs)/\Iss K (minus H [t]) k.T vs else Is K H (.lst k.T) (.ref t)
variable{H:Hp}{t:Addr}{k:Dk}
theorem j7.tab{C:Addr}(h:j7 K C H a t k):Is K H (.lst k.T) (.ref t):=by
 obtain⟨_,_,_,_,_,_,_,h⟩:=h;split at h
 ·obtain⟨vs,h1,h2⟩:=h;exact ke (SqL.of h1) (Iss.mono (jc _ _) _ h2)
 ·exact h
variable{H':Hp}
theorem j7.mono{C:Addr}(h:j7 K C H a t k)(s:jd H H'):j7 K C H' a t k:=by
 obtain⟨dx,fs,h1,h2,h3,h4,h5,h⟩:=h;refine⟨dx,fs,s _ _ h1,h2,h3,h4,h5,?_⟩;split at h
 ·next hm =>
  obtain⟨vs,g1,g2⟩:=h;rw[if_pos hm];exact⟨vs,s _ _ g1,Iss.mono (jb s) _ g2⟩
 ·next hm=>rw[if_neg hm];exact Is.mono s _ h
structure DN where
 fs:List (bF×Nat×Bool)
 ds:List bF
 dk:Bool
def RD(K:Frag)(C:Addr)(dk:Bool)(O:List Addr)(H:Hp)(σ:Sto)(τ:L2.St)(k:Dk)(a t:Addr):Prop:=Reps K O H σ τ/\(dk=bh->τ[0]?=ba (ba (.ref a))/\j7 K C H a t k)
variable{dk:Bool}{O:List Addr}{σ:Sto}{τ:L2.St}
theorem RD.mono{C:Addr}(h:RD K C dk O H σ τ k a t)(s:jd H H'):RD K C dk O H' σ τ k a t:=⟨h.1.mono s,λz=>⟨(h.2 z).1,(h.2 z).2.mono s⟩⟩
section
variable (K:Frag) (Cd:Addr) (g:G) (H₀:Hp) (ex:XD->Prop) (dk:Bool)
inductive tX (x:X) (τ:L2.St) (H:Hp) (Q:VK):Prop
 |mk (σ:Sto) (O:List Addr) (k:Dk) (a t:Addr) (R:RD K Cd dk O H σ τ k a t) (o:O=[]\/tb x=bj) (w:fi (rn g k σ x) (Wd K O H Q) (λy=>ex y/\jd H₀ H))
inductive tXs (xs:List X) (τ:L2.St) (H:Hp) (Q:List V->Hp->Prop):Prop
 |mk (σ:Sto) (O:List Addr) (k:Dk) (a t:Addr) (R:RD K Cd dk O H σ τ k a t) (o:O=[]\/tbs xs=bj) (w:fs (rns g k σ xs) (Wds K O H Q) (λy=>ex y/\jd H₀ H))
inductive tXT (x:X) (τ:L2.St) (H:Hp) (Q:Bool->Hp->Prop):Prop
 |mk (σ:Sto) (O:List Addr) (k:Dk) (a t:Addr) (R:RD K Cd dk O H σ τ k a t) (o:O=[]\/tb x=bj) (w:fi (rn g k σ x) (isB λc=>∀H',jd H H'->Q c H') (λy=>ex y/\jd H₀ H))
end
inductive spR (K:Frag) (Cd:Addr) (da:Dk->List D->Option R) (n:Nat) (b:Bool) (vs:List V) (H:Hp) (Q:VK) (E:XK):Prop
 |mk (l:vs.length=n) (a t:Addr) (k:Dk) (ds:List D) (us:List V) (O:List Addr) (o:(b=bh->O=[])/\∀x∈O,H x≠bc) (v:if b=bh then vs=.ref a::us/\j7 K Cd H a t k else vs=us) (i:Iss K (minus H O) ds us)
  (w:fi (da k ds) (Wd K O H Q) λy=>∀H' d,jd H H'->Fld K [] y H' d->E (.str y.t 0) d H')
mutual
noncomputable def jU(dn:DN):Ck->Bool->X->bU->Bool
 |k,_,.pu x,e=>chkE k x e
 |k,_,.fl f,e=>dn.dk&&(kL e).any λy=>decide (y.2.1=f.nm)&&qZ y.1&&(jo y.1).any λx=>k.loc 0 x
 |k,p,.call f xs,e=>(jI e).any λz=>decide (k.fns[f]?=ba (z.1,z.2.1.length))&&k.gl z.1 && !z.2.1.isEmpty&&qJ dn k p xs z.2.1
 |k,p,.dsk b f xs,e=>(jI e).any λz=>decide (dn.fs[f]?=ba (z.1,z.2.1.length,b))&&k.gl z.1 && !z.2.1.isEmpty&&(if b then dn.dk&&((jo (z.2.1.getD 0 e)).any λx=>k.loc 0 x)&&qJ dn k p xs (z.2.1.drop 1) else qJ dn k p xs z.2.1)
 |k,p,.lst xs,e=>(Jf e).any λys=>decide (ys.length<=1000)&&qJ dn k p xs ys
 |k,p,.len a,e=>(jI e).any λz=>decide (z.1=("len":bF))&&k.gl z.1&&decide (z.2.1.length=1)&&j6 (z.2.1.getD 0 e)&&jU dn k p a (z.2.1.getD 0 e)
 |k,p,.ix a b,e=>(Kg e).any λz=>!zA z.2&&jU dn k p a z.1&&jU dn k p b z.2
 |k,p,.cmp o a b,e=>(vj e).any λz=>decide (z.2.1.length=1)&&decide (z.2.2.length=1)&&cOk o (z.2.1.getD 0 .Eq) (z.2.2.getD 0 e)&&j6 (z.2.2.getD 0 e)&&jU dn k p a z.1&&jU dn k p b (z.2.2.getD 0 e)
 |k,p,.no a,e=>(jaG e).any λz=>decide (z.1=.Not)&&jU dn k p a z.2
 |k,p,.and a b,e=>(vJ e).any λz=>decide (z.1=.And)&&decide (z.2.1.length=2)&&jU dn k p a (z.2.1.getD 0 e)&&jU dn k p b (z.2.1.getD 1 e)
 |k,p,.ife c a b,e=>(U0 e).any λz=>jU dn k p c z.1&&jU dn k p a z.2.1&&jU dn k p b z.2.2
 |k,p,.jn s b,e=>(qm e).any λz=>z.2.2.1.isEmpty&&decide (z.2.1.length=1)&&((kL z.1).any λy=>decide (y.2.1=("join":bF))&&qZ y.1&&(y.2.2.endLine == z.2.2.2.line)&&chkE k (.cst (.str s)) y.1)&&j6 (z.2.1.getD 0 e)&&jU dn k p b (z.2.1.getD 0 e)
 |k,p,.comp a b,e=>p&&(xT e).any λz=>compCk k z.2.1 z.2.2.2 && !Jg z.2.2.1&&jU dn k p a z.2.2.1&&jU dn (k.block z.2.1 z.2.2.2) bj b z.1
 |k,p,.nin i a,e=>(vj e).any λz=>decide (z.2.1=[.NotIn])&&decide (z.2.2.length=1)&&((jo (z.2.2.getD 0 e)).any λx=>decide (dn.ds[i]?=ba x)&&k.gl x)&&jU dn k p a z.1
 |k,p,.item i a,e=>(Kg e).any λz=>!zA z.2&&((jo z.1).any λx=>decide (dn.ds[i]?=ba x)&&k.gl x)&&jU dn k p a z.2
 |k,p,.lset a,e=>(jI e).any λz=>decide (z.1=("len":bF))&&k.gl z.1&&decide (z.2.1.length=1)&&(jI (z.2.1.getD 0 e)).any λy=>decide (y.1=("set":bF))&&k.gl y.1&&decide (y.2.1.length=1)&&j6 (y.2.1.getD 0 e)&&jU dn k p a (y.2.1.getD 0 e)
 |k,p,.str a,e=>(jI e).any λz=>decide (z.1=("str":bF))&&k.gl z.1&&decide (z.2.1.length=1)&&j6 (z.2.1.getD 0 e)&&jU dn k p a (z.2.1.getD 0 e)
noncomputable def qJ(dn:DN):Ck->Bool->List X->List bU->Bool
 |_,_,[],es=>es.isEmpty
 |k,p,x::xs,es=>!es.isEmpty&&j6 (es.getD 0 (.Name "" ⟨0,0,0,0⟩))&&jU dn k p x (es.getD 0 (.Name "" ⟨0,0,0,0⟩))&&qJ dn k p xs (es.drop 1)
end
structure OkD (X:Cx) (k:Ck) (C:Cfg) (g:G) (dn:DN) (Cd:Addr) (H₀:Hp) (ex:XD->Prop):Prop where
 ok:Ok X.nox k C
 ev:∀x σ d,g.e x σ=ba d->kF (wpE C x σ) d
 ca:∀i,C.ct i=ctE g.ca g.z i
 thr:∀y Ca,ex y->X.mg y.t=ba (.ref Ca)->∀pins σ H s H1 da e s',Inv X pins σ H s->jd H₀ H1->Fld X.K [] y H1 da->qM X.prog X.w Ca X.stack H s H1 da e s'->X.xe e s'
 dfn:∀f x n b,dn.fs[f]?=ba (x,n,b)->FnR X.prog X.w X.K X.mg X.base X.A x (spR X.K Cd (g.da f) n b)
 dds:∀i x,dn.ds[i]?=ba x->∃d,X.mg x=ba (.ref d)/\DictK X.K X.w.params (PD X.K) d (g.dd i)
 dc:DeskC X.K Cd
 st:X.mg ("set":bF)=bc
structure OkF (X:Cx) (H₀:Hp) (ex:XD->Prop):Prop where
 own:Own X
 hld:YU X H₀ ex
variable{e:bU}{p:Bool}{x:DL.X}{xs:List V}{es:List bU}
section
variable {X:Cx} {k:Ck} {C:Cfg} {g:G} {dn:DN} {Cd:Addr} {H₀:Hp} {ex:XD->Prop}
theorem jE(p:j6 e=bh)(es:List bU)(env:tR):bY (e::es) env=(bj,eval e env)::bY es env:=by
 cases e<;>first|rfl|exact bK p
theorem x5{op:tP}(p:j6 e=bh):nz op e=false:=by
 cases e<;>first|rfl|exact bK p
theorem zL{dn:DN}{p:Bool}:∀ {xs:List DL.X} {es:List bU} {k:Ck},qJ dn k p xs es=bh->∀(pos:Pos) (env:tR),(backTo pos (bY es env)).any (·.1)=bj
 |[],es,k,h,pos,env=>by
  rw[qJ]at h
  cases es with
  |nil=>rfl
  |cons _ _=>cases h
 |x::xs,es,k,h,pos,env=>by
  rw[qJ]at h
  cases es with
  |nil=>cases h
  |cons y ys =>
   replace h:=Z.tb_ 3 h;rw[jE (show j6 y=bh from h.1.1.2)];show (bj ||(backTo pos (bY ys env)).any (·.1))=bj;rw[zL (show qJ dn k p xs ys=bh from h.2) pos env];rfl
theorem va{dn:DN}{xs:List DL.X}(h:qJ dn k p (x::xs) es=bh):∃y ys,es=y::ys/\j6 y=bh/\jU dn k p x y=bh/\qJ dn k p xs ys=true:=by
 rw[qJ]at h
 cases es with
 |nil=>cases h
 |cons y ys =>
  replace h:=Z.tb_ 3 h;exact⟨y,ys,rfl,h.1.1.2,h.1.2,h.2⟩
theorem Kt{dn:DN}(h:qJ dn k p [] es=bh):es=[]:=by
 rw[qJ]at h;simpa using h
theorem zm{g:G}{kd:Dk}{σ:Sto}:∀ {xs:List DL.X} {ds:List D},rns g kd σ xs=ba (.ok ds)->ds.length=xs.length
 |[],ds,h=>by rw[rns]at h;cases h;rfl
 |x::xs,ds,h=>by
  rw[rns]at h
  cases e1:rn g kd σ x with
  |none=>rw[e1]at h;cases h
  |some r =>
   cases r with
   |ex y=>rw[e1]at h;cases h
   |ok d =>
    rw[e1]at h;have h:cR (rns g kd σ xs) d=ba (.ok ds):=h
    cases e2:rns g kd σ xs with
    |none=>rw[e2]at h;cases h
    |some r =>
     cases r with
     |ex y=>rw[e2]at h;cases h
     |ok es=>rw[e2]at h;cases h;rw[b6,b6,zm e2]
theorem vY{dn:DN}{p:Bool}:∀ {xs:List DL.X} {es:List bU} {k:Ck},qJ dn k p xs es=bh->xs.length=es.length
 |[],es,k,h=>by rw[Kt h];rfl
 |x::xs,es,k,h=>by
  obtain⟨y,ys,rfl,_,_,h4⟩:=va h;rw[b6,b6,vY h4]
theorem OkD.block(ok:OkD X k C g dn Cd H₀ ex){x:bF}{sc:Scope}{cl:List (bF×Addr)}(h:compCk k x sc=bh)(co:CompOk X x sc cl)(s:Shared)(H:Hp)(fp:List Addr)(Ca:Addr) :
 OkD (qD X (EeC X x sc cl H₀ ex s H fp Ca) s H fp x sc cl Ca) (k.block x sc) C g dn Cd H₀ ex where
 ok:=by
  have:=ok.ok.block h (X:=X.nox) (cl:=cl) ⟨co.clos,co.kind,co.cell,co.names,co.loc,co.only,co.vis,co.sub,co.ne,co.noE⟩ s H fp Ca;exact this
 ev:=ok.ev
 ca:=ok.ca
 thr:=λy Ca' hex hm pins σ H' s' H1 da e s2 I sm fd T=>⟨y,Ca',pins,σ,H',s',H1,da,hex,hm,(Inv.wish I λ_ _=>False),sm,fd,T⟩
 dfn:=ok.dfn
 dds:=ok.dds
 dc:=ok.dc
 st:=ok.st
end
section
variable {X:Cx}
theorem ZV(hc:X.calm=bh):kJ X (.type "set") (λxs H Q=>∃c ns,xs=[.ref c]/\SqL X.K H c (ns.map V.int)/\ns.length<=1000/\∀p S,H p=bc->Q (.ref p) (upd H p (.set S (nub ns).length))):=by
 intro pins s σ H xs us Q I r h;obtain⟨c,ns,rfl,hq,hl,q⟩:=h;obtain⟨u,rfl,rx⟩:=qf r;cases (show u=dG c from rx);obtain⟨its,rv,pl,hz⟩:=I.list hq;have e:=rv.length;rw[bW]at e;have hh:X.A.handled=none:=I.ok.hd hc
 refine call_set_list hh pl.isList (by simpa using Qo rv) (by rw[bQ,<- e];exact jik (wX hl) (by decide)) λh' tk so kp=>?_
 have hn:H s.heap.objs.size=none:=I.hok.fresh (bN _)
 have es:its.toArray.size=ns.length:=by rw[bQ,e]
 rw[es]at so;exact⟨.ref s.heap.objs.size,upd H s.heap.objs.size (.set (λk'=>(firstMet (λi=>ns.getD i 0) ns.length).any λx=>x == k') (nub ns).length),I.laid (t':=tk) (λb u q=>kp b u (bH q) q) (bN _) so,rfl,q _ _ hn⟩
theorem ZL:kJ X (.builtin "len") (λxs H Q=>∃p S n,xs=[.ref p]/\H p=ba (.set S n)/\n<=1000/\Q (.int n) H):=by
 intro pins s σ H xs us Q I r h;obtain⟨p,S,n,rfl,hp,hn,q⟩:=h;obtain⟨u,rfl,rx⟩:=qf r;cases (show u=dG p from rx)
 obtain⟨o,es,ep,t,ho,hex,hd,_,_,_,hf,rfl⟩:=(show kO X.prog X.w H s.heap p (.set S n) from I.hok p _ hp)
 exact call_len_set ho hex hd hf (by lia) ⟨.int es.size,H,I.tok _,⟨_,rfl⟩,q⟩
end
theorem jed(ns:List Int):(nub ns).length<=ns.length:=firstMet_length_le _ _
variable{Cd:Addr}{g:G}{H₀:Hp}{ex:XD->Prop}{Q:D->Prop}
theorem jbz{Q:Bool->Hp->Prop}(h:tXT K Cd g H₀ ex dk x τ H Q):tB (tX K Cd g H₀ ex dk x) τ H Q:=by
 obtain⟨σ,O,k,a,t,R,o,w⟩:=h;refine⟨σ,O,k,a,t,R,o,jq (λd _ wd v H1 s1 i1=>?_) (λ_ z=>z) w⟩
 cases d with
 |bl c=>exact⟨c,k9 i1,wd H1 s1⟩
 |_=>exact wd.elim
theorem kv{X:Cx}(p:PE X e (tX X.K Cd g H₀ ex dk x))(he:∀whole,isTrue e X.env whole=(do let v <- whole;jjR e.pos;jjh [v] (truthy v))):PT X e (tXT X.K Cd g H₀ ex dk x) :=
 PT.imp (λ_ _ _=>jbz) (jan p he)
theorem RD.snoc{d:D}{v:V}(R:RD K Cd dk O H σ τ k a t)(i:Is K (minus H O) d v):RD K Cd dk O H (σ ++ [ba (.sh d)]) (τ ++ [ba v]) k a t:=by
 refine⟨R.1.snoc i,λz=>⟨?_,(R.2 z).2⟩⟩;have h:=(R.2 z).1
 cases τ with
 |nil=>cases h
 |cons y τ=>exact h
section
variable {K:Frag} {Cd:Addr} {g:G} {H₀:Hp} {ex:XD->Prop} {dk:Bool} {J:It} {xs:List D} {b:DL.X} {τ:L2.St} {H1:Hp} {σ:Sto} {O:List Addr} {Q:VK} {k:Dk} {a t:Addr}
theorem uJ(R1:RD K Cd dk O H1 σ τ k a t)(hx:xs.length<=lim)(hgo:∀j H,jd H1 H->j<xs.length->J.go j H)(hst:∀j H,jd H1 H->xs.length<=j->J.stop j H)
 (hy:∀j H v H' d,jd H1 H->J.yld j H v H'->xs[j]?=ba d->H'=H/\Is K (minus H O) d v) (o:O=[]\/tb b=bj)
 (w:fs (cmR (λd=>rn g k (σ ++ [ba (.sh d)]) b) xs) (λys=>Wd K O H1 Q (.lst ys)) λy=>ex y/\jd H₀ H1) :
 ∃W:Nat->Nat->List V->Hp->Prop,(∃m,W 0 m [] H1)/\∀i m ys H,W i m ys H ->
  (J.stop i H/\ys.length<=sizeLine/\∀p,H p=bc->Q (.ref p) (upd H p (.lst ys)))\/(J.go i H/\ys.length<sizeLine/\∀x H',J.yld i H x H'->tX K Cd g H₀ ex dk b (τ ++ [ba x]) H' λy H2=>∃m',m'<m/\W (i+1) m' (ys ++ [y]) H2):=by
 refine⟨λj m ys H=>m=xs.length-j/\j<=xs.length/\jd H1 H/\∃ds,ds.length=j/\Iss K (minus H O) ds ys/\fs (cmR (λd=>rn g k (σ ++ [ba (.sh d)]) b) (xs.drop j)) (λrest=>Wd K O H1 Q (.lst (ds++rest))) λy=>ex y/\jd H₀ H1,
  ⟨_,rfl,gf _,jd.refl _,[],rfl,by unfold Iss;rfl,by simpa using w⟩,?_⟩
 rintro j m ys H ⟨rfl,hj,sm,ds,hd,is,w⟩
 have hl:ys.length=j:=by rw[is.length,hd]
 have R:=R1.mono sm
 have hlim:lim<=sizeLine:=by decide
 by_cases hlt:j<xs.length
 ·refine .inr ⟨hgo j H sm hlt,by lia,λx H' y=>?_⟩;obtain⟨rfl,ix⟩:=hy j H x H' xs[j] sm y (bO hlt);rw[d8 hlt,cmR]at w;refine⟨_,O,k,a,t,R.snoc ix,o,jq (λyd _ wy v H2 s2 i2=>?_) (λy z=>⟨z.1,z.2.trans sm⟩) (jc5 w)⟩;refine⟨xs.length-(j+1),by lia,rfl,hlt,sm.trans s2,ds ++ [yd],by simp[hd],(Iss.mono (jb s2) ds is).snoc i2,?_⟩;have:=jdd wy;simpa using this
 ·refine .inl ⟨hst _ H sm (by lia),by lia,λp hp=>?_⟩;rw[sv (by lia),cmR]at w;have w:Wd K O H1 Q (.lst (ds ++ [])):=w;rw[dv]at w;exact w _ _ (sm.trans (jt hp _)) (ke (SqL.of (kY R.1.own hp)) (Iss.minus_upd hp is))
end
theorem m0(H:Hp):minus H []=H:=by
 funext b;exact jw (λz=>nomatch z)
variable{α:Type}{b:Bool}
theorem uT{O:List α}{a:Bool}(o:O=[]\/(a ||b)=bj):O=[]\/a=false:=o.imp id λz=>(jhI.mp z).1
theorem zu{O:List α}{a:Bool}(o:O=[]\/(a ||b)=bj):O=[]\/b=false:=o.imp id λz=>(jhI.mp z).2
section
variable {C:Cfg} {g:G} {dn:DN} {Cd:Addr} {H₀:Hp} {ex:XD->Prop}
theorem Y9{X:Cx}{k:Ck}(ok:OkD X k C g dn Cd H₀ ex):xm (CXz X.prog X.w X.mg) X (XE0 X.K [] H₀ ex):=λpins σ H s e s' I ⟨x,Ca,H1,da,⟨y,e1,hx,sm,fd⟩,hm,T⟩=>by
 cases e1;exact ok.thr y Ca hx hm pins σ H s H1 da e s' I sm fd T
mutual
theorem sD:∀ {X:Cx} {k:Ck} (ok:OkD X k C g dn Cd H₀ ex) (p:Bool) (hf:p=bh->OkF X H₀ ex) (x:DL.X) (e:bU),jU dn k p x e=bh->PE X e (tX X.K Cd g H₀ ex dn.dk x)/\PT X e (tXT X.K Cd g H₀ ex dn.dk x)
 |X,k,ok,p,hf,.pu x,e,h=>by
  rw[jU]at h;obtain⟨h1,h2⟩:=sB ok.ok x e h;refine⟨PE.imp (λτ H Q w=>?_) h1.nox,PT.imp (λτ H Q w=>?_) h2.nox⟩
  ·obtain⟨σ,O,kd,a,t,R,o,w⟩:=w;rw[rn]at w;obtain⟨d,e1,q⟩:=xD w;exact⟨σ,O,R.1,ok.ev x σ d e1 _ q⟩
  ·obtain⟨σ,O,kd,a,t,R,o,w⟩:=w;rw[rn]at w;obtain⟨d,e1,q⟩:=xD w
   exact⟨σ,O,R.1,ok.ev x σ d e1 _ q⟩
 |X,k,ok,p,hf,.fl f,e,h=>by
  rw[jU,bz]at h;obtain⟨hd,h⟩:=h
  exists Z.anAttr,h,ob,nm,ap
  exists Z.an3,0,h,e_,hp,h;subst e_
  exists Z.anName,h,x,pos
  obtain⟨h1,h2,h3,h4⟩:=ok.ok.vis h
  have pe:PE X (.Attribute (.Name x pos) f.nm ap) (tX X.K Cd g H₀ ex dn.dk (.fl f)):=by
   refine PE.imp (λτ H Q w=>?_) (Yf (jY h1 (jX h2) h3 h4) (kI hp));obtain⟨σ,O,kd,a,t,R,o,w⟩:=w;rw[rn]at w;have w:Wd X.K O H Q (f.d kd):=w;obtain⟨r1,r2⟩:=R.2 hd;obtain⟨dx,fs,g1,g2,g3,g4,g5,g6⟩:=id r2;refine⟨.ref a,r1,a,Cd,dx,fs,?_⟩
   cases f with
   |w=>exact⟨.int kd.w,rfl,g1,ok.dc.cl,ok.dc.na .w,g2,w _ _ (jd.refl _) (ju _)⟩
   |g=>exact⟨.int kd.g,rfl,g1,ok.dc.cl,ok.dc.na .g,g3,w _ _ (jd.refl _) (ju _)⟩
   |t =>
    rcases o with rfl|o
    ·exact⟨.ref t,rfl,g1,ok.dc.cl,ok.dc.na .t,g4,w _ _ (jd.refl _) (by rw[m0];exact r2.tab)⟩
    ·rw[tb]at o;cases o
  exact⟨pe,kv pe λ_=>rfl⟩
 |X,k,ok,p,hf,.call f xs,e,h=>by
  rw[jU]at h
  exists Z.anCallN,h,fx,es,cp,q
  exists Z.an4,0,h,k1,k2,hne,k4
  obtain⟨y,ys,rfl⟩:=kZ hne;obtain⟨g1,g2,g3⟩:=ok.ok.gl k2;obtain⟨fa,fd,ps,lv,F,hr,hm,hk,hb⟩:=ok.ok.fns f fx _ k1
  have hs:bY (y::ys) X.env=(bj,eval y X.env)::bY ys X.env/\(backTo cp (bY ys X.env)).any (·.1)=false:=by
   cases xs with
   |nil=>have:=Kt k4;cases this
   |cons z zs =>
    obtain⟨y',ys',e',h5,_,h6⟩:=va k4;cases e';exact⟨jE h5 _ _,zL h6 _ _⟩
  have pe:PE X (.Call (.Name fx q) (y::ys) [] cp) (tX X.K Cd g H₀ ex dn.dk (.call f xs)):=by
   refine PE.imp (λτ H Q w=>?_) (qC (CX:=CXz X.prog X.w X.mg) (E:=XE0 X.K [] H₀ ex) (dvs:=[]) F hr g1 hm hk hb .nil (Y9 ok) (sDs ok p hf xs _ k4) g2 hs.1 hs.2);obtain⟨σ,O,kd,a,t,R,o,w⟩:=w;rw[rn]at w;rw[tb]at o;refine⟨σ,O,kd,a,t,R,o,xV (λds hds wd vs H1 s1 i1=>?_) (λ_ z=>z) (JM w)⟩;show spD X.K (y::ys).length (C.fr f) (C.f2 f) (C.ct f) (vs ++ []) H1 Q (XE0 X.K [] H₀ ex);rw[dv,ok.ca]
   have hl:ds.length=(y::ys).length:=by rw[zm hds,vY k4]
   obtain⟨r,e1,wd⟩:=qi wd
   cases r with
   |ok d=>exact⟨O,ds,hl,(R.1.mono s1).own,i1,x8 e1 (Wd.rw (R.1.mono s1).own (Wd.mono s1 wd))⟩
   |ex y =>
    obtain⟨hz,hex,sm⟩:=Ku wd;exact⟨O,ds,hl,(R.1.mono s1).own,i1,VY e1 hz λH2 da s2 fd=>⟨y,rfl,hex,(sm.trans s1).trans s2,fd.less λ_ z=>nomatch z⟩⟩
  exact⟨pe,kv pe λ_=>rfl⟩
 |X,k,ok,p,hf,.dsk b f xs,e,h=>by
  rw[jU]at h
  exists Z.anCallN,h,fx,es,cp,q
  exists Z.an4,0,h,k1,k2,hne,k4
  obtain⟨y,ys,rfl⟩:=kZ hne;obtain⟨g1,g2,g3⟩:=ok.ok.gl k2;obtain⟨fa,fd,ps,lv,F,hr,hm,hk,hb⟩:=ok.dfn f fx _ _ k1
  have pe:PE X (.Call (.Name fx q) (y::ys) [] cp) (tX X.K Cd g H₀ ex dn.dk (.dsk b f xs)):=by
   cases b with
   |true =>
    rw[if_pos rfl,bz,bz]at k4;obtain⟨⟨hd,kn⟩,k4⟩:=k4;replace kn:=jf kn;obtain⟨x,hx,kn⟩:=kn;obtain⟨np,rfl⟩:=jK (show jo y=ba x from hx);have k4:qJ dn k p xs ys=true:=k4;obtain⟨h1,h2,h3,h4⟩:=ok.ok.vis kn;refine PE.imp (λτ H Q w=>?_) (qC (CX:=CXz X.prog X.w X.mg) (E:=XE0 X.K [] H₀ ex) (dvs:=[]) F hr g1 hm hk hb .nil (Y9 ok) (jj (jY h1 (jX h2) h3 h4) (sDs ok p hf xs ys k4) (jE rfl _ _)) g2 (jE rfl _ _) (zL k4 _ _));obtain⟨σ,O,kd,a,t,R,o,w⟩:=w;rw[rn]at w;obtain⟨r1,r2⟩:=R.2 hd;rcases o with rfl|o
    ·refine⟨.ref a,r1,σ,[],kd,a,t,R,.inl rfl,xV (λds hds wd vs H1 s1 i1=>?_) (λ_ z=>z) (JM w)⟩;show spR X.K Cd (g.da f) (jjQ x np::ys).length bh ((.ref a::vs) ++ []) H1 Q (XE0 X.K [] H₀ ex);rw[dv]
     have hl:ds.length=ys.length:=by rw[zm hds,vY k4]
     refine⟨by rw[b6,b6,i1.length,hl],a,t,kd,ds,vs,[],⟨λ_=>rfl,λ_ z=>nomatch z⟩,⟨rfl,r2.mono s1⟩,i1,jq (λd _ q=>Wd.mono s1 q) (λy z H' da s' fd=>⟨y,rfl,z.1,(z.2.trans s1).trans s',fd⟩) wd⟩
    ·rw[tb,Bool.true_or]at o;cases o
   |false =>
    rw[if_neg (by decide)]at k4
    have hs:bY (y::ys) X.env=(bj,eval y X.env)::bY ys X.env/\(backTo cp (bY ys X.env)).any (·.1)=false:=by
     cases xs with
     |nil=>have:=Kt k4;cases this
     |cons z zs =>
      obtain⟨y',ys',e',h5,_,h6⟩:=va k4;cases e';exact⟨jE h5 _ _,zL h6 _ _⟩
    refine PE.imp (λτ H Q w=>?_) (qC (CX:=CXz X.prog X.w X.mg) (E:=XE0 X.K [] H₀ ex) (dvs:=[]) F hr g1 hm hk hb .nil (Y9 ok) (sDs ok p hf xs _ k4) g2 hs.1 hs.2);obtain⟨σ,O,kd,a,t,R,o,w⟩:=w;rw[rn]at w;rw[tb,Bool.false_or]at o;refine⟨σ,O,kd,a,t,R,o,xV (λds hds wd vs H1 s1 i1=>?_) (λ_ z=>z) (JM w)⟩;show spR X.K Cd (g.da f) (y::ys).length bj (vs ++ []) H1 Q (XE0 X.K [] H₀ ex);rw[dv]
    have hl:ds.length=(y::ys).length:=by rw[zm hds,vY k4]
    exact⟨by rw[i1.length,hl],a,t,kd,ds,vs,O,⟨(λz=>nomatch z),(R.1.mono s1).own⟩,rfl,i1,jq (λd _ q=>Wd.mono s1 q) (λy z H' da s' fd=>⟨y,rfl,z.1,(z.2.trans s1).trans s',fd⟩) wd⟩
  exact⟨pe,kv pe λ_=>rfl⟩
 |X,k,ok,p,hf,.lst xs,e,h=>by
  rw[jU]at h
  exists Z.anLst,h,es,pos
  rw[bz,decide_eq_true_eq]at h
  have pe:PE X (.List es pos) (tX X.K Cd g H₀ ex dn.dk (.lst xs)):=by
   refine PE.imp (λτ H Q w=>?_) (xb (sDs ok p hf xs es h.2));obtain⟨σ,O,kd,a,t,R,o,w⟩:=w;rw[rn]at w;rw[tb]at o;refine⟨σ,O,kd,a,t,R,o,xV (λds hds wd vs H1 s1 i1=>⟨?_,λp hp=>?_⟩) (λ_ z=>z) (JM w)⟩
   ·rw[i1.length,zm hds,vY h.2,dI];lia
   ·exact wd _ _ (s1.trans (jt hp _)) (ke (SqL.of (kY (R.1.mono s1).own hp)) (Iss.minus_upd hp i1))
  exact⟨pe,kv pe λ_=>rfl⟩
 |X,k,ok,p,hf,.len a,e,h=>by
  rw[jU]at h
  exists Z.anCallN,h,fx,es,cp,q
  exists Z.an5,0,h,e_,k2,hl,hp,k4;subst e_
  obtain⟨y,rfl⟩:=jz hl;obtain⟨g1,g2,g3⟩:=ok.ok.gl k2
  have pe:PE X (.Call (.Name "len" q) [y] [] cp) (tX X.K Cd g H₀ ex dn.dk (.len a)):=by
   refine PE.imp (λτ H Q w=>?_) (kj (id:="len") (K1 (f:=.len) (show X.calm=bh from ok.ok.calm)) g1 (ok.ok.blt _ (by decide)) jhH (jj (sD ok p hf a y k4).1 jB (jE hp _ _)) g3 g2 (jE hp _ _) rfl);obtain⟨σ,O,kd,b,t,R,o,w⟩:=w;rw[rn]at w;rw[tb]at o;refine⟨σ,O,kd,b,t,R,o,jq (λd _ wd v H1 s1 i1=>?_) (λ_ z=>z) (qA w)⟩;obtain⟨r,e1,wd⟩:=xD wd;exact⟨O,[d],(R.1.mono s1).own,by unfold Iss;exact⟨v,[],rfl,i1,by unfold Iss;rfl⟩,Y0 e1 _ (Wd.mono s1 wd)⟩
  exact⟨pe,kv pe λ_=>rfl⟩
 |X,k,ok,p,hf,.ix a b,e,h=>by
  rw[jU]at h
  exists Z.anSub,h,v,i,pos
  replace h:=Z.tb_ 1 h
  have pe:PE X (.Subscript v i pos) (tX X.K Cd g H₀ ex dn.dk (.ix a b)):=by
   refine PE.imp (λτ H Q w=>?_) (YL jfL (sD ok p hf a _ h.1.2).1 (sD ok p hf b _ h.2).1 (u7 h.1.1));obtain⟨σ,O,kd,c,t,R,o,w⟩:=w;rw[rn]at w;rw[tb]at o;refine⟨σ,O,kd,c,t,R,uT o,jq (λx _ wx xv H1 s1 i1=>⟨σ,O,kd,c,t,R.mono s1,zu o,jq (λy _ wy yv H2 s2 i2=>?_) (λ_ z=>⟨z.1,z.2.trans s1⟩) (qA wx)⟩) (λ_ z=>z) (qA w)⟩;obtain⟨r,e1,wd⟩:=xD wy;exact⟨O,x,y,(R.1.mono (s1.trans s2)).own,Is.mono (jb s2) x i1,i2,VF e1 _ (Wd.mono (s1.trans s2) wd)⟩
  exact⟨pe,kv pe λ_=>rfl⟩
 |X,k,ok,p,hf,.cmp c a b,e,h=>by
  rw[jU]at h
  exists Z.anCmp,h,l,ops,cs,pos
  exists Z.an6,0,h,n1,n2,h1,hp,h2,h3
  obtain⟨op,rfl⟩:=jz n1;obtain⟨r,rfl⟩:=jz n2;have h1:cOk c op r=true:=h1;have pa:=(sD ok p hf a _ h2).1;have pb:=(sD ok p hf b r h3).1
  have key:∀τ H (Q:VK),tX X.K Cd g H₀ ex dn.dk (.cmp c a b) τ H Q->tOp (rD X.K (zb c)) (tX X.K Cd g H₀ ex dn.dk a) (tX X.K Cd g H₀ ex dn.dk b) τ H Q:=by
   rintro τ H Q ⟨σ,O,kd,d,t,R,o,w⟩;rw[rn]at w;rw[tb]at o;refine⟨σ,O,kd,d,t,R,uT o,jq (λx _ wx xv H1 s1 i1=>⟨σ,O,kd,d,t,R.mono s1,zu o,jq (λy _ wy yv H2 s2 i2=>?_) (λ_ z=>⟨z.1,z.2.trans s1⟩) (qA wx)⟩) (λ_ z=>z) (qA w)⟩;obtain⟨r,e1,wd⟩:=xD wy;exact⟨O,x,y,(R.1.mono (s1.trans s2)).own,Is.mono (jb s2) x i1,i2,vg e1 _ (Wd.mono (s1.trans s2) wd)⟩
  refine⟨PE.imp key (Ko (yx h1 ok.ok.units) pa pb (x5 hp)),PT.imp (λτ H Q w=>?_) (KS (yx h1 ok.ok.units) pa pb (x5 hp))⟩
  exact key τ H _ (by
   obtain⟨σ,O,kd,d,t,R,o,w⟩:=w;refine⟨σ,O,kd,d,t,R,o,jq (λd _ wd v H1 s1 i1=>?_) (λ_ z=>z) w⟩
   cases d with
   |bl c=>exact⟨c,k9 i1,wd H1 s1⟩
   |_=>exact wd.elim)
 |X,k,ok,p,hf,.no a,e,h=>by
  rw[jU]at h
  exists Z.anUn,h,op,x,pos
  rw[bz,decide_eq_true_eq]at h;obtain⟨ho,h⟩:=h
  try simp only at ho h
  subst ho;obtain⟨pa,ta⟩:=sD ok p hf a _ h;refine⟨PE.imp (λτ H Q w=>?_) (jaO pa),PT.imp (λτ H Q w=>?_) (jbu ta)⟩
  ·obtain⟨σ,O,kd,b,t,R,o,w⟩:=w;rw[rn]at w;rw[tb]at o;refine⟨σ,O,kd,b,t,R,o,jq (λd _ wd v H1 s1 i1=>?_) (λ_ z=>z) (qA w)⟩;obtain⟨c,e1,wd⟩:=qi wd;cases q9 e1;exact⟨c,k9 i1,wd _ _ s1 (j5 _)⟩
  ·obtain⟨σ,O,kd,b,t,R,o,w⟩:=w;rw[rn]at w;rw[tb]at o;refine⟨σ,O,kd,b,t,R,o,jq (λd _ wd=>?_) (λ_ z=>z) (qA w)⟩;obtain⟨c,e1,wd⟩:=qi wd;cases q9 e1
   exact λH' s'=>wd H' s'
 |X,k,ok,p,hf,.and a b,e,h=>by
  rw[jU]at h
  exists Z.anBool,h,op,vs,pos
  exists Z.an4,0,h,ho,n1,h1,h2
  subst ho;obtain⟨x,y,rfl⟩:=qH n1;obtain⟨pa,ta⟩:=sD ok p hf a x h1;obtain⟨pb,tb'⟩:=sD ok p hf b y h2;refine⟨PE.imp (λτ H Q w=>?_) (V2 pa (Yu pb)),PT.imp (λτ H Q w=>?_) (VT ta (YO tb')).pt⟩
  ·obtain⟨σ,O,kd,c,t,R,o,w⟩:=w;rw[rn]at w;rw[tb]at o;refine⟨σ,O,kd,c,t,R,uT o,jq (λd _ wd v H1 s1 i1=>?_) (λ_ z=>z) (qA w)⟩;obtain⟨k',e1,wd⟩:=qi wd;cases q9 e1;refine⟨k',k9 i1,?_⟩
   cases k' with
   |true=>exact⟨σ,O,kd,c,t,R.mono s1,zu o,jq (λ_ _ q=>Wd.mono s1 q) (λ_ z=>⟨z.1,z.2.trans s1⟩) wd⟩
   |false=>exact wd _ _ s1 (j5 _)
  ·obtain⟨σ,O,kd,c,t,R,o,w⟩:=w;rw[rn]at w;rw[tb]at o;refine⟨σ,O,kd,c,t,R,uT o,jq (λd _ wd=>?_) (λ_ z=>z) (qA w)⟩;obtain⟨k',e1,wd⟩:=qi wd;cases q9 e1;intro H1 s1
   cases k' with
   |true=>exact⟨σ,O,kd,c,t,R.mono s1,zu o,jq (λ_ _=>jT λc q H' s'=>q H' (s1.trans s')) (λ_ z=>⟨z.1,z.2.trans s1⟩) wd⟩
   |false=>exact wd H1 s1
 |X,k,ok,p,hf,.ife c a b,e,h=>by
  rw[jU]at h
  exists Z.anIf,h,t,x,y,pos
  replace h:=Z.tb_ 3 h;obtain⟨pc,tc⟩:=sD ok p hf c _ h.1.1;obtain⟨pa,ta⟩:=sD ok p hf a _ h.1.2;obtain⟨pb,tb'⟩:=sD ok p hf b _ h.2;refine⟨PE.imp (λτ H Q w=>?_) (Jp tc pa pb),λpins s τ H Q I w=>?_⟩
  ·obtain⟨σ,O,kd,z,t,R,o,w⟩:=w;rw[rn]at w;rw[tb]at o;refine⟨σ,O,kd,z,t,R,uT o,jq (λd _ wd=>?_) (λ_ z=>z) (qA w)⟩;obtain⟨k',e1,wd⟩:=qi wd;cases q9 e1;intro H1 s1
   cases k' with
   |true=>exact⟨σ,O,kd,z,t,R.mono s1,uT (zu o),jq (λ_ _ q=>Wd.mono s1 q) (λ_ z=>⟨z.1,z.2.trans s1⟩) wd⟩
   |false=>exact⟨σ,O,kd,z,t,R.mono s1,zu (zu o),jq (λ_ _ q=>Wd.mono s1 q) (λ_ z=>⟨z.1,z.2.trans s1⟩) wd⟩
  ·obtain⟨σ,O,kd,z,t,R,o,w⟩:=w;rw[rn]at w;rw[tb]at o;refine isTrue_IfExp (thn (tc pins s τ H (λd H1=>if d=bh then tXT X.K Cd g H₀ ex dn.dk a τ H1 Q else tXT X.K Cd g H₀ ex dn.dk b τ H1 Q) I ⟨σ,O,kd,z,t,R,uT o,jq (λd _ wd=>?_) (λ_ z=>z) (qA w)⟩) λd s1 ⟨H1,I1,q1⟩=>?_)
   ·obtain⟨k',e1,wd⟩:=qi wd;cases q9 e1;intro H1 s1
    cases k' with
    |true=>exact⟨σ,O,kd,z,t,R.mono s1,uT (zu o),jq (λ_ _=>jT λc q H' s'=>q H' (s1.trans s')) (λ_ z=>⟨z.1,z.2.trans s1⟩) wd⟩
    |false=>exact⟨σ,O,kd,z,t,R.mono s1,zu (zu o),jq (λ_ _=>jT λc q H' s'=>q H' (s1.trans s')) (λ_ z=>⟨z.1,z.2.trans s1⟩) wd⟩
   ·cases d with
    |true=>exact ta pins s1 τ H1 Q I1 q1
    |false=>exact tb' pins s1 τ H1 Q I1 q1
 |X,k,ok,p,hf,.jn sp b,e,h=>by
  rw[jU]at h
  exists Z.anCall,h,fe,xs,ks,cp
  exists Z.an5,2,h,hk,hl1,hat,hp,he
  exists Z.anAttr,hat,ob,at',ap
  exists Z.an4,0,hat,ha1,ha2,ha3,ha4
  subst ha1 hk;obtain⟨y,rfl⟩:=jz hl1;have he:jU dn k p b y=true:=he;have hp:j6 y=true:=hp
  have pe:PE X (.Call (.Attribute ob "join" ap) [y] [] cp) (tX X.K Cd g H₀ ex dn.dk (.jn sp b)):=by
   obtain⟨id,m1,m2,m3⟩:=jbe (X:=X) .jn;refine PE.imp (λτ H Q w=>?_) (zR sC m1 m2 m3 (sB ok.ok (.cst (.str sp)) ob ha4).1.nox (jj (sD ok p hf b y he).1 jB (jE hp _ _)) (kI ha2) (by rw[jE hp];rfl) ha3 (jE hp _ _) rfl);obtain⟨σ,O,kd,a,t,R,o,w⟩:=w;rw[rn]at w;rw[tb]at o;refine⟨σ,O,R.1,?_⟩;show Wd X.K O H _ (.str sp);intro x H1 s1 i1;obtain⟨rfl,ox⟩:=jL i1;refine⟨rfl,σ,O,kd,a,t,R.mono s1,o,jq (λd2 _ wd2 x2 H2 s2 i2=>?_) (λ_ z=>⟨z.1,z.2.trans s1⟩) (qA w)⟩;obtain⟨r,e1,wd⟩:=xD wd2;have wd2:=jaE e1 _ wd
   cases d2<;>first|exact wd2.elim|skip
   obtain⟨ss,⟨rfl,hl⟩,q⟩:=wd2;obtain⟨c,vs,rfl,h1,h2⟩:=jA i2;have hs:=Kw h2;cases qz h2;refine⟨_,c,ss,rfl,rfl,(jc _ _).seq h1,hl,q _ _ (s1.trans s2) (kq (qj λz hz=>?_))⟩
   cases ss with
   |nil=>cases hz
   |cons t l =>
    rcases mj.mp hz with hz|hz
    ·exact ki (hs t (bJ ..)) hz
    ·obtain⟨m,hm,hz⟩:=jg1.mp hz;obtain⟨u,hu,rfl⟩:=gD.mp hm;rcases mj.mp hz with hz|hz
     ·exact ki ox hz
     ·exact ki (hs u (bD _ hu)) hz
  exact⟨pe,kv pe λ_=>rfl⟩
 |X,k,ok,p,hf,.comp a b,e,h=>by
  rw[jU,bz]at h;obtain⟨hp,h⟩:=h
  exists Z.anComp,h,elt,x,iter,sc,px,pos
  exists Z.an4,1,h,h1,hn,ha,h3
  have pe:PE X (.ListComp elt [⟨.Name x px,iter,[],0⟩] sc pos) (tX X.K Cd g H₀ ex dn.dk (.comp a b)):=by
   intro pins s τ H Q I w;obtain⟨cl,co'⟩:=ok.ok.comp h1 (I.ok.wish λ_ _=>False)
   have co:CompOk X x sc cl:=⟨co'.clos,co'.kind,co'.cell,co'.names,co'.loc,co'.only,co'.vis,co'.sub,co'.ne,co'.noE⟩
   refine jag (te:=tX X.K Cd g H₀ ex dn.dk b) (hf hp).own (hf hp).hld ok.ok.calm ok.ok.nd (ok.ok.comp_nE h1) co (yn (sD ok p hf a iter ha).1) (λs H fp Ca=>(sD (ok.block h1 co s H fp Ca) bj (λz=>nomatch z) b elt h3).1) (kH hn _) pins s τ H Q I ?_;obtain⟨σ,O,kd,c,t,R,o,w⟩:=w;rw[rn]at w;rw[tb]at o;refine⟨σ,O,kd,c,t,R,uT o,jq (λd _ wd v H1 s1 i1=>?_) (λ_ z=>z) (qA w)⟩;obtain⟨xs,e1,wd⟩:=qi wd;obtain⟨hx,wd⟩:=Ku wd;obtain⟨J,hw,g1,g2,g3⟩:=walk_of e1 i1;exact⟨J,hw,uJ (R.mono s1) hx (λj H2 s2=>g1 j H2 O (jb s2)) (λj H2 s2=>g2 j H2 O (jb s2)) (λj H2 v H' d s2=>g3 j H2 O v H' d (jb s2)) (zu o) (xV (λ_ _ q=>Wd.mono s1 q) (λ_ z=>⟨z.1,z.2.trans s1⟩) (JM wd))⟩
  exact⟨pe,kv pe λ_=>rfl⟩
 |X,k,ok,p,hf,.nin i a,e,h=>by
  rw[jU]at h
  exists Z.anCmp,h,l,ops,cs,pos
  exists Z.an4,0,h,e_,n2,hd,h2;subst e_
  obtain⟨r,rfl⟩:=jz n2;replace hd:=jf hd;obtain⟨x,hr,hd⟩:=hd;obtain⟨rp,rfl⟩:=jK (show jo r=ba x from hr);replace hd:=Z.tb_ 0 hd;obtain⟨d,hm,F⟩:=ok.dds i x hd.1;obtain⟨g1,g2,g3⟩:=ok.ok.gl hd.2;have pa:=(sD ok p hf a _ h2).1;have pb:PE X (.Name x rp) (tC (.ref d)):=u4 g1 hm rfl g2
  have key:∀τ H (Q:VK),tX X.K Cd g H₀ ex dn.dk (.nin i a) τ H Q->tOp (λx y H Q=>∃s,x=.str s/\y=.ref d/\Q (.bl (getD? (g.dd i) s).isNone) H) (tX X.K Cd g H₀ ex dn.dk a) (tC (.ref d)) τ H Q:=by
   rintro τ H Q ⟨σ,O,kd,c,t,R,o,w⟩;rw[rn]at w;rw[tb]at o;refine⟨σ,O,kd,c,t,R,o,jq (λx _ wx xv H1 s1 i1=>?_) (λ_ z=>z) (qA w)⟩;obtain⟨s,e1,wd⟩:=qi wx;cases Zp e1;obtain⟨rfl,_⟩:=jL i1;exact⟨s,rfl,rfl,wd _ _ s1 (j5 _)⟩
  refine⟨PE.imp key (Ko (YJ F) pa pb (x5 rfl)),PT.imp (λτ H Q w=>?_) (KS (YJ F) pa pb (x5 rfl))⟩
  exact key τ H _ (by
   obtain⟨σ,O,kd,d,t,R,o,w⟩:=w;refine⟨σ,O,kd,d,t,R,o,jq (λd _ wd v H1 s1 i1=>?_) (λ_ z=>z) w⟩
   cases d with
   |bl c=>exact⟨c,k9 i1,wd H1 s1⟩
   |_=>exact wd.elim)
 |X,k,ok,p,hf,.item i a,e,h=>by
  rw[jU]at h
  exists Z.anSub,h,v,sl,pos
  exists Z.an3,1,h,hs,hd,h2
  replace hd:=jf hd;obtain⟨x,hr,hd⟩:=hd;obtain⟨rp,rfl⟩:=jK (show jo v=ba x from hr);replace hd:=Z.tb_ 0 hd;obtain⟨d,hm,F⟩:=ok.dds i x hd.1;obtain⟨g1,g2,g3⟩:=ok.ok.gl hd.2
  have pe:PE X (.Subscript (.Name x rp) sl pos) (tX X.K Cd g H₀ ex dn.dk (.item i a)):=by
   refine PE.imp (λτ H Q w=>?_) (YL (jfI F) (u4 (v:=.ref d) g1 hm rfl g2) (sD ok p hf a sl h2).1 (u7 hs));obtain⟨σ,O,kd,c,t,R,o,w⟩:=w;rw[rn]at w;rw[tb]at o;refine⟨σ,O,kd,c,t,R,o,jq (λx _ wx xv H1 s1 i1=>?_) (λ_ z=>z) (qA w)⟩;obtain⟨s,e1,wd⟩:=qi wx;cases Zp e1;obtain⟨rfl,_⟩:=jL i1;obtain⟨r,e2,wd⟩:=xD wd;exact⟨s,r,rfl,rfl,e2,λu ⟨v,rv,hv⟩=>⟨v,rv,wd v H1 s1 (hv _)⟩⟩
  exact⟨pe,kv pe λ_=>rfl⟩
 |X,k,ok,p,hf,.lset a,e,h=>by
  rw[jU]at h
  exists Z.anCallN,h,fx,es,cp,q
  exists Z.an4,0,h,e_,k2,hl,h;subst e_
  obtain⟨y,rfl⟩:=jz hl;replace h:=jf h;obtain⟨⟨fy,zs,cq⟩,hc2,h⟩:=h;obtain⟨q2,rfl⟩:=yk (show jI y=ba (fy,zs,cq) from hc2)
  exists Z.an5,0,h,e_,k3,hl2,hp,k4;subst e_
  obtain⟨z,rfl⟩:=jz hl2;obtain⟨g1,g2,g3⟩:=ok.ok.gl k2;obtain⟨j1,j2,j3⟩:=ok.ok.gl k3;have hp:j6 z=true:=hp
  have pe:PE X (.Call (.Name "len" q) [.Call (.Name "set" q2) [z] [] cq] [] cp) (tX X.K Cd g H₀ ex dn.dk (.lset a)):=by
   refine PE.imp (λτ H Q w=>?_) (kj (id:="len") ZL g1 (ok.ok.blt _ (by decide)) jhH (jj (k8 (T:="set") (ZV (show X.calm=bh from ok.ok.calm)) j1 ok.st jka (jj (sD ok p hf a z k4).1 jB (jE hp _ _)) j3 j2 (jE hp _ _) rfl) jB) g3 g2 rfl rfl);obtain⟨σ,O,kd,b,t,R,o,w⟩:=w;rw[rn]at w;rw[tb]at o;refine⟨σ,O,kd,b,t,R,o,jq (λd _ wd v H1 s1 i1=>?_) (λ_ z=>z) (qA w)⟩;obtain⟨r,e1,wr⟩:=xD wd;replace e1:=bind_some e1;obtain⟨xs,f1,e1⟩:=e1;replace e1:=bind_some e1;obtain⟨ns,f2,e1⟩:=e1;replace e1:=jZ e1;obtain⟨hn,e1⟩:=e1;cases e1;cases u0 f1;have ex:=kM f2;subst ex;obtain⟨c,vs,rfl,h1,h2⟩:=jA i1;cases kD h2;refine⟨c,ns,rfl,(jc _ _).seq h1,hn,λp S hp=>⟨p,S,_,rfl,jh ..,dU (jed ns) hn,wr _ _ (s1.trans (jt hp _)) (ju _)⟩⟩
  exact⟨pe,kv pe λ_=>rfl⟩
 |X,k,ok,p,hf,.str a,e,h=>by
  rw[jU]at h
  exists Z.anCallN,h,fx,es,cp,q
  exists Z.an5,0,h,e_,k2,hl,hp,k4;subst e_
  obtain⟨y,rfl⟩:=jz hl;obtain⟨g1,g2,g3⟩:=ok.ok.gl k2
  have pe:PE X (.Call (.Name "str" q) [y] [] cp) (tX X.K Cd g H₀ ex dn.dk (.str a)):=by
   refine PE.imp (λτ H Q w=>?_) (k8 (T:="str") (K1 (f:=.str) (show X.calm=bh from ok.ok.calm)) g1 (ok.ok.blt _ (by decide)) nX (jj (sD ok p hf a y k4).1 jB (jE hp _ _)) g3 g2 (jE hp _ _) rfl);obtain⟨σ,O,kd,b,t,R,o,w⟩:=w;rw[rn]at w;rw[tb]at o;refine⟨σ,O,kd,b,t,R,o,jq (λd _ wd v H1 s1 i1=>?_) (λ_ z=>z) (qA w)⟩;obtain⟨r,e1,wd⟩:=xD wd;exact⟨O,[d],(R.1.mono s1).own,by unfold Iss;exact⟨v,[],rfl,i1,by unfold Iss;rfl⟩,jam e1 _ (Wd.mono s1 wd)⟩
  exact⟨pe,kv pe λ_=>rfl⟩
theorem sDs:∀ {X:Cx} {k:Ck} (ok:OkD X k C g dn Cd H₀ ex) (p:Bool) (hf:p=bh->OkF X H₀ ex) (xs:List DL.X) (es:List bU),qJ dn k p xs es=bh->PA X es (tXs X.K Cd g H₀ ex dn.dk xs)
 |X,k,ok,p,hf,[],es,h=>by
  have:=Kt h;subst this;refine PA.imp (λτ H Q w=>?_) jB;obtain⟨σ,O,kd,a,t,R,o,w⟩:=w;rw[rns]at w
  exact w [] H (jd.refl _) (by unfold Iss;rfl)
 |X,k,ok,p,hf,x::xs,es,h=>by
  obtain⟨y,ys,rfl,h2,h3,h4⟩:=va h;refine PA.imp (λτ H Q w=>?_) (jj (sD ok p hf x y h3).1 (sDs ok p hf xs ys h4) (jE h2 _ _));obtain⟨σ,O,kd,a,t,R,o,w⟩:=w;rw[rns]at w;rw[tbs]at o;refine⟨σ,O,kd,a,t,R,uT o,jq (λd _ wd v H1 s1 i1=>⟨σ,O,kd,a,t,R.mono s1,zu o,xV (λds _ wds vs H2 s2 i2=>?_) (λ_ z=>⟨z.1,z.2.trans s1⟩) (jdd wd)⟩) (λ_ z=>z) (jc5 w)⟩;exact wds (v::vs) H2 (s1.trans s2) (by unfold Iss;exact⟨v,vs,rfl,Is.mono (jb s2) d i1,i2⟩)
end
end
def jcm:d9->Option bU
 |.Expr e _=>ba e
 |_=>bc
theorem jfu{s:d9}(h:jcm s=ba e):∃p,s=.Expr e p:=by
 cases s<;>first|cases h;done|skip
 cases h;exact⟨_,rfl⟩
theorem anEx{t_:d9}{f_:bU->Bool}{G:Prop}(h:(jcm t_).any f_=bh)(k_:∀e p,t_=.Expr e p->f_ e=bh->G):G:=by
 obtain⟨e,z,h⟩:=jf h;obtain⟨p,q_⟩:=jfu z;exact k_ e p q_ h
def isPC:X->Bool
 |.pu _=>bh
 |.comp _ _=>bh
 |_=>bj
def xj(dn:DN)(k:Ck):S->d9->Bool
 |.ex x,s=>(jcm s).any λe=>j6 e && !qO e&&jU dn k bh x e
 |.set i x,s=>(decide (i≠0) || !dn.dk)&&(yl s).any λz=>(uW z.1).any λt=>(jo t).any λy=>k.loc i y&&j6 z.2&&(!qO z.2 ||isPC x)&&jU dn k bh x z.2
 |.rif c n,s=>(JV s).any λz=>jU dn k bh c z.1&&decide (z.2.1.length=1)&&z.2.2.isEmpty&&jeC k (.raise n) (z.2.1.getD 0 s)
 |.ret x,s=>(xM s).any λv=>v.any λe=>jU dn k bh x e
 |.rtif c x,s=>(JV s).any λz=>jU dn k bh c z.1&&decide (z.2.1.length=1)&&z.2.2.isEmpty&&(xM (z.2.1.getD 0 s)).any λv=>v.any λe=>jU dn k bh x e
def yg(dn:DN)(k:Ck):List S->List d9->Bool
 |[],ss=>ss.isEmpty
 |x::xs,ss=>!ss.isEmpty&&xj dn k x (ss.getD 0 (.Pass ⟨0,0,0,0⟩))&&yg dn k xs (ss.drop 1)
section
variable (K:Frag) (Cd:Addr) (g:G) (H₀:Hp) (ex:XD->Prop) (dk:Bool)
def fo(r:Option Ou)(N:Sto->Prop)(Q:D->Prop)(E:XD->Prop):Prop:=match r with
 |some (.nx σ)=>N σ
 |some (.rt d)=>Q d
 |some (.ex y)=>E y
 |none=>False
inductive tT (s:S) (D:Ends) (τ:L2.St) (H:Hp):Prop
 |mk (σ:Sto) (O:List Addr) (k:Dk) (a t:Addr) (R:RD K Cd dk O H σ τ k a t) (o:O=[]\/tbS s=bj) (w:fo (stp g k σ s) (λσ'=>∀τ' H',jd H H'->RD K Cd dk O H' σ' τ' k a t->D.nx τ' H') (Wd K O H D.rt) λy=>ex y/\jd H₀ H)
inductive tTs (ss:List S) (D:Ends) (τ:L2.St) (H:Hp):Prop
 |mk (e:∀τ' H',D.rt .non H'->D.nx τ' H') (σ:Sto) (O:List Addr) (k:Dk) (a t:Addr) (R:RD K Cd dk O H σ τ k a t) (o:O=[]\/ss.all (λs=>!tbS s)=bh) (w:fi (Uo g k ss σ) (Wd K O H D.rt) λy=>ex y/\jd H₀ H)
end
variable{N:Sto->Prop}{E:XD->Prop}
theorem vw{r:Option R}{f:D->Option Ou}(h:fo (oR r f) N Q E):fi r (λd=>fo (f d) N Q E) E:=by rcases r with _|(d|y)<;>exact h
theorem YG{a:Option α}{f:α->Option Ou}(h:fo (a.bind f) N Q E):∃x,a=ba x/\fo (f x) N Q E:=by
 cases a with
 |none=>exact h.elim
 |some x=>exact⟨x,rfl,h⟩
variable{i:Nat}
theorem RD.set{d:D}{v:V}(R:RD K Cd dk O H σ τ k a t)(h:Is K (minus H O) d v)(hi:i≠0\/dk=bj):RD K Cd dk O H (jC σ i (ba (.sh d))) (τ.set i (ba v)) k a t:=by
 refine⟨R.1.set h,λz=>⟨?_,(R.2 z).2⟩⟩;rcases hi with hi|hi
 ·rw[bP hi];exact(R.2 z).1
 ·rw[hi]at z;cases z
theorem kz(p:j6 e=bh)(hc:qO e=bj)(t:Option bU)(n:Nat)(env:tR):mm e t n env=pure false:=by
 cases e<;>first|rfl|exact bK p|exact bK hc
theorem ui(τ:L2.St):RepS [] K [] H (bE τ.length bc) τ:=by
 have gn:∀(n i:Nat),ji (bE n bc) i=none:=by
  intro n
  induction n with
  |zero=>intro i;rfl
  |succ n ih=>intro i;cases i with|zero=>rfl|succ i=>exact ih i
 refine⟨⟨by simp,(λ_ z=>nomatch z),λi d g=>?_,λi d g=>?_,λi j d e _ g=>?_,⟨λi r g=>?_,λi j r q g=>?_⟩⟩,λi d a g=>?_,λi r a as g=>?_⟩<;>(rw[gn]at g;cases g)
section
variable {C:Cfg} {g:G} {dn:DN} {Cd:Addr} {H₀:Hp} {ex:XD->Prop} {X:Cx} {k:Ck}
theorem UO{a b:DL.X}{Q:VK}(w:tX K Cd g H₀ ex dk (.comp a b) τ H Q):Xr (jbV K (tX K Cd g H₀ ex dk a)) (tX K Cd g H₀ ex dk b) τ H Q:=by
 obtain⟨σ,O,kd,c,t,R,o,w⟩:=w;rw[rn]at w;rw[tb]at o;refine⟨σ,O,kd,c,t,R,uT o,jq (λd _ wd v H1 s1 i1=>?_) (λ_ z=>z) (qA w)⟩;obtain⟨xs,e1,wd⟩:=qi wd;obtain⟨hx,wd⟩:=Ku wd;obtain⟨J,hw,g1,g2,g3⟩:=walk_of e1 i1;exact⟨J,hw,uJ (R.mono s1) hx (λj H2 s2=>g1 j H2 O (jb s2)) (λj H2 s2=>g2 j H2 O (jb s2)) (λj H2 v H' d s2=>g3 j H2 O v H' d (jb s2)) (zu o) (xV (λ_ _ q=>Wd.mono s1 q) (λ_ z=>⟨z.1,z.2.trans s1⟩) (JM wd))⟩
theorem sT(ok:OkD X k C g dn Cd H₀ ex)(of:OkF X H₀ ex)(ox:OkX X k C [] H₀ ex)(s:S)(st:d9)(h:xj dn k s st=bh):PS X st (tT X.K Cd g H₀ ex dn.dk s):=by
 cases s with
 |ex x =>
  exists Z.DL.anEx,h,e,pos
  replace h:=Z.tb_ 1 h;refine PS.imp (λD τ H w=>?_) (xB (sD ok bh (λ_=>of) x e h.2).1 (kz h.1.1 h.1.2 _ _ _));obtain⟨σ,O,kd,a,t,R,o,w⟩:=w
  exact⟨σ,O,kd,a,t,R,o,jq (λd _ wd v H1 s1 i1=>wd τ H1 s1 (R.mono s1)) (λ_ z=>z) (vw w)⟩
 |ret x =>
  replace h:=jf h;obtain⟨ov,ho,h⟩:=h;replace h:=jf h;obtain⟨v,hv,h⟩:=h;subst hv;obtain⟨pos,rfl⟩:=yj ho;refine PS.imp (λD τ H w=>?_) (qx (sD ok bh (λ_=>of) x v h).1);obtain⟨σ,O,kd,a,t,R,o,w⟩:=w
  exact⟨σ,O,kd,a,t,R,o,jq (λd _ wd=>wd) (λ_ z=>z) (vw w)⟩
 |rtif c x =>
  exists Z.anIfS,h,t,b,y,pos
  exists Z.an4,2,h,h1,h2,e_,h;subst e_
  obtain⟨st,rfl⟩:=jz h2;replace h:=jf h;obtain⟨ov,ho,h⟩:=h;replace h:=jf h;obtain⟨v,hv,h⟩:=h;subst hv;obtain⟨pos,rfl⟩:=yj (show xM st=ba (ba v) from ho);refine PS.imp (λD τ H w=>?_) (uI (sD ok bh (λ_=>of) c t h1).2 (jl (qx (sD ok bh (λ_=>of) x v h).1) jF) jF);obtain⟨σ,O,kd,a,t,R,o,w⟩:=w;have o:O=[]\/(tb c ||tb x)=false:=o;refine⟨σ,O,kd,a,t,R,uT o,jq (λd _ wd=>?_) (λ_ z=>z) (vw w)⟩;obtain⟨b,e1,wd⟩:=YG wd;cases q9 e1;intro H1 s1
  cases b with
  |true=>exact⟨σ,O,kd,a,t,R.mono s1,zu o,jq (λd _ wd=>Wd.mono s1 wd) (λ_ z=>⟨z.1,z.2.trans s1⟩) (vw wd)⟩
  |false=>exact wd τ H1 s1 (R.mono s1)
 |rif c n =>
  exists Z.anIfS,h,t,b,y,pos
  exists Z.an4,2,h,h1,h2,e_,h;subst e_
  obtain⟨st,rfl⟩:=jz h2;refine PS.imp (λD τ H w=>?_) (uI (sD ok bh (λ_=>of) c t h1).2 (jl (sX ox (.raise n) st h) jF) jF);obtain⟨σ,O,kd,a,t,R,o,w⟩:=w;refine⟨σ,O,kd,a,t,R,o,jq (λd _ wd=>?_) (λ_ z=>z) (vw w)⟩;obtain⟨b,e1,wd⟩:=YG wd;cases q9 e1;intro H1 s1
  cases b with
  |true =>
   have wd:ex ⟨0,n,[]⟩/\jd H₀ H:=wd
   exact⟨_,[],⟨wd.2.trans s1,(λ_ z=>nomatch z),(λ_ z=>nomatch z)⟩,ui τ,wd.1⟩
  |false=>exact wd τ H1 s1 (R.mono s1)
 |set i x =>
  replace h:((decide (i≠0) || !dn.dk)&&(yl st).any λz=>(uW z.1).any λt=>(jo t).any λy=>k.loc i y&&j6 z.2&&(!qO z.2 ||isPC x)&&jU dn k bh x z.2)=true:=h;rw[bz]at h;obtain⟨h0,h⟩:=h
  have hi:i≠0\/dn.dk=false:=by simpa using h0
  replace h:=jf h;obtain⟨⟨ts,v⟩,hz,h⟩:=h;replace h:=jf h;obtain⟨tg,ht,h⟩:=h
  exists Z.anName,h,y,yp
  obtain⟨pos,rfl⟩:=VI hz;have ht:=VZ ht;subst ht
  exists Z.an4,3,h,h1,h2,hpc,h3
  obtain⟨a1,a2,a3,a4⟩:=ox.ok.toOk.vis h1;by_cases hc:qO v=bh
  ·replace hpc:isPC x=true:=by rw[hc]at hpc;simpa using hpc
   have fin:∀ {st:d9} {t:TE},(∀τ H Q,tX X.K Cd g H₀ ex dn.dk x τ H Q->t τ H Q)->PS X st (λD τ H=>t τ H λv H'=>D.nx (τ.set i (ba v)) H')->PS X st (tT X.K Cd g H₀ ex dn.dk (.set i x)):=by
    intro st t ht ps;refine PS.imp (λD τ H w=>ht _ _ _ ?_) ps;obtain⟨σ,O,kd,a,t,R,o,w⟩:=w;exact⟨σ,O,kd,a,t,R,o,jq (λd _ wd v H1 s1 i1=>wd _ H1 s1 ((R.mono s1).set i1 hi)) (λ_ z=>z) (vw w)⟩
   have plain:∀ {b:Bool},mm v (ba (.Name y yp)) pos.line X.env=pure b->b=bj->PS X (.Assign [.Name y yp] v pos) (tT X.K Cd g H₀ ex dn.dk (.set i x)):=by
    intro b hsw hb;subst hb;exact fin (λ_ _ _ w=>w) (x9 (X:=X) ok.ok.nd a1 a2 (sD ok bh (λ_=>of) x v h3).1 hsw (.inl (ox.ok.fn _)))
   clear h0
   cases x with
   |pu z =>
    rw[jU]at h3;obtain⟨x,px,iter,elt,ifs,sc,ps,wi,tt,te,rfl,hck,hpi,hfo,hel,hco⟩:=vF ok.ok z v h3 hc;obtain⟨b,hsw⟩:=ze (elt:=elt) (gs:=[⟨.Name x px,iter,ifs,0⟩]) (sc:=sc) (pos:=ps) (py:=yp) (y:=y) pos.line X.env
    cases b with
    |false=>exact plain hsw rfl
    |true =>
     refine fin (t:=zh wi tt te) (λτ H Q w=>hco _ _ _ ?_) (kX λpins s τ H D I w=>?_)
     ·obtain⟨σ,O,kd,a,t,R,o,w⟩:=w;rw[rn]at w;obtain⟨d,e1,q⟩:=xD w;exact⟨σ,O,R.1,ok.ev z σ d e1 _ q⟩
     ·obtain⟨cl,co⟩:=ok.ok.comp hck I.ok
      exact YR ok.ok.calm ok.ok.nd (ok.ok.comp_nE hck) co hpi (hel cl co).1 (hel cl co).2 hfo hsw a1 a2 (.inl (ox.ok.fn _)) pins s τ H D I w
   |comp a b =>
    have h3':=h3;rw[jU,bz]at h3;obtain⟨hp,h⟩:=h3
    exists Z.anComp,h,elt,x,iter,sc,px,ps
    exists Z.an4,1,h,h1,hn,ha,h3
    obtain⟨bb,hsw⟩:=ze (elt:=elt) (gs:=[⟨.Name x px,iter,[],0⟩]) (sc:=sc) (pos:=ps) (py:=yp) (y:=y) pos.line X.env
    cases bb with
    |false=>exact plain hsw rfl
    |true =>
     intro pins s τ H D I w;obtain⟨cl,co'⟩:=ok.ok.comp h1 (I.ok.wish λ_ _=>False)
     have co:CompOk X x sc cl:=⟨co'.clos,co'.kind,co'.cell,co'.names,co'.loc,co'.only,co'.vis,co'.sub,co'.ne,co'.noE⟩
     refine fin (t:=Xr (jbV X.K (tX X.K Cd g H₀ ex dn.dk a)) (tX X.K Cd g H₀ ex dn.dk b)) (λτ H Q w=>?_) (VW of.own of.hld ok.ok.calm ok.ok.nd (ok.ok.comp_nE h1) co (yn (sD ok bh (λ_=>of) a iter ha).1) (λs H fp Ca=>(sD (ok.block h1 co s H fp Ca) bj (λz=>nomatch z) b elt h3).1) (kH hn _) hsw a1 a2 (.inl (ox.ok.fn _))) pins s τ H D I w
     exact UO w
   |_=>exact bK hpc
  ·refine PS.imp (λD τ H w=>?_) (x9 ok.ok.nd a1 a2 (sD ok bh (λ_=>of) x v h3).1 (kz h2 (by simpa using hc) _ _ _) (.inl (ox.ok.fn _)));obtain⟨σ,O,kd,a,t,R,o,w⟩:=w;exact⟨σ,O,kd,a,t,R,o,jq (λd _ wd v H1 s1 i1=>wd _ H1 s1 ((R.mono s1).set i1 hi)) (λ_ z=>z) (vw w)⟩
theorem YS{s:S}{r:List S}{sts:List d9}(h:yg dn k (s::r) sts=bh):∃st rs,sts=st::rs/\xj dn k s st=bh/\yg dn k r rs=true:=by
 unfold yg at h
 cases sts with
 |nil=>cases h
 |cons st rs =>
  replace h:=Z.tb_ 3 h;exact⟨st,rs,rfl,h.1.2,h.2⟩
theorem sTs(ok:OkD X k C g dn Cd H₀ ex)(of:OkF X H₀ ex)(ox:OkX X k C [] H₀ ex):∀(ss:List S) (sts:List d9),yg dn k ss sts=bh->PSs X sts (tTs X.K Cd g H₀ ex dn.dk ss)
 |[],sts,h=>by
  have e:sts=[]:=by unfold yg at h;simpa using h
  subst e;refine PSs.imp (λD τ H w=>?_) jF;obtain⟨nx,σ,O,kd,a,t,R,o,w⟩:=w
  exact nx _ _ (w _ _ (jd.refl _) Jh)
 |s::r,sts,h=>by
  obtain⟨st,rs,rfl,h1,h2⟩:=YS h;refine PSs.imp (λD τ H w=>?_) (jl (sT ok of ox s st h1) (sTs ok of ox r rs h2));obtain⟨nx,σ,O,kd,a,t,R,o,w⟩:=w;rw[nV,bz]at o;refine⟨σ,O,kd,a,t,R,o.imp id λz=>(by simpa using z.1),?_⟩;unfold Uo at w
  cases e:stp g kd σ s with
  |none=>rw[e]at w;exact w.elim
  |some o =>
   rw[e]at w
   cases o with
   |nx σ'=>exact λτ' H' s' R'=>⟨nx,σ',O,kd,a,t,R',o.imp id λz=>z.2,jq (λd _ q=>Wd.mono s' q) (λy z=>⟨z.1,z.2.trans s'⟩) w⟩
   |rt d=>exact w
   |ex y=>exact w
end
def stD(n:Nat)(b:Bool)(ds:List D):Sto:=if b=bh then bc::jS (n-1) ds else jS n ds
theorem US{y:Option V}(R:Reps K O H σ τ)(ho:∀i z,ji σ i=ba z->∃d,z=.sh d):Reps K O H (bc::σ) (y::τ):=by
 have no:∀i z,ji (bc::σ) i=ba z->∃j d,i=j+1/\z=.sh d/\ji σ j=ba (.sh d):=λi z g=>by
  cases i with
  |zero=>cases g
  |succ i =>
   obtain⟨d,rfl⟩:=ho i z g;exact⟨i,d,rfl,rfl,g⟩
 refine⟨by simp[R.len],R.own,λi d g=>?_,λi d g=>?_,λi j d e _ g=>?_,⟨λi r g=>?_,λi j r q g=>?_⟩⟩
 ·obtain⟨j,d',rfl,e,g⟩:=no i _ g;cases e;exact R.sh j d g
 all_goals
  obtain⟨_,_,_,e,_⟩:=no i _ g;cases e
theorem Jk:∀(ds:List D) (m j:Nat) (z:Sl),ji (ds.map (λd=>ba (Sl.sh d))++bE m bc) j=ba z->∃d,z=.sh d
 |[],m,j,z,g=>by
  exfalso
  have gn:∀(n i:Nat),ji (bE n bc) i=none:=by
   intro n
   induction n with
   |zero=>intro i;rfl
   |succ n ih=>intro i;cases i with|zero=>rfl|succ i=>exact ih i
  rw[gK,gJ,gn]at g
  cases g
 |d::ds,m,0,z,g=>by cases g;exact⟨d,rfl⟩
 |d::ds,m,j+1,z,g=>Jk ds m j z g
variable{vs:List V}
theorem vR{N:List bF}{us:List V}{ds:List D}(hN:vs.length<=N.length)(hv:if b=bh then vs=.ref a::us/\j7 K Cd H a t k else vs=us)(ho:∀a∈O,H a≠bc)(is:Iss K (minus H O) ds us) :
 RD K Cd b O H (stD N.length b ds) (L2.start N vs) k a t:=by
 cases b with
 |false =>
  rw[if_neg (by decide)]at hv;subst hv
  exact⟨zc rfl ho is,λz=>nomatch z⟩
 |true =>
  rw[if_pos rfl]at hv;obtain⟨rfl,hd⟩:=hv
  have e:L2.start N (.ref a::us)=ba (.ref a)::L2.start (N.drop 1) us:=by
   unfold L2.start;rw[b5,dw,b6,jiJ];congr 3;lia
  rw[e];have:=zc (K:=K) (N:=N.drop 1) (n:=N.length-1) (by simp) ho is;exact⟨US this (λi z g=>Jk _ _ _ _ g),λ_=>⟨rfl,hd⟩⟩
def exE(K:Frag)(H:Hp)(E:XK):XD->Prop:=λy=>∀H' d,jd H H'->Fld K [] y H' d->E (.str y.t 0) d H'
variable{sp:Sp}{ss:List DL.S}
section
variable {P:dg} {w:World} {K:Frag} {mg:bF->Option bq} {base:dR} {C:Cfg} {cns:List bF} {i:FnI} {L:List FnI} {lv:Nat} {f:Addr} {fd:gV} {g:G} {dn:DN} {Cd:Addr}
structure Std (P:dg) (w:World) (K:Frag) (mg:bF->Option bq) (base:dR) (C:Cfg) (cns:List bF) (L:List FnI) (lv:Nat) (g:G) (dn:DN) (Cd:Addr):Prop where
 h2:2<=lv
 fns:∀n j,L[n]?=ba j->∃f fd,FnOk P w K mg base (CXz P w mg) lv f fd j.ps (spD K j.ps.length (C.fr n) (C.f2 n) (C.ct n))/\FnAt K mg j f fd
 hcn:∀n x,cns[n]?=ba x->∃u v,mg x=ba u/\jH v u/\∀S,Is K S (C.cn n) v
 hb:∀x∈blts,mg x=bc
 hE:∀x,¬ C.E x
 ev:∀x σ d,g.e x σ=ba d->kF (wpE C x σ) d
 ca:∀i,C.ct i=ctE g.ca g.z i
 dfn:∀f x n b,dn.fs[f]?=ba (x,n,b)->∃fa fd ps,FnOk P w K mg base (CXz P w mg) lv fa fd ps (spR K Cd (g.da f) n b)/\mg x=ba (.ref fa)/\keepIn K (.ref fa)=bh/\kP K fd ps []
 dds:∀i x,dn.ds[i]?=ba x->∃d,mg x=ba (.ref d)/\DictK K w.params (PD K) d (g.dd i)
 dc:DeskC K Cd
 st:mg ("set":bF)=bc
theorem zV(S:Std P w K mg base C cns L lv g dn Cd)(F:FnAt K mg i f fd)(hsc:jV i=bh)(hz:ExcOk K mg i.cls i.al)(al:i.al=bj)(len:∀vs H Q E,sp vs H Q E->vs.length=i.ps.length)
 (body:∀(X:Cx) (H:Hp) (vs:List V) (Q:VK) (E:XK),OkD X (i.ck L cns) C g dn Cd H (exE K H E)->OkF X H (exE K H E)->OkX X (i.ck L cns) C [] H (exE K H E)->(X.prog=P/\X.w=w/\X.K=K/\X.mg=mg/\X.base=base/\X.H₀=H)->Room lv X.A->X.env.scope=jg i.st->sp vs H Q E ->
  ∃t,PSs X (jm i.st) t/\t { nx:=λ_ H'=>Q .non H',rt:=Q } (L2.start i.N vs) H) :
 FnOk P w K mg base (CXz P w mg) (lv+1) f fd i.ps sp:=by
 have Sc:=xh hsc;refine vc F.fn Sc len (λcdv A outer s H vs Q E hr h=>?_)
 have hun:(A.deeper (envOfC i.x (jg i.st) s.heap.objs.size f cdv)).units+100<cLine:=by have:=hr.un;lia
 have hcalm:A.handled.isNone=true:=by
  have e:A.handled=none:=hr.hd S.h2;rw[e];rfl
 have ok:OkS (qN (CXz P w mg) P w K mg base i.N i.x (jg i.st) f cdv A outer s H E).nox (i.ck L cns) C:=by
  refine⟨⟨rfl,Sc.nd,rfl,Sc.kind,hcalm,rfl,hun,?_,S.hcn,S.hb,S.hE⟩,λ_=>rfl⟩;intro n x m e;have e':(L.map λj=>(j.x,j.ps.length))[n]?=ba (x,m):=e;rw[dQ]at e'
  cases q:L[n]? with
  |none=>rw[q]at e';cases e'
  |some j =>
   rw[q]at e';cases e';obtain⟨f',fd',F',A'⟩:=S.fns n j q;exact⟨f',fd',j.ps,lv,F',hr,A'.mg,A'.fn.kp,.all A'.bd⟩
 have own:Own (qN (CXz P w mg) P w K mg base i.N i.x (jg i.st) f cdv A outer s H E):=⟨rfl,rfl,rfl⟩
 have thr:∀y Ca,exE K H E y->mg y.t=ba (.ref Ca)->∀pins σ H' s' H1 da e s2,Inv (qN (CXz P w mg) P w K mg base i.N i.x (jg i.st) f cdv A outer s H E) pins σ H' s'->jd H H1->Fld K [] y H1 da->qM P w Ca (qN (CXz P w mg) P w K mg base i.N i.x (jg i.st) f cdv A outer s H E).stack H' s' H1 da e s2->(qN (CXz P w mg) P w K mg base i.N i.x (jg i.st) f cdv A outer s H E).xe e s2:=by
  intro y Ca hex hm pins σ H' s' H1 da e s2 I sm fd T
  exact Kf I own sm T λs3 T3=>⟨y.t,Ca,H1,da,hex H1 da sm fd,hm,T3⟩
 have okx:OkX (qN (CXz P w mg) P w K mg base i.N i.x (jg i.st) f cdv A outer s H E) (i.ck L cns) C [] H (exE K H E):=by
  refine⟨ok,own,(λ_ z=>nomatch z),thr,?_,λ_=>⟨hr.mono S.h2,?_⟩,hz.exc,λq=>absurd (al.symm.trans q) df⟩
  ·intro _ x Ca hex hm pins σ H' s' h1 e args I sm M
   exact uG I own sm M λs3 T3=>⟨x,Ca,H',bc,hex H' bc sm (λd hd=>nomatch hd),hm,T3⟩
  ·intro y Ca hex hm pins σ H' s' e da I he h0 h0' sm fd;obtain⟨⟨t0,he1⟩,_⟩:=I.hok e _ he
   exact vD (Zl I he h0) own sm he1 rfl rfl rfl rfl rfl rfl vT h0' λs3 T3=>⟨y.t,Ca,_,da,hex _ da sm fd,hm,T3⟩
 have okf:OkF (qN (CXz P w mg) P w K mg base i.N i.x (jg i.st) f cdv A outer s H E) H (exE K H E):=by
  refine⟨own,?_⟩;intro y Ca hex hm pins σ H1 s' s3 B ea a0 fl da I sm fd hea st hen ff tr trk old fr hdc ho hg
  exact Xn I own sm hea st hen ff tr trk old fr hdc ho hg λs4 T4=>⟨y.t,Ca,H1,da,hex H1 da sm fd,hm,T4⟩
 have okd:OkD (qN (CXz P w mg) P w K mg base i.N i.x (jg i.st) f cdv A outer s H E) (i.ck L cns) C g dn Cd H (exE K H E) :=
  ⟨ok.toOk,S.ev,S.ca,thr,λf x n b e=>(by
   obtain⟨fa,fd,ps,h1,h2,h3,h4⟩:=S.dfn f x n b e
   exact⟨fa,fd,ps,lv,h1,hr,h2,h3,h4⟩),S.dds,S.dc,S.st⟩
 exact body (qN (CXz P w mg) P w K mg base i.N i.x (jg i.st) f cdv A outer s H E) H vs Q E okd okf okx ⟨rfl,rfl,rfl,rfl,rfl,rfl⟩ hr rfl h
theorem jbH(hO:dn.dk=bh\/ss.all (λs=>!tbS s)=bh)(S:Std P w K mg base C cns L lv g dn Cd)(F:FnAt K mg i f fd)(hsc:jV i=bh)(hz:ExcOk K mg i.cls i.al)(al:i.al=bj)(hN:i.ps.length<=i.N.length)(hc:yg dn (i.ck L cns) ss (jm i.st)=bh) :
 FnOk P w K mg base (CXz P w mg) (lv+1) f fd i.ps (spR K Cd (λk ds=>Uo g k ss (stD i.N.length dn.dk ds)) i.ps.length dn.dk):=by
 refine zV S F hsc hz al (λvs H Q E h=>h.1) λX H vs Q E okd okf okx hX _ _ h=>?_
 obtain⟨rfl,rfl,rfl,rfl,rfl,_⟩:=hX;obtain⟨hl,a,t,k,ds,us,O,ho,hv,is,w⟩:=h;refine⟨_,sTs okd okf okx ss _ hc,λ_ _ z=>z,_,O,k,a,t,vR (O:=O) (by rw[hl];exact hN) hv ho.2 is,hO.imp ho.1 id,?_⟩;exact jq (λd _ q=>q) (λy z=>⟨z,jd.refl _⟩) w
end
def jft:HO->Bool
 |.lst _=>bh
 |.tup _=>bh
 |.frz _ _=>bh
 |_=>bj
def qL(S S':Hp):Prop:=∀b o,S b=ba o->jft o=bh->S' b=ba o
variable{S':Hp}
theorem qL.of{S:Hp}(e:jd S S'):qL S S':=λb o h _=>e b o h
theorem qL.trans{S T:Hp}(e:qL S S')(f:qL S' T):qL S T:=λb o h d=>f b o (e b o h d) d
def kN(a:Addr)(S S':Hp):Prop:=qL S S'/\∀b o,b≠a->S b=ba o->S' b=ba o
theorem kN.of{S:Hp}(e:jd S S'):kN a S S':=⟨.of e,λb o _ h=>e b o h⟩
theorem kN.trans{S T:Hp}(e:kN a S S')(f:kN a S' T):kN a S T:=⟨e.1.trans f.1,λb o n h=>f.2 b o n (e.2 b o n h)⟩
theorem qL.sq{S:Hp}(e:qL S S')(h:SqL K S a xs):SqL K S' a xs:=by
 rcases h with(h|⟨o,h⟩)|h
 ·exact .inl (.inl (e _ _ h rfl))
 ·exact .inl (.inr ⟨o,e _ _ h rfl⟩)
 ·exact .inr h
theorem qL.st{S:Hp}(e:qL S S')(h:SqT K S a xs):SqT K S' a xs:=by
 rcases h with(h|⟨o,h⟩)|h
 ·exact .inl (.inl (e _ _ h rfl))
 ·exact .inl (.inr ⟨o,e _ _ h rfl⟩)
 ·exact .inr h
mutual
theorem Is.imp{K:Frag}{S S':Hp}(e:qL S S'):∀(d:D) {v:V},Is K S d v->Is K S' d v
 |.non,v,h=>by unfold Is at *;exact h
 |.bl b,v,h=>by unfold Is at *;exact h
 |.int i,v,h=>by unfold Is at *;exact h
 |.str x,v,h=>by unfold Is at *;exact h
 |.tup xs,v,h=>by
  unfold Is at *;obtain⟨a,vs,h1,h2,h3⟩:=h
  exact⟨a,vs,h1,e.st h2,Iss.imp e xs h3⟩
 |.lst xs,v,h=>by
  unfold Is at *;obtain⟨a,vs,h1,h2,h3⟩:=h;exact⟨a,vs,h1,e.sq h2,Iss.imp e xs h3⟩
theorem Iss.imp{K:Frag}{S S':Hp}(e:qL S S'):∀(ds:List D) {vs:List V},Iss K S ds vs->Iss K S' ds vs
 |[],vs,h=>by unfold Iss at *;exact h
 |d::ds,vs,h=>by
  unfold Iss at *;obtain⟨v,r,h1,h2,h3⟩:=h;exact⟨v,r,h1,Is.imp e d h2,Iss.imp e ds h3⟩
end
def oT(k:Dk)(t:Addr):List Addr:=if k.m=bh then [t] else []
theorem X2{C:Addr}(h:j7 K C H a t k):∀b∈oT k t,H b≠none:=λb hb=>by
 obtain⟨_,_,_,_,_,_,_,h⟩:=h;unfold oT at hb;split at hb
 ·next hm =>
  rw[if_pos hm]at h;obtain⟨vs,h1,_⟩:=h;rw[dr.mp hb,h1]
  exact λz=>nomatch z
 ·cases hb
def fm(r:Option (R×Dk))(T:bF->Dk->Prop)(E:XD->Prop):Prop:=match r with
 |some (.ok (.str s),k)=>T s k
 |some (.ex y,_)=>E y
 |_=>False
inductive spM (K:Frag) (Cd:Addr) (f:Dk->List D->Option (R×Dk)) (vs:List V) (H:Hp) (Q:VK) (E:XK):Prop
 |mk (a t:Addr) (k:Dk) (d:D) (u:V) (e:vs=[.ref a,u]) (da:j7 K Cd H a t k) (i:Is K (minus H (oT k t)) d u)
  (w:fm (f k [d]) (λs k'=>∀H' t',kN a (minus H (oT k t)) (minus H' (oT k' t'))->j7 K Cd H' a t' k'->b9 s=bh->Q (.str s) H') (exE K H E))
theorem jeY{da:Dk->List D->Option R}{Q:VK}{E:XK}(h:spM K Cd (λk ds=>(da k ds).map λr=>(r,k)) vs H Q E):spR K Cd da 2 bh vs H Q E:=by
 obtain⟨a,t,k,d,u,rfl,hd,i,w⟩:=h;refine⟨rfl,a,t,k,[d],[u],[],⟨λ_=>rfl,λ_ z=>nomatch z⟩,⟨rfl,hd⟩,by unfold Iss;exact⟨u,[],rfl,Is.mono (jM (O':=[]) λ_ z=>nomatch z) d i,by unfold Iss;rfl⟩,?_⟩
 try dsimp only at w
 cases e:da k [d] with
 |none=>rw[e]at w;exact w.elim
 |some r =>
  rw[e]at w
  cases r with
  |ex y=>exact w
  |ok x =>
   cases x<;>first|exact w.elim|skip
   next s =>
   intro v H' s' i';obtain⟨rfl,ok⟩:=jL i';exact w H' t (kN.of (jb s')) (hd.mono s') ok
theorem ZG{r:Option Ou}{N':Sto->Prop}{Q':D->Prop}{E':XD->Prop}(n:∀σ,N σ->N' σ)(q:∀d,Q d->Q' d)(e:∀y,E y->E' y)(h:fo r N Q E):fo r N' Q' E':=by
 rcases r with _|(σ|d|y)
 ·exact h
 ·exact n σ h
 ·exact q d h
 ·exact e y h
variable{n:bF}{q:bU->Bool}{dx:Addr}{o:HO}
section
variable {C:Cfg} {g:G} {dn:DN} {Cd:Addr} {H₀:Hp} {ex:XD->Prop} {X:Cx} {k:Ck}
def fo0(r:Option Ou)(N:Prop)(E:XD->Prop):Prop:=match r with
 |some (.nx _)=>N
 |some (.ex y)=>E y
 |_=>False
def noS:S->Bool
 |.ex _=>bh
 |.rif _ _=>bh
 |_=>bj
theorem sT0(ok:OkD X k C g dn Cd H₀ ex)(of:OkF X H₀ ex)(ox:OkX X k C [] H₀ ex)(s:S)(st:d9)(h:xj dn k s st=bh)(hs:noS s=bh) :
 PS X st (λD τ H=>∃σ kd a t,RD X.K Cd dn.dk [] H σ τ kd a t/\fo0 (stp g kd σ s) (∀H',jd H H'->D.nx τ H') λy=>ex y/\jd H₀ H):=by
 cases s with
 |ex x =>
  exists Z.DL.anEx,h,e,pos
  replace h:=Z.tb_ 1 h;refine PS.imp (λD τ H w=>?_) (xB (sD ok bh (λ_=>of) x e h.2).1 (kz h.1.1 h.1.2 _ _ _));obtain⟨σ,kd,a,t,R,w⟩:=w;refine⟨σ,[],kd,a,t,R,.inl rfl,?_⟩;replace w:fo0 (oR (rn g kd σ x) λ_=>ba (.nx σ)) (∀H',jd H H'->D.nx τ H') (λy=>ex y/\jd H₀ H):=w
  rcases hr:rn g kd σ x with _|(d|y)<;>rw[hr]at w
  ·exact w
  ·exact λv H1 s1 i1=>w H1 s1
  ·exact w
 |rif c n =>
  exists Z.anIfS,h,t,b,y,pos
  exists Z.an4,2,h,h1,h2,e_,h;subst e_
  obtain⟨st,rfl⟩:=jz h2;refine PS.imp (λD τ H w=>?_) (uI (sD ok bh (λ_=>of) c t h1).2 (jl (sX ox (.raise n) st h) jF) jF);obtain⟨σ,kd,a,t,R,w⟩:=w;refine⟨σ,[],kd,a,t,R,.inl rfl,?_⟩;replace w:fo0 (oR (rn g kd σ c) λd=>(asB d).bind λt=>if t then ba (.ex ⟨0,n,[]⟩) else ba (.nx σ)) (∀H',jd H H'->D.nx τ H') (λy=>ex y/\jd H₀ H):=w
  rcases hr:rn g kd σ c with _|(d|y)<;>rw[hr]at w
  ·exact w
  ·replace w:fo0 ((asB d).bind λt=>if t then ba (.ex ⟨0,n,[]⟩) else ba (.nx σ)) (∀H',jd H H'->D.nx τ H') (λy=>ex y/\jd H₀ H):=w
   cases e:asB d with
   |none=>rw[e]at w;exact w.elim
   |some b =>
    rw[e]at w;cases q9 e;intro H1 s1
    cases b with
    |true =>
     have w:ex ⟨0,n,[]⟩/\jd H₀ H:=w
     exact⟨_,[],⟨w.2.trans s1,(λ_ z=>nomatch z),(λ_ z=>nomatch z)⟩,ui τ,w.1⟩
    |false=>exact w H1 s1
  ·exact w
 |_=>exact bK hs
theorem RD.weak{k:Dk}(R:RD K Cd dk O H σ τ k a t)(hσ:∀i z,ji σ i=ba z->∃d,z=.sh d):RD K Cd dk [] H σ τ k a t:=by
 refine⟨⟨R.1.len,(λ_ z=>nomatch z),λi d g=>?_,λi d g=>?_,λi j d e _ g=>?_,⟨λi r g=>?_,λi j r q g=>?_⟩⟩,R.2⟩
 ·obtain⟨v,h1,h2⟩:=R.1.sh i d g;exact⟨v,h1,Is.mono (jM (O':=[]) λ_ z=>nomatch z) d h2⟩
 all_goals
  obtain⟨_,e⟩:=hσ i _ g;cases e
def jcU:List S->Bool
 |[]=>bh
 |s::r=>(noS s ||(match s with|.set _ x=>!tb x|_=>bj))&&jcU r
def pre(g:G)(k:Dk):List S->Sto->Option Ou
 |[],σ=>ba (.nx σ)
 |s::r,σ=>match stp g k σ s with
  |some (.nx σ')=>pre g k r σ'
  |some (.ex y)=>ba (.ex y)
  |_=>bc
def Ja(σ:Sto):Prop:=∀i z,ji σ i=ba z->∃d,z=.sh d
theorem Ja.set(h:Ja σ)(i:Nat)(d:D):Ja (jC σ i (ba (.sh d))):=by
 have key:∀(σ:Sto) (i j:Nat) (z:Sl),ji (jC σ i (ba (.sh d))) j=ba z->z=.sh d\/ji σ j=ba z:=by
  intro σ
  induction σ with
  |nil=>intro i j z g;cases j<;>cases g
  |cons x σ ih =>
   intro i j z g
   cases i with
   |zero=>cases j with
    |zero=>cases g;exact .inl rfl
    |succ j=>exact .inr g
   |succ i=>cases j with
    |zero=>exact .inr g
    |succ j=>exact ih i j z g
 intro j z g;rcases key σ i j z g with e|g
 ·exact⟨d,e⟩
 ·exact h j z g
theorem jfx(ok:OkD X k C g dn Cd H₀ ex)(of:OkF X H₀ ex)(ox:OkX X k C [] H₀ ex){rest:List d9}{u:TS}(hu:PSs X rest u):∀(ss:List S) (sts:List d9),yg dn k ss sts=bh->jcU ss=bh ->
 PSs X (sts++rest) (λD τ H=>∃σ kd a t,RD X.K Cd dn.dk (oT kd t) H σ τ kd a t/\Ja σ/\fo (pre g kd ss σ) (λσ'=>∀τ' H',jd H H'->RD X.K Cd dn.dk (oT kd t) H' σ' τ' kd a t->Ja σ'->u D τ' H') (λ_=>False) λy=>ex y/\jd H₀ H)
 |[],sts,h,_=>by
  have e:sts=[]:=by unfold yg at h;simpa using h
  subst e;refine PSs.imp (λD τ H w=>?_) hu;obtain⟨σ,kd,a,t,R,as,w⟩:=w
  exact w τ H (jd.refl _) R as
 |s::r,sts,h,hp=>by
  obtain⟨st,rs,rfl,h1,h2⟩:=YS h;unfold jcU at hp;rw[bz]at hp;have ih:=jfx ok of ox hu r rs h2 hp.2;by_cases hn:noS s=bh
  ·refine PSs.imp (λD τ H w=>?_) (jl (sT0 ok of ox s st h1 hn) ih);obtain⟨σ,kd,a,t,R,as,w⟩:=w;refine⟨σ,kd,a,t,R.weak as,?_⟩;unfold pre at w
   have hσ:∀σ',stp g kd σ s=ba (.nx σ')->σ'=σ:=by
    intro σ' e
    cases s<;>first|exact bK hn|skip
    ·next x =>
     have e:oR (rn g kd σ x) (λ_=>ba (.nx σ))=ba (.nx σ'):=e
     rcases hr:rn g kd σ x with _|(d|y)<;>(rw[hr]at e;cases e)
     rfl
    ·next c n =>
     have e:oR (rn g kd σ c) (λd=>(asB d).bind λt=>if t then ba (.ex ⟨0,n,[]⟩) else ba (.nx σ))=ba (.nx σ'):=e;rcases hr:rn g kd σ c with _|(d|y)
     ·rw[hr]at e;cases e
     ·rw[hr]at e;have e:((asB d).bind λt=>if t then ba (Ou.ex ⟨0,n,[]⟩) else ba (.nx σ))=ba (.nx σ'):=e;replace e:=bind_some e;obtain⟨b,_,e⟩:=e
      cases b<;>cases e
      rfl
     ·rw[hr]at e;cases e
   cases e:stp g kd σ s with
   |none=>rw[e]at w;exact w.elim
   |some o =>
    rw[e]at w
    cases o with
    |nx σ' =>
     cases hσ σ' e
     exact λH' s'=>⟨σ,kd,a,t,R.mono s',as,ZG (λσ' q τ' H2 s2=>q τ' H2 (s'.trans s2)) (λ_ q=>q) (λy z=>⟨z.1,z.2.trans s'⟩) w⟩
    |rt d=>exact w.elim
    |ex y=>exact w
  ·cases s<;>first|exact absurd rfl hn|skip
   case set i x =>
    have hx:tb x=false:=by
     have:=hp.1;rw[gX]at this;rcases this with z|z
     ·exact absurd z hn
     ·simpa using z
    refine PSs.imp (λD τ H w=>?_) (jl (sT ok of ox (.set i x) st h1) ih);obtain⟨σ,kd,a,t,R,as,w⟩:=w;refine⟨σ,oT kd t,kd,a,t,R,.inr hx,?_⟩;unfold pre at w
    have hσ:∀σ',stp g kd σ (.set i x)=ba (.nx σ')->Ja σ':=by
     intro σ' e;have e:oR (rn g kd σ x) (λd=>ba (.nx (jC σ i (ba (.sh d)))))=ba (.nx σ'):=e
     rcases hr:rn g kd σ x with _|(d|y)<;>(rw[hr]at e;cases e)
     exact as.set i d
    cases e:stp g kd σ (.set i x) with
    |none=>rw[e]at w;exact w.elim
    |some o =>
     rw[e]at w
     cases o with
     |nx σ' =>
      exact λτ' H' s' R'=>⟨σ',kd,a,t,R',hσ σ' e,ZG (λσ' q τ' H2 s2=>q τ' H2 (s'.trans s2)) (λ_ q=>q) (λy z=>⟨z.1,z.2.trans s'⟩) w⟩
     |rt d=>exact w.elim
     |ex y=>exact w
   case ret=>exact bK hp.1
   case rtif=>exact bK hp.1
inductive Mu where
 |sg (x:DL.X)
 |st (x:DL.X)
 |app (i:Nat)
 |pop (x:DL.X)
def mu(g:G)(k:Dk)(σ:Sto):Mu->Option Dk
 |.sg x=>match rn g k σ x with|some (.ok (.int i))=>ba { k with g:=i }|_=>bc
 |.st x=>match rn g k σ x with|some (.ok (.lst xs))=>ba { k with m:=bj,T:=xs }|_=>bc
 |.app i=>if k.m=bh then match ji σ i with|some (.sh d)=>jQ (k.T.length<lim) (ba { k with T:=k.T ++ [d] })|_=>bc else bc
 |.pop x=>if k.m=bh then match rn g k σ x with|some (.ok (.int j))=>jQ (0<=j/\j<k.T.length/\j<1000) (ba { k with T:=k.T.eraseIdx j.toNat })|_=>bc else bc
def onT(k:Ck)(n:bF)(q:bU->Bool)(s:d9):Bool:=(jcm s).any λe=>(qm e).any λz=>z.2.2.1.isEmpty&&decide (z.2.1.length=1)&&((kL z.1).any λy=>decide (y.2.1=n)&&(y.2.2.endLine == z.2.2.2.line)&&qZ y.1&&(kL y.1).any λw=>decide (w.2.1=("table":bF))&&qZ w.1&&(jo w.1).any λx=>k.loc 0 x)&&j6 (z.2.1.getD 0 e)&&q (z.2.1.getD 0 e)
def stF(k:Ck)(n:bF)(q:bU->Bool)(s:d9):Bool:=(yl s).any λz=>(uW z.1).any λt=>(kL t).any λy=>decide (y.2.1=n)&&j6 z.2 && !qO z.2&&((jo y.1).any λx=>k.loc 0 x)&&q z.2
def jaM(dn:DN)(k:Ck):Mu->d9->Bool
 |.sg x,s=>stF k "digits" (jU dn k bh x) s
 |.st x,s=>stF k "table" (jU dn k bh x) s
 |.app i,s=>onT k "append" (λe=>(jo e).any λx=>k.loc i x) s
 |.pop x,s=>onT k "pop" (jU dn k bh x) s
theorem jfw{s:d9}(h:stF k n q s=bh):∃x np ap v pos,s=.Assign [.Attribute (.Name x np) n ap] v pos/\j6 v=bh/\qO v=bj/\k.loc 0 x=bh/\q v=true:=by
 exists Z.anAsg,h,ts,v,pos
 exists Z.anSole,h,t
 exists Z.anAttr,h,o,m,ap
 exists Z.an5,1,h,e_,h2,h3,h4,h5;subst e_
 exists Z.anName,h4,x,np
 exact⟨x,np,ap,v,pos,rfl,h2,h3,h4,h5⟩
theorem jfn{s:d9}(h:onT k n q s=bh):∃x np tp ap y cp pos,s=.Expr (.Call (.Attribute (.Attribute (.Name x np) "table" tp) n ap) [y] [] cp) pos/\(ap.endLine == cp.line)=bh/\qZ (.Attribute (.Name x np) "table" tp)=bh/\qZ (.Name x np)=bh/\k.loc 0 x=bh/\j6 y=bh/\q y=true:=by
 exists Z.DL.anEx,h,e,pos
 exists Z.anCall,h,fe,xs,ks,cp
 exists Z.an5,2,h,e_,hl,hat,hp,hq;subst e_
 obtain⟨y,rfl⟩:=jz hl
 exists Z.anAttr,hat,o,m,ap
 exists Z.an4,0,hat,e_,h2,h3,hat;subst e_
 exists Z.anAttr,hat,o2,m2,tp
 exists Z.an3,0,hat,e_,h4,hat;subst e_
 exists Z.anName,hat,x,np
 exact⟨x,np,tp,ap,y,cp,pos,rfl,h2,h3,h4,hat,hp,hq⟩
theorem QZ{f:bF}{v:V}:∀ {fs:List (bF×V)} {u:V},fs.lookup f=ba u->(xI f v fs).length=fs.length
 |[],u,h=>by cases h
 |(n,x)::r,u,h=>by
  unfold xI;by_cases e:n=f
  ·rw[if_pos e];rfl
  ·rw[if_neg e,b6,b6];rw[dW,show (f == n)=bj from by simpa using λz=>e z.symm]at h;rw[QZ h]
theorem vP{C:Addr}{fs:List (bF×V)}(h:H a=ba (.ins C dx fs))(O:List Addr):qL (minus H O) (minus (upd H a o) O):=λb u hb hd=>by
 have hb':=jc _ _ b u hb
 have ne:b≠a:=λz=>by rw[z,h]at hb';cases hb';cases hd
 have nO:b ∉ O:=λz=>by unfold minus at hb;rw[if_pos z]at hb;cases hb
 rw[jw nO,je ne];exact hb'
theorem zP:qL (minus H [t]) (minus (upd H t o) [t]):=λb u hb hd=>by
 have nO:b ∉ [t]:=λz=>by unfold minus at hb;rw[if_pos z]at hb;cases hb
 rw[jw nO]at hb ⊢;rw[je (by simpa using nO)];exact hb
theorem jbg{C:Addr}{fs:List (bF×V)}(h:H a=ba (.ins C dx fs))(O:List Addr):kN a (minus H O) (minus (upd H a o) O):=⟨vP h O,λb u n hb=>by
 unfold minus at hb ⊢;split at hb
 ·cases hb
 ·next q=>rw[if_neg q,je n];exact hb⟩
theorem jbq:kN a (minus H [t]) (minus (upd H t o) [t]):=⟨zP,λb u _ hb=>by
 unfold minus at hb ⊢;split at hb
 ·cases hb
 ·next q=>rw[if_neg q,je (λz=>q (by rw[z];exact dr.mpr rfl))];exact hb⟩
theorem Iss.erase{K:Frag}{S:Hp}:∀ {ds:List D} {vs:List V} (n:Nat),Iss K S ds vs->Iss K S (ds.eraseIdx n) (vs.eraseIdx n)
 |[],vs,n,h=>by unfold Iss at h;subst h;simp[Iss]
 |d::ds,vs,0,h=>by unfold Iss at h;obtain⟨v,r,rfl,_,h⟩:=h;exact h
 |d::ds,vs,n+1,h=>by
  unfold Iss at h;obtain⟨v,r,rfl,h1,h2⟩:=h;show Iss K S (d::ds.eraseIdx n) (v::r.eraseIdx n);unfold Iss;exact⟨v,_,rfl,h1,Iss.erase n h2⟩
theorem j7.put{kd:Dk}{fs:List (bF×V)}{v:V}{kd':Dk}{t':Addr}(hd:j7 K Cd H a t kd)(h1:H a=ba (.ins Cd dx fs))(hl:∃u,fs.lookup n=ba u)
 (l1:(if ("width":bF)=n then ba v else fs.lookup ("width":bF))=ba (.int kd'.w)) (l2:(if ("digits":bF)=n then ba v else fs.lookup ("digits":bF))=ba (.int kd'.g)) (l3:(if ("table":bF)=n then ba v else fs.lookup ("table":bF))=ba (.ref t'))
 (tab:if kd'.m=bh then ∃vs,H t'=ba (.lst vs)/\Iss K (minus H [t']) kd'.T vs else Is K H (.lst kd'.T) (.ref t')):j7 K Cd (upd H a (.ins Cd dx (xI n v fs))) a t' kd':=by
 obtain⟨u,hu⟩:=hl;obtain⟨dx',fs',h1',_,_,_,h5,_⟩:=hd;rw[h1]at h1';cases h1';refine⟨dx,xI n v fs,jh ..,by rw[qG];exact l1,by rw[qG];exact l2,by rw[qG];exact l3,by rw[QZ hu];exact h5,?_⟩;split at tab
 ·next hm =>
  rw[if_pos hm];obtain⟨vs,g1,g2⟩:=tab;exact⟨vs,by rw[je (YW g1 h1 λz=>nomatch z)];exact g1,Iss.imp (vP h1 _) _ g2⟩
 ·next hm =>
  rw[if_neg hm];have:=vP h1 [] (o:=.ins Cd dx (xI n v fs));rw[m0,m0]at this;exact Is.imp this _ tab
theorem sMu(ok:OkD X k C g dn Cd H₀ ex)(of:OkF X H₀ ex)(hdk:dn.dk=bh)(m:Mu)(st:d9)(h:jaM dn k m st=bh) :
 PS X st (λD τ H=>∃σ kd a t kd',RD X.K Cd dn.dk (oT kd t) H σ τ kd a t/\Ja σ/\mu g kd σ m=ba kd'/\∀H' t',kN a (minus H (oT kd t)) (minus H' (oT kd' t'))->j7 X.K Cd H' a t' kd'->D.nx τ H'):=by
 cases m with
 |sg x =>
  obtain⟨n,np,ap,v,pos,rfl,h2,h3,h4,h5⟩:=jfw h;obtain⟨a1,a2,a3,a4⟩:=ok.ok.vis h4;refine PS.imp (λD τ H w=>?_) (vX (jY (X:=X) a1 (jX a2) a3 a4) (sD ok bh (λ_=>of) x v h5).1 (kz h2 h3 _ _ _));obtain⟨σ,kd,a,t,kd',R,as,hm,w⟩:=w;obtain⟨r1,r2⟩:=R.2 hdk;refine⟨σ,[],kd,a,t,R.weak as,.inl rfl,?_⟩;unfold mu at hm
  try dsimp only at hm
  split at hm
  ·next i e =>
   cases hm;rw[e];intro v H1 s1 i1;cases jk i1;have r2:=r2.mono s1;obtain⟨dx,fs,g1,g2,g3,g4,g5,g6⟩:=id r2;refine⟨.ref a,r1,a,Cd,dx,fs,rfl,g1,ok.dc.cl,ok.dc.na .g,by lia,w _ t ?_ ?_⟩
   ·exact(kN.of (jb s1)).trans (jbg g1 _)
   ·exact r2.put g1 ⟨_,g3⟩ (by rw[if_neg (by decide)];exact g2) (by rw[if_pos rfl]) (by rw[if_neg (by decide)];exact g4) g6
  ·cases hm
 |st x =>
  obtain⟨n,np,ap,v,pos,rfl,h2,h3,h4,h5⟩:=jfw h;obtain⟨a1,a2,a3,a4⟩:=ok.ok.vis h4;refine PS.imp (λD τ H w=>?_) (vX (jY (X:=X) a1 (jX a2) a3 a4) (sD ok bh (λ_=>of) x v h5).1 (kz h2 h3 _ _ _));obtain⟨σ,kd,a,t,kd',R,as,hm,w⟩:=w;obtain⟨r1,r2⟩:=R.2 hdk;refine⟨σ,[],kd,a,t,R.weak as,.inl rfl,?_⟩;unfold mu at hm
  try dsimp only at hm
  split at hm
  ·next xs e =>
   cases hm;rw[e];intro v H1 s1 i1;rw[m0]at i1;obtain⟨t',vs,rfl,q1,q2⟩:=jA i1;have r2:=r2.mono s1;obtain⟨dx,fs,g1,g2,g3,g4,g5,g6⟩:=id r2;refine⟨.ref a,r1,a,Cd,dx,fs,rfl,g1,ok.dc.cl,ok.dc.na .t,by lia,w _ t' ?_ ?_⟩
   ·exact((kN.of (jb s1)).trans (kN.of (jM (O':=oT { kd with m:=bj,T:=xs } t') λ_ z=>nomatch z))).trans (jbg g1 _)
   ·exact r2.put g1 ⟨_,g4⟩ (by rw[if_neg (by decide)];exact g2) (by rw[if_neg (by decide)];exact g3) (by rw[if_pos rfl]) (by show if bj=bh then _ else _;rw[if_neg df];exact i1)
  ·cases hm
 |app i =>
  obtain⟨n,np,tp,ap,y,cp,pos,rfl,h2,h3,h4,h5,h6,h7⟩:=jfn (show onT k "append" (λe=>(jo e).any λx=>k.loc i x) st=bh from h)
  exists Z.anName,h7,x,xp
  obtain⟨a1,a2,a3,a4⟩:=ok.ok.vis h5;obtain⟨b1,b2,b3,b4⟩:=ok.ok.vis h7;refine PS.imp (λD τ H w=>?_) (xB (zR ma pM PySem.F.type_list_append ud (Yf (jY (X:=X) a1 (jX a2) a3 a4) (kI h4)) (jj (jY (X:=X) b1 (jX b2) b3 b4) jB) (kI h3) rfl h2 rfl rfl) rfl);obtain⟨σ,kd,a,t,kd',R,as,hm,w⟩:=w;obtain⟨r1,r2⟩:=R.2 hdk;unfold mu at hm
  try dsimp only at hm
  split at hm
  ·next hmm =>
   split at hm
   ·next d e =>
    replace hm:=jZ hm;obtain⟨hl,hm⟩:=hm;cases hm;obtain⟨dx,fs,g1,g2,g3,g4,g5,g6⟩:=id r2;rw[if_pos hmm]at g6;obtain⟨vs,g6,g7⟩:=g6;obtain⟨v,e1,e2⟩:=R.1.sh i d e
    have eo:oT kd t=[t]:=by unfold oT;rw[if_pos hmm]
    rw[eo]at e2 w
    have ne:a≠t:=YW g1 g6 λz=>nomatch z
    refine⟨.ref a,r1,a,Cd,dx,fs,.ref t,rfl,g1,ok.dc.cl,ok.dc.na .t,g4,.inl ⟨rfl,vs,SqL.of g6⟩,v,e1,t,vs,v,rfl,rfl,g6,?_,w _ t ?_ ?_⟩
    ·rw[g7.length,dI];exact hl
    ·rw[show oT { kd with T:=kd.T ++ [d] } t=[t] from eo];exact jbq
    ·refine⟨dx,fs,by rw[je ne];exact g1,g2,g3,g4,g5,?_⟩;rw[if_pos (show kd.m=bh from hmm)];exact⟨_,jh ..,(Iss.imp zP _ g7).snoc (Is.imp zP _ e2)⟩
   ·cases hm
  ·cases hm
 |pop x =>
  obtain⟨n,np,tp,ap,y,cp,pos,rfl,h2,h3,h4,h5,h6,h7⟩:=jfn h;obtain⟨a1,a2,a3,a4⟩:=ok.ok.vis h5;refine PS.imp (λD τ H w=>?_) (xB (zR ma PySem.F.slot_list_pop PySem.F.type_list_pop jbc (Yf (jY (X:=X) a1 (jX a2) a3 a4) (kI h4)) (jj (sD ok bh (λ_=>of) x y h7).1 jB (jE h6 _ _)) (kI h3) (by rw[jE h6];rfl) h2 (jE h6 _ _) rfl) rfl);obtain⟨σ,kd,a,t,kd',R,as,hm,w⟩:=w;obtain⟨r1,r2⟩:=R.2 hdk;unfold mu at hm
  try dsimp only at hm
  split at hm
  ·next hmm =>
   split at hm
   ·next j e =>
    replace hm:=jZ hm;obtain⟨⟨hj,hl,hk⟩,hm⟩:=hm;cases hm;obtain⟨dx,fs,g1,g2,g3,g4,g5,g6⟩:=id r2;rw[if_pos hmm]at g6;obtain⟨vs,g6,g7⟩:=g6
    have eo:oT kd t=[t]:=by unfold oT;rw[if_pos hmm]
    rw[eo]at w;refine⟨.ref a,r1,a,Cd,dx,fs,.ref t,rfl,g1,ok.dc.cl,ok.dc.na .t,g4,.inl ⟨rfl,vs,SqL.of g6⟩,σ,[],kd,a,t,R.weak as,.inl rfl,?_⟩;rw[e];intro v H1 s1 i1;cases jk i1;have q6:=s1 _ _ g6;have q1:=s1 _ _ g1
    have ne:a≠t:=YW g1 g6 λz=>nomatch z
    have hvl:vs.length=kd.T.length:=g7.length
    have hlt:j.toNat<vs.length:=by lia
    refine⟨t,vs,j,j.toNat,vs[j.toNat],rfl,rfl,q6,by lia,by lia,?_,bO hlt,w _ t ?_ ?_⟩
    ·unfold jiK;dsimp only;rw[if_neg (Int.not_lt.mpr hj),if_pos (by rw[bz,decide_eq_true_eq,decide_eq_true_eq];exact⟨hj,by rw[hvl];exact hl⟩)]
    ·rw[show oT { kd with T:=kd.T.eraseIdx j.toNat } t=[t] from eo];exact(kN.of (jb s1)).trans jbq
    ·refine⟨dx,fs,by rw[je ne];exact q1,g2,g3,g4,g5,?_⟩;rw[if_pos (show kd.m=bh from hmm)];exact⟨_,jh ..,Iss.erase _ (Iss.imp ((qL.of (jb s1)).trans zP) _ g7)⟩
   ·cases hm
  ·cases hm
end
theorem jb2{σ':Sto}{s:S}(h:stp g k σ s=ba (.nx σ')):σ'.length=σ.length:=by
 have oR_:∀ {r:Option R} {f:D->Option Ou},oR r f=ba (.nx σ')->∃d,f d=ba (.nx σ'):=by
  intro r f h;rcases r with _|(d|y)
  ·cases h
  ·exact⟨d,h⟩
  ·cases h
 cases s with
 |ex x=>obtain⟨d,h⟩:=oR_ h;cases h;rfl
 |set i x=>obtain⟨d,h⟩:=oR_ h;cases h;exact zz _ _ _
 |rif c n =>
  obtain⟨d,h⟩:=oR_ h;replace h:=bind_some h;obtain⟨b,_,h⟩:=h
  cases b<;>cases h
  rfl
 |ret x=>obtain⟨d,h⟩:=oR_ h;cases h
 |rtif c x =>
  obtain⟨d,h⟩:=oR_ h;replace h:=bind_some h;obtain⟨b,_,h⟩:=h;cases b
  ·cases h;rfl
  ·obtain⟨d,h⟩:=oR_ h;cases h
theorem Y4{g:G}{k:Dk}:∀ {ss:List S} {σ σ':Sto},pre g k ss σ=ba (.nx σ')->σ'.length=σ.length
 |[],σ,σ',h=>by cases h;rfl
 |s::r,σ,σ',h=>by
  unfold pre at h
  rcases e:stp g k σ s with _|(σ1|d|y)<;>rw[e]at h
  ·cases h
  ·rw[Y4 h,jb2 e]
  ·cases h
  ·cases h
def rM(g:G)(ss:List S)(m:Mu)(x:X)(n:Nat)(k:Dk)(ds:List D):Option (R×Dk):=match pre g k ss (stD n bh ds) with
 |some (.nx σ)=>(mu g k σ m).bind λk'=>match rn g k' (bE n bc) x with
  |some (.ok d)=>ba (.ok d,k')
  |_=>bc
 |some (.ex y)=>ba (.ex y,k)
 |_=>bc
def Ye(dn:DN)(k:Ck)(ss:List S)(m:Mu)(x:X)(sts:List d9):Bool:=yg dn k ss (sts.take ss.length)&&jcU ss&&decide ((sts.drop ss.length).length=2)&&jaM dn k m ((sts.drop ss.length).getD 0 (.Pass ⟨0,0,0,0⟩))&&(xM ((sts.drop ss.length).getD 1 (.Pass ⟨0,0,0,0⟩))).any λv=>v.any λe=>jU dn k bh x e
section
variable {P:dg} {w:World} {K:Frag} {mg:bF->Option bq} {base:dR} {C:Cfg} {cns:List bF} {i:FnI} {L:List FnI} {lv:Nat} {f:Addr} {fd:gV} {g:G} {dn:DN} {Cd:Addr}
theorem jdT{m:Mu}(S:Std P w K mg base C cns L lv g dn Cd)(F:FnAt K mg i f fd)(hsc:jV i=bh)(hz:ExcOk K mg i.cls i.al)(al:i.al=bj)(hN:2<=i.N.length)(hp:i.ps.length=2)(hdk:dn.dk=bh)(hc:Ye dn (i.ck L cns) ss m x (jm i.st)=bh) :
 FnOk P w K mg base (CXz P w mg) (lv+1) f fd i.ps (spM K Cd (rM g ss m x i.N.length)):=by
 refine zV S F hsc hz al (λvs H Q E h=>?_) λX H vs Q E okd okf okx hX _ _ h=>?_
 ·obtain⟨a,t,k,d,u,rfl,_⟩:=h;exact hp.symm
 obtain⟨rfl,rfl,rfl,rfl,rfl,_⟩:=hX;obtain⟨a,t,k,d,u,rfl,hd,is,w⟩:=h;unfold Ye at hc
 exists Z.an5,0,hc,h1,h2,h3,h4,h5
 obtain⟨s1,s2,e⟩:=qH h3;rw[e]at h4 h5;replace h4:jaM dn (i.ck L cns) m s1=true:=h4;replace h5:=jf (show (xM s2).any _=bh from h5);obtain⟨ov,hr,h5⟩:=h5;replace h5:=jf h5;obtain⟨ev,rfl,h5⟩:=h5;obtain⟨rp,rfl⟩:=yj hr
 have body:jm i.st=(jm i.st).take ss.length ++ [s1,.Return (ba ev) rp]:=by rw[<- e,jhu]
 rw[body]
 have iss:Iss X.K (minus H (oT k t)) [d] [u]:=by unfold Iss;exact⟨u,[],rfl,is,by unfold Iss;rfl⟩
 refine⟨_,jfx okd okf okx (jl (sMu okd okf hdk m s1 h4) (jl (qx (sD okd bh (λ_=>okf) x ev h5).1) jF)) ss _ h1 h2,stD i.N.length bh [d],k,a,t,?_,?_,?_⟩
 ·rw[hdk];exact vR (b:=bh) hN ⟨rfl,hd⟩ (X2 hd) iss
 ·intro j z g;unfold stD at g;rw[if_pos rfl]at g
  cases j with
  |zero=>cases g
  |succ j=>exact Jk _ _ _ _ g
 ·unfold rM at w;rcases hpr:pre g k ss (stD i.N.length bh [d]) with _|(σ|d'|y)
  ·rw[hpr]at w;exact w.elim
  ·rw[hpr]at w;intro τ' H1 q1 R as
   try dsimp only at w
   cases hm:mu g k σ m with
   |none=>rw[hm]at w;exact w.elim
   |some k' =>
    rw[hm]at w;refine⟨σ,k,a,t,k',R,as,hm,λH2 t' q2 hd2=>?_⟩;have w:fm (match rn g k' (bE i.N.length bc) x with|some (.ok d)=>ba (.ok d,k')|_=>bc) (λs k'=>∀H' t',kN a (minus H (oT k t)) (minus H' (oT k' t'))->j7 X.K Cd H' a t' k'->b9 s=bh->Q (.str s) H') (exE X.K H E):=w;have r1:=(R.2 hdk).1
    have hl:τ'.length=i.N.length:=by
     rw[<- R.1.len,Y4 hpr];unfold stD jS;rw[if_pos rfl];simp;lia
    refine⟨bE i.N.length bc,[],k',a,t',⟨by rw[<- hl];exact(ui τ').toReps,λ_=>⟨r1,hd2⟩⟩,.inl rfl,?_⟩;rcases hrn:rn g k' (bE i.N.length bc) x with _|(z|y)
    ·rw[hrn]at w;exact w.elim
    ·rw[hrn]at w
     cases z<;>first|exact w.elim|skip
     next s =>
     intro v H3 q3 i3;obtain⟨rfl,ok⟩:=jL i3;exact w H3 t' (((kN.of (jb q1)).trans q2).trans (kN.of (jb q3))) (hd2.mono q3) ok
    ·rw[hrn]at w;exact w.elim
  ·rw[hpr]at w;exact w.elim
  ·rw[hpr]at w;exact⟨w,jd.refl _⟩
end
def wtC(k:Ck)(w:bF)(s:d9):Bool:=(xM s).any λv=>v.any λe=>(qm e).any λz=>z.2.2.1.isEmpty&&decide (z.2.1.length=1)&&((kL z.1).any λy=>decide (y.2.1=("join":bF))&&(y.2.2.endLine == z.2.2.2.line)&&qZ y.1&&decide (ku y.1=ba (.str " "))) &&
 (Xj (z.2.1.getD 0 e)).any λb=>decide (b.2.1=.Add)&&((Jf b.1).any λxs=>decide (xs.length=1)&&decide (ku (xs.getD 0 e)=ba (.str w)))&&(xT b.2.2).any λc=>compCk k c.2.1 c.2.2.2 && !Jg c.2.2.1&&((jo c.2.2.1).any λx=>k.loc 0 x) &&
  (jI c.1).any λf=>decide (f.1=("str":bF))&&(k.block c.2.1 c.2.2.2).gl "str" && decide (f.2.1.length=1)&&(jo (f.2.1.getD 0 e)).any λx=>(k.block c.2.1 c.2.2.2).loc k.N.length x
def wtS(w:bF)(ws:List Int):bF:=⟨(xu " " (w::ws.map λi=>((toString i:String):bF))).toArray⟩
variable{x:bF}{pos:Pos}{te:TE}
theorem U8{X:Cx}{scope:Scope}{cl:List (bF×Addr)}{px:Pos}{iter elt:bU}{wi:TI}(nd:X.N.Nodup)(hE:(dum X.N) ∉ X.N)(co:CompOk X x scope cl)(hi:PC X (.Name x px) iter wi)
 (he:∀s H fp C,PE (qP X s H fp x scope cl C) elt te) (hs:∀v,gQ iter X.env v=pure v):PE X (.ListComp elt [⟨.Name x px,iter,[],0⟩] scope pos) (Xr wi te):=by
 intro pins s σ H Q I h;rw[jhZ]
 refine xJ nd hE co hi (λ_ _ _ _ _ _=>False) (λ_ _ _ _=>qh) he hs I h (pass:=λ_ _ _ _ _ _ _ _ _ _ z=>z.elim) λD C H' s4 m I4 hn hC q=>?_
 obtain⟨g0,g1,g2,g3,g4,g5⟩:=hC;exact⟨m,hn,λh' sb=>⟨.ref D,H',I4.turned (t':=s4.toks) (λb o hb e=>(sb.2 b hb).trans e) g0 g1 g3 g4 g5,rfl,q⟩⟩
set_option maxHeartbeats 0 in
theorem jff{X:Cx}{k:Ck}{C:Cfg}{w:bF}{st:d9}(ok:Ok { X.nox with calm:=bh } k C)(hd:Hnd X)(h:wtC k w st=bh) :
 PS X st (λD τ H=>∃c ws,τ[0]?=ba (ba (.ref c))/\SqL X.K H c (ws.map V.int)/\ws.length<=1000/\(∀i∈ws,i.natAbs.log2<1920)/\(((w::ws.map λi=>((toString i:String):bF)).map (·.length)).sum+(w::ws.map λi=>((toString i:String):bF)).length*(" ":bF).length<=lim/\b9 w=bh)/\∀H',jd H H'->D.rt (.str (wtS w ws)) H'):=by
 replace h:=jf h;obtain⟨ov,ho,h⟩:=h;replace h:=jf h;obtain⟨v,hv,h⟩:=h;subst hv;obtain⟨rp,rfl⟩:=yj ho
 exists Z.anCall,h,fe,xs,ks,cp
 exists Z.an4,2,h,e_,hl,hat,h;subst e_
 obtain⟨y,rfl⟩:=jz hl
 exists Z.anAttr,hat,o,m,ap
 exists Z.an4,0,hat,e_,h2,h3,h4;subst e_
 obtain⟨j1,p1,rfl⟩:=xg h4;replace h:=jf h;obtain⟨⟨bl,op,br⟩,hb,h⟩:=h;obtain⟨bp,rfl⟩:=X8 (show Xj y=_ from hb)
 exists Z.an3,0,h,e_,hll,h;subst e_
 exists Z.anLst,hll,es,lp
 replace hll:=Z.tb_ 0 hll;obtain⟨z,rfl⟩:=jz hll.1;obtain⟨j2,p2,rfl⟩:=xg (show ku z=_ from hll.2)
 exists Z.anComp,h,elt,x,iter,sc,px,pc
 exists Z.an4,1,h,h5,h6,h7,h
 exists Z.anName,h7,nm,ip
 exists Z.anCallN,h,fx,ys,cq,q
 exists Z.an4,0,h,e_,h8,h9,h10;subst e_
 obtain⟨u,rfl⟩:=jz h9;replace h10:=jf h10;obtain⟨vn,hvn,h10⟩:=h10;obtain⟨vp,rfl⟩:=jK (show jo u=_ from hvn);obtain⟨a1,a2,a3,a4⟩:=ok.vis h7;intro pins s τ H De I w';obtain⟨cl,co'⟩:=ok.comp' h5 I.ok.has
 have co:CompOk X x sc cl:=⟨co'.clos,co'.kind,co'.cell,co'.names,co'.loc,co'.only,co'.vis,co'.sub,co'.ne,co'.noE⟩
 have okb:∀s H fp Ca,Ok { qP X s H fp x sc cl Ca with calm:=bh } (k.block x sc) C:=λs H fp Ca=>by
  have:=ok.block h5 co' s H fp Ca;exact this
 have pel:∀s H fp Ca,PE (qP X s H fp x sc cl Ca) (.Call (.Name "str" q) [.Name vn vp] [] cq) _:=λs H fp' Ca=>by
  obtain⟨b1,b2,b3,b4⟩:=(okb s H fp' Ca).vis h10;obtain⟨g1,g2,g3⟩:=(okb s H fp' Ca).gl h8;exact k8 (X:=qP X s H fp' x sc cl Ca) (T:="str") zY g1 ((okb s H fp' Ca).blt _ (by decide)) nX (jj (jY (i:=k.N.length) b1 (jX b2) b3 b4) jB) g3 g2 rfl rfl
 have pcm:=U8 (pos:=pc) (px:=px) (show X.N.Nodup from ok.nd) (show dum X.N ∉ X.N from ok.comp_nE h5) co (pcH hd (tg:=.Name x px) (jY (pos:=ip) (X:=X) a1 (jX a2) a3 a4)) pel (kH h6 _);obtain⟨id,m1,m2,m3⟩:=jbe (X:=X) .jn;refine qx (zR sC m1 m2 m3 (xH (x:=" ") (j:=j1) (pos:=p1)) (jj (jdf (Vd (o:=.add) rfl) (xb (jj (xH (x:=w) (j:=j2) (pos:=p2)) jB)) pcm) jB) rfl rfl h2 rfl rfl) pins s τ H De I ?_;obtain⟨c,ws,e1,hq,hl,hw,⟨hs,hok⟩,rt⟩:=w';refine⟨rfl,?_⟩;refine⟨by show 1<=sizeLine;decide,λp hp=>?_⟩;have s1:=jt hp (.lst [V.str w]);have hq1:=s1.seq hq;refine⟨.ref c,e1,c,rfl,⟨_,hq1⟩,?_⟩;have hlen:ws.length<=sizeLine:=dU hl (by decide);refine⟨λi m ys H2=>m=ws.length-i/\i<=ws.length/\jd (upd H p (.lst [V.str w])) H2/\ys=(ws.take i).map λi=>V.str ((toString i:String):bF),⟨_,rfl,gf _,jd.refl _,rfl⟩,?_⟩;rintro i m ys H2 ⟨rfl,hi,sm,rfl⟩;have hq2:=sm.seq hq1;by_cases hlt:i<ws.length
 ·refine .inr ⟨⟨_,.int ws[i],hq2,by rw[dQ,bO hlt];rfl⟩,by rw[bW,pz];lia,λxv H' hy=>?_⟩;obtain⟨rfl,hy⟩:=hy;have hx:=hy _ hq2;rw[dQ,bO hlt]at hx;cases hx
  have hτ:τ.length=k.N.length:=by have:=I.len;rw[this];exact congrArg jke (show X.N=k.N from ok.N)
  refine⟨.int ws[i],by rw[<- hτ,gI (bN _),jj3];rfl,ws[i],rfl,hw _ (sQ hlt),ws.length-(i+1),by lia,rfl,hlt,sm,?_⟩;rw[List.take_succ_eq_append_getElem hlt,nU];rfl
 ·have ei:ws.take i=ws:=List.take_of_length_le (by lia);refine .inl ⟨⟨_,hq2,by rw[bW];lia⟩,by rw[bW,ei];exact hlen,λp2 hp2=>?_⟩;rw[ei];have s2:=jt hp2 (.lst (ws.map λi=>V.str ((toString i:String):bF)));refine⟨[],.lst [.str w],.lst (ws.map λi=>D.str ((toString i:String):bF)),(λ_ z=>nomatch z),?_,?_,?_⟩
  ·rw[m0];exact ke (SqL.of (s2 _ _ (sm _ _ (jh ..)))) (by unfold Iss;exact⟨_,[],rfl,kq hok,by unfold Iss;rfl⟩)
  ·rw[m0]
   exact ke (SqL.of (jh ..)) (by
    have:=Kq (K:=X.K) (S:=upd H2 p2 (.lst (ws.map λi=>V.str ((toString i:String):bF)))) (l:=ws.map λi=>((toString i:String):bF)) (λz hz=>by obtain⟨n,_,rfl⟩:=gD.mp hz;exact uE _)
    simpa only[jhf,Function.comp_def]using this)
  ·refine⟨?_,λv H3 s3 i3=>?_⟩
   ·rw[bW];exact dU (Nat.add_le_add_left hl 1) (by decide)
   ·obtain⟨c2,vs,rfl,q1,q2⟩:=jA i3
    have:([D.str w]++ws.map λi=>D.str ((toString i:String):bF))=(w::ws.map λi=>((toString i:String):bF)).map D.str:=by rw[b5,jhf];rfl
    rw[this]at q2;cases qz q2;rw[m0]at q1;exact⟨_,c2,_,rfl,rfl,q1,hs,rt H3 (((s1.trans sm).trans s2).trans s3)⟩
section
variable {CX:CXT} {P:dg} {w:World} {K:Frag} {mg:bF->Option bq} {base:dR} {i:FnI} {f:Addr} {fd:gV} {A:gz} {outer:List tR} {s:Shared} {H:Hp} {us:List bq} {vs:List V} {Q:VK} {E:XK} {k:Nat}
theorem jd1(F:FnAt K mg i f fd)(hsc:jV i=bh)(hr:Room (k+1) A)(e0:Env0 P w K mg base A outer s H)(r:jv vs us)(hl:vs.length=i.ps.length)
 (body:∀cdv,Room k (A.deeper (envOfC i.x (jg i.st) s.heap.objs.size f cdv))->∃t,PSs (qN CX P w K mg base i.N i.x (jg i.st) f cdv A outer s H E) (jm i.st) t/\t { nx:=λ_ H'=>Q .non H',rt:=Q } (L2.start i.N vs) H) :
 ph (model P w) A (.call (.ref f) ⟨us,[]⟩) (CR CX outer P w H s Q E) s:=by
 have S:=xh hsc;have hb:=kP.all (K:=K) F.bd s us (e0.mod.kin.keeps λb o e=>(e0.bs b o e).1) (by rw[dv,<- r.length];exact hl);rw[dv]at hb;obtain⟨oc,od,kV,doc,pm,an,cdv,ct,osl,rfl,lk,hcd⟩:=F.fn.ex
 have KX:K.In s.heap:=e0.mod.kin.keeps λb o e=>(e0.bs b o e).1
 have lim:s.heap.NoLimit:=e0.mod.nolimit.1.keeps λb o e=>(e0.bs b o e).1
 refine jhm hr.depth (KX _ _ lk) rfl S.co S.gen rfl (codeRec_of KX hcd) (hb _ _ _ _ ?_)
 refine we S.kind (λ⟨n,v⟩ hy=>?_) λenv he s1 x=>?_
 ·rcases S.par n (tM hy).1 with q|q
  ·exact .inl q
  ·exact .inr ⟨q,cellsFrom_some _ _ _ (.inl q)⟩
 subst he;refine⟨lim.keeps x.toInCall.keep,codeAny_func ?_⟩;obtain⟨t,ht,hq⟩:=body cdv (hr.deeper _);have I:Inv (qN CX P w K mg base i.N i.x (jg i.st) f cdv A outer s H E) [] (L2.start i.N vs) H s1:=J2 S (λz=>by simpa using z) e0 hl r x
 refine dE (ht [] s1 (L2.start i.N vs) H _ I hq) (λfl s' hs=>?_) λe s' hs=>hs
 cases fl with
 |ret u =>
  obtain⟨v,σ',H',J,rv,q⟩:=hs
  exact⟨v,H',J.os,J.bare,J.base,J.hok,rv,q⟩
 |next =>
  obtain⟨σ',H',J,q⟩:=hs
  exact⟨V.non,H',J.os,J.bare,J.base,J.hok,rfl,q⟩
 |brk =>
  obtain⟨_,_,_,q⟩:=hs
  exact gu q
 |cont =>
  obtain⟨_,_,_,q⟩:=hs;exact gu q
end
variable{p:Pos}
theorem jfB{Y:Cx}{i:FnI}{L:List FnI}{cns:List bF}{C:Cfg}{f ea:Addr}{fd:gV}{w:bF}{t:TA}{st:d9}(F:FnAt Y.K Y.mg i f fd)(hsc:jV i=bh)(hp:i.ps.length=1)(hN:1<=i.N.length)(hbd:jm i.st=[st])(hwt:wtC (i.ck [] []) w st=bh)
 (hb:∀x∈blts,Y.mg x=bc) (gl:Gl Y i.x) (hdb:(i.x == ("__debug__":bF))=bj) (rm:Room 1 Y.A) (hh:Y.A.handled=ba (.ref ea)) (ha:PA Y [e] t) (he:bY [e] Y.env=(bj,eval e Y.env)::bY [] Y.env) :
 PE Y (.Call (.Name i.x p) [e] [] pos) (λσ H Q=>t σ H λvs H1=>∃c ws oe u wz,vs=[.ref c]/\(H1 ea=ba (.frz oe u)/\oe.data=.fields wz/\wz[2]?=ba .none)/\SqL Y.K H1 c (ws.map V.int)/\(ws.length<=1000/\∀i∈ws,i.natAbs.log2<1920) /\
  (((w::ws.map λi=>((toString i:String):bF)).map (·.length)).sum+(w::ws.map λi=>((toString i:String):bF)).length*(" ":bF).length<=lim/\b9 w=bh)/\∀H',jd H1 H'->Q (.str (wtS w ws)) H'):=by
 intro pins s σ H Q I h;refine gY (qu I gl F.mg ?_ hdb);refine callWith_K (h₀:=Y.base) I.ok.mod.kin F.fn.kp (thn (ha pos pins s σ H _ I h) λus s1 ⟨vs,H1,I1,r,q⟩=>⟨I1.kIn,?_⟩) he rfl;obtain⟨c,ws,oe,u,wz,rfl,⟨x1,x2,x3⟩,hq,⟨hl,hw⟩,hs,rt⟩:=q;have S:=xh hsc;refine pT (pq (jd1 (CX:=CXz Y.prog Y.w Y.mg) (E:=λ_ _ _=>False) (Q:=Q) (k:=0) F hsc rm I1.env0 r (by rw[hp];rfl) λcdv hr=>?_) λr s' hq=>?_)
 ·rw[hbd]
  have ok:Ok { (qN (CXz Y.prog Y.w Y.mg) Y.prog Y.w Y.K Y.mg Y.base i.N i.x (jg i.st) f cdv Y.A Y.stack s1 H1 λ_ _ _=>False).nox with calm:=bh } (i.ck [] []) ⟨λ_=>⟨λ_=>False,λ_ _=>False,λ_ _=>False⟩,λ_=>.non,λ_=>bj,λ_=>bj,λ_=>False⟩:=by
   have hun:=hr.un;refine⟨rfl,S.nd,rfl,S.kind,rfl,rfl,(show (Y.A.deeper (envOfC i.x (jg i.st) s1.heap.objs.size f cdv)).units+100<cLine by lia),(λn x m e=>by cases e),(λn x e=>by cases e),hb,λ_ z=>z⟩
  refine⟨_,jl (jff ok ⟨ea,oe,u,wz,hh,x1,x2,x3⟩ hwt) jF,c,ws,?_,hq,hl,hw,hs,rt⟩;unfold L2.start;rfl
 ·cases r with
  |error e=>obtain⟨_,_,_,_,z,_⟩:=hq;exact z.elim
  |ok fl =>
   cases fl with
   |ret u=>exact I1.after hq
   |next=>exact gu hq
   |brk=>exact gu hq
   |cont=>exact gu hq
section
variable {X:Cx} {CX:CXT} {x:bF} {p pos:Pos} {e:bU} {es:List bU} {t:TA} {i:Nat}
theorem VD(hN:X.N[i]?=ba x)(hv:Vis X.env.scope x)(hd:(x == ("__debug__":bF))=bj)(hcd:(x == ("__classdict__":bF))=bj)(ha:PA X (e::es) t)(he:bY (e::es) X.env=(bj,eval e X.env)::bY es X.env)(hpl:(backTo pos (bY es X.env)).any (·.1)=bj) :
 PE X (.Call (.Name x p) (e::es) [] pos) (λσ H Q=>∃f fd ps sp E k,σ[i]?=ba (ba (.ref f))/\FnOk X.prog X.w X.K X.mg X.base CX k f fd ps sp/\Room k X.A/\keepIn X.K (.ref f)=bh/\kP X.K fd ps []/\xm CX X E/\t σ H λvs H1=>sp vs H1 Q E):=by
 intro pins s σ H Q I h;obtain⟨f,fd,ps,sp,E,k,e1,F,hr,hk,hb,hx,h⟩:=h;refine gY (thn (jY hN hv hd hcd pins s σ H (λv H'=>v=.ref f/\H'=H) I ⟨_,e1,rfl,rfl⟩) λu s1 ⟨v,H1,I1,r1,e2,e3⟩=>?_);subst e2 e3;obtain rfl:u=dG f:=r1;refine callWith_K (h₀:=X.base) I.ok.mod.kin hk (thn (ha pos pins s1 σ H1 _ I1 h) λus s2 ⟨vs,H2,I2,r,q⟩=>⟨I2.kIn,?_⟩) he hpl;exact X5 (dvs:=[]) (ds:=[]) F hr hb .nil hx I2 r (by rw[dv];exact q)
end
variable{k:Ck}
theorem Q8{X:Cx}{C:Cfg}(ok:Ok X.nox k C)(h:k.loc i x=bh):PE X (.Name x p) (Z5 i):=by
 obtain⟨a1,a2,a3,a4⟩:=ok.vis h;exact jY (X:=X) a1 (jX a2) a3 a4
theorem jcp{X:Cx}{C:Cfg}(ok:OkS X.nox k C)(h:k.loc i x=bh)(he:PE X e te)(hs:mm e (ba (.Name x p)) pos.line X.env=pure bj):PS X (.Assign [.Name x p] e pos) (Xb te (qQ i)):=by
 obtain⟨a1,a2,a3,a4⟩:=ok.toOk.vis h;exact x9 (X:=X) ok.nd a1 a2 he hs (.inl (ok.fn _))
def PF(P:dg)(w:World)(K:Frag)(mg:bF->Option bq)(base:dR)(lv:Nat)(Cd:Addr)(fms:Nat->Dk->List D->Option (R×Dk))(v:bq)(d:D):Prop:=∀j:Int,d=.int j->∃fa fd ps,v=.ref fa/\FnOk P w K mg base (CXz P w mg) lv fa fd ps (spM K Cd (fms j.toNat))/\keepIn K (.ref fa)=bh/\kP K fd ps []
def Vm(th:Dk->List D->Option R)(dd:List (bF×D))(fms:Nat->Dk->List D->Option (R×Dk))(k:Dk)(ds:List D):Option (R×Dk):=match ds with
 |[.lst (.str w::r)]=>match th k [.lst (.str w::r)] with
  |some (.ok d)=>match getD? dd w with
   |some (.int j)=>fms j.toNat k [d]
   |_=>bc
  |some (.ex y)=>ba (.ex y,k)
  |none=>bc
 |_=>bc
variable{q np0 np1 cp:Pos}{n0 n1:bF}
section
variable {P:dg} {w:World} {K:Frag} {mg:bF->Option bq} {base:dR} {C:Cfg} {cns:List bF} {i:FnI} {L:List FnI} {lv:Nat} {f:Addr} {fd:gV} {g:G} {dn:DN} {Cd:Addr}
theorem jcr{fms:Nat->Dk->List D->Option (R×Dk)}{fth:Nat}{dd:bF}{da:Addr}(S:Std P w K mg base C cns L lv g dn Cd)(hv:∀σ i d,ji σ i=ba (.sh d)->g.e (.var i) σ=ba d)(F:FnAt K mg i f fd)(hsc:jV i=bh)(hz:ExcOk K mg i.cls i.al)(al:i.al=bj)(hN:i.N.length=4)(hp:i.ps.length=2)(hdk:dn.dk=bh)
 (hm:mg dd=ba (.ref da)) (DK:DictK K w.params (PF P w K mg base lv Cd fms) da l)
 {s0:d9} {y fx:bF} {yp np sp p1 p2:Pos} {sl:bU} (hbd:jm i.st=[s0,.Assign [.Name y yp] (.Subscript (.Name dd np) sl sp) p1,.Return (ba (.Call (.Name fx q) [.Name n0 np0,.Name n1 np1] [] cp)) p2])
 (h1:xj dn (i.ck L cns) (.set 2 (.dsk bj fth [.pu (.var 1)])) s0=bh) (h5:zA sl=bj) (h6:(i.ck L cns).gl dd=bh) (h7:chkE (i.ck L cns) (.ix (.var 1) (.cst (.int 0))) sl=bh) (hlo:((i.ck L cns).loc 3 y&&(i.ck L cns).loc 0 n0&&(i.ck L cns).loc 2 n1&&(i.ck L cns).loc 3 fx)=bh) :
 FnOk P w K mg base (CXz P w mg) (lv+1) f fd i.ps (spM K Cd (Vm (g.da fth) l fms)):=by
 replace hlo:=Z.tb_ 3 hlo
 refine zV S F hsc hz al (λvs H Q E h=>?_) λX H vs Q E okd okf okx hX hr _ h=>?_
 ·obtain⟨a,t,k,d,u,rfl,_⟩:=h;exact hp.symm
 rw[hbd];obtain⟨rfl,rfl,rfl,rfl,rfl,_⟩:=hX;obtain⟨a,t,k,d,u,rfl,hd,is,w⟩:=h
 have iss:Iss X.K (minus H (oT k t)) [d] [u]:=by unfold Iss;exact⟨u,[],rfl,is,by unfold Iss;rfl⟩
 obtain⟨d1,d2,d3,d4⟩:=okd.ok.vis hlo.2;refine⟨_,jl (sT okd okf okx _ s0 h1) (jl (jcp okx.ok hlo.1.1.1 (YL (jfI DK) (u4 (v:=.ref da) (okd.ok.gl h6).1 hm rfl (okd.ok.gl h6).2) (sB okd.ok (.ix (.var 1) (.cst (.int 0))) sl h7).1.nox (u7 h5)) (kz rfl rfl _ _ _)) (jl (qx (VD (CX:=CXz X.prog X.w X.mg) d1 (jX d2) d3 d4 (jj (Q8 okd.ok hlo.1.1.2) (jj (Q8 okd.ok hlo.1.2) jB) rfl) rfl rfl)) jF)),stD i.N.length bh [d],oT k t,k,a,t,?_,.inr rfl,?_⟩
 ·rw[hdk];exact vR (b:=bh) (by rw[hN];show 2<=4;decide) ⟨rfl,hd⟩ (X2 hd) iss
 have e0:stD i.N.length bh [d]=[bc,ba (.sh d),bc,bc]:=by rw[hN];rfl
 rw[e0]
 have e1:rn g k [bc,ba (.sh d),bc,bc] (.dsk bj fth [.pu (.var 1)])=g.da fth k [d]:=by
  rw[rn,rns,rn,hv _ 1 d rfl,rns];rfl
 show fo (oR (rn g k [bc,ba (.sh d),bc,bc] (.dsk bj fth [.pu (.var 1)])) λd'=>ba (.nx (jC [bc,ba (.sh d),bc,bc] 2 (ba (.sh d'))))) _ _ _;rw[e1];unfold Vm at w
 cases d<;>first|exact w.elim|skip
 next ws =>
 cases ws with
 |nil=>exact w.elim
 |cons w0 r =>
  cases w0<;>first|exact w.elim|skip
  next wd =>
  try dsimp only at w
  rcases hth:g.da fth k [.lst (.str wd::r)]with _|(d'|y)
  ·rw[hth]at w;exact w.elim
  ·rw[hth]at w
   try dsimp only at w
   intro τ' H1 q1 R
   cases hg:getD? l wd with
   |none=>rw[hg]at w;exact w.elim
   |some dj =>
    rw[hg]at w
    cases dj<;>first|exact w.elim|skip
    next j =>
    try dsimp only at w
    refine⟨_,oT k t,R.1,?_⟩;show ∃d,atD (.str wd::r) 0=ba d/\_;refine⟨.str wd,rfl,λv2 H2 q2 i2=>?_⟩;obtain⟨rfl,_⟩:=jL i2;refine⟨wd,.int j,rfl,rfl,hg,λu0 hu=>?_⟩;obtain⟨fa,fd',ps,rfl,FF,hk,hb⟩:=hu j rfl;refine⟨.ref fa,rfl,?_⟩;obtain⟨r1,r2⟩:=(R.mono q2).2 hdk;obtain⟨v1,t1,t2⟩:=(R.mono q2).1.sh 2 d' rfl
    have hl3:3<τ'.length:=by rw[<- R.1.len];show 3<4;decide
    refine⟨fa,fd',ps,_,XE0 X.K [] H (exE X.K H E),lv,dM hl3,FF,hr,hk,hb,Y9 okd,?_⟩;refine⟨.ref a,by rw[bP (by decide)];exact r1,v1,by rw[bP (by decide)];exact t1,a,t,k,d',v1,rfl,r2,t2,?_⟩;have qq:=q1.trans q2;rcases hf:fms j.toNat k [d']with _|⟨rr,kk⟩
    ·rw[hf]at w;exact w.elim
    ·rw[hf]at w
     cases rr with
     |ex y=>exact λH' da s' fd'=>⟨y,rfl,w,qq.trans s',fd'⟩
     |ok z =>
      cases z<;>first|exact w.elim|skip
      exact λH' t' sd hd' so=>w H' t' ((kN.of (jb qq)).trans sd) hd' so
  ·rw[hth]at w;exact⟨w,jd.refl _⟩
end
def hsC(k:Ck)(wt:bF):List (bF×bF)->List gw->Bool
 |[],es=>decide (es.length=1)&&(es[0]?).any λe=>(jdE e).any λz=>decide (jo z.1=ba ("Dependent":bF))&&k.gl "Dependent" && decide (z.2.1=("refusal":bF))&&decide (z.2.2.length=1)&&(z.2.2[0]?).any λs=>(xM s).any λv=>v.any λe=>(jI e).any λc=>decide (c.1=wt)&&k.gl wt&&decide (c.2.1.length=1)&&(c.2.1[0]?).any λa=>(kL a).any λy=>decide (y.2.1=("weights":bF))&&decide (jo y.1=ba ("refusal":bF))
 |(x,c)::r,es=>!es.isEmpty&&(es[0]?).any (jaq x (.str c))&&k.gl x&&hsC k wt r (es.drop 1)
def told(w:bF)(hs:List (bF×bF))(y:XD):Option bF:=match hs with
 |(x,c)::r=>if y.t=x then ba c else told w r y
 |[]=>if y.t=("Dependent":bF) then match y.f with
  |[.lst xs]=>(yC xs).bind λws=>jQ (ws.length<=1000/\(∀i∈ws,i.natAbs.log2<1920)/\((w::ws.map λi=>((toString i:String):bF)).map (·.length)).sum+(w::ws.map λi=>((toString i:String):bF)).length*(" ":bF).length<=lim) (ba (wtS w ws))
  |_=>bc
  else bc
def jeP(w:bF)(hs:List (bF×bF))(rD:Dk->List D->Option (R×Dk))(k:Dk)(ds:List D):Option (R×Dk):=match rD k ds with
 |some (.ok d,k')=>ba (.ok d,k')
 |some (.ex y,_)=>match told w hs y with
  |some s=>jQ (b9 s=bh) (ba (.ok (.str s),k))
  |none=>bc
 |none=>bc
def QN(K:Frag)(mg:bF->Option bq)(L:List bF):Prop:=∀x∈L,∀y∈L,x≠y->∀Cx Cy,mg x=ba (.ref Cx)->mg y=ba (.ref Cy)->subIn K (.ref Cx) (.ref Cy)=ba bj
def Pre(k:Ck)(hs:List (bF×bF))(x:bF)(pre:List gw):Prop:=∀h∈pre,∃x' c',jaq x' (.str c') h=bh/\k.gl x'=bh/\x'≠x/\x'∈hs.map (·.1)
theorem jdp{k:Ck}{wt w s:bF}{y:XD}:∀ {hs:List (bF×bF)} {es:List gw},hsC k wt hs es=bh->told w hs y=ba s ->
 (∃pre h post,es=pre++h::post/\jaq y.t (.str s) h=bh/\k.gl y.t=bh/\y.t∈hs.map (·.1)/\Pre k hs y.t pre) \/
 ∃pre np b0 p cq cp q ap rp ws,es=pre ++ [.ExceptHandler (ba (.Name "Dependent" np)) (ba "refusal") [.Return (ba (.Call (.Name wt cq) [.Attribute (.Name "refusal" q) "weights" ap] [] cp)) rp] p]/\k.gl "Dependent"=bh/\k.gl wt=bh/\y.t="Dependent" /\ y.f=[.lst (ws.map .int)]/\s=wtS w ws/\Pre k hs "Dependent" pre/\b0=() /\
  (ws.length<=1000/\(∀i∈ws,i.natAbs.log2<1920)/\((w::ws.map λi=>((toString i:String):bF)).map (·.length)).sum+(w::ws.map λi=>((toString i:String):bF)).length*(" ":bF).length<=lim)
 |[],es,h,ht=>by
  unfold hsC at h;rw[bz,decide_eq_true_eq]at h;obtain⟨e,rfl⟩:=jz h.1;replace h:=jf h.2;obtain⟨e',he,h⟩:=h;cases he;replace h:=jf h;obtain⟨⟨t,n,b⟩,hh,h⟩:=h;obtain⟨b0,su,p,rfl,rfl⟩:=jfA hh
  exists Z.an5,0,h,h1,h2,e_,h3,h;subst e_
  obtain⟨np,rfl⟩:=jK h1
  have:su=[]:=by cases su with|nil=>rfl|cons _ _=>cases h3
  subst this;replace h:=jf h;obtain⟨s0,hs0,h⟩:=h;cases hs0;replace h:=jf h;obtain⟨ov,ho,h⟩:=h;replace h:=jf h;obtain⟨v,rfl,h⟩:=h;obtain⟨rp,rfl⟩:=yj ho
  exists Z.anCallN,h,fx,xs,cp,cq
  exists Z.an4,0,h,e_,h4,h5,h;subst e_
  obtain⟨a,rfl⟩:=jz h5;replace h:=jf h;obtain⟨a',ha,h⟩:=h;cases ha
  exists Z.anAttr,h,o,m,ap
  exists Z.an2,0,h,e_,h6;subst e_
  obtain⟨q,rfl⟩:=jK h6;unfold told at ht;split at ht
  ·next hy =>
   split at ht
   ·next xs hf =>
    replace ht:=bind_some ht;obtain⟨ws,hw,ht⟩:=ht;replace ht:=jZ ht;obtain⟨hb,ht⟩:=ht;cases ht;have:=kM hw;subst this;exact .inr ⟨[],np,(),p,cq,cp,q,ap,rp,ws,rfl,h2,h4,hy,hf,rfl,(λ_ z=>nomatch z),rfl,hb⟩
   ·cases ht
  ·cases ht
 |(x,c)::r,es,h,ht=>by
  unfold hsC at h
  exists Z.an4,3,h,h1,h2,h3,h4
  obtain⟨e,es',rfl⟩:=kZ h1;replace h2:jaq x (.str c) e=true:=h2;replace h4:hsC k wt r es'=true:=h4;unfold told at ht;by_cases hx:y.t=x
  ·rw[if_pos hx]at ht;cases ht;exact .inl ⟨[],e,es',rfl,by rw[hx];exact h2,by rw[hx];exact h3,by rw[hx];exact bJ ..,(λ_ z=>nomatch z)⟩
  ·rw[if_neg hx]at ht;rcases jdp h4 ht with⟨pre,h,post,rfl,g1,g2,g3,g4⟩|⟨pre,np,b0,p,cq,cp,q,ap,rp,ws,rfl,g1,g2,g3,g4,g5,g6,g7,g8⟩
   ·refine .inl ⟨e::pre,h,post,rfl,g1,g2,bD _ g3,λh' hh=>?_⟩;rcases bG.mp hh with rfl|hh
    ·exact⟨x,c,h2,h3,λz=>hx z.symm,bJ ..⟩
    ·obtain⟨x',c',q1,q2,q3,q4⟩:=g4 h' hh;exact⟨x',c',q1,q2,q3,bD _ q4⟩
   ·refine .inr ⟨e::pre,np,b0,p,cq,cp,q,ap,rp,ws,rfl,g1,g2,g3,g4,g5,λh' hh=>?_,g7,g8⟩;rcases bG.mp hh with rfl|hh
    ·exact⟨x,c,h2,h3,λz=>hx (g3.trans z.symm),bJ ..⟩
    ·obtain⟨x',c',q1,q2,q3,q4⟩:=g6 h' hh;exact⟨x',c',q1,q2,q3,bD _ q4⟩
variable{wt:bF}
theorem jfj{hs:List (bF×bF)}{es:List gw}(h:hsC k wt hs es=bh):∃e r,es=e::r:=by
 cases es with
 |cons e r=>exact⟨e,r,rfl⟩
 |nil =>
  cases hs with
  |nil=>cases h
  |cons x r=>cases h
section
variable {P:dg} {w:World} {K:Frag} {mg:bF->Option bq} {base:dR} {C:Cfg} {cns:List bF} {i iw:FnI} {L:List FnI} {lv:Nat} {f fw:Addr} {fd fdw:gV} {g:G} {dn:DN} {Cd:Addr}
theorem jee{rD:Dk->List D->Option (R×Dk)}{hs:List (bF×bF)}{fn tx:bF}{fa:Addr}{fda:gV}{psa:List bF}{stw:d9}(S:Std P w K mg base C cns L lv g dn Cd)(F:FnAt K mg i f fd)(hsc:jV i=bh)(hz:ExcOk K mg i.cls i.al)(al:i.al=bj)(hN:i.N.length=3)(h2N:i.N[2]?=ba ("refusal":bF))(hre:(jg i.st).names.lookup ("refusal":bF)=ba .local)(hp:i.ps.length=2)
 (FD:FnOk P w K mg base (CXz P w mg) lv fa fda psa (spM K Cd rD)) (hm:mg fn=ba (.ref fa)) (hk:keepIn K (.ref fa)=bh) (hb:kP K fda psa [])
 (FW:FnAt K mg iw fw fdw) (hwx:iw.x=wt) (hws:jV iw=bh) (hwp:iw.ps.length=1) (hwN:1<=iw.N.length) (hwb:jm iw.st=[stw]) (hwt:wtC (iw.ck [] []) tx stw=bh) (htx:b9 tx=bh)
 (cls:∀x,x=("Dependent":bF)\/x∈hs.map (·.1)->x∈i.cls) (ap:QN K mg (("Dependent":bF)::hs.map (·.1)))
  {rp:Pos} {hes:List gw} (hbd:jm i.st=[.Try [.Return (ba (.Call (.Name fn q) [.Name n0 np0,.Name n1 np1] [] cp)) rp] hes [] [] pos]) (h4:(i.ck L cns).gl fn=bh) (h6:(i.ck L cns).loc 0 n0=bh) (h7:(i.ck L cns).loc 1 n1=bh) (h3:hsC (i.ck L cns) wt hs hes=bh) :
 FnOk P w K mg base (CXz P w mg) (lv+1) f fd i.ps (spM K Cd (jeP tx hs rD)):=by
 refine zV S F hsc hz al (λvs H Q E h=>?_) λX H vs Q E okd okf okx hX hr hsco h=>?_
 ·obtain⟨a,t,k,d,u,rfl,_⟩:=h;exact hp.symm
 rw[hbd];obtain⟨rfl,rfl,rfl,rfl,rfl,_⟩:=hX;obtain⟨a,t,k,d,u,rfl,hd,is,w⟩:=h;obtain⟨b1,b2,b3,b4⟩:=okd.ok.vis h6;obtain⟨c1,c2,c3,c4⟩:=okd.ok.vis h7;obtain⟨g1,g2,g3⟩:=okd.ok.gl h4;have own:=okf.own
 have est:L2.start i.N [V.ref a,u]=[ba (.ref a),ba u,bc]:=by unfold L2.start;rw[hN];rfl
 have sub1:∀ {x:bF} {Ca:Addr} {pre:List gw} {X':Cx},X'.K=X.K->X'.mg=X.mg->X'.env=X.env->x∈("Dependent":bF)::hs.map (·.1)->X.mg x=ba (.ref Ca)->Pre (i.ck L cns) hs x pre->∀hd∈pre,jb7 X' Ca hd:=by
  intro x Ca pre X' e1 e2 e3 hx hmx hpr h' hh;obtain⟨x',c',q1,q2,q3,q4⟩:=hpr h' hh;obtain⟨np,p,u,j,cp,rp,rfl,_⟩:=jc8 q1;obtain⟨Cb,hmb,co⟩:=hz.exc x' (cls x' (.inr q4));obtain⟨y1,y2,y3⟩:=okd.ok.gl q2;refine⟨x',Cb,np,_,_,p,rfl,by rw[e2];exact hmb,by rw[e1];exact co.cl,?_,y2,by rw[e1];exact ap x hx x' (bD _ q4) (λz=>q3 z.symm) _ _ hmx hmb⟩;unfold Gl at y1 ⊢;rw[e3];exact y1
 refine⟨λD τ H'=>τ=[ba (.ref a),ba u,bc]/\H'=H/\D.rt=Q,jl (t:=λD τ H'=>τ=[ba (.ref a),ba u,bc]/\H'=H/\D.rt=Q) (λpins s τ H' De I w'=>?_) jF,⟨est,rfl,rfl⟩⟩;obtain⟨rfl,rfl,hrt⟩:=w';obtain⟨h0,hs0,ehs⟩:=jfj h3;rw[ehs];refine wpAny_Try_except ?_;rw[<- ehs]
 let xe':bq->Shared->Prop:=λe s₁=>wpAny (model X.prog X.w) X.A (pZ e X.env) (λ_ s₂=>wpAny (model X.prog X.w) X.A (tZ e bc) (λ_ s₃=>wpAny (model X.prog X.w) X.A (w9 e X.env hes) (SP X pins De) X.xe s₃) X.xe s₂) X.xe s₁
 let X':Cx:={ X with xe:=xe',pn:=X.pn++pins }
 have toX:∀ {ps:List (Addr×mE)} {σ':L2.St} {H':Hp} {s':Shared},Inv X' ps σ' H' s'->Inv X pins σ' H' s':=λ{ps σ' H' s'} J=>⟨I.ok,J.os,J.bare,J.base,J.loc,J.cell,J.free,J.freeC,λq hq=>J.pin q (gZ _ hq),J.hok,J.len⟩
 have I':Inv X' [] [ba (.ref a),ba u,bc] H' s:=⟨⟨I.ok.mod,I.ok.kind,I.ok.glob,I.ok.blt,I.ok.above,I.ok.inj,I.ok.has,I.ok.cab,I.ok.hd,I.ok.frames,I.ok.stk,I.ok.exf,I.ok.bs,I.ok.bsz,I.ok.noex,I.ok.exfs,I.ok.funs,I.ok.frf⟩,I.os,I.bare,I.base,I.loc,I.cell,I.free,I.freeC,λq hq=>I.pin q (by simpa[X']using hq),I.hok,I.len⟩
 have own':Own X':=⟨own.stk,own.frm,own.ex⟩
 let exH:XD->Prop:=λy=>∃s,told tx hs y=ba s/\b9 s=bh/\∀H2,jd H' H2->Q (.str s) H2
 have pass:xm (CXz X'.prog X'.w X'.mg) X' (XE0 X'.K [] H' exH):=by
  rintro pins' σ' H2 s' e s2 J ⟨x,Ca,H1,da,⟨y,e1,⟨tl,ht,hso,hQ⟩,sm,fdd⟩,hmx,T⟩;cases e1;rcases jdp h3 ht with⟨pre,h,post,ees,q1,q2,q3,q4⟩|⟨pre,np,b0,p,cq,cp,qq,ap',rp',ws,ees,q1,q2,q3,q4,q5,q6,_,q8⟩
  ·obtain⟨np,p,uc,j,cp,rp,rfl,hco⟩:=jc8 q1;obtain⟨Cb,hmb,co⟩:=hz.exc y.t (cls y.t (.inr q3))
   have ec:Ca=Cb:=by rw[show X'.mg y.t=X.mg y.t from rfl,hmb]at hmx;cases hmx;rfl
   subst ec;obtain⟨z1,z2,_⟩:=okd.ok.gl q2;show wpAny _ _ _ (λ_ s₂=>wpAny _ _ _ (λ_ s₃=>wpAny _ _ (w9 e X.env hes) _ _ s₃) _ s₂) _ _;rw[ees];refine jbI (X:=X') (Q:=SP X pins De) (E:=X.xe) (sub1 (X':=X') rfl rfl rfl (bD _ q3) hmb q4) J own' hmb co.cl z1 z2 T ?_;rintro ea s7 s1 J7;obtain⟨cv,pcv,icv⟩:=jaw (X:=mkX X' ea) (j:=j) (cp:=cp) hco
   refine dE (jl (qx pcv (pos:=rp)) jF pins' s7 σ' H1 { nx:=λ_ _=>False,rt:=λv' H'=>v'=cv/\jd H1 H' } J7 ⟨rfl,jd.refl _⟩) (λf s8 z=>?_) λ_ _ z=>z
   cases f with
   |ret u =>
    obtain⟨v',σ8,H8,J8,r8,rfl,s8'⟩:=z;have:=icv X.K (λ_=>bc);obtain⟨rfl,_⟩:=jL this
    exact⟨_,σ8,H8,toX (YK J J8),r8,by rw[hrt];exact hQ _ (sm.trans s8')⟩
   |next=>obtain⟨_,_,_,z⟩:=z;exact z.elim
   |brk=>obtain⟨_,_,_,z⟩:=z;exact z.elim
   |cont=>obtain⟨_,_,_,z⟩:=z;exact z.elim
  ·obtain⟨Cb,hmb,co⟩:=hz.exc "Dependent" (cls _ (.inl rfl))
   have ec:Ca=Cb:=by rw[q3,show X'.mg "Dependent"=X.mg "Dependent" from rfl,hmb]at hmx;cases hmx;rfl
   subst ec;obtain⟨z1,z2,_⟩:=okd.ok.gl q1;obtain⟨z3,z4,_⟩:=okd.ok.gl q2
   have hi2:X'.N[2]?=ba ("refusal":bF):=by show X.N[2]?=_;rw[show X.N=i.N from okd.ok.N];exact h2N
   have hl2:X'.env.scope.names.lookup ("refusal":bF)=ba .local:=by show X.env.scope.names.lookup _=_;rw[hsco];exact hre
   show wpAny _ _ _ (λ_ s₂=>wpAny _ _ _ (λ_ s₃=>wpAny _ _ (w9 e X.env hes) _ _ s₃) _ s₂) _ _;rw[ees];refine jeZ (X:=X') (Q:=SP X pins De) (E:=X.xe) (sub1 (X':=X') rfl rfl rfl (bJ ..) hmb q6) J own' okd.ok.nd hmb co.cl z1 (by decide) hi2 hl2 T ?_;rintro ea oe vs s7 s1 cl dt dc rfl J7 hn;have s2':jd H1 (upd H1 ea (.frz oe (.ext λ_=>True))):=jt hn _
   have hlen:2<σ'.length:=by
    rw[J.len];exact(dH.mp hi2).1
   obtain⟨Ta,fi,FI,_⟩:=co.ow rfl;obtain⟨dA,v,rfl,hdA,iv⟩:=fdd (.lst (ws.map .int)) (by rw[q4];simp);rw[q3]at hdA;have hdc:=dc.resolve_left (λz=>nomatch z)
   have rm:Room 1 (mkX X' ea).A:=⟨λz=>absurd z (by decide),by have:=hr.dp;have:=S.h2;show X.A.depth+3*1+5<wc;lia,by have:=hr.un;have:=S.h2;show X.A.units+16*1+200<cLine;lia⟩
   have pw:=jfB (Y:=mkX X' ea) (L:=[]) (cns:=[]) (C:=C) (ea:=ea) (p:=cq) (pos:=cp) FW hws hwp hwN hwb hwt S.hb (by rw[hwx];exact z3) (by rw[hwx];exact z4) rm rfl (jj (jbO (X:=X') (i:=2) (ea:=ea) (p:=qq) (pos:=ap') FI hi2 hl2) jB) rfl;rw[hwx]at pw;have psu:PSs (mkX X' ea) [.Return (ba (.Call (.Name wt cq) [.Attribute (.Name "refusal" qq) "weights" ap'] [] cp)) rp'] _:=jl (qx pw) jF
   have fin:∀(f:Flow) (s8:Shared),SP (mkX X' ea) pins' { nx:=λ_ _=>False,rt:=λv H'=>jd (upd H1 ea (.frz oe (.ext λ_=>True))) H'/\De.rt v H' } f s8 ->
    wpAny (model X'.prog X'.w) X'.A (do bindName X'.env "refusal" .none;tK X'.env "refusal" p) (λ_ s₅=>SP X pins De f s₅) X.xe s8:=λf s8 z=>by
    cases f with
    |ret u =>
     obtain⟨v,σ8,H8,J8,r8,s8',q8⟩:=z
     refine Uy (X:=X') (YK J J8) own' hl2 λs9 J9=>?_
     exact⟨v,_,H8,toX J9,r8,q8⟩
    |next=>obtain⟨_,_,_,z⟩:=z;exact z.elim
    |brk=>obtain⟨_,_,_,z⟩:=z;exact z.elim
    |cont=>obtain⟨_,_,_,z⟩:=z;exact z.elim
   rw[m0]at iv;obtain⟨c,us,rfl,w1,w2⟩:=jA iv;cases kD w2
   refine dE (psu pins' s7 _ _ { nx:=λ_ _=>False,rt:=λv H'=>jd (upd H1 ea (.frz oe (.ext λ_=>True))) H'/\De.rt v H' } J7 ⟨ea,oe,_,vs,dA,.ref c,dM hlen,jh ..,cl,dt,hdc.1,s2' _ _ hdA,c,ws,oe,_,vs,rfl,⟨jh ..,dt,hdc.2⟩,s2'.seq w1,⟨q8.1,q8.2.1⟩,⟨q8.2.2,htx⟩,λH8 s8=>⟨s8,?_⟩⟩) fin λ_ _ z=>z
   rw[hrt,<- q5];exact hQ _ ((sm.trans s2').trans s8)
 have pc:PE X' (.Call (.Name fn q) [.Name n0 np0,.Name n1 np1] [] cp) _:=qC (CX:=CXz X'.prog X'.w X'.mg) (E:=XE0 X'.K [] H' exH) (dvs:=[]) FD hr g1 hm hk hb .nil pass (jj (jY b1 (jX b2) b3 b4) (jj (jY c1 (jX c2) c3 c4) jB) rfl) g2 rfl rfl;have pb:PSs X' [.Return (ba (.Call (.Name fn q) [.Name n0 np0,.Name n1 np1] [] cp)) rp] _:=jl (qx pc) jF
 refine dE (pb [] s _ H' { De with rt:=Q } I' ⟨.ref a,rfl,u,rfl,a,t,k,d,u,rfl,hd,is,?_⟩) (λf s1 z=>?_) λe s1 z=>z
 ·unfold jeP at w;rcases hrd:rD k [d]with _|⟨rr,kk⟩
  ·rw[hrd]at w;exact w.elim
  ·rw[hrd]at w
   cases rr with
   |ok z=>cases z<;>first|exact w.elim|exact w
   |ex y =>
    try dsimp only at w
    cases ht:told tx hs y with
    |none=>rw[ht]at w;exact w.elim
    |some sx =>
     rw[ht]at w
     try dsimp only at w
     unfold jQ at w;split at w
     ·next hso =>
      have w:∀H2 t',kN a (minus H' (oT k t)) (minus H2 (oT k t'))->j7 X.K Cd H2 a t' k->b9 sx=bh->Q (.str sx) H2:=w
      exact λH2 da s2 fd2=>⟨y,rfl,⟨sx,ht,hso,λH3 s3=>w H3 t (kN.of (jb s3)) (hd.mono s3) hso⟩,s2,fd2⟩
     ·exact w.elim
 ·cases f with
  |ret u=>obtain⟨v,σ8,H8,J8,r8,q8⟩:=z;exact⟨v,σ8,H8,toX J8,r8,by rw[hrt];exact q8⟩
  |next =>
   obtain⟨σ8,H8,J8,q8⟩:=z
   exact jF (X:=X) pins s1 σ8 H8 De (toX J8) q8
  |brk=>obtain⟨σ8,H8,J8,q8⟩:=z;exact⟨σ8,H8,toX J8,q8⟩
  |cont=>obtain⟨σ8,H8,J8,q8⟩:=z;exact⟨σ8,H8,toX J8,q8⟩
end
def C0:Cfg:=⟨λ_=>⟨λ_=>False,λ_ _=>False,λ_ _=>False⟩,λ_=>.non,λ_=>bj,λ_=>bj,λ_=>False⟩
variable{qual:bF}
section
variable {P:dg} {w:World} {K:Frag} {mg:bF->Option bq} {base:dR} {i:FnI} {lv:Nat} {f:Addr} {fd:gV} {Cd:Addr}
theorem jbB(h2:2<=lv)(F:Fun K i.x qual i.st f fd)(hsc:jV i=bh)(hb:∀x∈blts,mg x=bc)(len:∀vs H Q E,sp vs H Q E->vs.length=i.ps.length)
 (body:∀(X:Cx) (H:Hp) (vs:List V) (Q:VK) (E:XK),OkS X.nox (i.ck [] []) C0->X.K=K->sp vs H Q E->∃t,PSs X (jm i.st) t/\t { nx:=λ_ H'=>Q .non H',rt:=Q } (L2.start i.N vs) H) :
 FnOk P w K mg base (CXz P w mg) (lv+1) f fd i.ps sp:=by
 have S:=xh hsc;refine vc F S len (λcdv A outer s H vs Q E hr h=>?_)
 have hun:(A.deeper (envOfC qual (jg i.st) s.heap.objs.size f cdv)).units+100<cLine:=by have:=hr.un;lia
 have hcalm:A.handled.isNone=true:=by
  have e:A.handled=none:=hr.hd h2;rw[e];rfl
 exact body (qN (CXz P w mg) P w K mg base i.N qual (jg i.st) f cdv A outer s H E) H vs Q E ⟨⟨rfl,S.nd,rfl,S.kind,hcalm,rfl,hun,(λn x m e=>by cases e),(λn x e=>by cases e),hb,λ_ z=>z⟩,λ_=>rfl⟩ rfl h
def fs0(t:Addr):List (bF×V):=[("width",.int 53),("digits",.int 17),("table",.ref t)]
def jfE(Cd:Addr):Sp:=λvs H Q _=>∃x dx,vs=[.ref x]/\H x=ba (.ins Cd dx [])/\∀H' t,H t=bc->(∀b o,b≠x->H b=ba o->H' b=ba o)->H' t=ba (.lst [])->H' x=ba (.ins Cd dx (fs0 t))->Q .non H'
theorem jfd(h2:2<=lv)(F:Fun K i.x qual i.st f fd)(hsc:jV i=bh)(hb:∀x∈blts,mg x=bc)(hp:i.ps.length=1)(hN:i.N.length=1)(dc:DeskC K Cd)
 {n2:bF} {p0 q0 r0 t0 p1 q1 r1 t1 p2 q2 r2 t2:Pos} {j0 j1:Nat} (hbd:jm i.st=[.Assign [.Attribute (.Name n0 p0) "width" q0] (.Constant (.int 53) j0 t0) r0,.Assign [.Attribute (.Name n1 p1) "digits" q1] (.Constant (.int 17) j1 t1) r1,.Assign [.Attribute (.Name n2 p2) "table" q2] (.List [] t2) r2]) (hlo:((i.ck [] []).loc 0 n0&&(i.ck [] []).loc 0 n1&&(i.ck [] []).loc 0 n2)=bh):FnOk P w K mg base (CXz P w mg) (lv+1) f fd i.ps (jfE Cd):=by
 replace hlo:=Z.tb_ 3 hlo
 refine jbB h2 F hsc hb (λvs H Q E h=>?_) λX H vs Q E ok eK h=>?_
 ·obtain⟨x,dx,rfl,_⟩:=h;exact hp.symm
 rw[hbd];subst eK;obtain⟨x,dx,rfl,hx,h⟩:=h
 have est:L2.start i.N [V.ref x]=[ba (.ref x)]:=by unfold L2.start;rw[hN];rfl
 refine⟨_,jl (vX (Q8 ok.toOk hlo.1.1) K6 rfl) (jl (vX (Q8 ok.toOk hlo.1.2) K6 rfl) (jl (vX (Q8 ok.toOk hlo.2) (xb jB) rfl) jF)),?_⟩;rw[est];refine⟨.ref x,rfl,x,Cd,dx,[],rfl,hx,dc.cl,dc.na .w,by decide,?_⟩;refine⟨.ref x,rfl,x,Cd,dx,_,rfl,jh ..,dc.cl,dc.na .g,by decide,?_⟩;refine⟨by decide,λp hp=>⟨.ref x,rfl,x,Cd,dx,[("width",.int 53),("digits",.int 17)],rfl,?_,dc.cl,dc.na .t,(by decide:(2:Nat)<1000),?_⟩⟩
 ·rw[je (kE (jh ..) hp),jh];rfl
 ·rw[jcB]at hp
  have hpx:p≠x:=λz=>by rw[z,jh]at hp;cases hp
  refine h _ p ?_ (λb o hb hbo=>?_) ?_ ?_
  ·rw[je hpx]at hp;exact hp
  ·have:b≠p:=λz=>by rw[je hpx,<- z,hbo]at hp;cases hp
   rw[je hb,je this,je hb,je hb];exact hbo
  ·rw[je hpx,jh]
  ·rw[jh];rfl
end
def isI:D->Bool
 |.int _=>bh
 |_=>bj
def isP:D->Bool
 |.tup xs=>xs.all isI
 |_=>bj
def VQ:D->Bool
 |.lst (p::ps)=>isP p&&ps.all isP
 |_=>bj
def Zk(k:Dk):Bool:=k.T.all VQ&&(k.m || !k.T.isEmpty)
section
variable {K:Frag} {S:Hp} {c:Addr} {ss:List bF}
theorem jaI(hc:S c=ba (.lst (ss.map V.str))){v:V}(h:SqL K S a (v::vs))(hv:∀s,v ≠ .str s):SqL K (minus S [c]) a (v::vs):=by
 have ne:∀ {o:HO},S a=ba o->(∀ss:List bF,o ≠ .lst (ss.map V.str))->minus S [c] a=ba o:=λ{o} e n=>by
  rw[jw (λz=>?_)]
  ·exact e
  ·rw[dr.mp z,hc]at e;cases e;exact n ss rfl
 rcases h with(h|⟨o,h⟩)|h
 ·exact .inl (.inl (ne h λss z=>by cases ss with|nil=>cases z|cons x r=>cases z;exact hv _ rfl))
 ·exact .inl (.inr ⟨o,ne h λss z=>nomatch z⟩)
 ·exact .inr h
theorem jeG(hc:S c=ba (.lst (ss.map V.str)))(h:SqT K S a vs):SqT K (minus S [c]) a vs:=by
 have ne:∀ {o:HO},S a=ba o->(∀ss:List bF,o ≠ .lst (ss.map V.str))->minus S [c] a=ba o:=λ{o} e n=>by
  rw[jw (λz=>?_)]
  ·exact e
  ·rw[dr.mp z,hc]at e;cases e;exact n ss rfl
 rcases h with(h|⟨o,h⟩)|h
 ·exact .inl (.inl (ne h λss z=>nomatch z))
 ·exact .inl (.inr ⟨o,ne h λss z=>nomatch z⟩)
 ·exact .inr h
theorem Xg:∀ {xs:List D} {vs:List V} {S':Hp},xs.all isI=bh->Iss K S xs vs->Iss K S' xs vs
 |[],vs,S',_,h=>by unfold Iss at *;exact h
 |x::xs,vs,S',g,h=>by
  rw[nV,bz]at g;unfold Iss at *;obtain⟨v,r,rfl,h1,h2⟩:=h
  cases x<;>first|exact bK g.1|skip
  exact⟨v,r,rfl,by cases jk h1;exact ju _,Xg g.2 h2⟩
theorem jc6(hc:S c=ba (.lst (ss.map V.str))){d:D}{v:V}(g:isP d=bh)(h:Is K S d v):Is K (minus S [c]) d v/\∀s,v ≠ .str s:=by
 cases d<;>first|exact bK g|skip
 obtain⟨a,vs,rfl,h1,h2⟩:=kU h;exact⟨zE (jeG hc h1) (Xg g h2),λs z=>nomatch z⟩
theorem jbo(hc:S c=ba (.lst (ss.map V.str))):∀ {ds:List D} {vs:List V},ds.all isP=bh->Iss K S ds vs->Iss K (minus S [c]) ds vs
 |[],vs,_,h=>by unfold Iss at *;exact h
 |x::xs,vs,g,h=>by
  rw[nV,bz]at g;unfold Iss at *;obtain⟨v,r,rfl,h1,h2⟩:=h;exact⟨v,r,rfl,(jc6 hc g.1 h1).1,jbo hc g.2 h2⟩
theorem jc2(hc:S c=ba (.lst (ss.map V.str))){d:D}{v:V}(g:VQ d=bh)(h:Is K S d v):Is K (minus S [c]) d v/\∀s,v ≠ .str s:=by
 cases d<;>first|exact bK g|skip
 next xs =>
 cases xs with
 |nil=>cases g
 |cons p ps =>
  replace g:(isP p&&ps.all isP)=true:=g;rw[bz]at g;obtain⟨a,vs,rfl,h1,h2⟩:=jA h;unfold Iss at h2;obtain⟨v,r,rfl,q1,q2⟩:=h2;obtain⟨q3,q4⟩:=jc6 hc g.1 q1;exact⟨ke (jaI hc h1 q4) (by unfold Iss;exact⟨v,r,rfl,q3,jbo hc g.2 q2⟩),λs z=>nomatch z⟩
theorem Yb(hc:S c=ba (.lst (ss.map V.str))):∀ {ds:List D} {vs:List V},ds.all VQ=bh->Iss K S ds vs->Iss K (minus S [c]) ds vs
 |[],vs,_,h=>by unfold Iss at *;exact h
 |x::xs,vs,g,h=>by
  rw[nV,bz]at g;unfold Iss at *;obtain⟨v,r,rfl,h1,h2⟩:=h;exact⟨v,r,rfl,(jc2 hc g.1 h1).1,Yb hc g.2 h2⟩
end
theorem j7.app{c:Addr}{k:Dk}{ss:List bF}(h:j7 K Cd H a t k)(g:Zk k=bh)(hc:minus H (oT k t) c=ba (.lst (ss.map V.str))):j7 K Cd (upd H c o) a t k:=by
 obtain⟨dx,fs,h1,h2,h3,h4,h5,h6⟩:=h;unfold Zk at g;rw[bz]at g;have hc':=jc _ _ _ _ hc
 have ne:a≠c:=YW h1 hc' λz=>nomatch z
 refine⟨dx,fs,by rw[je ne];exact h1,h2,h3,h4,h5,?_⟩;split at h6
 ·next hm =>
  obtain⟨vs,g1,g2⟩:=h6
  have eo:oT k t=[t]:=by unfold oT;rw[if_pos hm]
  rw[eo]at hc
  have nt:t≠c:=λz=>by rw[<- z]at hc;unfold minus at hc;rw[if_pos (dr.mpr rfl)]at hc;cases hc
  rw[if_pos hm];refine⟨vs,by rw[je nt];exact g1,Iss.mono (λb u hb=>?_) _ (Yb hc g.1 g2)⟩;have hb1:=jc _ _ _ _ hb;have hb2:=jc _ _ _ _ hb1
  have nc:b ∉ [c]:=λz=>by unfold minus at hb;rw[if_pos z]at hb;cases hb
  have n2:b ∉ [t]:=λz=>by unfold minus at hb1;rw[if_pos z]at hb1;cases hb1
  rw[jw n2,je (by simpa using nc)];exact hb2
 ·next hm =>
  rw[if_neg hm]
  have hne:k.T ≠ []:=by
   intro z;have:=g.2;rw[z]at this;simp at this;exact hm this
  have m:∀b u,minus H [c] b=ba u->upd H c o b=ba u:=λb u hb=>by
   have nc:b ∉ [c]:=λz=>by unfold minus at hb;rw[if_pos z]at hb;cases hb
   rw[jw nc]at hb;rw[je (by simpa using nc)];exact hb
  cases hT:k.T with
  |nil=>exact absurd hT hne
  |cons d ds =>
   rw[hT]at h6 g;rw[nV,bz]at g;obtain⟨t',vs,e,q1,q2⟩:=jA h6;cases e;unfold Iss at q2;obtain⟨v,r,rfl,w1,w2⟩:=q2;obtain⟨w3,w4⟩:=jc2 hc' g.1.1 w1;exact Is.mono m _ (ke (jaI hc' q1 w4) (by unfold Iss;exact⟨v,r,rfl,w3,Yb hc' g.1.2 w2⟩))
def QA(wd:List D->Option R)(rA:Dk->List D->Option (R×Dk))(k:Dk)(row:bF):Option (Option bF×Dk):=match wd [.str row] with
 |some (.ok (.lst []))=>ba (bc,k)
 |some (.ok (.lst (w::ws)))=>match rA k [.lst (w::ws)] with
  |some (.ok (.str s),k')=>jQ (Zk k'=bh) (ba (ba s,k'))
  |_=>bc
 |_=>bc
def kC(wd:List D->Option R)(rA:Dk->List D->Option (R×Dk))(k:Dk):List bF->Option (List bF×Dk)
 |[]=>ba ([],k)
 |r::rs=>(QA wd rA k r).bind λp=>(kC wd rA p.2 rs).bind λq=>ba (p.1.toList++q.1,q.2)
def k00:Dk:=⟨53,17,bh,[]⟩
def spP(wd:List D->Option R)(rA:Dk->List D->Option (R×Dk)):Sp:=λvs H Q _=>∃tx ss k,vs=[.str tx]/\b9 tx=bh/\(tx.length<=lim/\(jR tx "\n").length<100000)/\kC wd rA k00 (jR tx "\n")=ba (ss,k) /\
 ∀c H',jd H H'->H c=bc->H' c=ba (.lst (ss.map V.str))->(∀s∈ss,b9 s=bh)->Q (.ref c) H'
theorem jbX{X:Cx}{C:Cfg}(ok:Ok X k C)(h:k.loc i x=bh):PE X (.Name x p) (Z5 i):=by
 obtain⟨a1,a2,a3,a4⟩:=ok.vis h;exact jY a1 (jX a2) a3 a4
theorem Yx{X:Cx}{C:Cfg}(ok:OkS X k C)(h:k.loc i x=bh)(he:PE X e te)(hs:mm e (ba (.Name x p)) pos.line X.env=pure bj):PS X (.Assign [.Name x p] e pos) (Xb te (qQ i)):=by
 obtain⟨a1,a2,a3,a4⟩:=ok.toOk.vis h;exact x9 ok.nd a1 a2 he hs (.inl (ok.fn _))
theorem jf3{X:Cx}{C:Cfg}(ok:OkS X k C)(h:k.loc i x=bh):PG X (.Name x p) (qQ i):=by
 obtain⟨a1,a2,a3,a4⟩:=ok.toOk.vis h;exact yc ok.nd a1 a2 (.inl (ok.fn _))
theorem Xw(τ:L2.St)(ho:∀a∈O,H a≠bc):Reps K O H (bE τ.length bc) τ:=by
 have gn:∀(n i:Nat),ji (bE n bc) i=none:=by
  intro n
  induction n with
  |zero=>intro i;rfl
  |succ n ih=>intro i;cases i with|zero=>rfl|succ i=>exact ih i
 refine⟨by simp,ho,λi d g=>?_,λi d g=>?_,λi j d e _ g=>?_,⟨λi r g=>?_,λi j r q g=>?_⟩⟩<;>(rw[gn]at g;cases g)
theorem zq{d:D}{v:V}(ho:∀a∈O,H a≠bc)(e:τ[i]?=ba (ba v))(h:Is K (minus H O) d v):Reps K O H (jC (bE τ.length bc) i (ba (.sh d))) τ:=by
 have:=(Xw (K:=K) τ ho).set (i:=i) h
 have hs:τ.set i (ba v)=τ:=by
  obtain⟨hi,e⟩:=dH.mp e;rw[<- e,List.set_getElem_self]
 rw[hs]at this;exact this
theorem KF{n:Nat}{d:D}(h:i<n):ji (jC (bE n bc) i (ba (.sh d))) i=ba (.sh d):=by
 induction n generalizing i with
 |zero=>cases h
 |succ n ih =>
  cases i with
  |zero=>rfl
  |succ i=>exact ih (Nat.lt_of_succ_lt_succ h)
end Z.DL
namespace Z.DL
open PySem Z Z.EV
theorem QU{c:Nat}:∀ {x y R R':List Nat},c ∉ x->c ∉ y->x++c::R=y++c::R'->x=y/\R=R'
 |[],[],_,_,_,_,e=>⟨rfl,by simpa using e⟩
 |[],b::y,_,_,_,hy,e=>by
  simp only[gJ,dw,tO]at e
  exact absurd (e.1 ▸ bJ ..) hy
 |a::x,[],_,_,hx,_,e=>by
  simp only[gJ,dw,tO]at e
  exact absurd (e.1 ▸ bJ ..) hx
 |a::x,b::y,_,_,hx,hy,e=>by
  simp only[dw,tO]at e;obtain⟨h1,h2⟩:=QU (λz=>hx (bD _ z)) (λz=>hy (bD _ z)) e.2;exact⟨by rw[e.1,h1],h2⟩
theorem Q2{c:Nat}:∀ {l m:List (List Nat)} {x y:List Nat},(∀p∈x::l,c ∉ p)->(∀p∈y::m,c ∉ p)->x++(l.map (c :: ·)).flatten=y++(m.map (c :: ·)).flatten->x::l=y::m
 |[],[],_,_,_,_,e=>by simpa using e
 |[],b::m,x,y,hx,hy,e=>by
  simp only[gK,jiW,dv,b5,gB,dw]at e
  exact absurd (by rw[e];simp) (hx x (bJ ..))
 |a::l,[],x,y,hx,hy,e=>by
  simp only[gK,jiW,dv,b5,gB,dw]at e
  exact absurd (by rw[<- e];simp) (hy y (bJ ..))
 |a::l,b::m,x,y,hx,hy,e=>by
  simp only[b5,gB,dw]at e;obtain⟨h1,h2⟩:=QU (hx x (bJ ..)) (hy y (bJ ..)) e;rw[h1,Q2 (λp hp=>hx p (bD _ hp)) (λp hp=>hy p (bD _ hp)) h2]
theorem jad:("\n":bF)=⟨#[10]⟩:=by decide +kernel
theorem ZY(x y:bF):jR x y=Txt.split x y:=rfl
theorem Zm{c:Nat}:∀(x:bF) (l:List bF),(jkn ⟨#[c]⟩ (x::l)).cps.toList=x.cps.toList++((l.map (·.cps.toList)).map (c :: ·)).flatten
 |x,[]=>by simp[jkn]
 |x,y::l=>by
  have:=Zm (c:=c) y l;show ((x++⟨#[c]⟩++jkn ⟨#[c]⟩ (y::l):bF)).cps.toList=_
  have e:∀a b:bF,(a++b).cps.toList=a.cps.toList++b.cps.toList:=λa b=>jhX
  rw[e,e,this];simp
theorem QC(x:bF):jR x "\n" ≠ []:=by
 unfold jR;split
 ·exact λz=>nomatch z
 ·split
  ·exact λz=>nomatch z
  ·rw[StrLaws.partsBetween_eq];obtain⟨p,r,e⟩:=StrLaws.partsFrom_ne x ("\n":bF).length 0 (gA x "\n" 0 x.length (x.length+1));rw[e]
   exact λz=>nomatch z
theorem Xz{ls:List bF}(ne:ls ≠ [])(h:∀l∈ls,10 ∉ l.cps.toList):jR ⟨(xu "\n" ls).toArray⟩ "\n"=ls:=by
 generalize hx:(⟨(xu "\n" ls).toArray⟩:bF)=x;have h1:=StrLaws.join_split x ("\n":bF);have h2:=StrLaws.split_free x 10;rw[<- jad]at h2;have h3:=QC x;rw[ZY]at h3 ⊢
 cases e:Txt.split x ("\n":bF) with
 |nil=>exact absurd e h3
 |cons p r =>
  rw[e]at h1 h2
  cases ls with
  |nil=>exact absurd rfl ne
  |cons q s =>
   rw[jad]at h1;have e1:=Zm (c:=10) p r;rw[h1,<- hx]at e1
   have e2:(xu "\n" (q::s))=q.cps.toList++((s.map (·.cps.toList)).map (10 :: ·)).flatten:=by
    unfold xu;rw[jad,jhf];rfl
   rw[e2,jhU]at e1;have:=Q2 (c:=10) (l:=s.map (·.cps.toList)) (m:=r.map (·.cps.toList)) (λy hy=>?_) (λy hy=>?_) e1
   ·have inj:∀a b:List bF,a.map (·.cps.toList)=b.map (·.cps.toList)->a=b:=λa b z=>by
     refine(List.map_inj_right (λu v w=>?_)).mp z;exact Str.ext' (jiS.mp w)
    exact(inj (q::s) (p::r) this).symm
   ·rw[<- b5 (f:=λl:bF=>l.cps.toList)]at hy;obtain⟨l,hl,rfl⟩:=gD.mp hy;exact h l hl
   ·rw[<- b5 (f:=λl:bF=>l.cps.toList)]at hy;obtain⟨l,hl,rfl⟩:=gD.mp hy;exact h2 l hl
end Z.DL
namespace Z.DL
open PySem PySem.Spec PySem.Calls PyProof.Rows PySem.W L2 Z Z.EV
section
variable {P:dg} {w:World} {K:Frag} {mg:bF->Option bq} {base:dR} {C:Cfg} {cns:List bF} {i:FnI} {L:List FnI} {lv:Nat} {f:Addr} {fd:gV} {g:G} {Cd:Addr}
theorem jch{rA:Dk->List D->Option (R×Dk)}{iw:Nat}{fa fI:Addr}{fda fdI:gV}{psa psI:List bF}{lI:Nat}(h2:2<=lv)(F:FnAt K mg i f fd)(hsc:jV i=bh)
 (fns:∀n j,L[n]?=ba j->∃f fd,FnOk P w K mg base (CXz P w mg) lv f fd j.ps (spD K j.ps.length (C.fr n) (C.f2 n) (C.ct n))/\FnAt K mg j f fd)
 (hcn:∀n x,cns[n]?=ba x->∃u v,mg x=ba u/\jH v u/\∀S,Is K S (C.cn n) v) (hb:∀x∈blts,mg x=bc) (hE:∀x,¬ C.E x) (hct:C.ct iw=ctE g.ca g.z iw)
 (hN:i.N.length=5) (hp:i.ps.length=1)
 (FA:FnOk P w K mg base (CXz P w mg) lv fa fda psa (spM K Cd rA)) (hma:mg "answer"=ba (.ref fa)) (hka:keepIn K (.ref fa)=bh) (hba:kP K fda psa [])
 (M:L2.Mk K Cd fI) (FI:FnOk P w K mg base (CXz P w mg) lI fI fdI psI (jfE Cd)) (hlI:lI+1<=lv) (hmD:mg "Desk"=ba (.ref Cd)) (hbI:kP K fdI psI [])
 {y0 y1 y3 y4 ya n0 n1 yr:bF} {yp0 cq cp0 p0 yp1 lp p1 yp3 fp yp4 p4 ip ypa apa cpa qa pn0 pn1 dp pe ypr rp:Pos} {it v4 cd:bU}
 (hbd:jm i.st=[.Assign [.Name y0 yp0] (.Call (.Name "Desk" cq) [] [] cp0) p0,.Assign [.Name y1 yp1] (.List [] lp) p1,.For (.Name y3 yp3) it [.Assign [.Name y4 yp4] v4 p4,.If cd [.Expr (.Call (.Attribute (.Name ya ypa) "append" apa) [.Call (.Name "answer" qa) [.Name n0 pn0,.Name n1 pn1] [] dp] [] cpa) pe] [] ip] [] fp,.Return (ba (.Name yr ypr)) rp])
 (g0:(i.ck L cns).gl "Desk"=bh) (g6:(i.ck L cns).gl "answer"=bh) (hlo:((i.ck L cns).loc 1 y0&&(i.ck L cns).loc 2 y1&&(i.ck L cns).loc 3 y3&&(i.ck L cns).loc 4 y4&&(i.ck L cns).loc 2 ya&&(i.ck L cns).loc 1 n0&&(i.ck L cns).loc 4 n1&&(i.ck L cns).loc 2 yr)=bh)
 (c3:chkE (i.ck L cns) (.sm .spl (.var 0) (.cst (.str "\n"))) it=bh) (n3:Jg it=bj) (m1:j6 v4=bh) (m2:qO v4=bj) (q4:chkE (i.ck L cns) (.call iw [.var 3]) v4=bh) (c5:chkE (i.ck L cns) (.cmp .gt (.bi .len [.var 4]) (.cst (.int 0))) cd=bh) (e6:(apa.endLine == cpa.line)=bh) :
 FnOk P w K mg base (CXz P w mg) (lv+1) f fd i.ps (spP (g.ca iw) rA):=by
 replace hlo:=Z.tb_ 3 hlo
 refine K7 (C:=C) h2 F hsc fns hcn hb hE (λvs H Q E h=>?_) λX H vs Q E hd hX h=>?_
 ·obtain⟨tx,ss,k,rfl,_⟩:=h;exact hp.symm
 rw[hbd];obtain⟨rfl,rfl,rfl,rfl,rfl,_⟩:=hX;obtain⟨tx,fin,kf,rfl,htx,⟨hlen,hlen2⟩,hrun,hQ⟩:=h;have ok:Ok X.nox (i.ck L cns) C:=hd.ok.toOk
 have est:L2.start i.N [V.str tx]=[ba (.str tx),bc,bc,bc,bc]:=by unfold L2.start;rw[hN];rfl
 have pans:PE X.nox (.Call (.Name "answer" qa) [.Name n0 pn0,.Name n1 pn1] [] dp) _:=qC (X:=X.nox) (CX:=CXz X.prog X.w X.mg) (E:=E0) (dvs:=[]) FA hd.rm (ok.gl g6).1 hma hka hba .nil Jm (jj (jbX ok hlo.1.1.2) (jj (jbX ok hlo.1.2) jB) rfl) (ok.gl g6).2 rfl rfl
 have pbody:PSs X.nox [.Assign [.Name y4 yp4] v4 p4,.If cd [.Expr (.Call (.Attribute (.Name ya ypa) "append" apa) [.Call (.Name "answer" qa) [.Name n0 pn0,.Name n1 pn1] [] dp] [] cpa) pe] [] ip] _ :=
  jl (Yx hd.ok hlo.1.1.1.1.2 (sB ok (.call iw [.var 3]) v4 q4).1 (kz m1 m2 _ _ _)) (jl (uI (sB ok _ cd c5).2 (jl (xB (zR ma pM PySem.F.type_list_append ud (jbX ok hlo.1.1.1.2) (jj pans jB) rfl rfl e6 rfl rfl) rfl) jF) jF) jF)
 have plp:=Jc (X:=X.nox) (pos:=fp) nS ok.calm (jcc (tg:=.Name y3 yp3) (sB ok (.sm .spl (.var 0) (.cst (.str "\n"))) it c3).1) (jf3 hd.ok hlo.1.1.1.1.1.2) pbody (kH n3 _);refine⟨_,PSs.nox (jl (Yx hd.ok hlo.1.1.1.1.1.1.1 (VH (X:=X.nox) (CX:=CXz X.prog X.w X.mg) (E:=E0) (dvs:=[]) M FI (hd.rm.mono hlI) (ok.gl g0).1 hmD hbI .nil Jm) rfl) (jl (Yx hd.ok hlo.1.1.1.1.1.1.2 (xb jB) rfl) (jl plp (jl (qx (jbX ok hlo.2)) jF)))),?_⟩;rw[est];intro x dx hx hdx hne;refine⟨x,dx,rfl,jh ..,λH1 t ht keep htl hxi=>⟨rfl,?_⟩⟩
 have ht0:H t=bc/\t≠x/\t≠dx:=by
  have n1:t≠x:=λz=>by rw[z,jh]at ht;cases ht
  have n2:t≠dx:=λz=>by rw[z,je hne,jh]at ht;cases ht
  exact⟨by rw[je n1,je n2]at ht;exact ht,n1,n2⟩
 have old:∀b o,H b=ba o->H1 b=ba o:=λb o hb=>by
  have n1:b≠x:=λz=>by rw[z,hx]at hb;cases hb
  have n2:b≠dx:=λz=>by rw[z,hdx]at hb;cases hb
  exact keep b o n1 (by rw[je n1,je n2];exact hb)
 have hd1:j7 X.K Cd H1 x t k00:=⟨dx,fs0 t,hxi,rfl,rfl,rfl,by show (3:Nat)<=100;decide,by rw[if_pos (show k00.m=bh from rfl)];exact⟨[],htl,by unfold Iss;rfl⟩⟩
 refine⟨by show (0:Nat)<=sizeLine;decide,λc hcn=>?_⟩
 have hc0:H c=none:=by
  cases q:H c with
  |none=>rfl
  |some o=>rw[old _ _ q]at hcn;cases hcn
 have sm:=jt hcn (.lst []);have hd2:=hd1.mono sm;have hτ:([ba (.str tx),bc,bc,bc,bc]:L2.St).set 1 (ba (.ref x))=[ba (.str tx),ba (.ref x),bc,bc,bc]:=rfl;have Rp:Reps X.K [c] (upd H1 c (.lst [])) (jC (bE 5 bc) 0 (ba (.sh (.str tx)))) [ba (.str tx),ba (.ref x),ba (.ref c),bc,bc]:=zq (τ:=[ba (.str tx),ba (.ref x),ba (.ref c),bc,bc]) (i:=0) (λb hb=>by rw[dr.mp hb,jh];exact λz=>nomatch z) rfl (kq htx);refine⟨_,[c],Rp,?_⟩;rw[jbi];refine⟨⟨by decide,hlen,dU (jg4 hlen2) (by decide)⟩,λvl H2 s2 il=>?_⟩;obtain⟨l,us,rfl,hl1,hl2⟩:=jA il;cases qz hl2;have hl3:SqL X.K H2 l ((jR tx "\n").map V.str):=(jc _ _).seq hl1;refine⟨l,rfl,⟨_,hl3⟩,?_⟩;have hd3:=hd2.mono s2;have ec2:H2 c=ba (.lst []):=s2 _ _ (jh ..);have et2:H2 t=ba (.lst []):=s2 _ _ (sm _ _ htl)
 have ntc:t≠c:=λz=>by rw[z,hcn]at htl;cases htl
 let Pv:Nat->L2.St->Hp->Prop:=λj τ Hj=>∃t k ss rest,τ.length=5/\τ[1]?=ba (ba (.ref x))/\τ[2]?=ba (ba (.ref c))/\j7 X.K Cd Hj x t k/\Zk k=bh/\jd H (minus Hj (oT k t))/\minus Hj (oT k t) c=ba (.lst (ss.map V.str))/\SqL X.K (minus (minus Hj (oT k t)) [c]) l ((jR tx "\n").map V.str)/\(∀s∈ss,b9 s=bh)/\ss.length<=j/\j<=(jR tx "\n").length/\kC (g.ca iw) rA k ((jR tx "\n").drop j)=ba (rest,kf)/\ss++rest=fin
 have eo0:oT k00 t=[t]:=rfl;refine ja4 (K:=X.K) (a:=l) (xs:=(jR tx "\n").map V.str) Pv ?_ ?_ ?_ ?_
 ·refine⟨t,k00,[],fin,rfl,rfl,rfl,hd3,rfl,λb o hb=>?_,?_,?_,(λ_ z=>nomatch z),gf _,gf _,by rw[nG];exact hrun,rfl⟩
  ·have hb1:=old b o hb
   have n1:b≠t:=λz=>by rw[z,ht0.1]at hb;cases hb
   rw[eo0,jw (by simpa using n1)];exact s2 _ _ (sm _ _ hb1)
  ·rw[eo0,jw (by simpa using gC ntc)];exact ec2
  ·have:jd (minus H2 [c]) (minus (minus H2 (oT k00 t)) [c])\/True:=.inr trivial;rcases hl1 with(h|⟨o,h⟩)|h
   ·refine .inl (.inl ?_)
    have nc:l ∉ [c]:=λz=>by unfold minus at h;rw[if_pos z]at h;cases h
    rw[jw nc]at h ⊢;rw[eo0,jw (λz=>?_)]
    ·exact h
    ·rw[dr.mp z,et2]at h;have:=QC tx
     cases hh:jR tx "\n" with
     |nil=>exact this hh
     |cons a b=>rw[hh]at h;cases h
   ·refine .inl (.inr ⟨o,?_⟩)
    have nc:l ∉ [c]:=λz=>by unfold minus at h;rw[if_pos z]at h;cases h
    rw[jw nc]at h ⊢;rw[eo0,jw (λz=>by rw[dr.mp z,et2]at h;cases h)];exact h
   ·exact .inr h
 ·rintro j τ Hj _ ⟨t,k,ss,rest,_,_,_,_,_,_,_,q,_⟩;exact(jc _ _).seq ((jc _ _).seq q)
 ·rintro j xv τ Hj hj ⟨t,k,ss,rest,e1,e2,e3,hdj,gk,sd,ecj,elj,hso,hsl,hjl,hr,hfin⟩;rw[dQ]at hj
  cases hrow:(jR tx "\n")[j]? with
  |none=>rw[hrow]at hj;cases hj
  |some row =>
   rw[hrow]at hj;cases hj;obtain⟨hlt,erow⟩:=dH.mp hrow;rw[d8 hlt,erow]at hr;unfold kC at hr;replace hr:=bind_some hr;obtain⟨⟨os,k'⟩,hs1,hr⟩:=hr;replace hr:=bind_some hr;obtain⟨⟨rs,kf'⟩,hs2,hr⟩:=hr;cases hr;have ho:∀b∈oT k t,Hj b≠none:=X2 hdj;have hrok:b9 row=true:=Qz htx row (gv hrow);have e4:(τ.set 3 (ba (V.str row)))[3]?=ba (ba (.str row)):=dM (by lia);refine⟨_,oT k t,zq (i:=3) ho e4 (kq hrok),?_⟩;rw[qU]
   have hl5:(τ.set 3 (ba (V.str row))).length=5:=by rw[nR];exact e1
   have ev:∀Q:List D->Prop,Q [.str row]->j4 C [.var 3] (jC (bE (τ.set 3 (ba (V.str row))).length bc) 3 (ba (.sh (.str row)))) Q:=λQ q=>by
    unfold j4;rw[jW,KF (by rw[hl5];decide)];unfold j4;exact q
   refine ev _ ?_;rw[hct]
   have base0:∀H5,jd Hj H5->jd H (minus H5 (oT k t))/\minus H5 (oT k t) c=ba (.lst (ss.map V.str))/\SqL X.K (minus (minus H5 (oT k t)) [c]) l ((jR tx "\n").map V.str):=λH5 s5 =>
    ⟨sd.trans (jb s5),jb s5 _ _ ecj,(jb (jb s5)).seq elj⟩
   unfold QA at hs1;split at hs1
   ·next ew =>
    cases hs1
    refine x8 ew λu5 H5 s5 i5=>?_
    have e5:((τ.set 3 (ba (V.str row))).set 4 (ba u5))[4]?=ba (ba u5):=dM (by rw[hl5];decide);refine⟨_,oT k t,zq (i:=4) (λb hb z=>ho b hb (by cases q:Hj b with|none=>rfl|some o=>rw[s5 _ _ q]at z;cases z)) e5 i5,?_⟩
    have hl6:((τ.set 3 (ba (V.str row))).set 4 (ba u5)).length=5:=by rw[nR];exact hl5
    rw[xG,Jd];unfold j4;rw[jW,KF (by rw[hl6];decide)];unfold j4;intro H6 s6;obtain⟨g1',g2',g3'⟩:=base0 H6 (s5.trans s6);exact⟨t,k,ss,rs,hl6,by rw[bP (by decide),bP (by decide)];exact e2,by rw[bP (by decide),bP (by decide)];exact e3,hdj.mono (s5.trans s6),gk,g1',g2',g3',hso,Nat.le_succ_of_le hsl,hlt,hs2,hfin⟩
   ·next w0 ws ew =>
    split at hs1
    ·next sx kx er =>
     replace hs1:=jZ hs1;obtain⟨gk',hs1⟩:=hs1;cases hs1
     refine x8 ew λu5 H5 s5 i5=>?_
     have e5:((τ.set 3 (ba (V.str row))).set 4 (ba u5))[4]?=ba (ba u5):=dM (by rw[hl5];decide);refine⟨_,oT k t,zq (i:=4) (λb hb z=>ho b hb (by cases q:Hj b with|none=>rfl|some o=>rw[s5 _ _ q]at z;cases z)) e5 i5,?_⟩
     have hl6:((τ.set 3 (ba (V.str row))).set 4 (ba u5)).length=5:=by rw[nR];exact hl5
     rw[xG,Jd];unfold j4;rw[jW,KF (by rw[hl6];decide)];unfold j4;intro H6 s6;have s56:=s5.trans s6;obtain⟨g1',g2',g3'⟩:=base0 H6 s56
     have e2':((τ.set 3 (ba (V.str row))).set 4 (ba u5))[1]?=ba (ba (.ref x)):=by rw[bP (by decide),bP (by decide)];exact e2
     have e3':((τ.set 3 (ba (V.str row))).set 4 (ba u5))[2]?=ba (ba (.ref c)):=by rw[bP (by decide),bP (by decide)];exact e3
     have hpos:decide ((0:Int)<((w0::ws).length:Int))=true:=by rw[decide_eq_true_eq,b6];lia
     rw[if_pos hpos];refine⟨.ref c,e3',.inl ⟨rfl,_,SqL.of (jc _ _ _ _ g2')⟩,?_⟩;refine⟨.ref x,e2',u5,e5,x,t,k,.lst (w0::ws),u5,rfl,hdj.mono s56,Is.mono (jb s6) _ i5,?_⟩;rw[er];intro H7 t7 sd7 hd7 so7;have ec7:=sd7.1 _ _ g2' rfl;refine⟨c,ss.map V.str,.str sx,rfl,rfl,jc _ _ _ _ ec7,?_,t7,k',ss ++ [sx],rs,hl6,e2',e3',hd7.app gk' ec7,gk',λb o hb=>?_,?_,?_,?_,?_,hlt,hs2,?_⟩
     ·rw[bW,dI];have:=dU hsl hjl;lia
     ·have q:=sd7.2 _ _ (λz=>by rw[z,hx]at hb;cases hb) (g1' b o hb)
      have nc:b≠c:=λz=>by rw[z,hc0]at hb;cases hb
      have nO:b ∉ oT k' t7:=λz=>by unfold minus at q;rw[if_pos z]at q;cases q
      rw[jw nO,je nc];exact jc _ _ _ _ q
     ·have nO:c ∉ oT k' t7:=λz=>by unfold minus at ec7;rw[if_pos z]at ec7;cases ec7
      rw[jw nO,jh,nU];rfl
     ·refine qL.sq (S:=minus (minus H6 (oT k t)) [c]) (λb o hb hdo=>?_) g3'
      have nc:b ∉ [c]:=λz=>by unfold minus at hb;rw[if_pos z]at hb;cases hb
      rw[jw nc]at hb ⊢;have q:=sd7.1 _ _ hb hdo
      have nO:b ∉ oT k' t7:=λz=>by unfold minus at q;rw[if_pos z]at q;cases q
      rw[jw nO,je (by simpa using nc)];exact jc _ _ _ _ q
     ·intro s hs;rcases mj.mp hs with hs|hs
      ·exact hso s hs
      ·rw[dr.mp hs];exact so7
     ·rw[dS];exact wX hsl
     ·rw[<- hfin,wF];rfl
    ·cases hs1
   ·cases hs1
 ·rintro τ Hj ⟨t,k,ss,rest,e1,e2,e3,hdj,gk,sd,ecj,elj,hso,hsl,hjl,hr,hfin⟩;rw[bW,jg3]at hr;unfold kC at hr;cases hr;rw[dv]at hfin;subst hfin;refine⟨.ref c,e3,hQ c Hj (sd.trans (jc _ _)) hc0 (jc _ _ _ _ ecj) hso⟩
end
def uR(g:G)(T:List (List S×Nat×Bool)):Nat->Nat->Dk->List D->Option R
 |0,_,_,_=>bc
 |n+1,j,k,ds=>if j=n then (T[n]?).bind λp=>Uo { g with da:=uR g T n } k p.1 (stD p.2.1 p.2.2 ds) else uR g T n j k ds
theorem ZD{g:G}{T:List (List S×Nat×Bool)}{k j:Nat}(h:j<k):∀ {n:Nat},k<=n->uR g T n j=uR g T k j
 |0,hn=>by lia
 |n+1,hn=>by
  by_cases e:k=n+1
  ·rw[e]
  ·funext kd ds;rw[uR,if_neg (by lia),ZD h (by lia)]
def nmR(I:List FnI)(T:List (List S×Nat×Bool)):List (bF×Nat×Bool):=List.zipWith (λi p=>(i.x,i.ps.length,p.2.2)) I T
def jcH(L:List FnI)(cns dns:List bF)(cl:List bF)(I:List FnI)(T:List (List S×Nat×Bool)):Bool:=decide (I.length=T.length)&&(gq I.length).all λn=>(I[n]?).any λi=>(T[n]?).any λp =>
 jV i && !i.al&&decide (i.cls=cl)&&decide (i.ps.length<=i.N.length)&&decide (i.N.length=p.2.1)&&(p.2.2 ||p.1.all λs=>!tbS s)&&yg ⟨(nmR I T).take n,dns,p.2.2⟩ (i.ck L cns) p.1 (jm i.st)
variable{n:Nat}
theorem jf6{L:List FnI}{cns dns cl:List bF}{I:List FnI}{T:List (List S×Nat×Bool)}(h:jcH L cns dns cl I T=bh){i:FnI}(e:I[n]?=ba i):∃p,T[n]?=ba p/\jV i=bh/\i.al=bj/\i.cls=cl/\i.ps.length<=i.N.length/\i.N.length=p.2.1/\(p.2.2=bh\/(p.1.all λs=>!tbS s)=bh)/\yg ⟨(nmR I T).take n,dns,p.2.2⟩ (i.ck L cns) p.1 (jm i.st)=true:=by
 unfold jcH at h;rw[bz,dC]at h
 have hn:n<I.length:=by
  rcases gL n I.length with z|z
  ·exact z
  ·rw[bZ z]at e;cases e
 have h:=h.2 n (p8.mpr hn);rw[e]at h;replace h:=jf (show (T[n]?).any _=bh from h);obtain⟨p,hp,h⟩:=h;simp only[bz,decide_eq_true_eq,gS,gX]at h;obtain⟨⟨⟨⟨⟨⟨h1,h2⟩,h3⟩,h4⟩,h5⟩,h6⟩,h7⟩:=h;exact⟨p,hp,h1,h2,h3,h4,h5,h6,h7⟩
section
variable {P:dg} {w:World} {K:Frag} {mg:bF->Option bq} {base:dR} {C:Cfg} {cns:List bF} {L:List FnI} {lv:Nat} {g:G} {Cd:Addr} {dns cl:List bF} {I:List FnI} {T:List (List S×Nat×Bool)}
theorem V5(S:Std P w K mg base C cns L lv g ⟨[],dns,bj⟩ Cd){lv':Nat}{b:Bool}(hl:lv<=lv')
 (ih:∀f i p,f<n->I[f]?=ba i->T[f]?=ba p->∃fa fd,FnAt K mg i fa fd/\FnOk P w K mg base (CXz P w mg) lv' fa fd i.ps (spR K Cd (uR g T n f) i.ps.length p.2.2)) :
 Std P w K mg base C cns L lv' { g with da:=uR g T n } ⟨(nmR I T).take n,dns,b⟩ Cd:=by
 refine⟨dU S.h2 hl,λm j e=>?_,S.hcn,S.hb,S.hE,S.ev,S.ca,λf x m b e=>?_,S.dds,S.dc,S.st⟩
 ·obtain⟨f,fd,F,A⟩:=S.fns m j e;exact⟨f,fd,F.mono hl,A⟩
 ·have hf:f<n:=by
   rcases gL f n with z|z
   ·exact z
   ·have:((nmR I T).take n)[f]?=none:=bZ (by rw[pz];lia);rw[show ((nmR I T).take n)[f]?=_ from e]at this;cases this
  have e:((nmR I T).take n)[f]?=ba (x,m,b):=e;rw[nA hf]at e;unfold nmR at e;rw[List.getElem?_zipWith_eq_some]at e;obtain⟨i,p,e1,e2,e3⟩:=e;cases e3;obtain⟨fa,fd,A,F⟩:=ih f i p hf e1 e2;exact⟨fa,fd,i.ps,F,A.mg,A.fn.kp,.all A.bd⟩
theorem Jo(S:Std P w K mg base C cns L lv g ⟨[],dns,bj⟩ Cd)(hz:ExcOk K mg cl bj)(hr:jcH L cns dns cl I T=bh)(F:∀i∈I,x6 K mg i):∀n,n<=I.length->∀f i p,f<n->I[f]?=ba i->T[f]?=ba p->∃fa fd,FnAt K mg i fa fd/\FnOk P w K mg base (CXz P w mg) (lv+n) fa fd i.ps (spR K Cd (uR g T n f) i.ps.length p.2.2)
 |0,_=>λf i p h=>by lia
 |n+1,hn=>by
  have ih:=Jo S hz hr F n (by lia);intro f i p hf ei ep;by_cases q:f=n
  ·subst q;obtain⟨p',ep',h1,h2,h3,h4,h5,h6,h7⟩:=jf6 hr ei;rw[ep]at ep';cases ep';obtain⟨fa,fd,A⟩:=F i (gv ei);refine⟨fa,fd,A,?_⟩;have:=jbH (ss:=p.1) h6 (V5 (b:=p.2.2) S (Nat.le_add_right lv f) ih) A h1 (by rw[h2,h3];exact hz) h2 h4 h7
   have e:uR g T (f+1) f=λk ds=>Uo { g with da:=uR g T f } k p.1 (stD i.N.length p.2.2 ds):=by
    funext k ds;rw[uR,if_pos rfl,ep,h5];rfl
   rw[e];exact this
  ·obtain⟨fa,fd,A,G⟩:=ih f i p (by lia) ei ep;refine⟨fa,fd,A,?_⟩;rw[ZD (k:=n) (by lia) (by lia)];exact G.mono (by lia)
end
end Z.DL
set_option maxRecDepth 1000000
namespace Z.M59
open PySem PySem.Spec PySem.Calls PyProof.Rows PySem.W L2 Z Z.EV Z.DL
abbrev v0:Ex:=.var 0
abbrev k0:Ex:=.cst (.int 0)
abbrev v1:Ex:=.var 1
abbrev k1:Ex:=.cst (.int 1)
abbrev v2:Ex:=.var 2
abbrev k2:Ex:=.cst (.int 2)
abbrev v3:Ex:=.var 3
abbrev v4:Ex:=.var 4
abbrev k4:Ex:=.cst (.int 4)
abbrev v5:Ex:=.var 5
abbrev v6:Ex:=.var 6
abbrev v7:Ex:=.var 7
abbrev v8:Ex:=.var 8
abbrev v9:Ex:=.var 9
abbrev ts(x:bF):Ex:=.cst (.str x)
abbrev tt(x y:bF):Ex:=.tup [ts x,ts y]
def Ya:Sm :=
 (.seq (.ret (.compF (.sm .spl v0 (ts " ")) (.cmp .ne v1 (ts "")) v1))
 .nop)
def uy(a:Nat):Sm :=
 (.seq (.set 3 v1)
 (.seq (.whl (.and (.cmp .lt v3 (.bi .len [v0])) (.and (.cmp .lt (.bin .sub v3 v1) v2) (.cmp .inn (.ix v0 v3) (.con a)))) (.seq (.set 3 (.bin .add v3 k1))
  .nop))
 (.seq (.ret v3)
 .nop)))
def XA(a b:Nat):Sm :=
 (.seq (.ret (.and (.cmp .ne (.ix v0 k0) (ts "0")) (.cmp .eq (.call a [v0,k0,(.con b)]) (.bi .len [v0]))))
 .nop)
def UY:Sm :=
 (.seq (.set 1 k1)
 (.seq (.set 2 k2)
 (.seq (.set 3 v0)
 (.seq (.whl (.cmp .gt v3 k0) (.seq (.ite (.cmp .eq (.bin .mod v3 k2) k1) (.seq (.set 1 (.bin .mul v1 v2))
  .nop) .nop)
  (.seq (.set 2 (.bin .mul v2 v2))
  (.seq (.set 3 (.bin .fdiv v3 k2))
  .nop))))
 (.seq (.ret v1)
 .nop)))))
def UL(a b c d:Nat):Sm :=
 (.seq (.ite (.cmp .eq v0 k0) (.seq (.ret (.con a))
  .nop) .nop)
 (.seq (.ite (.cmp .eq (.bin .mul k2 v0) v1) (.seq (.ret (.con b))
  .nop) .nop)
 (.seq (.ret (.ife (.cmp .lt (.bin .mul k2 v0) v1) (.con c) (.con d)))
 .nop)))
def jge(a b:Nat):Sm :=
 (.seq (.set 3 (.bin .sub (.bin .sub (.meth .bitlen v0) (.meth .bitlen v1)) v2))
 (.seq (.ite (.cmp .lt v3 k0) (.seq (.set 0 (.bin .mul v0 (.call a [(.neg v3)])))
  .nop) (.seq (.set 1 (.bin .mul v1 (.call a [v3])))
  .nop))
 (.seq (.ite (.cmp .ge (.bin .fdiv v0 v1) (.call a [v2])) (.seq (.set 1 (.bin .mul v1 k2))
  (.seq (.set 3 (.bin .add v3 k1))
  .nop)) .nop)
 (.seq (.ret (.tup [(.bin .fdiv v0 v1),v3,(.call b [(.bin .mod v0 v1),v1])]))
 .nop))))
def Ym:Sm :=
 (.seq (.whl (.cmp .eq (.bin .mod v0 k2) k0) (.seq (.set 0 (.bin .fdiv v0 k2))
  (.seq (.set 1 (.bin .add v1 k1))
  .nop)))
 (.seq (.ret (.tup [v0,v1]))
 .nop))
def YA(a:Nat):Sm :=
 (.seq (.set 3 (.ife v1 (.bin .add (.ix v0 k0) k1) (.ix v0 k0)))
 (.seq (.ret (.call a [(.ife v2 (.neg v3) v3),(.ix v0 k1)]))
 .nop))
def jdM(a b c d:Nat):Sm :=
 (.seq (.ite (.cmp .eq (.ix v0 k0) k0) (.seq (.ret (.tup [k0,k0]))
  .nop) .nop)
 (.seq (.set 2 (.call a [(.bi .abs [(.ix v0 k0)]),(.ix v0 k1),v1]))
 (.seq (.set 3 (.and (.cmp .eq (.ix v2 k2) (.con c)) (.cmp .eq (.bin .mod (.ix v2 k0) k2) k1)))
 (.seq (.ret (.call b [v2,(.or (.cmp .eq (.ix v2 k2) (.con d)) v3),(.cmp .lt (.ix v0 k0) k0)]))
 .nop))))
def JF:Sm :=
 (.seq (.ret (.ife (.cmp .eq (.slc v0 v1 (.bin .add v1 k1)) v2) (.bin .add v1 k1) v1))
 .nop)
def QH(a b c:Nat):Sm :=
 (.seq (.ite (.cmp .ne (.slc v0 v1 (.bin .add v1 k1)) (ts "e")) (.seq (.ret (.tup [k0,v1]))
  .nop) .nop)
 (.seq (.set 2 (.call a [v0,(.bin .add v1 k1),(ts "-")]))
 (.seq (.set 3 (.call b [v0,v2,(.con c)]))
 (.seq (.ite (.cmp .eq v3 v2) (.seq (.raiseA "BadText" v3)
  .nop) .nop)
 (.seq (.ret (.tup [(.bi .int [(.slc v0 (.bin .add v1 k1) v3)]),v3]))
 .nop)))))
def ug:Sm :=
 (.seq (.set 2 (.bi .abs [v0]))
 (.seq (.set 3 (.bi .abs [v1]))
 (.seq (.whl (.cmp .gt v3 k0) (.seq (.set 4 (.bin .mod v2 v3))
  (.seq (.set 2 v3)
  (.seq (.set 3 v4)
  .nop))))
 (.seq (.ret v2)
 .nop))))
def jbx(a:Nat):Sm :=
 (.seq (.ite (.cmp .eq v1 k0) (.seq .never
  .nop) .nop)
 (.seq (.set 2 (.call a [v0,v1]))
 (.seq (.ite (.cmp .lt v1 k0) (.seq (.set 2 (.neg v2))
  .nop) .nop)
 (.seq (.ret (.tup [(.bin .fdiv v0 v2),(.bin .fdiv v1 v2)]))
 .nop))))
def Q3(a:Nat):Sm :=
 (.seq (.set 2 (.bi .int [(.bin .add (ts "1") (.bin .mul (ts "0") (.bi .abs [v1])))]))
 (.seq (.ret (.ife (.cmp .lt v1 k0) (.call a [v0,v2]) (.call a [(.bin .mul v0 v2),k1])))
 .nop))
def KD(a b c d e:Nat):Sm :=
 (.seq (.set 1 (.call a [v0,k0,(ts "-")]))
 (.seq (.set 2 (.call b [v0,v1,(.con e)]))
 (.seq (.set 3 (.call a [v0,v2,(ts ".")]))
 (.seq (.set 4 (.call b [v0,v3,(.bin .sub (.con e) (.bin .sub v2 v1))]))
 (.seq (.ite (.and (.cmp .eq v1 v2) (.cmp .eq v3 v4)) (.seq (.raiseA "BadText" v4)
  .nop) .nop)
 (.seq (.setX 5 [] c [v0,v4])
 (.seq (.ite (.cmp .lt (.ix v5 k1) (.bi .len [v0])) (.seq (.raiseA "BadText" (.ix v5 k1))
  .nop) .nop)
 (.seq (.set 6 (.bi .int [(.bin .add (.slc v0 (.cst .non) v2) (.slc v0 v3 v4))]))
 (.seq (.ret (.call d [v6,(.bin .sub (.ix v5 k0) (.bin .sub v4 v3))]))
 .nop)))))))))
def X1:Sm :=
 (.seq (.ret (.and (.isi v0 .int) (.not (.isi v0 .bool))))
 .nop)
def yQ(a:Nat):Sm :=
 (.seq (.ite (.or (.not (.isi v0 .tuple)) (.cmp .ne (.bi .len [v0]) k2)) (.seq (.ret (.cst (.bl bj)))
  .nop) .nop)
 (.seq (.ret (.and (.call a [(.ix v0 k0)]) (.call a [(.ix v0 k1)])))
 .nop))
def Xl(a:Nat):Sm :=
 (.seq (.ite (.not (.call a [v0])) (.seq (.ret (.cst (.bl bj)))
  .nop) .nop)
 (.seq (.ite (.cmp .eq v0 (.tup [k0,k0])) (.seq (.ret (.cst (.bl bh)))
  .nop) .nop)
 (.seq (.ret (.and (.cmp .eq (.bin .mod (.ix v0 k0) k2) k1) (.cmp .le (.meth .bitlen (.ix v0 k0)) v1)))
 .nop)))
def KB(a b:Nat):Sm :=
 (.seq (.ite (.not (.call a [v0,v1])) (.seq (.ret (.cst (.bl bj)))
  .nop) .nop)
 (.seq (.ite (.cmp .eq (.ix v0 k0) k0) (.seq (.ret (.cst (.bl bh)))
  .nop) .nop)
 (.seq (.set 2 (.bin .add (.bin .sub (.meth .bitlen (.ix v0 k0)) k1) (.ix v0 k1)))
 (.seq (.ite (.cmp .eq v2 (.con b)) (.seq (.ret (.cmp .eq (.bi .abs [(.ix v0 k0)]) k1))
  .nop) .nop)
 (.seq (.ret (.chain .le .lt (.neg (.con b)) v2 (.con b)))
 .nop)))))
def uQ(a b c:Nat):Sm :=
 (.seq (.setX 2 [(a,[v1])] b [v0])
 (.seq (.ite (.not (.call c [v2,v1])) (.seq (.raise "TooGreat")
  .nop) .nop)
 (.seq (.ret v2)
 .nop)))
def VE:Sm :=
 (.seq (.set 1 k1)
 (.seq (.set 2 (.cst (.int 10)))
 (.seq (.set 3 v0)
 (.seq (.whl (.cmp .gt v3 k0) (.seq (.ite (.cmp .eq (.bin .mod v3 k2) k1) (.seq (.set 1 (.bin .mul v1 v2))
  .nop) .nop)
  (.seq (.set 2 (.bin .mul v2 v2))
  (.seq (.set 3 (.bin .fdiv v3 k2))
  .nop))))
 (.seq (.ret v1)
 .nop)))))
def vU(a:Nat):Sm :=
 (.seq (.ite (.cmp .lt v1 k0) (.seq (.ret (.tup [(.ix v0 k0),(.bin .mul (.ix v0 k1) (.call a [(.neg v1)]))]))
  .nop) .nop)
 (.seq (.ret (.tup [(.bin .mul (.ix v0 k0) (.call a [v1])),(.ix v0 k1)]))
 .nop))
def Ul(a:Nat):Sm :=
 (.seq (.set 2 (.call a [v0,(.neg v1)]))
 (.seq (.ret (.cmp .ge (.ix v2 k0) (.ix v2 k1)))
 .nop))
def JA(a:Nat):Sm :=
 (.seq (.set 1 (.bin .fdiv (.bin .mul (.bin .sub (.meth .bitlen (.ix v0 k0)) (.meth .bitlen (.ix v0 k1))) (.cst (.int 30103))) (.cst (.int 100000))))
 (.seq (.whl (.not (.call a [v0,v1])) (.seq (.set 1 (.bin .sub v1 k1))
  .nop))
 (.seq (.whl (.call a [v0,(.bin .add v1 k1)]) (.seq (.set 1 (.bin .add v1 k1))
  .nop))
 (.seq (.ret v1)
 .nop))))
def ZP:Sm :=
 (.seq (.set 4 (.bi .str [v0]))
 (.seq (.ite (.cmp .gt (.bi .len [v4]) v2) (.seq (.set 1 (.bin .add v1 k1))
  .nop) .nop)
 (.seq (.set 5 (.ife v3 (ts "-") (ts "")))
 (.seq (.set 6 (.ix v4 k0))
 (.seq (.set 7 (.ife (.cmp .gt v2 k1) (ts ".") (ts "")))
 (.seq (.set 8 (.slc v4 k1 v2))
 (.seq (.ret (.fst [v5,v6,v7,v8,(ts "e"),v1]))
 .nop)))))))
def uS(a b c d e:Nat):Sm :=
 (.seq (.set 3 (.call a [v0,(.bin .sub (.bin .sub v2 k1) v1)]))
 (.seq (.set 4 (.bin .fdiv (.ix v3 k0) (.ix v3 k1)))
 (.seq (.set 5 (.call b [(.bin .mod (.ix v3 k0) (.ix v3 k1)),(.ix v3 k1)]))
 (.seq (.ite (.cmp .eq v5 (.con c)) (.seq (.ret (.lst [v4]))
  .nop) .nop)
 (.seq (.ite (.or (.cmp .eq v5 (.con d)) (.and (.cmp .eq v5 (.con e)) (.cmp .eq (.bin .mod v4 k2) k1))) (.seq (.ret (.lst [(.bin .add v4 k1),v4]))
  .nop) .nop)
 (.seq (.ret (.lst [v4,(.bin .add v4 k1)]))
 .nop))))))
def Z9(a b c:Nat):Sm :=
 (.seq (.ite (.cmp .eq (.ix v0 k0) k0) (.seq (.ret (ts "0"))
  .nop) .nop)
 (.seq (.set 2 (.tup [(.bi .abs [(.ix v0 k0)]),(.ix v0 k1)]))
 (.seq (.set 3 (.call a [v2]))
 (.seq (.ret (.call b [(.ix (.call c [v2,v3,v1]) k0),v3,v1,(.cmp .lt (.ix v0 k0) k0)]))
 .nop))))
def jcZ(a:Nat):Sm :=
 (.seq (.ite (.cmp .lt (.ix v0 k1) k0) (.seq (.ret (.tup [(.ix v0 k0),(.call a [(.neg (.ix v0 k1))])]))
  .nop) .nop)
 (.seq (.ret (.tup [(.bin .mul (.ix v0 k0) (.call a [(.ix v0 k1)])),k1]))
 .nop))
def Qj(a b:Nat):Sm :=
 (.seq (.ret (.cmp .eq (.call a [(.call b [(.tup [v0,k1]),v1]),v3]) v2))
 .nop)
def ZO(a b c:Nat):Sm :=
 (.seq (.set 4 (.call a [(.call b [v0]),v2,v3]))
 (.seq (.ret (.compF v4 (.call c [v5,(.bin .add (.bin .sub v2 v3) k1),v0,v1]) v5))
 .nop))
def XY(a b c d:Nat):Sm :=
 (.seq (.ite (.cmp .eq (.ix v0 k0) k0) (.seq (.ret (ts "0"))
  .nop) .nop)
 (.seq (.set 2 (.tup [(.bi .abs [(.ix v0 k0)]),(.ix v0 k1)]))
 (.seq (.set 3 (.call a [(.call b [v2])]))
 (.seq (.set 4 k1)
 (.seq (.set 5 (.call c [v2,v1,v3,v4]))
 (.seq (.whl (.cmp .eq (.bi .len [v5]) k0) (.seq (.set 4 (.bin .add v4 k1))
  (.seq (.set 5 (.call c [v2,v1,v3,v4]))
  .nop)))
 (.seq (.ret (.call d [(.ix v5 k0),v3,v4,(.cmp .lt (.ix v0 k0) k0)]))
 .nop)))))))
def VG(a:Nat):Sm :=
 (.seq (.set 2 (.bi .min [(.ix v0 k1),(.ix v1 k1)]))
 (.seq (.set 3 (.bin .add (.bin .mul (.ix v0 k0) (.call a [(.bin .sub (.ix v0 k1) v2)])) (.bin .mul (.ix v1 k0) (.call a [(.bin .sub (.ix v1 k1) v2)]))))
 (.seq (.ret (.tup [v3,v2]))
 .nop)))
def Yo(a:Nat):Sm :=
 (.seq (.ite (.cmp .eq (.ix v0 k0) k0) (.seq (.ret (.tup [k0,k0]))
  .nop) .nop)
 (.seq (.ret (.call a [(.ix v0 k0),(.ix v0 k1)]))
 .nop))
def JG(a b c:Nat):Sm :=
 (.seq (.set 1 (.tup [k0,k0]))
 (.seq (.forE 2 v0 (.seq (.set 1 (.call a [v1,v2]))
  .nop))
 (.seq (.ret (.call b [(.call c [v1])]))
 .nop)))
def QV(a:Nat):Sm :=
 (.seq (.ret (.call a [v0]))
 .nop)
def X7(a b:Nat):Sm :=
 (.seq (.ret (.call a [(.call b [v0]),v1]))
 .nop)
def jei(a:Nat):Sm :=
 (.seq (.ret (.call a [(.bin .mul (.ix v0 k0) (.ix v1 k1)),(.bin .mul (.ix v0 k1) (.ix v1 k0))]))
 .nop)
def KM(a b:Nat):Sm :=
 (.seq (.ret (.call a [(.call b [v0]),(.tup [(.bi .len [v0]),k1])]))
 .nop)
def Q0(a b:Nat):Sm :=
 (.seq (.ret (.call a [(.call b [v0]),v1]))
 .nop)
def ZN:Sm :=
 (.seq (.ret (.tup [(.bin .mul (.ix v0 k0) (.ix v1 k0)),(.bin .add (.ix v0 k1) (.ix v1 k1))]))
 .nop)
def Qn(a b:Nat):Sm :=
 (.seq (.ret (.call a [(.compZ v0 v1 (.call b [(.ix v2 k0),(.ix v2 k1)]))]))
 .nop)
def jci(a:Nat):Sm :=
 (.seq (.ret (.call a [(.bin .sub (.bin .mul (.ix v0 k0) (.ix v1 k1)) (.bin .mul (.ix v1 k0) (.ix v0 k1))),(.bin .mul (.ix v0 k1) (.ix v1 k1))]))
 .nop)
def jcG(a:Nat):Sm :=
 (.seq (.ret (.call a [(.bin .mul (.ix v0 k0) (.ix v1 k0)),(.bin .mul (.ix v0 k1) (.ix v1 k1))]))
 .nop)
def vk(a b c d e:Nat):Sm :=
 (.seq (.set 1 (.bi .len [v0]))
 (.seq (.ite (.cmp .eq v1 k1) (.seq (.ret (.tup [k0,k1]))
  .nop) .nop)
 (.seq (.set 2 (.call a [v0]))
 (.seq (.set 3 (.call b [v0,v0]))
 (.seq (.set 4 (.call c [(.call d [(.tup [v1,k1]),v3]),(.call d [v2,v2])]))
 (.seq (.ret (.call e [v4,(.tup [(.bin .mul v1 (.bin .sub v1 k1)),k1])]))
 .nop))))))
def JD(a b:Nat):Sm :=
 (.seq (.ret (.call a [(.call b [v0]),v1]))
 .nop)
def KL:Sm :=
 (.seq (.ret (.bin .fdiv (.bin .add (.bin .sub (.bin .add (.bin .mul k2 v1) k4) (.meth .bitlen (.ix v0 k0))) (.meth .bitlen (.ix v0 k1))) k2))
 .nop)
def K9(a:Nat):Sm :=
 (.seq (.set 1 (.call a [(.bin .fdiv (.bin .add (.meth .bitlen v0) k1) k2)]))
 (.seq (.set 2 (.bin .fdiv (.bin .add v1 (.bin .fdiv v0 v1)) k2))
 (.seq (.whl (.cmp .lt v2 v1) (.seq (.set 1 v2)
  (.seq (.set 2 (.bin .fdiv (.bin .add v1 (.bin .fdiv v0 v1)) k2))
  .nop)))
 (.seq (.ret v1)
 .nop))))
def ZK:Sm :=
 (.seq (.ite (.cmp .eq (.ix v0 k0) k0) (.seq (.ret (.tup [k0,k0]))
  .nop) .nop)
 (.seq (.ret (.tup [(.ix v0 k0),(.bin .add (.ix v0 k1) v1)]))
 .nop))
def Z8(a b:Nat):Sm :=
 (.seq (.ret (.call a [(.call b [(.tup [(.ix v0 k0),k1]),v1]),(.ix v0 k1)]))
 .nop)
def jdw(a b c d:Nat):Sm :=
 (.seq (.ite (.cmp .lt (.ix v0 k0) k0) (.seq .never
  .nop) .nop)
 (.seq (.ite (.cmp .eq (.ix v0 k0) k0) (.seq (.ret (.tup [k0,k0]))
  .nop) .nop)
 (.seq (.set 2 (.call a [v0,v1]))
 (.seq (.set 3 (.bin .mul (.ix v0 k0) (.call b [(.bi .max [(.bin .mul k2 v2),k0])])))
 (.seq (.set 4 (.bin .mul (.ix v0 k1) (.call b [(.bi .max [(.bin .mul (.neg k2) v2),k0])])))
 (.seq (.set 5 (.call c [(.bin .fdiv v3 v4)]))
 (.seq (.set 6 (.ife (.cmp .eq (.bin .mul (.bin .mul v5 v5) v4) v3) k0 k1))
 (.seq (.ret (.call d [(.tup [(.bin .add (.bin .mul k2 v5) v6),(.bin .sub (.neg v2) k1)]),v1]))
 .nop))))))))
def uq(a b:Nat):Sm :=
 (.seq (.ret (.call a [(.call b [v0]),v1]))
 .nop)
def XZ(a b:Nat):Sm :=
 (.seq (.ret (.call a [(.call b [v0,v1]),v2]))
 .nop)
def jcn(a b:Nat):Sm :=
 (.seq (.ret (.call a [(.call b [v0,v1]),v2]))
 .nop)
def Jl:Sm :=
 (.seq (.ret (.tup [(.bi .abs [(.ix v0 k0)]),(.ix v0 k1)]))
 .nop)
def uP(a b c:Nat):Sm :=
 (.seq (.set 3 (.tup [k0,k0]))
 (.seq (.set 4 (.tup [k0,k0]))
 (.seq (.forE 5 v0 (.seq (.set 3 (.call a [v3,v5,v2]))
  (.seq (.set 4 (.call a [v4,(.call b [v5]),v2]))
  .nop)))
 (.seq (.ret (.tup [v3,(.call c [(.tup [(.bin .mul v1 (.ix v4 k0)),(.bin .sub (.bin .add (.ix v4 k1) k1) v2)]),v2])]))
 .nop))))
def QL(a:Nat):Sm :=
 (.seq (.ret (.call a [v0,(.bi .len [v0]),v1]))
 .nop)
def XM(a b c d e:Nat):Sm :=
 (.seq (.set 2 (.tup [(.bi .len [v0]),k1]))
 (.seq (.set 3 (.call a [v0]))
 (.seq (.set 4 (.call a [v1]))
 (.seq (.set 5 (.call b [v0,v0]))
 (.seq (.set 6 (.call b [v0,v1]))
 (.seq (.set 7 (.call c [(.call d [v2,v5]),(.call d [v3,v3])]))
 (.seq (.ite (.cmp .eq (.ix v7 k0) k0) (.seq (.raise "NoLine")
  .nop) .nop)
 (.seq (.set 8 (.call c [(.call d [v2,v6]),(.call d [v3,v4])]))
 (.seq (.set 9 (.call c [(.call d [v4,v5]),(.call d [v3,v6])]))
 (.seq (.ret (.tup [(.call e [v8,v7]),(.call e [v9,v7])]))
 .nop))))))))))
def U6:Sm :=
 (.seq (.ret (.compE v0 (.ix v2 v1)))
 .nop)
def jaB(a:Nat):Sm :=
 (.seq (.ret (.compR [(.bi .len [(.ix v0 k0)])] (.call a [v0,v1])))
 .nop)
def Yg(a:Nat):Sm :=
 (.seq (.ret (.compE v0 (.bin .mul (.ix v2 k0) (.call a [(.bin .sub (.ix v2 k1) v1)]))))
 .nop)
def uV(a:Nat):Sm :=
 (.seq (.ret (.compE v0 (.call a [v2,v1])))
 .nop)
def JE:Sm :=
 (.seq (.ret (.bi .min [(.compE v0 (.ix v1 k1))]))
 .nop)
def K3:Sm :=
 (.seq (.new 1)
 (.seq (.forE 2 v0 (.seq (.ext 1 v2)
  .nop))
 (.seq (.shr 1)
 (.seq (.ret v1)
 .nop))))
def Jv(a b c d:Nat):Sm :=
 (.seq (.set 3 (.compE v0 (.bin .add (.bin .add (.lst [(.con d)]) (.compE v1 (.ix v4 v5))) (.lst [(.ix v4 v2)]))))
 (.seq (.ret (.call a [v3,(.call b [(.call c [v3])])]))
 .nop))
def QW:Sm :=
 (.seq (.ret (.bi .sum [(.compZ v0 v1 (.bin .mul (.ix v2 k0) (.ix v2 k1)))]))
 .nop)
def Kv(a:Nat):Sm :=
 (.seq (.ret (.compE v1 (.call a [v0,v2])))
 .nop)
def yy:Sm :=
 (.seq (.ite (.cmp .eq (.bi .len [v0]) k1) (.seq (.ret (.ix (.ix v0 k0) k0))
  .nop) .nop)
 (.seq (.set 1 k0)
 (.seq (.set 2 k1)
 (.seq .never
 (.seq (.ret v1)
 .nop)))))
def UQ:Sm :=
 (.seq (.ret (.compE v0 (.bin .add (.slc v2 (.cst .non) v1) (.slc v2 (.bin .add v1 k1) (.cst .non)))))
 .nop)
def yA(a b:Nat):Sm :=
 (.seq (.ite (.cmp .eq (.bi .len [v0]) k1) (.seq (.ret (.ix (.ix v0 k0) k0))
  .nop) .nop)
 (.seq (.set 1 k0)
 (.seq (.set 2 k1)
 (.seq (.forN 3 (.ix v0 k0) (.seq (.set 1 (.bin .add v1 (.bin .mul (.bin .mul v2 (.ix v3 k1)) (.call a [(.call b [(.slc v0 k1 (.cst .non)),(.ix v3 k0)])]))))
  (.seq (.set 2 (.neg v2))
  .nop)))
 (.seq (.ret v1)
 .nop)))))
def yE(a b:Nat):Sm :=
 (.seq (.ite (.cmp .eq (.bi .len [v0]) k1) (.seq (.ret (.ix (.ix v0 k0) k0))
  .nop) .nop)
 (.seq (.set 1 k0)
 (.seq (.set 2 k1)
 (.seq (.forN 3 (.ix v0 k0) (.seq (.set 1 (.bin .add v1 (.bin .mul (.bin .mul v2 (.ix v3 k1)) (.call a [(.call b [(.slc v0 k1 (.cst .non)),(.ix v3 k0)])]))))
  (.seq (.set 2 (.neg v2))
  .nop)))
 (.seq (.ret v1)
 .nop)))))
def ym(a b:Nat):Sm :=
 (.seq (.ite (.cmp .eq (.bi .len [v0]) k1) (.seq (.ret (.ix (.ix v0 k0) k0))
  .nop) .nop)
 (.seq (.set 1 k0)
 (.seq (.set 2 k1)
 (.seq (.forN 3 (.ix v0 k0) (.seq (.set 1 (.bin .add v1 (.bin .mul (.bin .mul v2 (.ix v3 k1)) (.call a [(.call b [(.slc v0 k1 (.cst .non)),(.ix v3 k0)])]))))
  (.seq (.set 2 (.neg v2))
  .nop)))
 (.seq (.ret v1)
 .nop)))))
def Yr:Sm :=
 (.seq (.ret (.bin .add (.ix v0 v1) (.compR [(.bi .len [v0])] (.ife (.cmp .eq v2 v1) k1 k0))))
 .nop)
def zg:Sm :=
 (.seq (.set 1 k0)
 (.seq (.whl (.cmp .eq (.ix v0 v1) k0) (.seq (.set 1 (.bin .add v1 k1))
  .nop))
 (.seq (.ret v1)
 .nop)))
def Uj(a:Nat):Sm :=
 (.seq (.set 2 (.call a [v1]))
 (.seq (.ret (.compZ v0 v1 (.bin .sub (.bin .mul (.ix v1 v2) (.ix v3 k0)) (.bin .mul (.ix v0 v2) (.ix v3 k1)))))
 .nop))
def zX(a b:Nat):Sm :=
 (.seq (.set 1 k0)
 (.seq (.forE 2 v0 (.seq (.set 1 (.call a [v1,v2]))
  .nop))
 (.seq (.ite (.cmp .lt (.ix v0 (.call b [v0])) k0) (.seq (.set 1 (.neg v1))
  .nop) .nop)
 (.seq (.ret (.compE v0 (.bin .fdiv v3 v1)))
 .nop))))
def yS(a b c d:Nat):Sm :=
 (.seq (.new 1)
 (.seq (.forR 2 [(.bi .len [v0])] (.seq (.set 3 (.call a [v0,v2]))
  (.seq (.forU 4 1 3 (.call b [v3,v4]))
  (.seq (.ite (.cmp .ge (.call c [v3]) (.bi .len [v0])) (.seq (.ret (.call d [(.slc v3 (.bi .len [v0]) (.cst .non))]))
   .nop) .nop)
  (.seq (.app 1 v3)
  .nop)))))
 .nop))
def jah:Sm :=
 (.seq (.ret (.compZ v0 v2 (.bin .add (.bin .add (.slc (.ix v3 k0) (.cst .non) v1) (.lst [(.ix v3 k1)])) (.slc (.ix v3 k0) (.bin .add v1 k1) (.cst .non)))))
 .nop)
def yP(a b c d:Nat):Sm :=
 (.seq (.set 2 (.call a [v0]))
 (.seq (.ite (.cmp .eq v2 k0) (.seq (.raiseA "Dependent" (.call b [v0]))
  .nop) .nop)
 (.seq (.ret (.compR [(.bi .len [v0])] (.call c [(.call a [(.call d [v0,v3,v1])]),v2])))
 .nop)))
def Ui(a b c d:Nat):Sm :=
 (.seq (.set 3 (.call a [(.call b [v0,v1,v2])]))
 (.seq (.set 4 (.compE (.slc v3 (.cst .non) (.neg k1)) (.call c [v5,v3])))
 (.seq (.retX [] d [(.compE v4 (.slc v5 (.cst .non) (.neg k1))),(.compE v4 (.ix v5 (.neg k1)))])
 .nop)))
def jaz(a b:Nat):Sm :=
 (.seq (.set 1 (.call a [v0,(.call b [v0])]))
 (.seq (.set 2 (.bi .srt [(.compN v1 (.tup [(.ix v3 k1),(.ix v3 k0)]))]))
 (.seq (.ret (.compE v2 (.ix v3 k1)))
 .nop)))
def Vy(a b c:Nat):Sm :=
 (.seq (.set 2 (.call a [v0]))
 (.seq (.set 3 (.ix v0 (.ix v2 (.bin .fdiv (.bin .sub (.bi .len [v0]) k1) k2))))
 (.seq (.set 4 (.ix v0 (.ix v2 (.bin .fdiv (.bi .len [v0]) k2))))
 (.seq (.set 5 (.call b [v3,v4]))
 (.seq (.ret (.call c [(.tup [(.ix v5 k0),(.bin .sub (.ix v5 k1) k1)]),v1]))
 .nop)))))
def Ut(a b:Nat):Sm :=
 (.seq (.ret (.compE (.call a [(.call b [v0,v1])]) (.bi .list [(.ix v0 v2)])))
 .nop)
def Jz(a b c:Nat):Sm :=
 (.seq (.set 1 (.call a [v0]))
 (.seq (.set 2 (.call b [v1,(.call c [v1])]))
 (.seq (.ret (.bi .dvm [(.lix v2 (.bi .min [v2])),(.bi .len [(.ix v0 k0)])]))
 .nop)))
def XI(a b c:Nat):Sm :=
 (.seq (.ret (.and (.call a [v0]) (.chain .le .le (.con b) v0 (.con c))))
 .nop)
def uY:Sm :=
 (.seq (.set 0 (.lst [(tt "sum 1" "NoRow"),(tt "least" "NoRow"),(tt "drop 1" "NoRow"),(tt "order 1" "NoRow")]))
 (.seq (.set 0 (.bin .add v0 (.lst [(tt "line 1 1" "NoRow"),(tt "fit 1 1" "NoRow"),(tt "row x" "BadText")])))
 (.seq (.set 0 (.bin .add v0 (.lst [(tt "show 1" "NoRow"),(tt "quick 9" "NoRow"),(tt "row" "BadRow"),(tt "dot 7 8" "NoRow")])))
 (.seq (.set 0 (.bin .add v0 (.lst [(tt "row 1e19" "TooGreat"),(tt "row 1 2 3 4 5 6 7" "BadRow")])))
 (.seq (.set 0 (.bin .add v0 (.lst [(tt "row 1e-19 x" "TooGreat"),(tt "row x 1e30" "BadText"),(tt "width 65" "BadRow")])))
 (.seq (.set 0 (.bin .add v0 (.lst [(tt "sum" "BadRow"),(tt "sum x" "BadRow"),(tt "fit 1 2 2" "BadRow"),(tt "least 1" "BadRow")])))
 (.seq (.ret (.bin .add v0 (.lst [(tt "digits 0" "BadRow"),(tt "" ""),(tt "brief ." "BadText"),(tt "order 0" "BadRow")])))
 .nop)))))))
def y9:Sm :=
 (.seq (.set 0 (.lst [(tt "sum 3" "NoColumn"),(tt "sum 0" "BadRow"),(tt "sum" "BadRow"),(tt "sum 1 2" "BadRow")]))
 (.seq (.set 0 (.bin .add v0 (.lst [(tt "sum x" "BadRow"),(tt "sum 01" "BadRow"),(tt "sum 1000" "BadRow"),(tt "row" "BadRow")])))
 (.seq (.set 0 (.bin .add v0 (.lst [(tt "row 1 2 3" "Unfit"),(tt "row 1" "Unfit"),(tt "row 1 x" "BadText")])))
 (.seq (.set 0 (.bin .add v0 (.lst [(tt "row x 1e30" "BadText"),(tt "row 1e30 x" "TooGreat"),(tt "row x" "BadText")])))
 (.seq (.set 0 (.bin .add v0 (.lst [(tt "row 1 2 3 4 5 6 7" "BadRow"),(tt "brief" "BadRow"),(tt "brief 1 2" "BadRow")])))
 (.seq (.set 0 (.bin .add v0 (.lst [(tt "brief 1e40" "TooGreat"),(tt "brief x" "BadText"),(tt "drop 3" "NoRow")])))
 (.seq (.set 0 (.bin .add v0 (.lst [(tt "show 9" "NoRow"),(tt "order 3" "NoColumn"),(tt "dot 1" "BadRow")])))
 (.seq (.set 0 (.bin .add v0 (.lst [(tt "dot 1 3" "NoColumn"),(tt "line 3 1" "NoColumn"),(tt "fit 1" "BadRow")])))
 (.seq (.set 0 (.bin .add v0 (.lst [(tt "fit 1 2 2" "BadRow"),(tt "fit 1 2 1 3 4" "BadRow"),(tt "width 7" "BadRow")])))
 (.seq (.set 0 (.bin .add v0 (.lst [(tt "width 65" "BadRow"),(tt "digits 41" "BadRow"),(tt "digits 0" "BadRow")])))
 (.seq (.set 0 (.bin .add v0 (.lst [(tt "least 1" "BadRow"),(tt "leap 1" "BadRow"),(tt "Sum 1" "BadRow")])))
 (.seq (.set 0 (.bin .add v0 (.lst [(tt "sum 1.0" "BadRow"),(tt "sum -1" "BadRow"),(tt "fit 1 1 2" "Dependent 1 3 -2")])))
 (.seq (.set 0 (.bin .add v0 (.lst [(tt "fit 3 1" "NoColumn"),(tt "fit 1 3" "NoColumn"),(tt "line 1" "BadRow")])))
 (.seq (.set 0 (.bin .add v0 (.lst [(tt "line 1 2 1" "BadRow"),(tt "quick 3" "NoColumn"),(tt "middle 999" "NoColumn")])))
 (.seq (.set 0 (.bin .add v0 (.lst [(tt "root" "BadRow"),(tt "row 1e-19 2" "TooGreat"),(tt "show 0" "BadRow")])))
 (.seq (.ret (.bin .add v0 (.lst [(tt "digits 1e1" "BadRow"),(tt "drop 003" "BadRow")])))
 .nop))))))))))))))))
def uO:Sm :=
 (.seq (.set 0 (.lst [(tt "sum 1" "4.0000000000000000e0"),(tt "mean 2" "3.5000000000000000e0")]))
 (.seq (.set 0 (.bin .add v0 (.lst [(tt "least" "1 1"),(tt "show 2" "3e0 5e0"),(tt "dot 1 2" "1.7000000000000000e1")])))
 (.seq (.set 0 (.bin .add v0 (.lst [(tt "line 1 2" "1.5000000000000000e0 5.0000000000000000e-1")])))
 (.seq (.set 0 (.bin .add v0 (.lst [(tt "line 1 1" "1.0000000000000000e0 0")])))
 (.seq (.set 0 (.bin .add v0 (.lst [(tt "fit 2 1" "5.0000000000000000e-1 1.5000000000000000e0")])))
 (.seq (.set 0 (.bin .add v0 (.lst [(tt "spread 1" "2.0000000000000000e0"),(tt "root 1" "1.4142135623730951e0")])))
 (.seq (.set 0 (.bin .add v0 (.lst [(tt "middle 1" "2.0000000000000000e0")])))
 (.seq (.set 0 (.bin .add v0 (.lst [(tt "quick 1" "4.0000000000000000e0 1.7763568394002505e-15")])))
 (.seq (.set 0 (.bin .add v0 (.lst [(tt "brief -2.50" "-2.5e0"),(tt "  " ""),(tt "order 1" "ok"),(tt "digits 17" "ok")])))
 (.seq (.ret (.bin .add v0 (.lst [(tt "mean  1 " "2.0000000000000000e0"),(tt "show 1" "1e0 2e0")])))
 .nop))))))))))
def L:List (Sm×Nat):=[(Ya,1),
 (uy 7,4),
 (XA 1 10,1),
 (UY,4),
 (UL 3 5 4 6,2),
 (jge 3 4,4),
 (Ym,2),
 (YA 6,4),
 (jdM 5 7 5 6,4),
 (JF,3),
 (QH 9 1 9,4),
 (ug,5),
 (jbx 11,3),
 (Q3 12,3),
 (KD 9 1 10 13 8,7),
 (X1,1),
 (yQ 15,1),
 (Xl 16,2),
 (KB 17 2,3),
 (uQ 8 14 18,3),
 (VE,4),
 (vU 20,2),
 (Ul 21,3),
 (JA 22,2),
 (ZP,9),
 (uS 21 4 3 6 5,6),
 (Z9 23 24 25,4),
 (jcZ 3,1),
 (Qj 8 21,4),
 (ZO 25 27 28,5),
 (XY 23 27 29 24,6),
 (VG 3,4),
 (Yo 6,1),
 (JG 31 27 32,3),
 (QV 33,1),
 (X7 8 34,2),
 (jei 12,2),
 (KM 36 34,1),
 (Q0 8 37,2),
 (ZN,2),
 (Qn 33 39,2),
 (jci 12,2),
 (jcG 12,2),
 (vk 34 40 41 42 36,5),
 (JD 8 43,2),
 (KL,2),
 (K9 3,3),
 (ZK,2),
 (Z8 47 8,2),
 (jdw 45 3 46 48,7),
 (uq 49 43,2),
 (XZ 8 40,3),
 (jcn 48 31,3),
 (Jl,1),
 (uP 52 53 48,6),
 (QL 54,2),
 (XM 34 40 41 42 36,10),
 (U6,2),
 (jaB 57,1),
 (Yg 3,2),
 (uV 59,2),
 (JE,1),
 (K3,3),
 (Jv 60 61 62 11,4),
 (QW,2),
 (Kv 64,2),
 (yy,4),
 (UQ,2),
 (yA 66 67,4),
 (yE 68 67,4),
 (ym 69 67,4),
 (Yr,2),
 (zg,2),
 (Uj 72,3),
 (zX 11 72,3),
 (yS 71 73 72 74,5),
 (jah,3),
 (yP 70 75 12 76,3),
 (Ui 58 63 65 77,5),
 (jaz 59 61,3),
 (Vy 79 31 48,6),
 (Ut 79 57,2),
 (Jz 62 59 61,3),
 (XI 15 0 1,1),
 (uY,1),
 (y9,1),
 (uO,1)]
def cn:Nat->D
 |0=>.int 8
 |1=>.int 64
 |2=>.int 60
 |3=>.int 0
 |4=>.int 1
 |5=>.int 2
 |6=>.int 3
 |7=>.str "0123456789"
 |8=>.int 40
 |9=>.int 3
 |10=>.int 3
 |11=>.tup [.int 1,.int 0]
 |12=>.int 40
 |13=>.tup [.str "row",.str "brief"]
 |14=>.str "ok"
 |15=>.int 60
 |_=>.non
def z(i:Nat):Bool:=[bj,bj,bj,bj,bj,bj,bj,bj,bj,bj,bh,bj,bj,bj,bh,bj,bj,bj,bj,bh,bj,bj,bj,bj,bj,bj,bj,bj,bj,bj,bj,bj,bj,bj,bj,bj,bj,bj,bj,bj,bj,bj,bj,bj,bj,bj,bj,bj,bj,bj,bj,bj,bj,bj,bj,bj,bh,bj,bj,bj,bj,bj,bj,bj,bj,bj,bj,bj,bj,bj,bj,bj,bj,bj,bj,bj,bj,bh,bh,bj,bj,bj,bj,bj,bj,bj,bj].getD i bj
def run:Nat->List D->Option R:=tab L z cn 2000 87
def cl:List bF:=["NoRatio","NoRoot","Unfit","Dependent","NoLine","BadText","TooGreat","BadRow","NoRow","NoColumn","TooMany"]
def top(i:Nat):d9:=PySem.Challenge.pw_trueline_k59_desk_refusals.main.body.getD i (.Pass ⟨0,0,0,0⟩)
def mk(n:Nat)(x:bF)(p:Nat)(N ps:List bF):FnI:=⟨x,top p,N,ps,(L.getD n (.nop,0)).1,ctE run z n,bj,z n,cl,bj,bj⟩
def mkd(x:bF)(p:Nat)(N ps:List bF):FnI:=⟨x,top p,N,ps,.nop,ctE run z 0,bj,bh,cl,bj,bj⟩
def fi_words_of:FnI:=mk 0 "words_of" 54 ["row"] ["row"]
def fi_behind_figures:FnI:=mk 1 "behind_figures" 44 ["text","at","most","end"] ["text","at","most"]
def fi_is_count:FnI:=mk 2 "is_count" 55 ["word"] ["word"]
def fi_two_to:FnI:=mk 3 "two_to" 29 ["count","told","factor","left"] ["count"]
def fi_left_of:FnI:=mk 4 "left_of" 35 ["rest","under"] ["rest","under"]
def fi_cut:FnI:=mk 5 "cut" 36 ["top","under","width","power"] ["top","under","width"]
def fi_odd_form:FnI:=mk 6 "odd_form" 34 ["whole","power"] ["whole","power"]
def fi_from_cut:FnI:=mk 7 "from_cut" 37 ["part","goes_up","is_below","size"] ["part","goes_up","is_below"]
def fi_near:FnI:=mk 8 "near" 38 ["given","width","part","is_odd_midst"] ["given","width"]
def fi_behind_sign:FnI:=mk 9 "behind_sign" 43 ["text","at","sign"] ["text","at","sign"]
def fi_power_atX:FnI:=mk 10 "power_at" 45 ["text","at","first","end"] ["text","at"]
def fi_common_divisor:FnI:=mk 11 "common_divisor" 16 ["one","other","greater","lesser","left"] ["one","other"]
def fi_ratio:FnI:=mk 12 "ratio" 17 ["top","under","divisor"] ["top","under"]
def fi_times_ten:FnI:=mk 13 "times_ten" 46 ["whole","power","ten"] ["whole","power"]
def fi_read_textX:FnI:=mk 14 "read_text" 47 ["text","start","point","behind","end","power","whole"] ["text"]
def fi_is_whole:FnI:=mk 15 "is_whole" 14 ["thing"] ["thing"]
def fi_is_pair_of_wholes:FnI:=mk 16 "is_pair_of_wholes" 15 ["thing"] ["thing"]
def fi_is_number:FnI:=mk 17 "is_number" 31 ["thing","width"] ["thing","width"]
def fi_is_measure:FnI:=mk 18 "is_measure" 32 ["thing","width","first"] ["thing","width"]
def fi_read_measureX:FnI:=mk 19 "read_measure" 48 ["text","width","number"] ["text","width"]
def fi_ten_to:FnI:=mk 20 "ten_to" 115 ["count","told","factor","left"] ["count"]
def fi_times_ten_to:FnI:=mk 21 "times_ten_to" 116 ["pair","power"] ["pair","power"]
def fi_reaches:FnI:=mk 22 "reaches" 117 ["size","power","moved"] ["size","power"]
def fi_first_power:FnI:=mk 23 "first_power" 118 ["size","power"] ["size"]
def fi_spelled:FnI:=mk 24 "spelled" 120 ["whole","power","digits","is_below","figures","sign","first","point","others"] ["whole","power","digits","is_below"]
def fi_wholes_around:FnI:=mk 25 "wholes_around" 119 ["size","power","digits","moved","whole","left"] ["size","power","digits"]
def fi_written:FnI:=mk 26 "written" 121 ["given","digits","size","power"] ["given","digits"]
def fi_value:FnI:=mk 27 "value" 33 ["number"] ["number"]
def fi_is_read_as:FnI:=mk 28 "is_read_as" 122 ["whole","power","number","width"] ["whole","power","number","width"]
def fi_read_as:FnI:=mk 29 "read_as" 123 ["number","width","power","digits","wholes"] ["number","width","power","digits"]
def fi_briefest:FnI:=mk 30 "briefest" 124 ["number","width","size","power","digits","wholes"] ["number","width"]
def fi_joined:FnI:=mk 31 "joined" 63 ["one","other","power","whole"] ["one","other"]
def fi_one_form:FnI:=mk 32 "one_form" 65 ["pair"] ["pair"]
def fi_exact_total:FnI:=mk 33 "exact_total" 71 ["pairs","total","pair"] ["pairs"]
def fi_exact_sum:FnI:=mk 34 "exact_sum" 72 ["row"] ["row"]
def fi_true_sum:FnI:=mk 35 "true_sum" 76 ["row","width"] ["row","width"]
def fi_over:FnI:=mk 36 "over" 20 ["one","other"] ["one","other"]
def fi_exact_mean:FnI:=mk 37 "exact_mean" 74 ["row"] ["row"]
def fi_true_mean:FnI:=mk 38 "true_mean" 78 ["row","width"] ["row","width"]
def fi_crossed:FnI:=mk 39 "crossed" 64 ["one","other"] ["one","other"]
def fi_exact_dot:FnI:=mk 40 "exact_dot" 73 ["row","other"] ["row","other"]
def fi_minus:FnI:=mk 41 "minus" 18 ["one","other"] ["one","other"]
def fi_times:FnI:=mk 42 "times" 19 ["one","other"] ["one","other"]
def fi_exact_spread:FnI:=mk 43 "exact_spread" 75 ["row","count","whole","squares","top"] ["row"]
def fi_true_spread:FnI:=mk 44 "true_spread" 79 ["row","width"] ["row","width"]
def fi_root_shift:FnI:=mk 45 "root_shift" 68 ["given","width"] ["given","width"]
def fi_whole_root:FnI:=mk 46 "whole_root" 67 ["square","told","less"] ["square"]
def fi_shifted:FnI:=mk 47 "shifted" 61 ["number","more"] ["number","more"]
def fi_rounded:FnI:=mk 48 "rounded" 62 ["pair","width"] ["pair","width"]
def fi_root:FnI:=mk 49 "root" 69 ["given","width","shift","top","under","whole","half"] ["given","width"]
def fi_true_deviation:FnI:=mk 50 "true_deviation" 80 ["row","width"] ["row","width"]
def fi_true_dot:FnI:=mk 51 "true_dot" 77 ["row","other","width"] ["row","other","width"]
def fi_added:FnI:=mk 52 "added" 66 ["one","other","width"] ["one","other","width"]
def fi_without_sign:FnI:=mk 53 "without_sign" 111 ["number"] ["number"]
def fi_sum_and_bound:FnI:=mk 54 "sum_and_bound" 112 ["numbers","count","width","whole","sizes","number"] ["numbers","count","width"]
def fi_quick_sum:FnI:=mk 55 "quick_sum" 113 ["row","width"] ["row","width"]
def fi_line_ofX:FnI:=mk 56 "line_of" 105 ["row","other","count","whole","whole_other","squares","products","under","slope","offset"] ["row","other"]
def fi_column:FnI:=mk 57 "column" 83 ["table","place"] ["table","place"]
def fi_turned:FnI:=mk 58 "turned" 84 ["table"] ["table"]
def fi_in_steps:FnI:=mk 59 "in_steps" 87 ["numbers","power"] ["numbers","power"]
def fi_rows_in_steps:FnI:=mk 60 "rows_in_steps" 88 ["rows","power"] ["rows","power"]
def fi_least_power:FnI:=mk 61 "least_power" 86 ["numbers"] ["numbers"]
def fi_one_by_one:FnI:=mk 62 "one_by_one" 85 ["rows","told","row"] ["rows"]
def fi_rows_of_fit:FnI:=mk 63 "rows_of_fit" 106 ["table","places","target","rows"] ["table","places","target"]
def fi_whole_dot:FnI:=mk 64 "whole_dot" 107 ["row","other"] ["row","other"]
def fi_whole_dots:FnI:=mk 65 "whole_dots" 108 ["row","others"] ["row","others"]
def fi_whole_determinant1:FnI:=mk 66 "whole_determinant" 95 ["rows","total","sign","pair"] ["rows"]
def fi_without:FnI:=mk 67 "without" 94 ["rows","place"] ["rows","place"]
def fi_whole_determinant2:FnI:=mk 68 "whole_determinant" 95 ["rows","total","sign","pair"] ["rows"]
def fi_whole_determinant3:FnI:=mk 69 "whole_determinant" 95 ["rows","total","sign","pair"] ["rows"]
def fi_whole_determinant4:FnI:=mk 70 "whole_determinant" 95 ["rows","total","sign","pair"] ["rows"]
def fi_weighted:FnI:=mk 71 "weighted" 99 ["rows","place"] ["rows","place"]
def fi_first_not_nought:FnI:=mk 72 "first_not_nought" 96 ["row","place"] ["row"]
def fi_cleared:FnI:=mk 73 "cleared" 97 ["row","base","place"] ["row","base"]
def fi_in_lowest_terms:FnI:=mk 74 "in_lowest_terms" 98 ["weights","divisor","weight"] ["weights"]
def fi_weights_to_nought:FnI:=mk 75 "weights_to_nought" 100 ["rows","bases","place","row","base"] ["rows"]
def fi_put_in:FnI:=mk 76 "put_in" 101 ["rows","place","right"] ["rows","place","right"]
def fi_solved_in_wholesX:FnI:=mk 77 "solved_in_wholes" 102 ["rows","right","whole"] ["rows","right"]
def fi_fittedX:FnI:=mk 78 "fitted" 109 ["table","places","target","columns","lists"] ["table","places","target"]
def fi_rising:FnI:=mk 79 "rising" 90 ["row","steps","pairs"] ["row"]
def fi_middle:FnI:=mk 80 "middle" 92 ["row","width","places","one","other","both"] ["row","width"]
def fi_ordered:FnI:=mk 81 "ordered" 91 ["table","place"] ["table","place"]
def fi_least_place:FnI:=mk 82 "least_place" 89 ["table","numbers","steps"] ["table"]
def fi_is_width:FnI:=mk 83 "is_width" 30 ["thing"] ["thing"]
def fi_law_bare_rows:FnI:=mk 84 "_law_bare_rows" 159 ["_law_some"] []
def fi_law_refused_rows:FnI:=mk 85 "_law_refused_rows" 160 ["_law_some"] []
def fi_law_good_rows:FnI:=mk 86 "_law_good_rows" 161 ["_law_some"] []
def fns:List FnI:=[fi_words_of,fi_behind_figures,fi_is_count,fi_two_to,fi_left_of,fi_cut,fi_odd_form,fi_from_cut,fi_near,fi_behind_sign,fi_power_atX,fi_common_divisor,fi_ratio,fi_times_ten,fi_read_textX,fi_is_whole,fi_is_pair_of_wholes,fi_is_number,fi_is_measure,fi_read_measureX,fi_ten_to,fi_times_ten_to,fi_reaches,fi_first_power,fi_spelled,fi_wholes_around,fi_written,fi_value,fi_is_read_as,fi_read_as,fi_briefest,fi_joined,fi_one_form,fi_exact_total,fi_exact_sum,fi_true_sum,fi_over,fi_exact_mean,fi_true_mean,fi_crossed,fi_exact_dot,fi_minus,fi_times,fi_exact_spread,fi_true_spread,fi_root_shift,fi_whole_root,fi_shifted,fi_rounded,fi_root,fi_true_deviation,fi_true_dot,fi_added,fi_without_sign,fi_sum_and_bound,fi_quick_sum,fi_line_ofX,fi_column,fi_turned,fi_in_steps,fi_rows_in_steps,fi_least_power,fi_one_by_one,fi_rows_of_fit,fi_whole_dot,fi_whole_dots,fi_whole_determinant1,fi_without,fi_whole_determinant2,fi_whole_determinant3,fi_whole_determinant4,fi_weighted,fi_first_not_nought,fi_cleared,fi_in_lowest_terms,fi_weights_to_nought,fi_put_in,fi_solved_in_wholesX,fi_fittedX,fi_rising,fi_middle,fi_ordered,fi_least_place,fi_is_width,fi_law_bare_rows,fi_law_refused_rows,fi_law_good_rows]
def cns:List bF:=["LEAST_WIDTH","GREATEST_WIDTH","MEASURE_POWER","NONE_LEFT","BELOW_HALF","HALF_LEFT","ABOVE_HALF","FIGURES","MOST_FIGURES","MOST_POWER_FIGURES","MOST_COUNT_FIGURES","ONE","MOST_DIGITS","WITH_TEXTS","OK","MOST_NUMBERS"]
def C:Cfg:=⟨ctE run z,cn,λ_=>bj,λ_=>bj,λ_=>False⟩
def fi_are_unlike:FnI:=mkd "are_unlike" 56 ["counts"] ["counts"]
def fi_are_within_bounds:FnI:=mkd "are_within_bounds" 57 ["word","counts"] ["word","counts"]
def fi_counts_behind:FnI:=mkd "counts_behind" 58 ["words","counts"] ["words"]
def fi_things_behind:FnI:=mkd "things_behind" 59 ["words","bounds"] ["words"]
def fi_check_row:FnI:=mkd "check_row" 128 ["desk","count"] ["desk","count"]
def fi_check_columns:FnI:=mkd "check_columns" 129 ["desk","counts"] ["desk","counts"]
def fi_column_at:FnI:=mkd "column_at" 130 ["desk","count"] ["desk","count"]
def fi_both_columns:FnI:=mkd "both_columns" 131 ["desk","counts"] ["desk","counts"]
def fi_all_written:FnI:=mkd "all_written" 132 ["desk","numbers"] ["desk","numbers"]
def fi_nearest_written:FnI:=mkd "nearest_written" 133 ["desk","parts"] ["desk","parts"]
def fi_tell_sum:FnI:=mkd "tell_sum" 139 ["desk","counts"] ["desk","counts"]
def fi_tell_mean:FnI:=mkd "tell_mean" 140 ["desk","counts"] ["desk","counts"]
def fi_tell_spread:FnI:=mkd "tell_spread" 141 ["desk","counts"] ["desk","counts"]
def fi_tell_root:FnI:=mkd "tell_root" 142 ["desk","counts"] ["desk","counts"]
def fi_tell_middle:FnI:=mkd "tell_middle" 143 ["desk","counts"] ["desk","counts"]
def fi_tell_quick:FnI:=mkd "tell_quick" 144 ["desk","counts"] ["desk","counts"]
def fi_tell_dot:FnI:=mkd "tell_dot" 145 ["desk","counts","columns"] ["desk","counts"]
def fi_tell_line:FnI:=mkd "tell_line" 146 ["desk","counts","columns"] ["desk","counts"]
def fi_tell_fit:FnI:=mkd "tell_fit" 147 ["desk","counts","places"] ["desk","counts"]
def fi_tell_least:FnI:=mkd "tell_least" 148 ["desk","counts"] ["desk","counts"]
def fi_show_row:FnI:=mkd "show_row" 149 ["desk","counts"] ["desk","counts"]
def fi_tell_brief:FnI:=mkd "tell_brief" 150 ["desk","texts"] ["desk","texts"]
def fi_set_digits:FnI:=mkd "set_digits" 135 ["desk","counts"] ["desk","counts"]
def fi_add_row:FnI:=mkd "add_row" 136 ["desk","texts","row"] ["desk","texts"]
def fi_drop_row:FnI:=mkd "drop_row" 137 ["desk","counts"] ["desk","counts"]
def fi_order_rows:FnI:=mkd "order_rows" 138 ["desk","counts"] ["desk","counts"]
def fi_done:FnI:=mkd "done" 152 ["desk","words","things","deed"] ["desk","words"]
def fi_answer:FnI:=mkd "answer" 154 ["desk","words","refusal"] ["desk","words"]
def fi_weights_told:FnI:=mkd "weights_told" 153 ["weights"] ["weights"]
def fi_play:FnI:=mkd "play" 155 ["text","desk","answers","row","words"] ["text"]
def fi_ini:FnI:=⟨"__init__",clsDef (top 127),["self"],["self"],.nop,ctE run z 0,bj,bh,cl,bj,bj⟩
def I:List FnI:=[fi_are_unlike,fi_are_within_bounds,fi_counts_behind,fi_things_behind,fi_check_row,fi_check_columns,fi_column_at,fi_both_columns,fi_all_written,fi_nearest_written,fi_tell_sum,fi_tell_mean,fi_tell_spread,fi_tell_root,fi_tell_middle,fi_tell_quick,fi_tell_dot,fi_tell_line,fi_tell_fit,fi_tell_least,fi_show_row,fi_tell_brief]
def T:List (List DL.S×Nat×Bool):=[([.ret (.cmp .eq (.lset (.pu v0)) (.pu (.bi .len [v0])))],1,bj),
 ([.rtif (.pu (.cmp .eq v0 (ts "width"))) (.pu (.call 83 [(.ix v1 k0)])),.rtif (.pu (.cmp .eq v0 (ts "digits"))) (.pu (.cmp .le (.ix v1 k0) (.con 12))),.rtif (.pu (.cmp .eq v0 (ts "fit"))) (.dsk bj 0 [(.pu (.slc v1 k1 (.cst .non)))]),.ret (.pu (.cst (.bl bh)))],2,bj),
 ([.rif (.pu (.not (.bi .all [(.compE (.slc v0 k1 (.cst .non)) (.call 2 [v2]))]))) "BadRow",.set 1 (.pu (.compE (.slc v0 k1 (.cst .non)) (.bi .int [v2]))),.rif (.no (.dsk bj 1 [(.pu (.ix v0 k0)),(.pu v1)])) "BadRow",.ret (.pu v1)],2,bj),
 ([.rif (.nin 0 (.pu (.ix v0 k0))) "BadRow",.set 1 (.item 0 (.pu (.ix v0 k0))),.rif (.pu (.not (.chain .le .le (.ix v1 k0) (.bin .sub (.bi .len [v0]) k1) (.ix v1 k1)))) "BadRow",.ret (.ife (.pu (.cmp .inn (.ix v0 k0) (.con 13))) (.pu (.slc v0 k1 (.cst .non))) (.dsk bj 2 [(.pu v0)]))],2,bj),
 ([.rif (.cmp .gt (.pu v1) (.len (.fl .t))) "NoRow"],2,bh),
 ([.ex (.dsk bh 4 [(.pu k1)]),.rif (.cmp .gt (.pu (.bi .mxl [v1])) (.len (.ix (.fl .t) (.pu k0)))) "NoColumn"],2,bh),
 ([.ex (.dsk bh 5 [(.pu (.lst [v1]))]),.ret (.call 57 [(.fl .t),(.pu (.bin .sub v1 k1))])],2,bh),
 ([.ret (.comp (.pu v1) (.dsk bh 6 [(.pu v2)]))],2,bh),
 ([.ret (.jn " " (.comp (.pu v1) (.call 26 [(.pu (.call 27 [v2])),(.fl .g)])))],2,bh),
 ([.ret (.dsk bh 8 [(.comp (.pu v1) (.call 8 [(.pu v2),(.fl .w)]))])],2,bh),
 ([.ret (.dsk bh 8 [(.lst [(.call 35 [(.dsk bh 6 [(.pu (.ix v1 k0))]),(.fl .w)])])])],2,bh),
 ([.ret (.dsk bh 8 [(.lst [(.call 38 [(.dsk bh 6 [(.pu (.ix v1 k0))]),(.fl .w)])])])],2,bh),
 ([.ret (.dsk bh 8 [(.lst [(.call 44 [(.dsk bh 6 [(.pu (.ix v1 k0))]),(.fl .w)])])])],2,bh),
 ([.ret (.dsk bh 8 [(.lst [(.call 50 [(.dsk bh 6 [(.pu (.ix v1 k0))]),(.fl .w)])])])],2,bh),
 ([.ret (.dsk bh 8 [(.lst [(.call 80 [(.dsk bh 6 [(.pu (.ix v1 k0))]),(.fl .w)])])])],2,bh),
 ([.ret (.dsk bh 8 [(.call 55 [(.dsk bh 6 [(.pu (.ix v1 k0))]),(.fl .w)])])],2,bh),
 ([.set 2 (.dsk bh 7 [(.pu v1)]),.ret (.dsk bh 8 [(.lst [(.call 51 [(.pu (.ix v2 k0)),(.pu (.ix v2 k1)),(.fl .w)])])])],3,bh),
 ([.set 2 (.dsk bh 7 [(.pu v1)]),.ret (.dsk bh 9 [(.call 56 [(.pu (.ix v2 k0)),(.pu (.ix v2 k1))])])],3,bh),
 ([.ex (.dsk bh 5 [(.pu v1)]),.set 2 (.pu (.compE (.slc v1 k1 (.cst .non)) (.bin .sub v3 k1))),.ret (.dsk bh 9 [(.call 78 [(.fl .t),(.pu v2),(.pu (.bin .sub (.ix v1 k0) k1))])])],3,bh),
 ([.ex (.dsk bh 4 [(.pu k1)]),.ret (.jn " " (.comp (.call 82 [(.fl .t)]) (.pu (.bi .str [(.bin .add v2 k1)]))))],2,bh),
 ([.ex (.dsk bh 4 [(.pu (.ix v1 k0))]),.ret (.jn " " (.comp (.ix (.fl .t) (.pu (.bin .sub (.ix v1 k0) k1))) (.call 30 [(.pu v2),(.fl .w)])))],2,bh),
 ([.ret (.call 30 [(.call 19 [(.pu (.ix v1 k0)),(.fl .w)]),(.fl .w)])],2,bh)]
def wb:List (bF×D):=[("width",.tup [.int 1,.int 1]),("digits",.tup [.int 1,.int 1]),("row",.tup [.int 1,.int 6]),("drop",.tup [.int 1,.int 1]),("order",.tup [.int 1,.int 1]),("sum",.tup [.int 1,.int 1]),("mean",.tup [.int 1,.int 1]),("spread",.tup [.int 1,.int 1]),("root",.tup [.int 1,.int 1]),("middle",.tup [.int 1,.int 1]),("quick",.tup [.int 1,.int 1]),("dot",.tup [.int 2,.int 2]),("line",.tup [.int 2,.int 2]),("fit",.tup [.int 2,.int 4]),("least",.tup [.int 0,.int 0]),("show",.tup [.int 1,.int 1]),("brief",.tup [.int 1,.int 1])]
def g0:G:=⟨(ev run z cn 2000).e,run,z,λ_ _ _=>bc,λn=>if n=0 then wb else []⟩
def dns:List bF:=["WORDS_BEHIND"]
def gn:G:={ g0 with da:=uR g0 T 22 }
def zN:List DL.S:=[]
def zy:Mu:=.sg (.pu (.ix v1 k0))
def Kd:List DL.S:=[.set 2 (.comp (.pu v1) (.call 19 [(.pu v3),(.fl .w)])),.rif (.and (.cmp .gt (.len (.fl .t)) (.pu k0)) (.cmp .ne (.len (.ix (.fl .t) (.pu k0))) (.pu (.bi .len [v2])))) "Unfit",.rif (.cmp .ge (.len (.fl .t)) (.pu (.con 15))) "TooMany"]
def J1:Mu:=.app 2
def Jr:List DL.S:=[.ex (.dsk bh 4 [(.pu (.ix v1 k0))])]
def vW:Mu:=.pop (.pu (.bin .sub (.ix v1 k0) k1))
def zB:List DL.S:=[.ex (.dsk bh 5 [(.pu v1)])]
def zl:Mu:=.st (.call 81 [(.fl .t),(.pu (.bin .sub (.ix v1 k0) k1))])
def zw:DL.X:=(.pu (.con 14))
def JW:DL.X:=(.str (.len (.fl .t)))
def Jq:DL.X:=(.pu (.con 14))
def zK:DL.X:=(.pu (.con 14))
def fi_cell:FnI:=⟨"_law_cell",top 157,["_law_script","_law_k"],["_law_script","_law_k"],zi,yD,bj,bj,[],bj,bj⟩
def fi_drawn:FnI:=⟨"_law_drawn",top 158,["_law_cell_here","_law_k","_law_more"],["_law_cell_here","_law_k"],yq,qT,bj,bj,[],bj,bj⟩
def yB(i_play:Nat):Sm :=
 (.seq (.set 1 (.ix (.lst [(.cst (.str "row 2")),(.cst (.str "row 1 2")),(.cst (.str "row x")),(.cst (.str "row 1e30")),(.cst (.str "drop 61"))]) (.bin .mod (.var 0) (.cst (.int 5)))))
 (.seq (.set 2 (.bin .add (.bin .mul (.lst [(.cst (.str "row 1"))]) (.cst (.int 60))) (.lst [(.var 1),(.cst (.str "show 60")),(.cst (.str "drop 60")),(.cst (.str "row 7"))])))
 (.seq (.set 3 (.compR [(.cst (.int 60))] (.bi .str [(.bin .add (.var 5) (.cst (.int 1)))])))
 (.seq (.set 4 (.ix (.lst [(.cst (.str "TooMany")),(.cst (.str "Unfit")),(.cst (.str "BadText")),(.cst (.str "TooGreat")),(.cst (.str "NoRow"))]) (.bin .mod (.var 0) (.cst (.int 5)))))
 (.seq (.ret (.cmp .eq (.call i_play [(.sm .jn (.cst (.str "\n")) (.var 2))]) (.bin .add (.var 3) (.lst [(.bin .add (.cst (.str "refused: ")) (.var 4)),(.cst (.str "1e0")),(.cst (.str "ok")),(.cst (.str "60"))]))))
 .nop)))))
def fi_law:FnI:=⟨"law",top 164,["_law_script","_law_more","_law_lines","_law_told","_law_full","_law_k","_law_cell_here","_law_some","_law_line","_law_answer"],["_law_script"],.nop,yY,bj,bj,[],bj,bj⟩
def fi_begun:FnI:=⟨"_law_begun",top 162,["_law_more"],["_law_more"],.nop,yY,bj,bj,[],bj,bj⟩
def y0:Ex:=(.call 1 [(.call 0 [(.var 0),(.cst (.int 0))]),(.cst (.int 200))])
def y1:Ex:=(.cmp .eq (.bin .mod (.var 1) (.cst (.int 6))) (.cst (.int 5)))
def y2:Ex:=(.call 6 [(.bin .fdiv (.var 1) (.cst (.int 6)))])
def y3:Sm :=
 (.seq (.forR 5 [(.bi .max [(.cst (.int 1)),(.bi .min [(.cst (.int 40)),(.bi .len [(.var 0)])])])] (.seq (.set 6 (.call 1 [(.call 0 [(.var 0),(.var 5)]),(.bin .add (.var 5) (.cst (.int 201)))]))
  (.seq (.set 7 (.call 2 []))
  (.seq (.ite (.var 4) (.seq (.set 7 (.call 3 []))
   .nop) .nop)
  (.seq (.unp [8,9] (.ix (.var 7) (.bin .mod (.bin .fdiv (.var 6) (.cst (.int 4))) (.bi .len [(.var 7)]))))
  (.seq (.ite (.cmp .ne (.var 9) (.cst (.str ""))) (.seq (.set 9 (.bin .add (.cst (.str "refused: ")) (.var 9)))
   .nop) .nop)
  (.seq (.ite (.and (.var 4) (.cmp .eq (.bin .mod (.var 6) (.cst (.int 4))) (.cst (.int 0)))) (.seq (.set 7 (.call 4 []))
   (.seq (.unp [8,9] (.ix (.var 7) (.bin .mod (.bin .fdiv (.var 6) (.cst (.int 4))) (.bi .len [(.var 7)]))))
   .nop)) .nop)
  (.seq (.app 2 (.var 8))
  (.seq (.ite (.cmp .ne (.var 9) (.cst (.str ""))) (.seq (.app 3 (.var 9))
   .nop) .nop)
  .nop)))))))))
 (.seq (.shr 2)
 (.seq (.shr 3)
 (.seq (.ret (.cmp .eq (.call 5 [(.sm .jn (.cst (.str "\n")) (.var 2))]) (.var 3)))
 .nop))))
def y4:Ex:=(.cmp .eq (.bin .mod (.var 0) (.cst (.int 4))) (.cst (.int 0)))
abbrev KO:Nat:=84
abbrev yL:Nat:=85
abbrev KW:Nat:=86
def c6:FnI:=⟨"_law_sixty",top 163,["_law_more","_law_line","_law_lines","_law_told","_law_word"],["_law_more"],yB 5,yY,bj,bj,[],bj,bj⟩
end Z.M59
set_option maxRecDepth 1000000
namespace Z.M59
open PySem Z Z.EV Z.DL
def dd:List (bF×D):=[("width",.non),("digits",.int 0),("row",.int 1),("drop",.int 2),("order",.int 3),("sum",.int 4),("mean",.int 5),("spread",.int 6),("root",.int 7),("middle",.int 8),("quick",.int 9),("dot",.int 10),("line",.int 11),("fit",.int 12),("least",.int 13),("show",.int 14),("brief",.int 15)]
def fms(j:Nat):Dk->List D->Option (R×Dk):=match j with
 |0=>rM gn zN zy zw 2
 |1=>rM gn Kd J1 JW 3
 |2=>rM gn Jr vW Jq 2
 |3=>rM gn zB zl zK 2
 |j+4=>λk ds=>(gn.da (j+10) k ds).map λr=>(r,k)
def hs:List (bF×bF):=[("BadRow","refused: BadRow"),("BadText","refused: BadText"),("TooGreat","refused: TooGreat"),("Unfit","refused: Unfit"),("TooMany","refused: TooMany"),("NoRow","refused: NoRow"),("NoColumn","refused: NoColumn"),("NoLine","refused: NoLine")]
def rA:Dk->List D->Option (R×Dk):=jeP "refused: Dependent" hs (Vm (gn.da 3) dd fms)
def wd:List D->Option R:=run 0
def cP(d:D):Option (Int×Int):=match d with
 |.tup [.int a,.int b]=>ba (a,b)
 |_=>bc
def cR(d:D):Option (List (Int×Int)):=match d with
 |.lst xs=>cRs xs
 |_=>bc
where cRs:List D->Option (List (Int×Int))
 |[]=>ba []
 |d::r=>(cP d).bind λp=>(cRs r).bind λq=>ba (p::q)
def cT:List D->Option (List (List (Int×Int)))
 |[]=>ba []
 |d::r=>(cR d).bind λp=>(cT r).bind λq=>ba (p::q)
theorem jfy{d:D}{p:Int×Int}(h:cP d=ba p):d=.tup [.int p.1,.int p.2]:=by
 unfold cP at h;split at h
 ·cases h;rfl
 ·cases h
theorem jaZ:∀ {xs:List D} {p:List (Int×Int)},cR.cRs xs=ba p->xs=p.map λq=>.tup [.int q.1,.int q.2]
 |[],p,h=>by cases h;rfl
 |d::r,p,h=>by
  unfold cR.cRs at h;replace h:=bind_some h;obtain⟨a,h1,h⟩:=h;replace h:=bind_some h;obtain⟨b,h2,h⟩:=h;cases h;rw[jfy h1,jaZ h2];rfl
theorem jf9{d:D}{p:List (Int×Int)}(h:cR d=ba p):d=.lst (p.map λq=>.tup [.int q.1,.int q.2]):=by
 unfold cR at h;split at h
 ·rw[jaZ h]
 ·cases h
theorem jde:∀ {xs:List D} {p:List (List (Int×Int))},cT xs=ba p->xs=p.map λr=>.lst (r.map λq=>.tup [.int q.1,.int q.2])
 |[],p,h=>by cases h;rfl
 |d::r,p,h=>by
  unfold cT at h;replace h:=bind_some h;obtain⟨a,h1,h⟩:=h;replace h:=bind_some h;obtain⟨b,h2,h⟩:=h;cases h;rw[jf9 h1,jde h2];rfl
def eqK(k:Dk)(w g:Int)(m:Bool)(c:List (List (Int×Int))):Bool:=decide (k.w=w)&&decide (k.g=g)&&decide (k.m=m)&&decide (cT k.T=ba c)
def mkK(w g:Int)(m:Bool)(c:List (List (Int×Int))):Dk:=⟨w,g,m,c.map λr=>.lst (r.map λq=>.tup [.int q.1,.int q.2])⟩
variable{k:Dk}{w g:Int}{m:Bool}{c:List (List (Int×Int))}
theorem Kr(h:eqK k w g m c=bh):k=mkK w g m c:=by
 unfold eqK at h;simp only[bz,decide_eq_true_eq]at h;obtain⟨⟨⟨h1,h2⟩,h3⟩,h4⟩:=h;have:=jde h4;cases k;subst h1 h2 h3;exact congrArg (Dk.mk _ _ _) this
def c2:List (List (Int×Int)):=[[(1,0),(1,1)],[(3,0),(5,0)]]
def kA:Dk:=mkK 53 17 bh c2
def kB:Dk:=mkK 53 17 bj c2
def jgn(d:D):Option (bF×bF):=match d with
 |.tup [.str a,.str b]=>ba (a,b)
 |_=>bc
def jd2(r:Option R):List (bF×bF):=match r with
 |some (.ok (.lst xs))=>xs.filterMap jgn
 |_=>[]
def pD(p:bF×bF):D:=.tup [.str p.1,.str p.2]
def V1:List (bF×bF):=jd2 (run KO [])
def jbQ:List (bF×bF):=jd2 (run yL [])
def YH:List (bF×bF):=jd2 (run KW [])
theorem jcX:run KO []=ba (.ok (.lst (V1.map pD))):=by kernel_rfl
theorem jdK:run yL []=ba (.ok (.lst (jbQ.map pD))):=by kernel_rfl
theorem jco:run KW []=ba (.ok (.lst (YH.map pD))):=by kernel_rfl
def Ky(p:bF×bF):Option bF:=if p.2=("":bF) then bc else ba (("refused: ":bF)++p.2)
def zC(p:bF×bF):Option bF:=if p.2=("":bF) then bc else ba p.2
def xf(x:bF):Bool:=decide (x.length<=40)&&decide (10 ∉ x.cps.toList)
def YE(x:bF)(a:Option bF):Bool:=xf x&&match QA wd rA k00 x with
 |some (b,k')=>decide (b=a)&&eqK k' 53 17 bh []
 |none=>bj
def ye(k:Dk)(x:bF)(a:Option bF):Bool:=xf x&&match QA wd rA k x with
 |some (b,k')=>decide (b=a)&&(eqK k' 53 17 bh c2 ||eqK k' 53 17 bj c2)
 |none=>bj
def jer(k:Dk)(ls ss:List bF)(w g:Int)(m:Bool)(c:List (List (Int×Int))):Bool:=match kC wd rA k ls with
 |some (ts,k')=>decide (ts=ss)&&eqK k' w g m c
 |none=>bj
theorem Zc{ls ss:List bF}(h:jer k ls ss w g m c=bh):kC wd rA k ls=ba (ss,mkK w g m c):=by
 unfold jer at h;split at h
 ·next e =>
  rw[bz,decide_eq_true_eq]at h;rw[e,h.1,Kr h.2]
 ·cases h
def ls0:List bF:=["row 1 2","row 3 5"]
def ss0:List bF:=["1","2"]
theorem VL:kC wd rA k00 ls0=ba (ss0,kA):=Zc (by decide +kernel)
def lnS:List bF:=["row 2","row 1 2","row x","row 1e30","drop 61"]
def wdS:List bF:=["TooMany","Unfit","BadText","TooGreat","NoRow"]
def Yi:List bF:=(gq 60).map λ(i:Nat)=>((toString ((i:Int)+1):String):bF)
def c60:List (List (Int×Int)):=bE 60 [(1,0)]
theorem xc:∀ {a b:List bF} {k k':Dk} {s t:List bF} {k2:Dk},kC wd rA k a=ba (s,k')->kC wd rA k' b=ba (t,k2)->kC wd rA k (a++b)=ba (s++t,k2)
 |[],b,k,k',s,t,k2,h1,h2=>by cases h1;exact h2
 |x::a,b,k,k',s,t,k2,h1,h2=>by
  unfold kC at h1;replace h1:=bind_some h1;obtain⟨p,e1,h1⟩:=h1;replace h1:=bind_some h1;obtain⟨q,e2,h1⟩:=h1;cases h1;rw[dw];unfold kC;rw[e1,nJ,xc e2 h2,nJ,wF]
def t1(n:Nat):Dk:=mkK 53 17 bh (bE n [(1,0)])
def u12(j:Nat):List bF:=(Yi.drop (12*j)).take 12
def six(j:Nat):Bool:=jer (t1 (12*j)) (bE 12 "row 1") (u12 j) 53 17 bh (bE (12*j+12) [(1,0)])
structure Ev:Prop where
 chk:Kz fns cns=bh
 rd:jcH fns cns dns cl I T=bh
 bare:V1.all (λp=>YE p.1 (Ky p))=bh
 refA:jbQ.all (λp=>ye kA p.1 (Ky p))=bh
 refB:jbQ.all (λp=>ye kB p.1 (Ky p))=bh
 gdA:YH.all (λp=>ye kA p.1 (zC p))=bh
 gdB:YH.all (λp=>ye kB p.1 (zC p))=bh
 six:(gq 5).all six=bh
 last:(gq 5).all (λj=>match kC wd rA (mkK 53 17 bh c60) [lnS.getD j "","show 60","drop 60","row 7"]with|some (ts,_)=>decide (ts=[("refused: ":bF)++wdS.getD j "","1e0","ok","60"])|none=>bj)=bh
theorem VA(E:Ev):kC wd rA k00 (bE 60 "row 1")=ba (Yi,mkK 53 17 bh c60):=by
 have s (j:Nat) (h:j<5):kC wd rA (t1 (12*j)) (bE 12 "row 1")=ba (u12 j,t1 (12*j+12)):=Zc (dC.mp E.six j (p8.mpr h));have h:=xc (xc (xc (xc (s 0 (by decide)) (s 1 (by decide))) (s 2 (by decide))) (s 3 (by decide))) (s 4 (by decide));rw[show u12 0++u12 1++u12 2++u12 3++u12 4=Yi by decide +kernel]at h;exact h
theorem jcC(E:Ev):∀j<5,∃k,kC wd rA (mkK 53 17 bh c60) [lnS.getD j "","show 60","drop 60","row 7"]=ba ([("refused: ":bF)++wdS.getD j "","1e0","ok","60"],k):=by
 have h:=E.last;intro j hj;rw[dC]at h;have h:=h j (p8.mpr hj);split at h
 ·next e=>exact⟨_,by rw[e,of_decide_eq_true h]⟩
 ·cases h
end Z.M59
set_option maxRecDepth 1000000
set_option exponentiation.threshold 3000
namespace Z.M59
open PySem Z Z.EV Z.DL
abbrev sD(l:List bF):D:=.lst (l.map .str)
abbrev tx(ls:List bF):bF:=⟨(xu "\n" ls).toArray⟩
structure PlayOk (ls ss:List bF) (k:Dk):Prop where
 ne:ls ≠ []
 ok:∀l∈ls,xf l=bh
 few:ls.length<=100
 run:kC wd rA k00 ls=ba (ss,k)
variable{l:bF}
theorem yG(h:xf l=bh):l.length<=40/\10 ∉ l.cps.toList:=by
 unfold xf at h;rw[bz]at h;exact⟨of_decide_eq_true h.1,of_decide_eq_true h.2⟩
variable{ls ss:List bF}{k:Dk}
theorem PlayOk.back(p:PlayOk ls ss k):jR (tx ls) "\n"=ls:=Xz p.ne λl hl=>(yG (p.ok l hl)).2
def za:Ctr where
 pre ds:=∃ls ss k,ds=[.str (tx ls)]/\PlayOk ls ss k
 res ds d:=∀ls ss k,ds=[.str (tx ls)]->PlayOk ls ss k->d=sD ss
variable{k':Dk}
theorem V4{ls' ss':List bF}(p:PlayOk ls ss k)(q:PlayOk ls' ss' k')(e:tx ls=tx ls'):ss=ss':=by
 have h:=p.back;rw[e,q.back]at h;subst h;have:=p.run.symm.trans q.run;cases this;rfl
theorem Zb{Q:D->Prop}{E:XD->Prop}(p:PlayOk ls ss k)(h:Q (sD ss)):za.wp [.str (tx ls)] Q E:=by
 refine⟨⟨ls,ss,k,rfl,p⟩,λd r=>?_,λ_ z=>z.elim⟩;rw[r ls ss k rfl p];exact h
theorem Jb:∀ {ls:List bF},(∀l∈ls,xf l=bh)->(ls.map (·.length)).sum<=40*ls.length
 |[],_=>by simp
 |l::r,h=>by
  have:=Jb (ls:=r) λx hx=>h x (bD _ hx)
  have:=(yG (h l (bJ ..))).1;rw[b5,List.sum_cons,b6];lia
theorem QO:∀ {ls:List bF},(∀l∈ls,xf l=bh)->((ls.map λp=>("\n":bF).cps.toList++p.cps.toList).flatten).length<=41*ls.length
 |[],_=>by simp
 |l::r,h=>by
  have:=QO (ls:=r) λx hx=>h x (bD _ hx)
  have h2:=(yG (h l (bJ ..))).1
  have h3:l.cps.toList.length=l.length:=by simp[jg8]
  have h4:("\n":bF).cps.toList.length=1:=by decide +kernel
  rw[b5,gB,b6,dS,dS,h3,h4];lia
theorem jfa(h:∀l∈ls,xf l=bh)(hl:ls.length<=100):(tx ls).length<=lim:=by
 have e:(tx ls).length=(xu "\n" ls).length:=by simp[jg8]
 rw[e]
 cases ls with
 |nil=>unfold xu;exact gf _
 |cons l r =>
  unfold xu
  have:=QO (ls:=r) λx hx=>h x (bD _ hx)
  have h2:=(yG (h l (bJ ..))).1
  have h3:l.cps.toList.length=l.length:=by simp[jg8]
  rw[dS,h3];rw[b6]at hl
  have:(4200:Nat)<=lim:=by decide
  lia
theorem YI:∀l:List bF,ux (l.map .str) (l.map .str)=bh
 |[]=>rfl
 |x::l=>by
  rw[b5];unfold ux;rw[YI l,Bool.and_true];show (x == x)=bh;exact beq_self_eq_true x
theorem jdm(l:List bF):eqD (sD l) (sD l)=true:=YI l
theorem Jn:∀l:List bF,yZ (l.map .str)=0
 |[]=>rfl
 |x::l=>by rw[b5,jeN,Jn l,KQ];rfl
def upF(lo:Int):Nat->List bF
 |0=>[]
 |n+1=>((toString (lo+1):String):bF)::upF (lo+1) n
theorem jfG:upF 0 60=Yi:=by decide +kernel
theorem Y6:∀(n:Nat) (lo:Int) {Q:List D->Prop},0<=lo->lo+n<=1000->Q ((upF lo n).map .str)->qw (λd Q=>y6 .add d (.int 1) λd=>biD .str [d] Q) (ko lo 1 n) Q
 |0,lo,Q,_,_,q=>q
 |n+1,lo,Q,h0,h1,q=>by
  rw[ko,qw];refine⟨?_,Y6 n (lo+1) (by lia) (by lia) q⟩;rw[jkg (by lia)];exact bX (show (lo+1).natAbs<2^10 by lia) (Nat.pow_le_pow_right (by decide) (by decide))
def zk:Ctr where
 pre ds:=∃n:Int,ds=[.int n]/\0<=n
 res _ d:=d=.bl bh
theorem jdX:∀j<5,xf (lnS.getD j "")=true:=by decide +kernel
theorem jdW:∀j<5,(wdS.getD j "").length<=20:=by decide +kernel
theorem jcQ(E:Ev){C:Cfg}(h:C.ct 5=za):QI C 5 (yB 5) zk:=by
 rintro ds ⟨n,rfl,hn⟩
 obtain⟨j,hj,e⟩:∃j:Nat,j<5/\n.fmod 5=(j:Int):=⟨(n.fmod 5).toNat,by rw[xK (by decide)];lia,by rw[xK (by decide)];lia⟩
 obtain⟨k,hk⟩:=jcC E j hj
 have a1:atD (lnS.map .str) j=ba (.str (lnS.getD j "")):=by
  rcases j with _|_|_|_|_|j<;>first|rfl|lia
 have a2:atD (wdS.map .str) j=ba (.str (wdS.getD j "")):=by
  rcases j with _|_|_|_|_|j<;>first|rfl|lia
 have p:PlayOk (bE 60 ("row 1":bF) ++ [lnS.getD j "","show 60","drop 60","row 7"]) (Yi ++ [("refused: ":bF)++wdS.getD j "","1e0","ok","60"]) k:=by
  refine⟨by simp,λl hl=>?_,by simp,xc (VA E) hk⟩;rcases mj.mp hl with hl|hl
  ·rw[(jih.mp hl).2];decide +kernel
  ·simp only[bG,bV,or_false]at hl;rcases hl with rfl|rfl|rfl|rfl
   ·exact jdX j hj
   all_goals decide +kernel
 simp only[yB,jS,jkh,b6,pO,Nat.reduceAdd,Nat.reduceSub,gm,bE,dw,gJ,xt,jC,vH,xG,uk,xr,U2,j4,kK,jW,ji,qU,h,jbi,YY,xy,ne_eq,Int.reduceEq,not_false_eq_true,e,true_and,Kp,jak,Jd,U5,zO,jfm,jat];refine⟨_,a1,⟨by decide,by decide⟩,by decide,by unfold xC;decide,by decide,Y6 60 0 (by decide) (by decide) ?_⟩;rw[jfG];refine⟨_,a2,?_⟩
 have er:(bE (Int.toNat 60) [D.str ("row 1":bF)]).flatten ++ [D.str (lnS.getD j ""),D.str "show 60",D.str "drop 60",D.str "row 7"]=(bE 60 ("row 1":bF) ++ [lnS.getD j "","show 60","drop 60","row 7"]).map D.str:=by
  rw[nU];rfl
 rw[er];refine⟨_,⟨rfl,?_⟩,Zb p ?_⟩
 ·have:=Jb p.ok
  have e1:("\n":bF).length=1:=by decide +kernel
  have e2:(5000:Nat)<=lim:=by decide
  have:=p.few;rw[e1];lia
 ·have hl:(("refused: ":bF)).length+(wdS.getD j "").length<=lim:=by
   have:=jdW j hj
   have e1:("refused: ":bF).length=9:=by decide +kernel
   have e2:(5000:Nat)<=lim:=by decide
   lia
  refine⟨hl,?_⟩
  have ey:(Yi.map D.str ++ [D.str (("refused: ":bF)++wdS.getD j ""),D.str "1e0",D.str "ok",D.str "60"])=(Yi ++ [("refused: ":bF)++wdS.getD j "","1e0","ok","60"]).map D.str:=by rw[nU];rfl
  dsimp only;rw[ey];refine⟨by rw[bW];decide,?_,?_⟩
  ·rw[Jn,zO,Jn];decide
  ·show D.bl _=D.bl bh;rw[jdm]
def CL:Cfg where
 ct n:=match n with
  |0=>yD
  |1=>qT
  |2=>ctE run z KO
  |3=>ctE run z yL
  |4=>ctE run z KW
  |5=>za
  |6=>zk
  |_=>yY
 cn _:=.non
theorem ct0:CL.ct 0=yD:=rfl
theorem ct1:CL.ct 1=qT:=rfl
theorem ct6:CL.ct 6=zk:=rfl
variable{a:Option bF}
section
variable {ns:List Int} {k:Int} {Q:D->Prop} {E:XD->Prop}
theorem Zx(hn:ns.length<=63)(hk:0<=k)(h:∀i,Q (.int i)):yD.wp [.lst (ns.map .int),.int k] Q E:=⟨⟨ns,k,rfl,hn,hk⟩,λd ⟨i,e⟩=>by rw[e];exact h i,λ_ z=>z.elim⟩
theorem QR{a b:Int}(h:∀i,0<=i->Q (.int i)):qT.wp [.int a,.int b] Q E:=⟨trivial,λd ⟨i,e,h0,_⟩=>by rw[e];exact h i h0,λ_ z=>z.elim⟩
end
structure StOk (full:Bool) (ls ss:List bF) (k:Dk):Prop where
 run:kC wd rA k00 ls=ba (ss,k)
 ok:∀l∈ls,xf l=bh
 st:if full=bh then k=kA\/k=kB else k=k00
variable{x:bF}
theorem StOk.step{full:Bool}(h:StOk full ls ss k)(hs:QA wd rA k x=ba (a,k'))(hx:xf x=bh)(hk:if full=bh then k'=kA\/k'=kB else k'=k00):StOk full (ls ++ [x]) (ss++a.toList) k':=by
 refine⟨xc h.run ?_,λl hl=>?_,hk⟩
 ·unfold kC;rw[hs,nJ];unfold kC;rw[nJ,dv]
 ·rcases mj.mp hl with hl|hl
  ·exact h.ok l hl
  ·rw[dr.mp hl];exact hx
theorem StOk.bare(h:StOk bj ls ss k)(hs:YE x a=bh):∃k',StOk bj (ls ++ [x]) (ss++a.toList) k':=by
 unfold YE at hs;rw[bz]at hs;obtain⟨h1,h2⟩:=hs;split at h2
 ·next b k' e =>
  rw[bz,decide_eq_true_eq]at h2;obtain⟨rfl,h3⟩:=h2;have hk:k=k00:=h.st;rw[<- hk]at e;exact⟨k',h.step e h1 (Kr h3)⟩
 ·cases h2
theorem StOk.full(h:StOk bh ls ss k)(hA:ye kA x a=bh)(hB:ye kB x a=bh):∃k',StOk bh (ls ++ [x]) (ss++a.toList) k':=by
 have hs:ye k x a=true:=by
  have hk:k=kA\/k=kB:=h.st;rcases hk with rfl|rfl
  ·exact hA
  ·exact hB
 unfold ye at hs;rw[bz]at hs;obtain⟨h1,h2⟩:=hs;split at h2
 ·next b k' e =>
  rw[bz,decide_eq_true_eq,gX]at h2;obtain⟨rfl,h3⟩:=h2;refine⟨k',h.step e h1 ?_⟩;rcases h3 with h3|h3
  ·exact .inl (Kr h3)
  ·exact .inr (Kr h3)
 ·cases h2
variable{m:Int}
theorem Vv{T:List (bF×bF)}(hT:T ≠ []):∃p∈T,atD (T.map pD) (m.fmod (T.map pD).length)=ba (pD p):=by
 have hp:0<T.length:=pC.mpr hT;rw[bW,xK (by lia)];obtain⟨d,e,hd⟩:=Xh (xs:=T.map pD) (i:=m%T.length) (tN _ (by lia)) (by rw[bW];exact pU _ (by lia));obtain⟨p,hp',rfl⟩:=gD.mp hd;exact⟨p,hp',e⟩
def st(ns:List Int)(more:Int)(ls ss:List bF)(full:Bool)(a b c d e:Option Sl):Sto:=[ba (.sh (.lst (ns.map .int))),ba (.sh (.int more)),ba (.ow (ls.map .str)),ba (.ow (ss.map .str)),ba (.sh (.bl full)),a,b,c,d,e]
def Inv(ns:List Int)(more:Int)(full:Bool)(n:Nat)(σ:Sto):Prop:=∃ls ss k a b c d e,σ=st ns more ls ss full a b c d e/\StOk full ls ss k/\1<=ls.length+n/\ls.length+n<=42
theorem Qp:∀(n:Nat) (lo:Int),0<=lo->∀d∈ko lo 1 n,∃i:Int,d=.int i/\0<=i
 |0,lo,_,d,h=>by cases h
 |n+1,lo,h0,d,h=>by
  rw[ko]at h;rcases bG.mp h with rfl|h
  ·exact⟨lo,rfl,h0⟩
  ·exact Qp n (lo+1) (by lia) d h
theorem uz:∀(n:Nat) (lo:Int),(ko lo 1 n).length=n
 |0,lo=>rfl
 |n+1,lo=>by rw[ko,b6,uz n]
theorem jeB(a:bF):((("refused: ":bF)++a:bF)="")=False:=by
 refine eq_false λz=>?_
 have:=congrArg (λs:bF=>s.cps.toList.length) z
 have e:∀a b:bF,(a++b).cps.toList=a.cps.toList++b.cps.toList:=λa b=>jhX
 have e1:("refused: ":bF).cps.toList.length=9:=by decide +kernel
 have e2:("":bF).cps.toList.length=0:=by decide +kernel
 replace this:((("refused: ":bF)++a).cps.toList).length=("":bF).cps.toList.length:=this;rw[e,dS,e1,e2]at this;lia
def Ur(a:bF):bF:=if a=("":bF) then a else ("refused: ":bF)++a
theorem jcI(x a:bF):zC (x,Ur a)=Ky (x,a):=by
 unfold zC Ky Ur;dsimp only;by_cases h:a=("":bF)
 ·rw[if_pos h,if_pos h,if_pos h]
 ·rw[if_neg h,if_neg h,if_neg (by rw[jeB];exact id)]
structure Cs (C:Cfg) (bT rT gT:List (bF×bF)):Prop where
 c0:C.ct 0=yD
 c1:C.ct 1=qT
 c2:∀ {Q:D->Prop} {E:XD->Prop},Q (.lst (bT.map pD))->(C.ct 2).wp [] Q E
 c3:∀ {Q:D->Prop} {E:XD->Prop},Q (.lst (rT.map pD))->(C.ct 3).wp [] Q E
 c4:∀ {Q:D->Prop} {E:XD->Prop},Q (.lst (gT.map pD))->(C.ct 4).wp [] Q E
 c5:C.ct 5=za
 nb:bT ≠ []/\bT.length<=1000
 nr:rT ≠ []/\rT.length<=1000
 ng:gT ≠ []/\gT.length<=1000
 wl:∀p∈bT++rT,p.2.length<=100
 sb:∀p∈bT,YE p.1 (Ky p)=bh
 sr:∀p∈rT,ye kA p.1 (Ky p)=bh/\ye kB p.1 (Ky p)=bh
 sg:∀p∈gT,ye kA p.1 (zC p)=bh/\ye kB p.1 (zC p)=bh
variable{a:Option Sl}{ns:List Int}{Kk:DE}{n:Nat}
section
variable {C:Cfg} {bT rT gT:List (bF×bF)}
theorem Qs:∀ {ls ss:List bF} {k k':Dk},kC wd rA k ls=ba (ss,k')->ss.length<=ls.length
 |[],ss,k,k',h=>by cases h;exact bN _
 |x::ls,ss,k,k',h=>by
  unfold kC at h;replace h:=bind_some h;obtain⟨p,e1,h⟩:=h;replace h:=bind_some h;obtain⟨q,e2,h⟩:=h;cases h;have:=Qs e2;rw[dS,b6]
  cases p.1<;>simp<;>lia
theorem last{more:Int}{full:Bool}{an:bF}{b c:Option Sl}(hk:StOk full (ls ++ [l]) (ss++(zC (l,an)).toList) k)(h1:ls.length+(n+1)<=42)(hss:ss.length<=ls.length)(h:∀σ,Inv ns more full n σ->Kk.nx σ) :
 wpS C (.seq (.app 2 (.var 8)) (.seq (.ite (.cmp .ne (.var 9) (.cst (.str ""))) (.seq (.app 3 (.var 9)) .nop) .nop) .nop)) Kk (st ns more ls ss full a b c (ba (.sh (.str l))) (ba (.sh (.str an)))):=by
 have hl:(5000:Nat)<lim:=by decide
 have el:ls.map D.str ++ [D.str l]=(ls ++ [l]).map D.str:=by rw[nU];rfl
 unfold st;simp only[Ji,ji,Zs,jC,jW];rw[xF,Jj];simp only[xG,jaV,vK,gS,kK,KQ,tY,gf,true_and,jW,ji,vz,beq_eq_false_iff_ne,ne_eq];refine⟨by rw[bW];lia,?_⟩;rw[el]
 have i1:1<=(ls ++ [l]).length+n/\(ls ++ [l]).length+n<=42:=by rw[dS];simp;lia
 by_cases q:an=("":bF)
 ·rw[if_neg (by simpa using q),xZ]
  have ea:zC (l,an)=none:=by unfold zC;rw[if_pos q]
  rw[ea,Option.toList_none,dv]at hk;exact h _ ⟨_,_,_,a,b,c,_,_,rfl,hk,i1⟩
 ·rw[if_pos q];simp only[xZ,Ji,ji,Zs,jC,jW]
  have ea:zC (l,an)=ba an:=by unfold zC;rw[if_neg q]
  rw[ea,Option.toList_some]at hk;refine⟨by rw[bW];lia,?_⟩
  have e2:ss.map D.str ++ [D.str an]=(ss ++ [an]).map D.str:=by rw[nU];rfl
  rw[e2];exact h _ ⟨_,_,_,a,b,c,_,_,rfl,hk,i1⟩
theorem zT{more:Int}{full:Bool}{T:List (bF×bF)}{d e:Option Sl}(cs:Cs C bT rT gT)(hT:T ≠ []/\T.length<=1000)(hw:∀p∈T,p.2.length<=100)(hm:0<=m)
 (hk:StOk full ls ss k) (hp:∀p∈T,∃k',StOk full (ls ++ [p.1]) (ss++(Ky p).toList) k') (hg:full=bh->∀p∈gT,∃k',StOk full (ls ++ [p.1]) (ss++(zC p).toList) k') (h1:ls.length+(n+1)<=42) (h:∀σ,Inv ns more full n σ->Kk.nx σ) :
 wpS C (.seq (.unp [8,9] (.ix (.var 7) (.bin .mod (.bin .fdiv (.var 6) (.cst (.int 4))) (.bi .len [.var 7]))))
  (.seq (.ite (.cmp .ne (.var 9) (.cst (.str ""))) (.seq (.set 9 (.bin .add (.cst (.str "refused: ")) (.var 9))) .nop) .nop)
  (.seq (.ite (.and (.var 4) (.cmp .eq (.bin .mod (.var 6) (.cst (.int 4))) (.cst (.int 0)))) (.seq (.set 7 (.call 4 [])) (.seq (.unp [8,9] (.ix (.var 7) (.bin .mod (.bin .fdiv (.var 6) (.cst (.int 4))) (.bi .len [.var 7])))) .nop)) .nop)
  (.seq (.app 2 (.var 8)) (.seq (.ite (.cmp .ne (.var 9) (.cst (.str ""))) (.seq (.app 3 (.var 9)) .nop) .nop) .nop))))) Kk (st ns more ls ss full a (ba (.sh (.int m))) (ba (.sh (.lst (T.map pD)))) d e):=by
 have hl:(5000:Nat)<lim:=by decide
 have hss:=Qs hk.run;unfold st;simp only[vq,YY,xr,Jd,j4,jW,ji,vh,kK,zI,ne_eq,Int.reduceEq,not_false_eq_true,true_and,xy,Kp];obtain⟨p,hpm,ep⟩:=Vv (m:=m.fdiv 4) hT.1;have hlen:0<T.length:=pC.mpr hT.1;refine⟨by decide,by rw[bW];lia,_,ep,?_⟩;simp only[pD,Zh,km,jC,mh,exists_eq_left'];refine Qh (λσ=>σ=st ns more ls ss full a (ba (.sh (.int m))) (ba (.sh (.lst (T.map pD)))) (ba (.sh (.str p.1))) (ba (.sh (.str (Ur p.2))))) ?_ ?_
 ·rw[Jj];simp only[xG,jaV,vK,gS,kK,KQ,tY,gf,true_and,jW,ji,vz,beq_eq_false_iff_ne,ne_eq];by_cases q:p.2=("":bF)
  ·rw[if_neg (by simpa using q),xZ];unfold st Ur;rw[if_pos q]
  ·rw[if_pos q];simp only[xt,jC,xZ,xr,jW,ji,kK,jaP];refine⟨?_,?_⟩
   ·have:=hw p hpm
    have e1:("refused: ":bF).length=9:=by decide +kernel
    lia
   ·unfold st Ur;rw[if_neg q]
 rintro σ rfl;obtain⟨kp,hkp⟩:=hp p hpm;refine Qh (λσ=>∃l an k' c,σ=st ns more ls ss full a (ba (.sh (.int m))) c (ba (.sh (.str l))) (ba (.sh (.str an)))/\StOk full (ls ++ [l]) (ss++(zC (l,an)).toList) k') ?_ ?_
 ·rw[Jj];unfold st;simp only[jeW,xG,uk,vK,kK,Qa,tY,gf,true_and,xr,jW,ji,xy,ne_eq,Int.reduceEq,not_false_eq_true,y7,beq_iff_eq,du,if_false]
  have no:∃l an k' c,st ns more ls ss full a (ba (.sh (.int m))) (ba (.sh (.lst (T.map pD)))) (ba (.sh (.str p.1))) (ba (.sh (.str (Ur p.2))))=st ns more ls ss full a (ba (.sh (.int m))) c (ba (.sh (.str l))) (ba (.sh (.str an)))/\StOk full (ls ++ [l]) (ss++(zC (l,an)).toList) k':=⟨_,_,kp,_,rfl,by rw[jcI];exact hkp⟩
  unfold st at no
  cases full with
  |false=>exact no
  |true =>
   rw[if_pos rfl];split
   ·simp only[xt,jC,vq,xZ,YY,xr,Jd,j4,jW,ji,kK,zI,ne_eq,Int.reduceEq,not_false_eq_true,true_and,qU];refine cs.c4 ?_;simp only[vh,xy,ne_eq,Kp];obtain⟨p',hpm',ep'⟩:=Vv (m:=m.fdiv 4) cs.ng.1;have hlen':0<gT.length:=pC.mpr cs.ng.1;obtain⟨kg,hkg⟩:=hg rfl p' hpm';refine⟨by decide,by rw[bW];lia,_,ep',?_⟩;simp only[pD,Zh,km,jC,mh,exists_eq_left'];exact⟨_,_,kg,_,rfl,hkg⟩
   ·exact no
 ·rintro σ ⟨l,an,k',c,rfl,hk'⟩;exact last hk' h1 hss h
theorem jgM{more:Int}{full:Bool}(cs:Cs C bT rT gT)(hn:ns.length<=63)(h0:StOk full ls ss k)(hl:ls.length<=2)(h:Kk.rt (.bl bh)):wpS C y3 Kk (st ns more ls ss full bc bc bc bc bc):=by
 unfold y3;refine Qh (Inv ns more full 0) ?_ ?_
 ·rw[jbD];unfold st;simp only[j4,Jd,jW,ji,vh,bW,kK,jec,jdO,jfm];generalize hm:(if (if (ns.length:Int)<40 then (ns.length:Int) else 40) > 1 then (if (ns.length:Int)<40 then (ns.length:Int) else 40) else 1)=m
  have m1:1<=m/\m<=40:=by
   rw[<- hm]
   split<;>split at * <;> lia
  refine⟨⟨by lia,by lia⟩,?_⟩
  refine jct (λrest σ=>(∀d∈rest,∃i:Int,d=.int i/\0<=i)/\Inv ns more full rest.length σ) ⟨Qp _ _ (by decide),ls,ss,k,bc,bc,bc,bc,bc,rfl,h0,by rw[uz];lia,by rw[uz];lia⟩ ?_ λσ h=>h.2
  rintro d ds σ ⟨hx,ls,ss,k,a,b,c,d',e,rfl,hk,h1,h2⟩;obtain⟨i,rfl,hi⟩:=hx d (bJ ..)
  replace hx:=λd hd=>hx d (bD _ hd)
  rw[b6]at h1 h2;unfold st;simp only[jC,xt,qU,j4,cs.c1,xr,kK,jW,ji,Qi,cs.c0]
  refine Zx hn hi λu=>?_
  skip
  refine QR λm hm=>?_
  skip
  refine cs.c2 ?_;rw[xF,Jj];simp only[jW,ji,vK]
  cases full with
  |false =>
   rw[if_neg df,xZ];refine zT (T:=bT) cs cs.nb (λp hp=>cs.wl p (gZ _ hp)) hm hk (λp hp=>hk.bare (cs.sb p hp)) (λz=>nomatch z) h2 ?_
   exact λσ z=>⟨hx,z⟩
  |true =>
   rw[if_pos rfl,xt,qU];refine cs.c3 ?_;rw[xZ];refine zT (T:=rT) cs cs.nr (λp hp=>cs.wl p (b7 _ hp)) hm hk (λp hp=>hk.full (cs.sr p hp).1 (cs.sr p hp).2) (λ_ p hp=>hk.full (cs.sg p hp).1 (cs.sg p hp).2) h2 ?_
   exact λσ z=>⟨hx,z⟩
 ·rintro σ ⟨ls,ss,k,a,b,c,d,e,rfl,hk,h1,h2⟩;unfold st;simp only[XN,jC,vH,xG,uk,jW,ji,zO,qU,j4,cs.c5,jbi,kK,jc0];refine⟨ls,⟨rfl,?_⟩,Zb ⟨λz=>by rw[z]at h1;exact absurd h1 (by decide),hk.ok,by lia,hk.run⟩ ⟨?_,?_⟩⟩
  ·have:=Jb hk.ok
   have e1:("\n":bF).length=1:=by decide +kernel
   have e2:(5000:Nat)<=lim:=by decide
   rw[e1];lia
  ·rw[Jn,zO,Jn];decide
  ·have:=jdm ss;rw[show eqD (sD ss) (.lst (ss.map .str))=bh from this];exact h
end
theorem jgo(E:Ev):Cs CL V1 jbQ YH where
 c0:=rfl
 c1:=rfl
 c2:=λq=>x8 jcX q
 c3:=λq=>x8 jdK q
 c4:=λq=>x8 jco q
 c5:=rfl
 nb:=by decide +kernel
 nr:=by decide +kernel
 ng:=by decide +kernel
 wl:=by decide +kernel
 sb:=λp hp=>(dC.mp E.bare) p hp
 sr:=λp hp=>⟨(dC.mp E.refA) p hp,(dC.mp E.refB) p hp⟩
 sg:=λp hp=>⟨(dC.mp E.gdA) p hp,(dC.mp E.gdB) p hp⟩
end Z.M59
set_option maxRecDepth 1000000
namespace Z.M59
open PySem PySem.Spec PySem.Calls PyProof.Rows PySem.W L2 Z Z.EV Z.DL Z.J11
section
variable {K:Frag} {H:Hp} {vs:List V} {Q:VK} {E:XK}
theorem zZ{S:Hp}:∀ {ss:List bF},(∀s∈ss,b9 s=bh)->Iss K S (ss.map .str) (ss.map V.str)
 |[],_=>by unfold Iss;rfl
 |s::r,h=>by
  rw[b5,b5];unfold Iss;exact⟨_,_,rfl,kq (h s (bJ ..)),zZ λx hx=>h x (bD _ hx)⟩
theorem jbM(h:spD K 1 bj bj za vs H Q E):spP (run 0) rA vs H Q E:=by
 obtain⟨O,ds,hl,ho,is,⟨ls,ss,k,rfl,p⟩,hq,_⟩:=h;obtain⟨v,rfl,i1⟩:=yV is;obtain⟨rfl,hok⟩:=jL i1;refine⟨tx ls,ss,k,rfl,hok,⟨jfa p.ok p.few,by rw[p.back];exact jik p.few (by decide)⟩,by rw[p.back];exact p.run,λc H' s hc h' hs=>?_⟩
 have r:za.res [.str (tx ls)] (sD ss):=λls' ss' k' e p'=>by
  have e:tx ls=tx ls':=by injection e with e _;injection e
  rw[V4 p p' e]
 have w:Wd K O H Q (sD ss):=hq _ r
 have nO:c ∉ O:=λz=>ho c z hc
 exact w (.ref c) H' s (ke (SqL.of (by rw[jw nO];exact h')) (zZ hs))
end
def lsB(f:Bool):List bF:=if f=bh then ls0 else []
def ssB(f:Bool):List bF:=if f=bh then ss0 else []
def spB:Sp:=λvs H Q _=>∃n:Int,vs=[.int n]/\∀f s a b H',jd H H'->H a=bc->H b=bc->a≠b->H' a=ba (.lst ((lsB f).map V.str))->H' b=ba (.lst ((ssB f).map V.str))->H' s=ba (.tup [.ref a,.ref b,.bl f])->Q (.ref s) H'
variable{n:Int}{Q:VK}
theorem e4{Q:D->Prop}(h:∀b,Q (.bl b)):wpE C0 y4 [ba (.sh (.int n))] Q:=by
 unfold y4;simp only[xG,uk,kK,Qa,tY,gf,true_and,xr,jW,ji,xy,ne_eq,Int.reduceEq,not_false_eq_true,y7];exact h _
variable{lv:Nat}{H:Hp}{vs:List V}{E:XK}
theorem XT{X:Cx}(hh:Hand X fi_begun [] [] C0 lv)(sp:spB vs H Q E) :
 ∃t,PSs X (jm fi_begun.st) t/\t { nx:=λ_ H'=>Q .non H',rt:=Q } (L2.start fi_begun.N vs) H:=by
 refine⟨_,PSs.nox (jl (X:=X.nox) (uI (X:=X.nox) (sB hh.ok.toOk y4 _ (by decide +kernel)).2 (jl (qx (XG (jj (xb jB) (jj (xb jB) (jj Zr jB))))) jF) jF) (jl (qx (XG (jj (xb (jj xH (jj xH jB))) (jj (xb (jj xH (jj xH jB))) (jj Zr jB))))) jF):PSs X.nox (jm fi_begun.st) _),?_⟩;obtain⟨n,rfl,hq⟩:=sp
 have fin:∀ {H1:Hp} {us ws:List V} {f:Bool},jd H H1->us=(lsB f).map V.str->ws=(ssB f).map V.str->∀a,H1 a=bc->∀b,upd H1 a (.lst us) b=bc->∀s,upd (upd H1 a (.lst us)) b (.lst ws) s=bc->Q (.ref s) (upd (upd (upd H1 a (.lst us)) b (.lst ws)) s (.tup [.ref a,.ref b,.bl f])):=by
  intro H1 us ws f s1 hu hw a ha b hb s hs;subst hu hw
  have nab:a≠b:=λz=>by rw[<- z,jh]at hb;cases hb
  have sa:=jt ha (.lst ((lsB f).map V.str));have sb:=jt hb (.lst ((ssB f).map V.str));have sc:=jt hs (.tup [.ref a,.ref b,.bl f]);exact hq f s a b _ (s1.trans (sa.trans (sb.trans sc))) (s1.free ha) (s1.free (sa.free hb)) nab (sc _ _ (sb _ _ (jh ..))) (sc _ _ (jh ..)) (jh ..)
 refine goT (e4 λc H1 s1=>?_) (sP (ju _) trivial)
 cases c with
 |true=>exact⟨by decide,λa ha=>⟨by decide,λb hb=>⟨(by show (3:Nat)<=sizeLine;decide),λs hs=>fin (f:=bj) s1 rfl rfl a ha b hb s hs⟩⟩⟩
 |false=>exact⟨by decide,λa ha=>⟨by decide,λb hb=>⟨(by show (3:Nat)<=sizeLine;decide),λs hs=>fin (f:=bh) s1 rfl rfl a ha b hb s hs⟩⟩⟩
def fi_sixty:FnI:={ c6 with c:=zk }
def LL:List FnI:=[fi_cell,fi_drawn,fi_law_bare_rows,fi_law_refused_rows,fi_law_good_rows,fi_play,fi_sixty]
structure LF (Y:Cx) (lv:Nat):Prop where
 ok:OkS Y (fi_law.ck LL []) CL
 rm:Room lv Y.A
 bg:∃f fd,FnOk Y.prog Y.w Y.K Y.mg Y.base (CXz Y.prog Y.w Y.mg) lv f fd ["_law_more"] spB/\Y.mg "_law_begun"=ba (.ref f)/\me Y.K (.ref f)=bh/\kP Y.K fd ["_law_more"] []
variable{i:Nat}{x:bF}{p:Pos}
section
variable {Y:Cx} {lv:Nat}
def sL(n:Nat):d9:=(jm fi_law.st).getD n (.Pass ⟨0,0,0,0⟩)
theorem LF.gl(F:LF Y lv){c:bF}(h:(fi_law.ck LL []).gl c=bh):Gl Y c:=(F.ok.toOk.gl h).1
theorem LF.v(F:LF Y lv)(h:(fi_law.ck LL []).loc i x=bh):PE Y (.Name x p) (Z5 i):=by
 obtain⟨a1,a2,a3,a4⟩:=F.ok.toOk.vis h;exact jY a1 (jX a2) a3 a4
theorem LF.pg(F:LF Y lv)(h:(fi_law.ck LL []).loc i x=bh):PG Y (.Name x p) (qQ i):=by
 obtain⟨a1,a2,a3,a4⟩:=F.ok.toOk.vis h;exact yc F.ok.nd a1 a2 (.inl (F.ok.fn _))
theorem LF.set(F:LF Y lv){pos:Pos}{e:bU}{te:TE}(h:(fi_law.ck LL []).loc i x=bh)(he:PE Y e te)(hs:mm e (ba (.Name x p)) pos.line Y.env=pure bj):PS Y (.Assign [.Name x p] e pos) (Xb te (qQ i)):=by
 obtain⟨a1,a2,a3,a4⟩:=F.ok.toOk.vis h;exact x9 F.ok.nd a1 a2 he hs (.inl (F.ok.fn _))
theorem p0(F:LF Y lv):PS Y (sL 0) (Xb (tD Y.K CL y0) (qQ 1)):=F.set (by decide +kernel) (sB F.ok.toOk y0 _ (by decide +kernel)).1 rfl
theorem p1(F:LF Y lv):PS Y (sL 1) (jf2 (tDT Y.K CL y1) (jfk (jgf (tD Y.K CL y2)) jab) jab):=uI (sB F.ok.toOk y1 _ (by decide +kernel)).2 (jl (qx (sB F.ok.toOk y2 _ (by decide +kernel)).1) jF) jF
theorem p2(F:LF Y lv):PS Y (sL 2) (Xb (V9 spB [] E0 (jdc (Z5 1) jbU)) (jex Y.K 3 (Qu (qQ 2) (Qu (qQ 3) (Qu (qQ 4) jdN))))):=by
 obtain⟨f,fd,FO,hm,hk,hb⟩:=F.bg;exact jai (qC FO F.rm (F.gl (by decide +kernel)) hm hk hb .nil Jm (jj (F.v (by decide +kernel)) jB)) (Vo F.ok.calm (zF (F.pg (by decide +kernel)) (zF (F.pg (by decide +kernel)) (zF (F.pg (by decide +kernel)) Y5))))
theorem p3(F:LF Y lv)(H₀:Hp):PSs Y ((jm fi_law.st).drop 3) (tS Y.K CL [] H₀ (λ_=>False) y3):=sK (O₀:=[]) (H₀:=H₀) F.ok y3 _ (by decide +kernel)
end
section
variable {ns:List Int} {Q:D->Prop}
theorem e0(hn:ns.length<=63)(h:∀n:Int,0<=n->Q (.int n)):wpE CL y0 [ba (.sh (.lst (ns.map .int))),bc,bc,bc,bc,bc,bc,bc,bc,bc] Q:=by
 unfold y0;simp only[qU,j4,ct1,kK,ct0,jW,ji]
 refine Zx hn (by decide) λu=>?_
 skip
 exact QR h
theorem e1(h:∀b,Q (.bl b)):wpE CL y1 [bc,ba (.sh (.int n)),bc,bc,bc,bc,bc,bc,bc,bc] Q:=by
 unfold y1;simp only[xG,uk,kK,Qa,tY,gf,true_and,xr,jW,ji,xy,ne_eq,Int.reduceEq,not_false_eq_true,y7];exact h _
theorem e2(hn:0<=n)(h:Q (.bl bh)):wpE CL y2 [bc,ba (.sh (.int n)),bc,bc,bc,bc,bc,bc,bc,bc] Q:=by
 unfold y2;simp only[qU,j4,ct6,xr,kK,jW,ji,zI,ne_eq,Int.reduceEq,not_false_eq_true,true_and];refine⟨by decide,⟨_,rfl,by rw[jbf (by decide)];lia⟩,λd r=>?_,λ_ z=>z.elim⟩;cases (show d=.bl bh from r);exact h
end
theorem ja1(f:Bool):∃k,StOk f (lsB f) (ssB f) k:=by
 cases f with
 |false=>exact⟨k00,rfl,(λ_ z=>nomatch z),rfl⟩
 |true=>exact⟨kA,VL,(by decide +kernel),.inl rfl⟩
theorem QQ(f:Bool):(∀s∈lsB f,b9 s=bh)/\∀s∈ssB f,b9 s=true:=by cases f<;>decide +kernel
theorem VO{K:Frag}{a b:Addr}{v:V}{f:Bool}{ns:List Int}(nab:a≠b)(ga:H a=ba (.lst ((lsB f).map V.str)))(gb:H b=ba (.lst ((ssB f).map V.str)))(i0:Is K (minus H [a,b]) (.lst (ns.map .int)) v) :
 RepS [] K [a,b] H (st ns n (lsB f) (ssB f) f bc bc bc bc bc) [ba v,ba (.int n),ba (.ref a),ba (.ref b),ba (.bl f),bc,bc,bc,bc,bc]:=by
 have big:∀(i:Nat) (z:Sl),ji (st ns n (lsB f) (ssB f) f bc bc bc bc bc) (i+5)=ba z->False:=λi z g=>by
  unfold st at g
  rcases i with _|_|_|_|_|i<;>cases g
 have noT:∀(i:Nat) (rows:List (List D)),ji (st ns n (lsB f) (ssB f) f bc bc bc bc bc) i=ba (.ot rows)->False:=λi rows g=>by
  rcases i with _|_|_|_|_|i
  any_goals cases g
  exact big _ _ g
 refine⟨⟨rfl,λx hx=>?_,λi d g=>?_,λi ds g=>?_,λi j ds es ne g1 g2=>?_,⟨λi rows g=>(noT i rows g).elim,λi j rs qs g=>(noT i rs g).elim⟩⟩,(λ_ _ _ _ _ z=>nomatch z),λi rows _ _ g=>(noT i rows g).elim⟩
 ·simp only[bG,bV,or_false]at hx;rcases hx with rfl|rfl
  ·rw[ga];exact λz=>nomatch z
  ·rw[gb];exact λz=>nomatch z
 ·rcases i with _|_|_|_|_|i
  ·cases g;exact⟨_,rfl,i0⟩
  ·cases g;exact⟨_,rfl,ju _⟩
  ·cases g
  ·cases g
  ·cases g;exact⟨_,rfl,j5 _⟩
  ·exact(big _ _ g).elim
 ·rcases i with _|_|_|_|_|i
  ·cases g
  ·cases g
  ·cases g;exact⟨a,_,rfl,bJ ..,ga,zZ (QQ f).1⟩
  ·cases g;exact⟨b,_,rfl,bD _ (bJ ..),gb,zZ (QQ f).2⟩
  ·cases g
  ·exact(big _ _ g).elim
 ·have one:∀(i:Nat) (ds:List D),ji (st ns n (lsB f) (ssB f) f bc bc bc bc bc) i=ba (.ow ds)->i=2\/i=3:=λi ds g=>by
   rcases i with _|_|_|_|_|i
   any_goals (cases g;done)
   ·exact .inl rfl
   ·exact .inr rfl
   ·exact(big _ _ g).elim
  rcases one i ds g1 with rfl|rfl<;>rcases one j es g2 with rfl|rfl
  ·exact absurd rfl ne
  ·intro z;have z:ba (ba (V.ref a))=ba (ba (V.ref b)):=z;cases z;exact nab rfl
  ·intro z;have z:ba (ba (V.ref b))=ba (ba (V.ref a)):=z;cases z;exact nab rfl
  ·exact absurd rfl ne
theorem jbd(ev:Ev){Y:Cx}(F:LF Y lv)(sp:spD Y.K 1 bj bj yY vs H Q E) :
 ∃t,PSs Y (jm fi_law.st) t/\t { nx:=λ_ H'=>Q .non H',rt:=Q } (L2.start fi_law.N vs) H:=by
 refine⟨_,jl (p0 F) (jl (p1 F) (jl (p2 F) (p3 F H))),?_⟩;obtain⟨O,ds,hl,ho,is,⟨ns,rfl,hn⟩,hq,_⟩:=sp
 have fin:∀H',jd H H'->Q (.bl bh) H':=λH' s=>hq _ rfl _ _ s (j5 _)
 unfold Iss at is;obtain⟨v,r,rfl,i1,i2⟩:=is;unfold Iss at i2;subst i2;have i0:Is Y.K H (.lst (ns.map .int)) v:=Is.mono (jc _ _) _ i1;clear hq ho i1;refine go (e0 hn λn n0 v1 H1 s1 i1=>?_) (sP i0 trivial);cases jk i1;refine goT (e1 λc H2 s2=>?_) (sP (ju _) trivial)
 cases c with
 |true =>
  refine go (e2 n0 λv H3 s3 i3=>?_) (sP (ju _) trivial);cases k9 i3
  exact fin _ (s1.trans (s2.trans s3))
 |false =>
  refine⟨.int n,rfl,n,rfl,λf s a b H3 s3 ha hb nab ga gb gs=>?_⟩;refine⟨s,_,rfl,SqT.of gs,rfl,_,_,rfl,_,_,rfl,_,_,rfl,rfl,?_⟩;obtain⟨k,hk⟩:=ja1 f;have s12:=s1.trans s2;have sA:=s12.trans s3;have na:=s12.free ha;have nb:=s12.free hb;refine⟨st ns n (lsB f) (ssB f) f bc bc bc bc bc,[a,b],⟨sA,(λ_ z=>nomatch z),λx hx=>.inr ?_⟩,?_,jgM (jgo ev) hn hk (by cases f<;>decide) ?_⟩
  ·simp only[bG,bV,or_false]at hx;rcases hx with rfl|rfl
   ·exact na
   ·exact nb
  ·refine VO nab ga gb (Is.mono (λx o hx=>?_) _ i0)
   have n1:x≠a:=λz=>by rw[z,na]at hx;cases hx
   have n2:x≠b:=λz=>by rw[z,nb]at hx;cases hx
   rw[jw (by simp[n1,n2])];exact sA _ _ hx
  ·intro v H' s' i';cases k9 i';exact fin _ s'
end Z.M59
set_option maxRecDepth 1000000
namespace Z.M59
open PySem PySem.Spec PySem.Calls PyProof.Rows PySem.W L2 Z Z.EV Z.DL Z.J11
variable{n:Nat}
theorem Qd{α β:Type}{f:α->β}{l:List α}{m:List β}(e:l.map f=m){a:α}(h:l[n]?=ba a):m[n]?=ba (f a):=by rw[<- e,dQ,h];rfl
theorem f_b:fns.map (λi=>(i.b,i.N.length))=L:=by kernel_rfl
theorem f_c:fns.map (·.c)=(gq 87).map (ctE run z):=by kernel_rfl
theorem f_z:fns.map (·.rz)=(gq 87).map z:=by kernel_rfl
theorem f_f:fns.map (λi=>(i.fr,i.g,i.cls,i.al))=bE 87 (bj,bj,cl,bj):=by kernel_rfl
variable{i:FnI}
theorem jb3(h:fns[n]?=ba i):n<87/\L[n]?=ba (i.b,i.N.length)/\i.c=ctE run z n/\i.rz=z n/\i.fr=bj/\i.g=bj/\i.cls=cl/\i.al=false:=by
 have hn:n<87:=(dH.mp h).1;have h1:=Qd f_b h;have h2:=Qd f_c h;have h3:=Qd f_z h;have h4:=Qd f_f h;rw[dQ,List.getElem?_range hn,nM]at h2 h3;rw[pW,if_pos hn]at h4;have h4:=dF h4;rw[tj,tj,tj]at h4;exact⟨hn,h1,(dF h2).symm,(dF h3).symm,h4.1.symm,h4.2.1.symm,h4.2.2.1.symm,h4.2.2.2.symm⟩
theorem ct(n:Nat)(i:FnI)(h:fns[n]?=ba i):C.ct n=i.c/\C.fr n=i.fr/\C.f2 n=i.g:=by
 obtain⟨_,_,h2,_,h4,h5,_⟩:=jb3 h;exact⟨h2.symm,h4.symm,h5.symm⟩
theorem keeps(i:FnI)(hi:i∈fns):i.Keep C:=by
 obtain⟨n,h⟩:=jhJ hi;obtain⟨hn,h1,h2,h3,h4,h5,_⟩:=jb3 h;unfold FnI.Keep;rw[h3,h4,h5,h2]
 cases hz:z n with
 |true =>
  rw[if_pos rfl,if_neg df,if_neg df]
  exact⟨rfl,jfK (C:=C) (λ_=>rfl) (λ_=>rfl) h1 hn hz⟩
 |false =>
  rw[if_neg df,if_neg df,if_neg df];exact jfD (C:=C) (λ_=>rfl) (λ_=>rfl) h1 hn hz
def ZH:List FnI:=[fi_set_digits,fi_add_row,fi_drop_row,fi_order_rows,fi_tell_sum,fi_tell_mean,fi_tell_spread,fi_tell_root,fi_tell_middle,fi_tell_quick,fi_tell_dot,fi_tell_line,fi_tell_fit,fi_tell_least,fi_show_row,fi_tell_brief]
def PQ(mg:bF->Option bq)(v:bq)(d:D):Prop:=∀j:Int,d=.int j->∃i,ZH[j.toNat]?=ba i/\mg i.x=ba v
theorem jbT:ZH.drop 4=I.drop 10:=rfl
theorem jea:∀n<12,(T[n+10]?).map (·.2.2)=ba true:=by decide +kernel
theorem je8:(I.drop 10).all (λi=>decide (i.ps.length=2))=true:=by decide +kernel
theorem Vu{K:Frag}{pr:Params}{P P':bq->D->Prop}{a:Addr}{l:List (bF×D)}(h:DictK K pr P a l)(f:∀v d,P v d->P' v d):DictK K pr P' a l:=by
 obtain⟨⟨es,n,h1,h2,h3⟩,h4⟩:=h;refine⟨⟨es,n,h1,h2,?_⟩,h4⟩;clear h1 h2;generalize es.toList=es at h3 ⊢
 induction h3 with
 |nil=>exact .nil
 |cons a b ih=>exact .cons ⟨a.1,f _ _ a.2⟩ ih
theorem hv(σ:Sto)(i:Nat)(d:D)(h:ji σ i=ba (.sh d)):gn.e (.var i) σ=ba d:=by
 show (match ji σ i with|some (.sh d)=>ba d|_=>bc)=ba d;rw[h]
def restL:List FnI:=[fi_set_digits,fi_add_row,fi_drop_row,fi_order_rows,fi_done,fi_answer,fi_weights_told,fi_play,fi_cell,fi_drawn,fi_sixty,fi_begun,fi_law]
theorem jbW:(Ye ⟨nmR I T,dns,bh⟩ (fi_set_digits.ck fns cns) zN zy zw (jm fi_set_digits.st)&&Ye ⟨nmR I T,dns,bh⟩ (fi_add_row.ck fns cns) Kd J1 JW (jm fi_add_row.st)&&Ye ⟨nmR I T,dns,bh⟩ (fi_drop_row.ck fns cns) Jr vW Jq (jm fi_drop_row.st)&&Ye ⟨nmR I T,dns,bh⟩ (fi_order_rows.ck fns cns) zB zl zK (jm fi_order_rows.st))=true:=by decide +kernel
theorem jeu:wtC (fi_weights_told.ck [] []) "refused: Dependent" ((jm fi_weights_told.st).getD 0 (.Pass ⟨0,0,0,0⟩))=true:=by decide +kernel
theorem jcb:(restL ++ [fi_ini]).all jV=true:=by decide +kernel
theorem jbN:(vV fi_cell [] []&&vV fi_drawn [] []&&vV fi_sixty (LL.take 6) [])=true:=by decide +kernel
theorem nmT:(nmR I T).take 22=nmR I T:=by decide +kernel
section
variable {P:dg} {w:World} {K:Frag} {mg:bF->Option bq} {base:dR} {Cd:Addr}
structure Facts (K:Frag) (pr:Params) (mg:bF->Option bq) (Cd:Addr):Prop where
 ev:Ev
 f1:∀i∈fns,x6 K mg i
 f2:∀i∈I,x6 K mg i
 f3:∀i∈restL,x6 K mg i
 cn:∀n x,cns[n]?=ba x->∃u v,mg x=ba u/\jH v u/\∀S,Is K S (C.cn n) v
 bl:∀x∈blts,mg x=bc
 st:mg "set"=bc
 ex:ExcOk K mg cl bj
 ap:QN K mg (("Dependent":bF)::hs.map (·.1))
 wb:∃d,mg "WORDS_BEHIND"=ba (.ref d)/\DictK K pr (PD K) d wb
 de:∃d,mg "DEEDS"=ba (.ref d)/\DictK K pr (PQ mg) d dd
 dm:mg "Desk"=ba (.ref Cd)
 dc:DeskC K Cd
 di:∃fI fdI,L2.Mk K Cd fI/\Fun K "__init__" "Desk.__init__" fi_ini.st fI fdI/\kP K fdI ["self"] []
theorem uF(h:i∈restL ++ [fi_ini]):jV i=true:=dC.mp jcb i h
theorem hE0:∀x,¬ C.E x:=λ_ z=>z
theorem jeX(F:Facts K w.params mg Cd)(base:dR):Std P w K mg base C cns fns 90 g0 ⟨[],dns,bj⟩ Cd:=by
 have all:=UH (P:=P) (w:=w) (base:=base) F.f1 F.ev.chk keeps ct F.cn F.bl hE0 (λi hi _=>by
  obtain⟨n,h⟩:=jhJ hi;obtain⟨_,_,_,_,_,_,h6,h7⟩:=jb3 h
  rw[h6,h7];exact F.ex)
 refine⟨by decide,λn j e=>?_,F.cn,F.bl,hE0,λx σ d h=>(ZI (C:=C) (ca:=run) (c0:=run) (λ_=>rfl) (λ_ _ _ h=>h) (λ_=>rfl) 2000).1 x σ d h,λ_=>rfl,(λf x n b e=>nomatch e),λi x e=>?_,F.dc,F.st⟩
 ·obtain⟨f,fd,A⟩:=F.f1 j (gv e);have hn:=(jb3 e).1;rw[(ct n j e).1,(ct n j e).2.1,(ct n j e).2.2];exact⟨f,fd,(all n j f fd e A).mono (by lia),A⟩
 ·cases i with
  |zero =>
   cases e;obtain⟨d,h1,h2⟩:=F.wb
   exact⟨d,h1,h2⟩
  |succ i=>cases e
theorem jb6(F:Facts K w.params mg Cd)(base:dR){lv:Nat}(hl:112<=lv){b:Bool}:Std P w K mg base C cns fns lv gn ⟨nmR I T,dns,b⟩ Cd:=by
 have S:=jeX (P:=P) F base;have D:=Jo (cl:=cl) (I:=I) (T:=T) S F.ex F.ev.rd F.f2 22 (bN _)
 have:=V5 (I:=I) (T:=T) (n:=22) (lv':=lv) (b:=b) S (by lia) (λf i p hf h1 h2=>by
  obtain⟨fa,fd,A,G⟩:=D f i p hf h1 h2
  exact⟨fa,fd,A,G.mono (by lia)⟩)
 rw[nmT]at this;exact this
theorem K5{ss:List DL.S}{m:Mu}{x:DL.X}(F:Facts K w.params mg Cd)(base:dR)(hi:i∈restL)(hcl:i.cls=cl)(al:i.al=bj)(hN:2<=i.N.length)(hp:i.ps.length=2)(hc:Ye ⟨nmR I T,dns,bh⟩ (i.ck fns cns) ss m x (jm i.st)=bh) :
 ∃fa fd,FnAt K mg i fa fd/\FnOk P w K mg base (CXz P w mg) 113 fa fd i.ps (spM K Cd (rM gn ss m x i.N.length)):=by
 obtain⟨fa,fd,A⟩:=F.f3 i hi;exact⟨fa,fd,A,jdT (jb6 F base (bN _)) A (uF (gZ _ hi)) (by rw[hcl,al];exact F.ex) al hN hp rfl hc⟩
theorem jcW(F:Facts K w.params mg Cd)(base:dR)(v:bq)(d:D)(h:PQ mg v d):PF P w K mg base 113 Cd fms v d:=by
 intro j hj;obtain⟨i,hi,hm⟩:=h j hj
 have fin:(∃fa fd,FnAt K mg i fa fd/\FnOk P w K mg base (CXz P w mg) 113 fa fd i.ps (spM K Cd (fms j.toNat)))->∃fa fd ps,v=.ref fa/\FnOk P w K mg base (CXz P w mg) 113 fa fd ps (spM K Cd (fms j.toNat))/\keepIn K (.ref fa)=bh/\kP K fd ps []:=λ⟨fa,fd,A,G⟩=>by
  refine⟨fa,fd,i.ps,?_,G,A.fn.kp,.all A.bd⟩;have:=A.mg;rw[hm]at this;exact dF this
 refine fin ?_;clear fin hm;have cm:=jbW;simp only[bz]at cm;generalize j.toNat=n at hi ⊢;rcases n with _|_|_|_|n
 ·cases hi;exact K5 F base (by simp[restL]) rfl rfl (by decide) rfl cm.1.1.1
 ·cases hi;exact K5 F base (by simp[restL]) rfl rfl (by decide) rfl cm.1.1.2
 ·cases hi;exact K5 F base (by simp[restL]) rfl rfl (by decide) rfl cm.1.2
 ·cases hi;exact K5 F base (by simp[restL]) rfl rfl (by decide) rfl cm.2
 ·have e:I[n+10]?=ba i:=by
   have:(ZH.drop 4)[n]?=ba i:=by rw[wA,tU];exact hi
   rw[jbT,wA,tU]at this;exact this
  have hn:n<12:=by
   have:n+10<22:=(dH.mp e).1;lia
  have hT:=jea n hn
  cases hp:T[n+10]? with
  |none=>rw[hp]at hT;cases hT
  |some p =>
   rw[hp]at hT;have hb:p.2.2=true:=dF hT
   have hps:i.ps.length=2:=by
    have:=dC.mp je8 i (gv (i:=n) (by rw[wA,tU];exact e));exact of_decide_eq_true this
   obtain⟨fa,fd,A,G⟩:=Jo (cl:=cl) (I:=I) (T:=T) (jeX (P:=P) F base) F.ex F.ev.rd F.f2 22 (bN _) (n+10) i p (by lia) e hp;rw[hb,hps]at G;exact⟨fa,fd,A,(G.imp λvs H Q E h=>jeY h).mono (by decide)⟩
theorem jcv(F:Facts K w.params mg Cd)(base:dR):∃fa fd,FnAt K mg fi_play fa fd/\FnOk P w K mg base (CXz P w mg) 116 fa fd fi_play.ps (spP (run 0) rA):=by
 obtain⟨da,hd1,hd2⟩:=F.de;obtain⟨f1,fd1,A1⟩:=F.f3 fi_done (by simp[restL]);obtain⟨f2,fd2,A2⟩:=F.f3 fi_answer (by simp[restL]);obtain⟨f3,fd3,A3⟩:=F.f3 fi_weights_told (by simp[restL]);obtain⟨f4,fd4,A4⟩:=F.f3 fi_play (by simp[restL]);obtain⟨fI,fdI,M,FI,hbI⟩:=F.di;have d1:=jcr (fth:=3) (jb6 (P:=P) F base (lv:=113) (b:=bh) (by decide)) hv A1 (uF (by simp[restL])) F.ex rfl rfl rfl rfl hd1 (Vu hd2 (jcW F base)) rfl (by decide +kernel) rfl (by decide +kernel) (by decide +kernel) (by decide +kernel)
 have d2:=jee (hs:=hs) (jb6 (P:=P) F base (lv:=114) (b:=bh) (by decide)) A2 (uF (by simp[restL])) F.ex rfl rfl rfl (by decide +kernel) rfl d1 A1.mg A1.fn.kp (.all A1.bd) A3 rfl (uF (by simp[restL])) rfl (by decide) rfl jeu (by decide +kernel) (λx hx=>by
  have:∀x∈("Dependent":bF)::hs.map (·.1),x∈cl:=by decide +kernel
  exact this x (bG.mpr hx)) F.ap rfl (by decide +kernel) (by decide +kernel) (by decide +kernel) (by decide +kernel)
 have d3:=jfd (P:=P) (w:=w) (base:=base) (mg:=mg) (lv:=2) (i:=fi_ini) (by decide) FI (uF (by simp[restL])) F.bl rfl rfl F.dc rfl (by decide +kernel);exact⟨f4,fd4,A4,jch (g:=gn) (iw:=0) (lv:=115) (by decide) A4 (uF (by simp[restL])) (jb6 (P:=P) F base (lv:=115) (b:=bh) (by decide)).fns F.cn F.bl hE0 rfl rfl rfl d2 A2.mg A2.fn.kp (.all A2.bd) M d3 (by decide) F.dm hbI rfl (by decide +kernel) (by decide +kernel) (by decide +kernel) (by decide +kernel) (by decide +kernel) (by decide +kernel) (by decide +kernel) (by decide +kernel) (by decide +kernel) (by decide +kernel)⟩
theorem jbF(F:Facts K w.params mg Cd):∃f fd,FnAt K mg fi_law f fd/\∀base:dR,FnOk P w K mg base (CXz P w mg) 118 f fd ["_law_script"] (spD K 1 bj bj yY):=by
 obtain⟨fl,fdl,Al⟩:=F.f3 fi_law (by simp[restL]);refine⟨fl,fdl,Al,λbase=>?_⟩
 have hEL:∀x,¬ CL.E x:=λ_ z=>z
 have hc0:∀(C:Cfg) n x,([]:List bF)[n]?=ba x->∃u v,mg x=ba u/\jH v u/\∀S,Is K S (C.cn n) v:=λ_ _ _ e=>nomatch e
 have cl:=jbN;rw[bz,bz]at cl;obtain⟨fc,fdc,Ac⟩:=F.f3 fi_cell (by simp[restL]);obtain⟨fw,fdw,Aw⟩:=F.f3 fi_drawn (by simp[restL]);obtain⟨fs,fds,As⟩:=F.f3 fi_sixty (by simp[restL]);obtain⟨fb,fdb,Ab⟩:=F.f3 fi_begun (by simp[restL]);obtain⟨fp,fdp,Ap,kp⟩:=jcv (P:=P) F base;have kc:FnOk P w K mg base (CXz P w mg) 3 fc fdc fi_cell.ps (spD K 2 bj bj yD):=zS (L:=[]) (C:=CL) (cns:=[]) (by decide) Ac cl.1.1 je5 (λn j e=>nomatch e) (hc0 _) F.bl hEL (λz=>nomatch z);have kw:FnOk P w K mg base (CXz P w mg) 3 fw fdw fi_drawn.ps (spD K 2 bj bj qT):=zS (L:=[]) (C:=CL) (cns:=[]) (by decide) Aw cl.1.2 jb5 (λn j e=>nomatch e) (hc0 _) F.bl hEL (λz=>nomatch z)
 have kpl:FnOk P w K mg base (CXz P w mg) 116 fp fdp fi_play.ps (spD K 1 bj bj za):=kp.imp λvs H Q E h=>jbM h
 have S:=jeX (P:=P) F base;obtain⟨g1,gd1,G1,B1⟩:=S.fns KO fi_law_bare_rows rfl;obtain⟨g2,gd2,G2,B2⟩:=S.fns yL fi_law_refused_rows rfl;obtain⟨g3,gd3,G3,B3⟩:=S.fns KW fi_law_good_rows rfl
 have f6:∀lv,116<=lv->∀n j,(LL.take 6)[n]?=ba j->∃f fd,FnOk P w K mg base (CXz P w mg) lv f fd j.ps (spD K j.ps.length (CL.fr n) (CL.f2 n) (CL.ct n))/\FnAt K mg j f fd:=λlv hl n j e=>by
  rcases n with _|_|_|_|_|_|n
  ·cases e;exact⟨_,_,kc.mono (by lia),Ac⟩
  ·cases e;exact⟨_,_,kw.mono (by lia),Aw⟩
  ·cases e;exact⟨_,_,G1.mono (by lia),B1⟩
  ·cases e;exact⟨_,_,G2.mono (by lia),B2⟩
  ·cases e;exact⟨_,_,G3.mono (by lia),B3⟩
  ·cases e;exact⟨_,_,kpl.mono (by lia),Ap⟩
  ·cases e
 have ks:FnOk P w K mg base (CXz P w mg) 117 fs fds fi_sixty.ps (spD K 1 bj bj zk):=zS (L:=LL.take 6) (C:=CL) (cns:=[]) (by decide) As cl.2 (jcQ F.ev rfl) (f6 116 (by decide)) (hc0 _) F.bl hEL (λz=>nomatch z)
 have kb:FnOk P w K mg base (CXz P w mg) 3 fb fdb fi_begun.ps spB:=K7 (i:=fi_begun) (L:=[]) (cns:=[]) (C:=C0) (by decide) Ab (uF (by simp[restL])) (λn j e=>nomatch e) (hc0 _) F.bl (λ_ z=>z) (λvs H Q E h=>by obtain⟨n,rfl,_⟩:=h;rfl) λX H vs Q E hh eqs sp=>XT hh sp
 have f7:∀n j,LL[n]?=ba j->∃f fd,FnOk P w K mg base (CXz P w mg) 117 f fd j.ps (spD K j.ps.length (CL.fr n) (CL.f2 n) (CL.ct n))/\FnAt K mg j f fd:=λn j e=>by
  by_cases hn:n<6
  ·exact f6 117 (by decide) n j (by rw[nA hn];exact e)
  ·have:n<7:=(dH.mp e).1
   obtain rfl:n=6:=by lia
   cases e;exact⟨_,_,ks,As⟩
 refine K7 (i:=fi_law) (L:=LL) (cns:=[]) (C:=CL) (lv:=117) (by decide) Al (uF (by simp[restL])) f7 (hc0 _) F.bl hEL (λvs H Q E h=>by obtain⟨O,ds,hl,_,is,_⟩:=h;rw[is.length,hl];rfl) λX H vs Q E' hh eqs sp=>?_
 obtain⟨rfl,rfl,rfl,rfl,rfl,_⟩:=eqs
 have Y:LF X.nox 117:=⟨hh.ok,hh.rm,fb,fdb,kb.mono (by decide),Ab.mg,Ab.fn.kp,.all Ab.bd⟩
 obtain⟨t,h1,h2⟩:=jbd F.ev Y sp;exact⟨t,PSs.nox h1,h2⟩
end
end Z.M59
set_option maxRecDepth 1000000
namespace Z.M59
open PySem PySem.Spec PySem.Calls PyProof.Rows PySem.W L2 Z Z.EV Z.DL
variable{a:Addr}{o:mE}{t t':Tok}{n:Nat}{x:bF}{pr:Params}
section
variable {K:Frag} {h:dR} {mg:bF->Option bq}
def ApN(K:Frag):List (bF×Addr)->Prop
 |[]=>True
 |p::r=>nsIn K dh p.1=ba (ba (.ref p.2))/\ApN K r
def ApF(K:Frag)(p:bF×Addr):List (bF×Addr)->Prop
 |[]=>True
 |q::r=>(subIn K (.ref p.2) (.ref q.2)=ba bj/\subIn K (.ref q.2) (.ref p.2)=ba bj)/\ApF K p r
def ApS(K:Frag):List (bF×Addr)->Prop
 |[]=>True
 |p::r=>ApF K p r/\ApS K r
theorem XO(X:K.In h)(G:h.Ns dh mg):∀ {as:List (bF×Addr)},ApN K as->∀p∈as,mg p.1=ba (.ref p.2)
 |p::r,⟨a,b⟩,q,hq=>by
  rcases bG.mp hq with rfl|hq
  ·exact mg_of X G a
  ·exact XO X G b q hq
theorem X9{p:bF×Addr}:∀ {as:List (bF×Addr)},ApF K p as->∀q∈as,subIn K (.ref p.2) (.ref q.2)=ba bj/\subIn K (.ref q.2) (.ref p.2)=ba bj
 |p::r,⟨a,b⟩,q,hq=>by
  rcases bG.mp hq with rfl|hq
  ·exact a
  ·exact X9 b q hq
theorem jaY:∀ {as:List (bF×Addr)},ApS K as->∀p∈as,∀q∈as,p≠q->subIn K (.ref p.2) (.ref q.2)=ba bj
 |p::r,⟨a,b⟩,x,hx,y,hy,ne=>by
  rcases bG.mp hx with rfl|hx'<;>rcases bG.mp hy with rfl|hy'
  ·exact absurd rfl ne
  ·exact(X9 a y hy').1
  ·exact(X9 a x hx').2
  ·exact jaY b x hx' y hy' ne
theorem Vl(X:K.In h)(G:h.Ns dh mg){as:List (bF×Addr)}(n:ApN K as)(s:ApS K as):QN K mg (as.map (·.1)):=by
 intro x hx y hy ne Cx Cy hmx hmy;obtain⟨p,hp,rfl⟩:=gD.mp hx;obtain⟨q,hq,rfl⟩:=gD.mp hy;have e1:=XO X G n p hp;have e2:=XO X G n q hq;rw[hmx]at e1;rw[hmy]at e2;cases e1;cases e2
 exact jaY s p hp q hq λz=>ne (by rw[z])
theorem apart9{c0 c1 c2 c3 c4 c5 c6 c7 c8:Addr}(X:K.In h)(G:h.Ns dh mg)(n:ApN K [("Dependent",c0),("BadRow",c1),("BadText",c2),("TooGreat",c3),("Unfit",c4),("TooMany",c5),("NoRow",c6),("NoColumn",c7),("NoLine",c8)])(s:ApS K [("Dependent",c0),("BadRow",c1),("BadText",c2),("TooGreat",c3),("Unfit",c4),("TooMany",c5),("NoRow",c6),("NoColumn",c7),("NoLine",c8)]):QN K mg (("Dependent":bF)::hs.map (·.1)):=Vl X G n s
theorem pd_mk{i j:Int}(l:K.lookup a=ba o)(c:o.cls=.type "tuple")(e:o.data=.seq #[.int i t,.int j t'] n):PD K (.ref a) (.tup [.int i,.int j]) :=
 ⟨.ref a,rfl,λS=>zE (.inr ⟨o,_,n,l,c,e,by show 2<=sizeLine;decide,(show jv [V.int i,V.int j] [.int i t,.int j t'] from .cons ⟨_,rfl⟩ (.cons ⟨_,rfl⟩ .nil))⟩) (by unfold Iss;exact⟨_,_,rfl,ju _,by unfold Iss;exact⟨_,_,rfl,ju _,by unfold Iss;rfl⟩⟩)⟩
theorem cn_mkTS{y y':bF}(X:K.In h)(G:h.Ns dh mg)(k1:b9 y=bh)(k2:b9 y'=bh)(z:nsIn K dh x=ba (ba (.ref a)))(l:K.lookup a=ba o)(c:o.cls=.type "tuple")(e:o.data=.seq #[.str y t,.str y' t'] n):∃u v,mg x=ba u/\jH v u/\∀S,Is K S (.tup [.str y,.str y']) v :=
 ⟨_,.ref a,mg_of X G z,rfl,λS=>zE (.inr ⟨o,_,n,l,c,e,by show 2<=sizeLine;decide,(show jv [V.str y,V.str y'] [.str y t,.str y' t'] from .cons ⟨_,rfl⟩ (.cons ⟨_,rfl⟩ .nil))⟩) (by unfold Iss;exact⟨_,_,rfl,kq k1,by unfold Iss;exact⟨_,_,rfl,kq k2,by unfold Iss;rfl⟩⟩)⟩
theorem pq_mk{i:FnI}{v:bq}(X:K.In h)(G:h.Ns dh mg)(j:Nat)(e:ZH[j]?=ba i)(a:nsIn K dh i.x=ba (ba v)):PQ mg v (.int j):=λk hk=>by
 cases hk;exact⟨i,e,mg_of X G a⟩
theorem pq_non{v:bq}:PQ mg v .non:=λ_ z=>nomatch z
theorem dict_mk{P:bq->D->Prop}{es:Array pY}{l:List (bF×D)}(X:K.In h)(G:h.Ns dh mg)(z:nsIn K dh x=ba (ba (.ref a)))(lk:K.lookup a=ba ⟨.type "dict",bc,.dict es n,#[]⟩)(lo:(a == jh5)=bj)(kl:KeysLit pr es.toList)
 (pa:wJ (λ(e:pY) (p:bF×D)=>(∃t,e.key=.str p.1 t)/\P e.val p.2) es.toList l):∃d,mg x=ba (.ref d)/\DictK K pr P d l:=⟨a,mg_of X G z,⟨es,n,lk,kl,pa⟩,lo⟩
theorem facts_mk{Cd fI:Addr}{oc:bq}{od an:Option Addr}{kV doc pm cdv ct:bq}{osl:Array (Option bq)}(X:K.In h)(G:h.Ns dh mg)(ev:Ev)
 (dm:nsIn K dh "Desk"=ba (ba (.ref Cd))) (ini:findIn K (.ref Cd) "__init__"=ba (ba (.ref fI))) (lf:K.lookup fI=ba ⟨oc,od,.func (fnOf "__init__" "Desk.__init__" (qo fi_ini.st) (jm fi_ini.st) (jg fi_ini.st) .none kV doc pm an cdv ct),osl⟩)
 (pg:plainGet K Cd Str.empty=bh) (hd:hasDictIn K Cd=bh) (po:plainOver K Cd=bh) (sa:findIn K (.ref Cd) "__setattr__"=ba (ba (.builtin "object.__setattr__"))) (n1:findIn K (.ref Cd) "width"=ba bc) (n2:findIn K (.ref Cd) "digits"=ba bc) (n3:findIn K (.ref Cd) "table"=ba bc)
 (mk:makesIn K Cd=bh) (fn:isFn K (.ref fI)=bh) (kp:keepIn K (.ref Cd)=bh) (cd:codeIn K cdv "Desk.__init__"=bh) (kf:keepIn K (.ref fI)=bh)
 (bd:∀(kV doc pm:bq) (an:Option Addr) (cdv ct:bq) (us:List bq),us.length=1->jiq (fnOf "__init__" "Desk.__init__" (qo fi_ini.st) (jm fi_ini.st) (jg fi_ini.st) .none kV doc pm an cdv ct) ⟨us,[]⟩=pure ((["self"]:List bF).zip us))
 (f1:∀i∈fns,x6 K mg i) (f2:∀i∈I,x6 K mg i) (f3:∀i∈restL,x6 K mg i) (cn:∀n x,cns[n]?=ba x->∃u v,mg x=ba u/\jH v u/\∀S,Is K S (C.cn n) v) (bl:∀x∈blts,mg x=bc) (st:mg "set"=bc) (ex:ExcOk K mg cl bj)
 (ap:QN K mg (("Dependent":bF)::hs.map (·.1))) (wb':∃d,mg "WORDS_BEHIND"=ba (.ref d)/\DictK K pr (PD K) d wb) (de:∃d,mg "DEEDS"=ba (.ref d)/\DictK K pr (PQ mg) d dd):∃Cd,Facts K pr mg Cd :=
 ⟨Cd,ev,f1,f2,f3,cn,bl,st,ex,ap,wb',de,mg_of X G dm,⟨⟨pg,hd,po,sa⟩,λf=>by cases f<;>assumption⟩,fI,_,⟨mk,ini,fn,kp⟩,⟨⟨oc,od,kV,doc,pm,an,cdv,ct,osl,rfl,lf,cd⟩,kf⟩,.all λus hu=>bd kV doc pm an cdv ct us hu⟩
end
def fi_ini_Dependent:FnI:=⟨"__init__",clsDef (top 5),["self","text","weights"],["self","text","weights"],.nop,ctE run z 0,bj,bj,[],bh,bj⟩
def fi_ini_BadText:FnI:=⟨"__init__",clsDef (top 7),["self","text","at"],["self","text","at"],.nop,ctE run z 0,bj,bj,[],bh,bj⟩
theorem key{P:dg}{w:World}{K:Frag}{mg:bF->Option bq}(F:∃Cd,Facts K w.params mg Cd):∃f fd,FnAt K mg fi_law f fd/\∀base:dR,FnOk P w K mg base (CXz P w mg) 118 f fd ["_law_script"] (spD K 1 bj bj yY):=by
 obtain⟨Cd,F⟩:=F;exact jbF F
end Z.M59
set_option maxRecDepth 1000000
set_option synthInstance.maxHeartbeats 0
set_option synthInstance.maxSize 1000000
set_option maxSynthPendingDepth 1000
open PySem PySem.W PyProof.Rows
set_option maxHeartbeats 0 in
theorem PySem.Challenge.cw_trueline_k59_desk_refusals_holds : PySem.Challenge.rw_trueline_k59_desk_refusals.Holds := by
 refine hd9 ?_
 k_fill
 refine Z.law_walkH (l:=PySem.Challenge.rw_trueline_k59_desk_refusals) 118 Z.M59.fi_law rfl rfl (λw h Y=>jjo Y) ⟨λ_=>rfl,by decide,by decide⟩ rfl rfl ?F
 case F =>
  intro w mg h KX G;refine Z.M59.key ?_;refine' Z.M59.facts_mk KX G ?ev ?dm ?ini ?lf ?pg ?hd ?po ?sa ?n1 ?n2 ?n3 ?mk ?fn ?kp ?cd ?kf (λ_ _ _ _ _ _=>Z.len1 λ_=>rfl) ?f1 ?f2 ?f3 ?cns ?blt ?st ?ex ?ap ?wb ?de
  case dm=>k_is
  case ini=>k_is
  case lf=>(try dsimp only[Z.M59.fi_ini]);k_is
  case pg=>k_is
  case hd=>k_is
  case po=>k_is
  case sa=>k_is
  case n1=>k_is
  case n2=>k_is
  case n3=>k_is
  case mk=>k_is
  case fn=>k_is
  case kp=>k_is
  case cd=>(try dsimp only[Z.M59.fi_ini]);k_is
  case kf=>k_is
  case f1 =>
   intro i hi;simp only[Z.M59.fns,bG,bV,or_false]at hi
   rcases hi with rfl|rfl|rfl|rfl|rfl|rfl|rfl|rfl|rfl|rfl|rfl|rfl|rfl|rfl|rfl|rfl|rfl|rfl|rfl|rfl|rfl|rfl|rfl|rfl|rfl|rfl|rfl|rfl|rfl|rfl|rfl|rfl|rfl|rfl|rfl|rfl|rfl|rfl|rfl|rfl|rfl|rfl|rfl|rfl|rfl|rfl|rfl|rfl|rfl|rfl|rfl|rfl|rfl|rfl|rfl|rfl|rfl|rfl|rfl|rfl|rfl|rfl|rfl|rfl|rfl|rfl|rfl|rfl|rfl|rfl|rfl|rfl|rfl|rfl|rfl|rfl|rfl|rfl|rfl|rfl|rfl|rfl|rfl|rfl|rfl|rfl|rfl<;>((first|refine' Z.fact_mk KX G (λ_ _ _ _ _ _=>Z.len0 rfl) ?a ?l ?c ?k|refine' Z.fact_mk KX G (λ_ _ _ _ _ _=>Z.len1 λ_=>rfl) ?a ?l ?c ?k|refine' Z.fact_mk KX G (λ_ _ _ _ _ _=>Z.len2 λ_ _=>rfl) ?a ?l ?c ?k|refine' Z.fact_mk KX G (λ_ _ _ _ _ _=>Z.len3 λ_ _ _=>rfl) ?a ?l ?c ?k|refine' Z.fact_mk KX G (λ_ _ _ _ _ _=>Z.len4 λ_ _ _ _=>rfl) ?a ?l ?c ?k);(all_goals try dsimp only[Z.M59.fi_words_of,Z.M59.fi_behind_figures,Z.M59.fi_is_count,Z.M59.fi_two_to,Z.M59.fi_left_of,Z.M59.fi_cut,Z.M59.fi_odd_form,Z.M59.fi_from_cut,Z.M59.fi_near,Z.M59.fi_behind_sign,Z.M59.fi_power_atX,Z.M59.fi_common_divisor,Z.M59.fi_ratio,Z.M59.fi_times_ten,Z.M59.fi_read_textX,Z.M59.fi_is_whole,Z.M59.fi_is_pair_of_wholes,Z.M59.fi_is_number,Z.M59.fi_is_measure,Z.M59.fi_read_measureX,Z.M59.fi_ten_to,Z.M59.fi_times_ten_to,Z.M59.fi_reaches,Z.M59.fi_first_power,Z.M59.fi_spelled,Z.M59.fi_wholes_around,Z.M59.fi_written,Z.M59.fi_value,Z.M59.fi_is_read_as,Z.M59.fi_read_as,Z.M59.fi_briefest,Z.M59.fi_joined,Z.M59.fi_one_form,Z.M59.fi_exact_total,Z.M59.fi_exact_sum,Z.M59.fi_true_sum,Z.M59.fi_over,Z.M59.fi_exact_mean,Z.M59.fi_true_mean,Z.M59.fi_crossed,Z.M59.fi_exact_dot,Z.M59.fi_minus,Z.M59.fi_times,Z.M59.fi_exact_spread,Z.M59.fi_true_spread,Z.M59.fi_root_shift,Z.M59.fi_whole_root,Z.M59.fi_shifted,Z.M59.fi_rounded,Z.M59.fi_root,Z.M59.fi_true_deviation,Z.M59.fi_true_dot,Z.M59.fi_added,Z.M59.fi_without_sign,Z.M59.fi_sum_and_bound,Z.M59.fi_quick_sum,Z.M59.fi_line_ofX,Z.M59.fi_column,Z.M59.fi_turned,Z.M59.fi_in_steps,Z.M59.fi_rows_in_steps,Z.M59.fi_least_power,Z.M59.fi_one_by_one,Z.M59.fi_rows_of_fit,Z.M59.fi_whole_dot,Z.M59.fi_whole_dots,Z.M59.fi_whole_determinant1,Z.M59.fi_without,Z.M59.fi_whole_determinant2,Z.M59.fi_whole_determinant3,Z.M59.fi_whole_determinant4,Z.M59.fi_weighted,Z.M59.fi_first_not_nought,Z.M59.fi_cleared,Z.M59.fi_in_lowest_terms,Z.M59.fi_weights_to_nought,Z.M59.fi_put_in,Z.M59.fi_solved_in_wholesX,Z.M59.fi_fittedX,Z.M59.fi_rising,Z.M59.fi_middle,Z.M59.fi_ordered,Z.M59.fi_least_place,Z.M59.fi_is_width,Z.M59.fi_law_bare_rows,Z.M59.fi_law_refused_rows,Z.M59.fi_law_good_rows,Z.M59.mk,Z.M59.mkd,Z.M59.c6]);(case a=>k_is);(case l=>k_is);(case c=>k_is);(case k=>k_is))
  case f2 =>
   intro i hi;simp only[Z.M59.I,bG,bV,or_false]at hi
   rcases hi with rfl|rfl|rfl|rfl|rfl|rfl|rfl|rfl|rfl|rfl|rfl|rfl|rfl|rfl|rfl|rfl|rfl|rfl|rfl|rfl|rfl|rfl<;>((first|refine' Z.fact_mk KX G (λ_ _ _ _ _ _=>Z.len1 λ_=>rfl) ?a ?l ?c ?k|refine' Z.fact_mk KX G (λ_ _ _ _ _ _=>Z.len2 λ_ _=>rfl) ?a ?l ?c ?k);(all_goals try dsimp only[Z.M59.fi_are_unlike,Z.M59.fi_are_within_bounds,Z.M59.fi_counts_behind,Z.M59.fi_things_behind,Z.M59.fi_check_row,Z.M59.fi_check_columns,Z.M59.fi_column_at,Z.M59.fi_both_columns,Z.M59.fi_all_written,Z.M59.fi_nearest_written,Z.M59.fi_tell_sum,Z.M59.fi_tell_mean,Z.M59.fi_tell_spread,Z.M59.fi_tell_root,Z.M59.fi_tell_middle,Z.M59.fi_tell_quick,Z.M59.fi_tell_dot,Z.M59.fi_tell_line,Z.M59.fi_tell_fit,Z.M59.fi_tell_least,Z.M59.fi_show_row,Z.M59.fi_tell_brief,Z.M59.mk,Z.M59.mkd,Z.M59.c6]);(case a=>k_is);(case l=>k_is);(case c=>k_is);(case k=>k_is))
  case f3 =>
   intro i hi;simp only[Z.M59.restL,bG,bV,or_false]at hi
   rcases hi with rfl|rfl|rfl|rfl|rfl|rfl|rfl|rfl|rfl|rfl|rfl|rfl|rfl<;>((first|refine' Z.fact_mk KX G (λ_ _ _ _ _ _=>Z.len1 λ_=>rfl) ?a ?l ?c ?k|refine' Z.fact_mk KX G (λ_ _ _ _ _ _=>Z.len2 λ_ _=>rfl) ?a ?l ?c ?k);(all_goals try dsimp only[Z.M59.fi_set_digits,Z.M59.fi_add_row,Z.M59.fi_drop_row,Z.M59.fi_order_rows,Z.M59.fi_done,Z.M59.fi_answer,Z.M59.fi_weights_told,Z.M59.fi_play,Z.M59.fi_cell,Z.M59.fi_drawn,Z.M59.fi_sixty,Z.M59.fi_begun,Z.M59.fi_law,Z.M59.mk,Z.M59.mkd,Z.M59.c6]);(case a=>k_is);(case l=>k_is);(case c=>k_is);(case k=>k_is))
  case cns =>
   intro n x e
   match n,e with
   |0,e =>
    cases e;refine' Z.cn_mk KX G ?z
    case z=>k_is
   |1,e =>
    cases e;refine' Z.cn_mk KX G ?z
    case z=>k_is
   |2,e =>
    cases e;refine' Z.cn_mk KX G ?z
    case z=>k_is
   |3,e =>
    cases e;refine' Z.cn_mk KX G ?z
    case z=>k_is
   |4,e =>
    cases e;refine' Z.cn_mk KX G ?z
    case z=>k_is
   |5,e =>
    cases e;refine' Z.cn_mk KX G ?z
    case z=>k_is
   |6,e =>
    cases e;refine' Z.cn_mk KX G ?z
    case z=>k_is
   |7,e =>
    cases e;refine' Z.cn_mkS KX G (by decide +kernel) ?z
    case z=>k_is
   |8,e =>
    cases e;refine' Z.cn_mk KX G ?z
    case z=>k_is
   |9,e =>
    cases e;refine' Z.cn_mk KX G ?z
    case z=>k_is
   |10,e =>
    cases e;refine' Z.cn_mk KX G ?z
    case z=>k_is
   |11,e =>
    cases e;refine' Z.cn_mkT KX G ?z ?l ?c ?e
    case z=>k_is
    case l=>k_is
    case c=>rfl
    case e=>rfl
   |12,e =>
    cases e;refine' Z.cn_mk KX G ?z
    case z=>k_is
   |13,e =>
    cases e;refine' Z.M59.cn_mkTS KX G (by decide +kernel) (by decide +kernel) ?z ?l ?c ?e
    case z=>k_is
    case l=>k_is
    case c=>rfl
    case e=>rfl
   |14,e =>
    cases e;refine' Z.cn_mkS KX G (by decide +kernel) ?z
    case z=>k_is
   |15,e =>
    cases e;refine' Z.cn_mk KX G ?z
    case z=>k_is
   |n+16,e=>simp[Z.M59.cns]at e
  case blt =>
   intro x hx;simp only[Z.blts,bG,bV,or_false]at hx
   rcases hx with rfl|rfl|rfl|rfl|rfl|rfl|rfl|rfl|rfl|rfl|rfl|rfl|rfl|rfl|rfl|rfl|rfl|rfl|rfl<;>(refine' wo KX G ?z;(case z=>k_is))
  case st=>refine' wo KX G ?z;(case z=>k_is)
  case ex =>
   refine' Z.exc_okR KX ?ex;intro x hx;simp only[Z.M59.cl,bG,bV,or_false]at hx;rcases hx with rfl|rfl|rfl|rfl|rfl|rfl|rfl|rfl|rfl|rfl|rfl
   ·refine' Z.exc_mk KX G ?xa ?xq (by decide +kernel) (λz=>bK z);(case xa=>k_is);(case xq=>k_exc)
   ·refine' Z.exc_mk KX G ?xa ?xq (by decide +kernel) (λz=>bK z);(case xa=>k_is);(case xq=>k_exc)
   ·refine' Z.exc_mk KX G ?xa ?xq (by decide +kernel) (λz=>bK z);(case xa=>k_is);(case xq=>k_exc)
   ·refine' Z.exc_mkO (i:=Z.M59.fi_ini_Dependent) KX G (by decide +kernel) (by decide +kernel) (λ_ _ _ _ _ _ _ _ _ _ _=>⟨_,rfl,rfl⟩) ?oa ?ote ?oml ?ol ?oln ?orN ?oT ?oM ?orM ?oi ?on1 ?on2 ?on3 ?on4 ?om1 ?om2 ?om3 ?om4 ?om5 ?om6 ?oop ?ofi ?ofn ?okp ?olf ?olD ?ocd (λz=>bK z);(case oa=>k_is);(case ote=>k_is);(case oml=>k_is);(case ol=>k_is);(case oln=>k_is);(case orN=>rfl);(case oT=>k_is);(case oM=>k_is);(case orM=>rfl);(case oi=>k_is);(case on1=>k_is);(case on2=>k_is);(case on3=>k_is);(case on4=>k_is);(case om1=>k_is);(case om2=>k_is);(case om3=>k_is);(case om4=>k_is);(case om5=>k_is);(case om6=>k_is);(case oop=>k_is);(case ofi=>k_is);(case ofn=>k_is);(case okp=>k_is);(case olf=>k_is);(case olD=>k_is);(case ocd=>k_is)
   ·refine' Z.exc_mk KX G ?xa ?xq (by decide +kernel) (λz=>bK z);(case xa=>k_is);(case xq=>k_exc)
   ·refine' Z.exc_mkO (i:=Z.M59.fi_ini_BadText) KX G (by decide +kernel) (by decide +kernel) (λ_ _ _ _ _ _ _ _ _ _ _=>⟨_,rfl,rfl⟩) ?oa ?ote ?oml ?ol ?oln ?orN ?oT ?oM ?orM ?oi ?on1 ?on2 ?on3 ?on4 ?om1 ?om2 ?om3 ?om4 ?om5 ?om6 ?oop ?ofi ?ofn ?okp ?olf ?olD ?ocd (λz=>bK z);(case oa=>k_is);(case ote=>k_is);(case oml=>k_is);(case ol=>k_is);(case oln=>k_is);(case orN=>rfl);(case oT=>k_is);(case oM=>k_is);(case orM=>rfl);(case oi=>k_is);(case on1=>k_is);(case on2=>k_is);(case on3=>k_is);(case on4=>k_is);(case om1=>k_is);(case om2=>k_is);(case om3=>k_is);(case om4=>k_is);(case om5=>k_is);(case om6=>k_is);(case oop=>k_is);(case ofi=>k_is);(case ofn=>k_is);(case okp=>k_is);(case olf=>k_is);(case olD=>k_is);(case ocd=>k_is)
   ·refine' Z.exc_mk KX G ?xa ?xq (by decide +kernel) (λz=>bK z);(case xa=>k_is);(case xq=>k_exc)
   ·refine' Z.exc_mk KX G ?xa ?xq (by decide +kernel) (λz=>bK z);(case xa=>k_is);(case xq=>k_exc)
   ·refine' Z.exc_mk KX G ?xa ?xq (by decide +kernel) (λz=>bK z);(case xa=>k_is);(case xq=>k_exc)
   ·refine' Z.exc_mk KX G ?xa ?xq (by decide +kernel) (λz=>bK z);(case xa=>k_is);(case xq=>k_exc)
   ·refine' Z.exc_mk KX G ?xa ?xq (by decide +kernel) (λz=>bK z);(case xa=>k_is);(case xq=>k_exc)
  case ap =>
   refine' Z.M59.apart9 KX G ?an ?as
   case an=>refine'⟨?_,?_,?_,?_,?_,?_,?_,?_,?_,trivial⟩<;>(dsimp only;k_is)
   case as =>
    repeat' (first|exact trivial|apply sP)
    all_goals (dsimp only;k_is)
  case wb =>
   refine' Z.M59.dict_mk KX G ?dz ?dl ?dn ?dk ?dp
   case dz=>k_is
   case dl=>k_is
   case dn=>decide
   case dk=>repeat' (first|exact trivial|exact⟨_,_,rfl,rfl⟩|apply sP)
   case dp =>
    refine' .cons ⟨⟨_,rfl⟩,?_⟩ ?_
    ·refine' Z.M59.pd_mk ?ql ?qc ?qe;(case ql=>k_is);(case qc=>rfl);(case qe=>rfl)
    refine' .cons ⟨⟨_,rfl⟩,?_⟩ ?_
    ·refine' Z.M59.pd_mk ?ql ?qc ?qe;(case ql=>k_is);(case qc=>rfl);(case qe=>rfl)
    refine' .cons ⟨⟨_,rfl⟩,?_⟩ ?_
    ·refine' Z.M59.pd_mk ?ql ?qc ?qe;(case ql=>k_is);(case qc=>rfl);(case qe=>rfl)
    refine' .cons ⟨⟨_,rfl⟩,?_⟩ ?_
    ·refine' Z.M59.pd_mk ?ql ?qc ?qe;(case ql=>k_is);(case qc=>rfl);(case qe=>rfl)
    refine' .cons ⟨⟨_,rfl⟩,?_⟩ ?_
    ·refine' Z.M59.pd_mk ?ql ?qc ?qe;(case ql=>k_is);(case qc=>rfl);(case qe=>rfl)
    refine' .cons ⟨⟨_,rfl⟩,?_⟩ ?_
    ·refine' Z.M59.pd_mk ?ql ?qc ?qe;(case ql=>k_is);(case qc=>rfl);(case qe=>rfl)
    refine' .cons ⟨⟨_,rfl⟩,?_⟩ ?_
    ·refine' Z.M59.pd_mk ?ql ?qc ?qe;(case ql=>k_is);(case qc=>rfl);(case qe=>rfl)
    refine' .cons ⟨⟨_,rfl⟩,?_⟩ ?_
    ·refine' Z.M59.pd_mk ?ql ?qc ?qe;(case ql=>k_is);(case qc=>rfl);(case qe=>rfl)
    refine' .cons ⟨⟨_,rfl⟩,?_⟩ ?_
    ·refine' Z.M59.pd_mk ?ql ?qc ?qe;(case ql=>k_is);(case qc=>rfl);(case qe=>rfl)
    refine' .cons ⟨⟨_,rfl⟩,?_⟩ ?_
    ·refine' Z.M59.pd_mk ?ql ?qc ?qe;(case ql=>k_is);(case qc=>rfl);(case qe=>rfl)
    refine' .cons ⟨⟨_,rfl⟩,?_⟩ ?_
    ·refine' Z.M59.pd_mk ?ql ?qc ?qe;(case ql=>k_is);(case qc=>rfl);(case qe=>rfl)
    refine' .cons ⟨⟨_,rfl⟩,?_⟩ ?_
    ·refine' Z.M59.pd_mk ?ql ?qc ?qe;(case ql=>k_is);(case qc=>rfl);(case qe=>rfl)
    refine' .cons ⟨⟨_,rfl⟩,?_⟩ ?_
    ·refine' Z.M59.pd_mk ?ql ?qc ?qe;(case ql=>k_is);(case qc=>rfl);(case qe=>rfl)
    refine' .cons ⟨⟨_,rfl⟩,?_⟩ ?_
    ·refine' Z.M59.pd_mk ?ql ?qc ?qe;(case ql=>k_is);(case qc=>rfl);(case qe=>rfl)
    refine' .cons ⟨⟨_,rfl⟩,?_⟩ ?_
    ·refine' Z.M59.pd_mk ?ql ?qc ?qe;(case ql=>k_is);(case qc=>rfl);(case qe=>rfl)
    refine' .cons ⟨⟨_,rfl⟩,?_⟩ ?_
    ·refine' Z.M59.pd_mk ?ql ?qc ?qe;(case ql=>k_is);(case qc=>rfl);(case qe=>rfl)
    refine' .cons ⟨⟨_,rfl⟩,?_⟩ ?_
    ·refine' Z.M59.pd_mk ?ql ?qc ?qe;(case ql=>k_is);(case qc=>rfl);(case qe=>rfl)
    exact .nil
  case de =>
   refine' Z.M59.dict_mk KX G ?dz ?dl ?dn ?dk ?dp
   case dz=>k_is
   case dl=>k_is
   case dn=>decide
   case dk=>repeat' (first|exact trivial|exact⟨_,_,rfl,rfl⟩|apply sP)
   case dp =>
    refine' .cons ⟨⟨_,rfl⟩,?_⟩ ?_
    ·exact Z.M59.pq_non
    refine' .cons ⟨⟨_,rfl⟩,?_⟩ ?_
    ·refine' Z.M59.pq_mk KX G 0 rfl ?_;((try dsimp only[Z.M59.fi_set_digits,Z.M59.mkd]);k_is)
    refine' .cons ⟨⟨_,rfl⟩,?_⟩ ?_
    ·refine' Z.M59.pq_mk KX G 1 rfl ?_;((try dsimp only[Z.M59.fi_add_row,Z.M59.mkd]);k_is)
    refine' .cons ⟨⟨_,rfl⟩,?_⟩ ?_
    ·refine' Z.M59.pq_mk KX G 2 rfl ?_;((try dsimp only[Z.M59.fi_drop_row,Z.M59.mkd]);k_is)
    refine' .cons ⟨⟨_,rfl⟩,?_⟩ ?_
    ·refine' Z.M59.pq_mk KX G 3 rfl ?_;((try dsimp only[Z.M59.fi_order_rows,Z.M59.mkd]);k_is)
    refine' .cons ⟨⟨_,rfl⟩,?_⟩ ?_
    ·refine' Z.M59.pq_mk KX G 4 rfl ?_;((try dsimp only[Z.M59.fi_tell_sum,Z.M59.mkd]);k_is)
    refine' .cons ⟨⟨_,rfl⟩,?_⟩ ?_
    ·refine' Z.M59.pq_mk KX G 5 rfl ?_;((try dsimp only[Z.M59.fi_tell_mean,Z.M59.mkd]);k_is)
    refine' .cons ⟨⟨_,rfl⟩,?_⟩ ?_
    ·refine' Z.M59.pq_mk KX G 6 rfl ?_;((try dsimp only[Z.M59.fi_tell_spread,Z.M59.mkd]);k_is)
    refine' .cons ⟨⟨_,rfl⟩,?_⟩ ?_
    ·refine' Z.M59.pq_mk KX G 7 rfl ?_;((try dsimp only[Z.M59.fi_tell_root,Z.M59.mkd]);k_is)
    refine' .cons ⟨⟨_,rfl⟩,?_⟩ ?_
    ·refine' Z.M59.pq_mk KX G 8 rfl ?_;((try dsimp only[Z.M59.fi_tell_middle,Z.M59.mkd]);k_is)
    refine' .cons ⟨⟨_,rfl⟩,?_⟩ ?_
    ·refine' Z.M59.pq_mk KX G 9 rfl ?_;((try dsimp only[Z.M59.fi_tell_quick,Z.M59.mkd]);k_is)
    refine' .cons ⟨⟨_,rfl⟩,?_⟩ ?_
    ·refine' Z.M59.pq_mk KX G 10 rfl ?_;((try dsimp only[Z.M59.fi_tell_dot,Z.M59.mkd]);k_is)
    refine' .cons ⟨⟨_,rfl⟩,?_⟩ ?_
    ·refine' Z.M59.pq_mk KX G 11 rfl ?_;((try dsimp only[Z.M59.fi_tell_line,Z.M59.mkd]);k_is)
    refine' .cons ⟨⟨_,rfl⟩,?_⟩ ?_
    ·refine' Z.M59.pq_mk KX G 12 rfl ?_;((try dsimp only[Z.M59.fi_tell_fit,Z.M59.mkd]);k_is)
    refine' .cons ⟨⟨_,rfl⟩,?_⟩ ?_
    ·refine' Z.M59.pq_mk KX G 13 rfl ?_;((try dsimp only[Z.M59.fi_tell_least,Z.M59.mkd]);k_is)
    refine' .cons ⟨⟨_,rfl⟩,?_⟩ ?_
    ·refine' Z.M59.pq_mk KX G 14 rfl ?_;((try dsimp only[Z.M59.fi_show_row,Z.M59.mkd]);k_is)
    refine' .cons ⟨⟨_,rfl⟩,?_⟩ ?_
    ·refine' Z.M59.pq_mk KX G 15 rfl ?_;((try dsimp only[Z.M59.fi_tell_brief,Z.M59.mkd]);k_is)
    exact .nil
  case ev=>exact⟨by (iterate 5 (refine Z.EV.al 15 ?_ ?_;decide +kernel));decide +kernel,(bz _ _).mpr ⟨by decide +kernel,by (iterate 2 (refine Z.EV.al 8 ?_ ?_;decide +kernel));decide +kernel⟩,by (iterate 3 (refine Z.EV.al 6 ?_ ?_;decide +kernel));decide +kernel,by (iterate 8 (refine Z.EV.al 6 ?_ ?_;decide +kernel));decide +kernel,by (iterate 8 (refine Z.EV.al 6 ?_ ?_;decide +kernel));decide +kernel,by (iterate 3 (refine Z.EV.al 6 ?_ ?_;decide +kernel));decide +kernel,by (iterate 3 (refine Z.EV.al 6 ?_ ?_;decide +kernel));decide +kernel,by (iterate 4 (refine Z.EV.al 1 ?_ ?_;decide +kernel));decide +kernel,by (iterate 4 (refine Z.EV.al 1 ?_ ?_;decide +kernel));decide +kernel⟩