import PyProof.Rows.All
import Wide.All
import OpenK.AllK
import Wide.FinOn
import Lean
import PyProof.EqAt
import PyProof.EqKinds
import PyProof.TupleCall
import PyProof.CompFree
import PyProof.P3In
import PyProof.RaisesMany
import PyProof.StationsW
import PyProof.ExcClass3
import PyProof.ExcBaseAll.ValueError
import PyProof.RulesTry
import PyProof.RulesAs
import PyProof.NsDelKeeps
import KE.KTryMore
import PyProof.ExcArgs
import KE.RegKIsAll
import PyProof.Rows.EqDataRows
import KE.KIntText
import KE.KDictOf
import PyProof.StrBlockH
import KE.KWords
import PyProof.CallStr
import PyProof.StrLawsTight
import PyProof.StrLawsChain
import PyProof.AttrMissHeap
import KE.KSortTup
import Wide.Seal
import PySem.Challenge.RW_twotimes_k41_joined_by_key
set_option Elab.async false
set_option linter.all false
set_option maxRecDepth 100000
set_option compiler.extract_closed false
set_option bootstrap.genMatcherCode false
noncomputable section
open List renaming length_map→dQ,mem_append→dU,length_append→dW,mem_singleton→dX,mem_cons→dY,getElem?_eq_some_iff→eq,getElem?_map→er,getElem?_eq_getElem→et,map_append→eA,map_cons→eE,length_cons→eF,length_take→eG,pairwise_cons→eH,mem_of_getElem?→eI,mem_map→eK,append_nil→eL,pairwise_append→eM,Perm→eN,append_assoc→eO,length→eQ,length_drop→eS,map_nil→eT,all_cons→eU,mem_append_left→eV,mem_map_of_mem→eY,mem_append_right→e7,size_toArray→e8,nodup_cons→e9,range→ff,mem_cons_of_mem→fi,getElem_mem→fm,getElem?_of_mem→fq,mem_cons_self→ft,find?_cons→fu,lookup_cons→fv,not_mem_nil→fw,mem_of_mem_take→fB,take_of_length_le→fD,take_length→fF,take_add_one→fH,filterMap_cons→fJ,mem_filterMap→fK,length_eq_zero_iff→fN,nodup_append→fO,getElem?_append_right→fQ,getElem?_append_left→fR,filter_cons→fS,all_eq_true→fV,cons→fW,reverse_append→fX,Nodup→fY,mem_filter→gg,Pairwise→gi,any_cons→gj,length_filterMap_le→gB,getElem?_drop→gC,pairwise_iff_getElem→gE,reverse_singleton→gF,length_pos_iff→gG,getElem?_set_ne→gH,take_sublist→gI,reverse_cons→gJ,getD_eq_getElem?_getD→gM,drop_eq_getElem_cons→gN,drop_eq_nil_of_le→gO,nil_append→gT,take_append_drop→gU,cons_append→gY,map_map→gZ,any_eq_true→g9,getElem?_set_self→hZ,lookup→h8,replicate→ib,lookup_append→ij,mem_of_mem_drop→ik,extract_eq_take_drop→im,getElem?_take→ip,take_append_of_le_length→ir,getLast?_eq_none_iff→iu,getLast?_map→iy,mem_of_find?_eq_some→iz,mem_range→iA,of_mem_zip→iB,map_take→iC,pairwise_singleton→iF,drop_sublist→iG,singleton_append→iH,drop_append→iM,eraseIdx_cons_succ→iO,ext_getElem?→iP,length_range→iQ,getElem?_eq_none→iR,dropLast_subset→iU,mem_of_getLast?→iV,map_dropLast→iW,take_succ_cons→iX,pairwise_map→iY,find?_eq_none→iZ,map_eq_nil_iff→i3,rel_of_pairwise_cons→i5,flatMap_cons→i6,filter_sublist→i7,getLast?_append→i9,getElem?_eq_none_iff→ja,getElem_inj→jd,any_eq_false→je,filterMap_map→jg,length_singleton→ji,length_dropLast→jj,length_set→jp,perm_middle→jq,perm_append_comm→jr,zipIdx_cons→js,mem_iff_getElem→jt,drop_append_of_le_length→jv,flatten_cons→jx,pairwise_lt_range→jz,ext_getElem→jC,length_reverse→jE,map_congr_left→jF,getLast?_eq_getElem?→jG,find?_append→jH,head?_cons→jJ,length_nil→jK,cons_lt_cons_iff→jL,find?_isSome→jM,mem_erase_of_ne→jN,length_erase_of_mem→jO,length_pos_of_mem→jP,find?_some→jQ,head?_drop→jR,drop_length→jS,filter_eq_nil_iff→jT,length_filter_le→jU,flatMap_append→jW
open Or renaming inl→dR,inr→ig
open Nat renaming le_refl→dS,ne_of_lt→eu,le_trans→eD,lt_of_lt_of_le→eJ,zero_le→eP,lt_irrefl→eR,le_of_lt→fh,ne_of_gt→fG,le_of_eq→fL,le_succ→fP,lt_trans→gq,le_of_succ_le→gy,lt_succ_of_lt→gz,lt_succ_self→h9,lt_of_le_of_lt→ie,zero_add→iq,add_sub_cancel→iI,add_zero→iK,add_assoc→iN,le_of_ble_eq_true→jm,mul_le_mul→jV
open False renaming elim→ei
open Bool renaming false_ne_true→eW,true_and→fk,and_eq_true→fM,eq_iff_iff→gh,and_false→gK,false_eq_true→gR,and_true→iw,false_or→jk,false_and→jI
open Int renaming le_trans→eX,emod_nonneg→fc,emod_lt_of_pos→fg,le_refl→fz,le_of_lt→fA,eq_ofNat_of_zero_le→fZ,not_lt→io,toNat_natCast→jD
open Option renaming some→eZ,map_some→gx,isSome_iff_exists→ic,filter→i8,getD_none→jh,bind_some→jo
open Array renaming toList_push→fb,length_toList→fj,getElem?_toList→fE,getElem?_eq_getElem→fI,getElem?_eq_some_iff→ii,perm_iff_toList_perm→iE,Perm→iJ,append_assoc→jc,mem_toList_iff→jf,toList_extract→ju,getElem?_modify→jy,getD_eq_getD_getElem?→jA,getElem?_eq_none→jB
open PySem renaming wpAny_bind→jX,wpAny_pure→jY,sizeLine→jZ,starEach→j0,mainGlobals→j5,SetTable→j6,Program→j7,Builtin→j8,FuncData→j9,NameKind→kc,compareOp→ke,cellsFrom→kf,wpAny_mono→kg,sizeLine_eq→ki,PassesOwn→kj,binaryOp→kl,wpAny_holding→kr,intKind→ku,wpAny_field→kx,holding→kB,codeAny→kC,wpAny_call_entry→kD,bootBuiltins→kH,wpAny_newObj_type→kJ,pickOrder→kK,sysModules→kL,swapsWith→kM,wpAny_setField→kO,wpAny_rule→kP,standAt→kQ,wpAny_attempt→kR,scanBound→kS,wpAny_truthy_bool→kW,assignEach→kZ,foldedSetIterable→k7,codeAny_mono→lb,codeAny_builtin→lc,inplaceOp→lh,wpAny_passesOwn→lj,attributeBase→lp,typeIs_str→lq,sliceBounds→lr,callerA→lu,noteFrame→lv,compEnvC→lz,plainId_quiet→lB,wpAny_execs_nil→lD,behindInMarks→lE,BindsTo→lF,wpAny_call→lG,valueAt→lH,notedBy→lI,relayAll→lM,wpAny_setState_of→lN,wpAny_ite_split→lO,wpAny_load→lP,wpAny_pyIter_list→lQ,getMethod→lR,wpAny_Call_Name_kw→lS,backToKw→lV,keywordEach→lW,Keyword→lX,getItem→lY,call_meets→lZ,checkBuiltinCall→l4,wpAny_newTuple→l6,wpAny_setEntries_of→l8,wpAny_seqItems→l9,tupleKind→ma,unaryOp→me,leaving→mf,wpAny_typeOf→mh,PlainAttrs→mi,CellsOk→mj,wpAny_getItem_str_slice→ml,post_val_or_str→mm,unsupported→mn,GenState→mq,wpAny_of_eq→my,entryFor→mz,setNext→mB,wpAny_fieldsOf→mC,wpAny_setField_rec→mD,builtinsNs→mE,storeName→mF,wpAny_Name→mG,wpAny_execs_cons→mH,wpAny_standAt→mI,swapsWithSole→mJ,swappedStores→mK,letOwnedTupleGo→mL,DictEntry→mN,callWith→mO,seqIndex_of→mQ,seqIndex_neg→mR,call_meetsIn→mT,compPost→mU,wpAny_throw→mV,wpAny_newList→ng,intKind_is→nh,storeSet→ni,wpAny_askSetting→nj,isSubtype_type→nn,wpAny_isInstance→nq,wpAny_updateSeq→ny
open PyProof.Rows renaming wpS_bind→j1,wpS_pure→j3,pendingOf→kb,IntsAre→kh,wpS_forRange→ko,wpS_mono→kt,failedOf→kz,wpS_modify→kE,SortKind→kF,wpS_get→kG,AllBare→kI,sortedS→lC,StrsAre→lJ,reverseSlice'→lK,setPending→l5,pairsOf→l7,subscriptTail_builtinR→mS,gallopOf→mW,mergeAt'→mX,listUpdate_at→mY,seqEpoch_at→mZ
abbrev Fg:=PySem.W.Frag
namespace PySem.W.Fast
def tw10576953115250145921:=0
def tw12948645406153314205:=0
def tw18022700291797239906:=0
def tw3669267791302900739:=0
def tw6390530599005867409:=0
def tw2301609555182606201:=0
def tw3442325829742004316:=0
def tw8875951765414129479:=0
def tw4736918344850822096:=0
def tw15893659155197792504:=0
def tw2150611898103290898:=0
def tw9226067715498287369:=0
def tw14627741883004576041:=0
def tw17233054591460731803:=0
def tw335237574104332779:=0
def tw3965322801031412812:=0
def tw1531566976506109596:=0
def tw12199643117889370363:=0
def tw10802069109850610989:=0
def tw2130745270826318964:=0
def tw8979959616884133857:=0
def tw16709194416211180746:=0
def tw3639114041497380561:=0
def tw6155299538384432414:=0
def tw2128229149680991288:=0
def tw10304259739996039531:=0
def tw18323826451394458314:=0
def tw2827334714644316344:=0
def tw7170682220352105903:=0
def tw9320136116833095861:=0
def tw7878089958466375616:=0
def tw1159032110598043709:=0
def tw10756647294279653772:=0
def tw10862912948565226523:=0
def tw4545560102470476788:=0
def tw6968573149959625216:=0
def tw13455990109087778157:=0
def tw1196247122993541729:=0
def tw10403409423066509326:=0
def tw5328311237481134553:=0
def tw16355714783924380120:=0
def tw3165510047856601784:=0
def tw15248111902236021816:=0
def tw3280309841534363255:=0
def tw8900492035571364275:=0
def tw8451069290142261087:=0
def tw7982168963011896546:=0
def tw17778973200866905661:=0
def tw13050485345529266304:=0
def tw6281747573660896511:=0
def tw7912859699825370444:=0
def tw39325993899287447:=0
def tw18378566317132380828:=0
def tw1939557402909977452:=0
def tw17333763400611745461:=0
def tw2237546771216965974:=0
def tw12496854242200400323:=0
def tw8974123705089386641:=0
def tw11401179950023401164:=0
def tw4223028024365572225:=0
def tw5804154477469644598:=0
def tw15559533008505737404:=0
def tw11704264866909297925:=0
def tw13077254014350947095:=0
def tw12297692167147888618:=0
def tw12785754915762490184:=0
def tw13709298239157941458:=0
def tw10561238396132009472:=0
def tw2573979558230675135:=0
def tw3185074192384260589:=0
def tw2795309196099595694:=0
def tw15769362114553680345:=0
def tw113695374379824401:=0
def tw6209254345493604100:=0
def tw2446349932273711678:=0
def tw2570337096672437855:=0
def tw13325896504223049646:=0
def tw10743566376903309748:=0
def tw3998921754059629723:=0
def tw12940377195746168195:=0
def tw1646814124241583326:=0
def tw14302318776465445455:=0
def tw4780162085424026881:=0
def tw11108635689291544644:=0
def tw12021812776731968188:=0
def tw871547332583775055:=0
def tw120852494995001275:=0
def tw10276415485058333473:=0
def tw776098931558216177:=0
def tw13960152964639553787:=0
def tw7849899973111444370:=0
def tw2881210218986145877:=0
def tw15181050993785367373:=0
def tw2822410381913373505:=0
def tw10349132927081987443:=0
def tw5528959277120083227:=0
def tw9408912551191580492:=0
def tw4193092356787821324:=0
def tw840363619422678210:=0
def tw1018235864865018102:=0
def tw17559347267426497469:=0
def tw7668728339005795026:=0
def tw12623378756417379364:=0
def tw4962292203057973655:=0
def tw17051282638202179965:=0
def tw17411204083419635037:=0
def tw13667909776015413076:=0
def tw9369812317900446297:=0
def tw16996915248280378040:=0
def tw1285995111169379551:=0
def tw11679515167182639313:=0
def tw2686630811263137490:=0
def tw3438959809958874577:=0
def tw14595469862371307105:=0
def tw2052116838286892434:=0
def tw15473905161486810316:=0
def tw8438100940945230861:=0
def tw15209390285579669338:=0
def tw434285656575102196:=0
def tw1930140633814700071:=0
def tw13071665799026944981:=0
def tw17952184478053256972:=0
def tw13904787397285684172:=0
def tw4323410096210747929:=0
def tw8747501376990402216:=0
def tw6190400213329039776:=0
def tw3034421749697478690:=0
def tw4967198525693488536:=0
def tw440664249420190017:=0
def tw1383072023254628881:=0
def tw9648309801279658679:=0
def tw9902977786339621932:=0
def tw12208093783194577857:=0
def tw17436036878089816682:=0
def tw17491679983872814158:=0
def tw3818065460778592135:=0
def tw18314832903756700009:=0
def tw15705665462694379909:=0
def tw10595931819763694236:=0
def tw17608467140403211730:=0
def tw9503548599763352885:=0
def tw15645543889525082520:=0
def tw12681287895772167420:=0
def tw10011853754875595281:=0
def tw5414463259140262565:=0
def tw16440545088654620514:=0
def tw12619653534479134444:=0
def tw15668868135423033644:=0
def tw10619009762288942909:=0
def tw6712060918804556884:=0
def tw7590228178630989072:=0
def tw5690086148426943876:=0
def tw13916329313994385706:=0
def tw2311776612924028328:=0
def tw16079487979751107981:=0
def tw9919083452756676311:=0
def tw17450885515185144257:=0
def tw4337501288565314613:=0
def tw4201722380415609026:=0
def tw7483311095379059915:=0
def tw16930277132898569108:=0
def tw9720960397658451513:=0
def tw6309255990747897828:=0
def tw11716659128477837626:=0
def tw7750162425312007064:=0
def tw13196895181767778739:=0
def tw11722593545008658837:=0
def tw448814078526962681:=0
def tw16877552359158974223:=0
def tw15001900679613965177:=0
def tw3473815363072357162:=0
def tw7593986238668121740:=0
def tw4993373056085258349:=0
def tw6213283721397508259:=0
def tw1642113172482325389:=0
def tw9109164434012632899:=0
def tw11908446293236019437:=0
def tw7665172940601661453:=0
def tw3159274815146658438:=0
def tw1123916727911710299:=0
def tw4633193121019502791:=0
def tw8123100125214400883:=0
def tw3024157279876568186:=0
def tw3234919433292962904:=0
def tw18257338526981339567:=0
def tw10220121913538267156:=0
def tw12748623893772153748:=0
def tw11163135362400512176:=0
def tw5977922353441191355:=0
def tw389836045964674892:=0
def tw4374373001942963845:=0
def tw17718028199213055397:=0
def tw10123660048923883575:=0
def tw14681149618497534250:=0
def tw14572994624783236392:=0
def tw10385875692964280498:=0
def tw3884105998398015242:=0
def tw1633470531314607722:=0
def tw880155084902115577:=0
def tw2876399267697811485:=0
def tw15932125660821536410:=0
def tw12816621301892948435:=0
def tw6064024356935793687:=0
def tw4486558810228432714:=0
def tw16303522524527478775:=0
def tw11595295795216973375:=0
def tw2793664698151568807:=0
def tw3948147340175306002:=0
def tw8546992549544953889:=0
def tw12096093385859574328:=0
def tw16027057635707229880:=0
def tw6610999238733817829:=0
def tw9461074224987696745:=0
def tw9936015749932448607:=0
def tw10093123404944617133:=0
def tw2143794515278307150:=0
def tw1893893438281177782:=0
def tw12708435372457227776:=0
def tw7404596515430655879:=0
def tw12716100824592670888:=0
def tw16945751040067251121:=0
def tw13404285228046337553:=0
def tw5637119277883645505:=0
def tw16448814669105123404:=0
def tw3343318920630428421:=0
def tw9726094916050949937:=0
def tw2543995451487310659:=0
def tw8654621884693760630:=0
def tw16103132048447154380:=0
def tw4928002912964469220:=0
def tw15289939749194218021:=0
def tw9621772795412343989:=0
def tw14121393199960476936:=0
def tw12444623225981535405:=0
def tw13449373161289417659:=0
def tw17117246960810349574:=0
def tw6639652950277935995:=0
def tw7320730293384698087:=0
def tw12297647152382283934:=0
def tw14248023603883242788:=0
def tw5093495908978759508:=0
def tw15731059431909208702:=0
def tw12357734948315805727:=0
def tw10505332443031112862:=0
def tw9614022180079094435:=0
def tw7481583805646073411:=0
def tw15030041060074559124:=0
def tw11273340221487330926:=0
def tw14984829569670169335:=0
def tw2459178559745694994:=0
def tw5535538025724517838:=0
def tw17877770506258890472:=0
def tw7513597461179687100:=0
def tw11384629202060298919:=0
def tw10381725240972805497:=0
def tw7242014689339694814:=0
def tw3007242728623899675:=0
def tw1460415177165901541:=0
def tw8528866264838809127:=0
def tw431930299345349831:=0
def tw7025654889591169222:=0
def tw7614190538153384496:=0
def tw264385323215260467:=0
def tw8644059699130830286:=0
def tw6240890929027504482:=0
def tw15914992517962989341:=0
def tw1242299503671927497:=0
def tw4500417537901595192:=0
def tw2375703570750995465:=0
def tw16645281449777149909:=0
def tw4713274547867548164:=0
def tw13475696184532915858:=0
def tw8129513104100767653:=0
def tw5562943517895398455:=0
def tw4116408774221590135:=0
def tw10856827977171626450:=0
def tw2854874546097583780:=0
def tw6600888851943949570:=0
def tw4070883466270226207:=0
def tw7235924864413771407:=0
def tw17662255999669612977:=0
def tw6972055249294084277:=0
def tw13212790430034138275:=0
def tw2914552064811834964:=0
def tw6221726010519877429:=0
def tw4934567009236259398:=0
def tw9929712849822803695:=0
def tw8224185210680705505:=0
def tw14964775234667754214:=0
def tw8727643513211394154:=0
def tw1135680962511403029:=0
def tw13967876481261692268:=0
def tw6764313046075207512:=0
def tw14655046516909545397:=0
def tw4072111410572372749:=0
def tw363407916418904421:=0
def tw7676659385075768146:=0
def tw1791495765516162237:=0
def tw13497918706560208996:=0
def tw12033125204091992082:=0
def tw14958887847099272753:=0
def tw530155855030280381:=0
def tw15895923003596486700:=0
def tw9611380092806789176:=0
def tw8268956855597514917:=0
def tw9434794679406977295:=0
def tw5876989555702911320:=0
def tw15486931332783489813:=0
def tw9596529197550925992:=0
def tw15595978243447809196:=0
def tw9461137143101296802:=0
def tw10952352356110632793:=0
def tw17919823352799799217:=0
def tw8016211358222781523:=0
def tw15897629280772839098:=0
def tw2370471634728736689:=0
def tw9305066119885448398:=0
def tw2269597317250110305:=0
def tw6143323575957443546:=0
def tw3642266856590425412:=0
def tw5882990014350837842:=0
def tw7908362260404647220:=0
def tw1466272937021020578:=0
def tw3240306705950109363:=0
def tw271283678102636491:=0
def tw10277485455773231396:=0
def tw128631836691603113:=0
def tw9374773357020840527:=0
def tw8454832950817860465:=0
def tw9572589584930473181:=0
def tw11964821684331728988:=0
def tw11454392137100084343:=0
def tw6012666148370245468:=0
def tw2114736588325778687:=0
def tw3396890618591058270:=0
def tw188825544438141526:=0
def tw12785084193303367673:=0
def tw13801779617468463884:=0
def tw4671681844400344007:=0
def tw17048876213282302019:=0
def tw6703333521043801012:=0
def tw7911115711218012572:=0
def tw15973637885185404329:=0
def tw16431353821443985950:=0
def tw5044610051883427429:=0
def tw4370795112104617922:=0
def tw2301088592519451628:=0
def tw4318894815603029629:=0
def tw10754765879474332090:=0
def tw11070945192369653719:=0
def tw14517879185775471596:=0
def tw4794078590076937502:=0
def tw13763154212106914541:=0
def tw14412627302092054974:=0
def tw5118390205525519341:=0
def tw10540183691643958714:=0
def tw13207001551309673898:=0
def tw7102952055796463044:=0
def tw7363879412780390864:=0
def tw15193763477254986387:=0
def tw16362624408031730731:=0
def tw13547043993690654337:=0
def tw11651425217030193308:=0
def tw6500612205608858019:=0
def tw4198544184974838622:=0
def tw10758493515124463443:=0
def tw1821905311815724513:=0
def tw7530624961694114029:=0
def tw5742183222208268753:=0
def tw12177752757375743424:=0
def tw1203109379675501883:=0
def tw7121984847034438987:=0
def tw11026433479873426651:=0
def tw17069962050459884846:=0
def tw1081063767211236263:=0
def tw2711180035639789500:=0
def tw8179153063345047800:=0
def tw343657603321373406:=0
def tw14481624734692216256:=0
def tw16045876950396424736:=0
def tw16568905643196369682:=0
def tw8403360826540674796:=0
def tw2487797612648889076:=0
def tw10626183327496502268:=0
def tw14356183978152075376:=0
def tw11195907319372999191:=0
def tw4623801086549081049:=0
def tw17983438289515824016:=0
def tw8600530617812585940:=0
def tw13191542188596481830:=0
def tw5692968300294603785:=0
def tw10473101902492154840:=0
def tw11284867201636984978:=0
def tw2751943396864907007:=0
def tw5012278981922794999:=0
def tw3052675812805218348:=0
def tw10478532043687730250:=0
def tw4229188719195063220:=0
def tw7754066988940220577:=0
def tw5883476865385094083:=0
def tw16912140040558642869:=0
def tw3026095418500856371:=0
def tw8413146450504549688:=0
def tw5714669848558802722:=0
def tw9681263654274823724:=0
def tw16912723664614910528:=0
def tw16968038909287593981:=0
def tw765964110872759277:=0
def tw6604502032379695281:=0
def tw5520669585790764137:=0
def tw857239735362885708:=0
def tw16510888118388437438:=0
def tw16884294609518472224:=0
def tw1879919673676801100:=0
def tw17822496513448205615:=0
def tw16905205385694281633:=0
def tw9389763232836397725:=0
def tw4232870259496106775:=0
def tw6679175661016496722:=0
def tw8805778246468351429:=0
def tw7908850735669199492:=0
def tw4564555923268013446:=0
def tw8521121808778528574:=0
def tw6527044248506968651:=0
def tw5661477197303968435:=0
def tw17328816373043486950:=0
def tw12015531203148389717:=0
def tw5431558982379140298:=0
def tw1060760288685393311:=0
def tw6499657963651301445:=0
def tw18300974390740635069:=0
def tw6856356288931462730:=0
def tw15367996481649853869:=0
def tw5558431892780407874:=0
def tw17080622800748907977:=0
def tw16202121318639167642:=0
def tw9583149644480930202:=0
def tw13059767677470530587:=0
def tw17432596895551526480:=0
def tw15496781269071960233:=0
end PySem.W.Fast
namespace L2
open PySem PySem.Spec PyProof.Rows
abbrev Key:=Sum (Option Int) Str
def b9j:Value->Bool
 | .none=>true
 | _=>false
noncomputable def a9V:Key->Value->Bool
 | .inl (some k),v=>Value.isInt k v
 | .inl none,v=>b9j v
 | .inr x,v=>Value.isStrOf x v
def keyH (w:World):Key->Int
 | .inl (some k)=>hashInt k
 | .inl none=>reduceHash 0xFCA86420
 | .inr x=>hashStr w x
theorem a0G:∀ {k:Key}{v:Value},a9V k v=true->(∃ i t,k=Sum.inl (some i)/\v=Value.int i t)\/(∃ x t,k=Sum.inr x/\v=Value.str x t)\/(k=Sum.inl none/\v=Value.none)
 | .inl (some i),v,h=>by
  obtain⟨t,e⟩:=Value.isInt_shape h;exact .inl ⟨i,t,rfl,e⟩
 | .inl none,v,h=>by
  cases v<;>first | exact .inr (.inr ⟨rfl,rfl⟩) | cases h
 | .inr x,v,h=>by
  obtain⟨t,e⟩:=Value.isStrOf_shape h;exact .inr (.inl ⟨x,t,rfl,e⟩)
theorem b0G (i:Int) (t:Tok):a9V (.inl (some i)) (.int i t)=true:=by simp[a9V,Value.isInt]
theorem b0H (x:Str) (t:Tok):a9V (.inr x) (.str x t)=true:=by simp[a9V,Value.isStrOf]
theorem b6t (a b:Int):decide ((Sum.inl (some a):Key)=Sum.inl (some b))=(a==b):=by
 by_cases e:a=b
 ·simp_all
 ·simp_all
theorem b6u (a b:Str):decide ((Sum.inr a:Key)=Sum.inr b)=decide (a=b):=by simp
theorem a52 {a b:Key}(h:a≠b):decide (a=b)=false:=decide_eq_false h
def a0O (prog:j7) (w:World):PySem.KeyKind prog w Key where
 is:=a9V
 hash:=keyH w
 inj:=λv a b ha hb=>by
  rcases a0G ha with ⟨i,t,rfl,rfl⟩ | ⟨x,t,rfl,rfl⟩ | ⟨rfl,rfl⟩
  ·rcases a0G hb with ⟨j,u,rfl,e⟩ | ⟨y,u,rfl,e⟩ | ⟨rfl,e⟩
   ·injection e with e1 _;rw[e1]
   ·exact nomatch e
   ·exact nomatch e
  ·rcases a0G hb with ⟨j,u,rfl,e⟩ | ⟨y,u,rfl,e⟩ | ⟨rfl,e⟩
   ·exact nomatch e
   ·injection e with e1 _;rw[e1]
   ·exact nomatch e
  ·rcases a0G hb with ⟨j,u,rfl,e⟩ | ⟨y,u,rfl,e⟩ | ⟨rfl,e⟩
   ·exact nomatch e
   ·exact nomatch e
   ·rfl
 byValue:=λk v h=>by
  rcases a0G h with ⟨i,t,rfl,rfl⟩ | ⟨x,t,rfl,rfl⟩ | ⟨rfl,rfl⟩<;>rfl
 pyHash:=λhv h=>by
  rcases a0G hv with ⟨i,t,rfl,rfl⟩ | ⟨x,t,rfl,rfl⟩ | ⟨rfl,rfl⟩
  ·exact wpAny_pyHash_int h
  ·exact wpAny_pyHash_str h
  ·exact PySem.W.pyHash_slot (T:="NoneType") rfl F.slot_NoneType_hash F.entry_NoneType_hash (F.args_NoneType_hash_1 _) (beq_builtin_none _) (.inl rfl) (jX (jY (jX (wpAny_mkInt (jY ⟨_,_,rfl,h⟩)))))
 eqBool:=λhu hv h=>by
  rcases a0G hu with ⟨i,t,rfl,rfl⟩ | ⟨x,t,rfl,rfl⟩ | ⟨rfl,rfl⟩
  ·rcases a0G hv with ⟨j,u,rfl,rfl⟩ | ⟨y,u,rfl,rfl⟩ | ⟨rfl,rfl⟩
   ·rw[b6t]at h;exact wpAny_eqBool_int h
   ·rw[show decide ((Sum.inl (some i):Key)=Sum.inr y)=false from a52 (by simp)]at h;exact SeqAt.EqAt.int_str i t y u _ _ _ _ h
   ·rw[show decide ((Sum.inl (some i):Key)=Sum.inl none)=false from a52 (by simp)]at h;exact SeqAt.EqAt.int_none i t _ _ _ _ h
  ·rcases a0G hv with ⟨j,u,rfl,rfl⟩ | ⟨y,u,rfl,rfl⟩ | ⟨rfl,rfl⟩
   ·rw[show decide ((Sum.inr x:Key)=Sum.inl (some j))=false from a52 (by simp)]at h;exact SeqAt.EqAt.str_int x t j u _ _ _ _ h
   ·rw[b6u]at h;exact wpAny_eqBool_str h
   ·rw[show decide ((Sum.inr x:Key)=Sum.inl none)=false from a52 (by simp)]at h;exact SeqAt.EqAt.str_none x t _ _ _ _ h
  ·rcases a0G hv with ⟨j,u,rfl,rfl⟩ | ⟨y,u,rfl,rfl⟩ | ⟨rfl,rfl⟩
   ·rw[show decide ((Sum.inl none:Key)=Sum.inl (some j))=false from a52 (by simp)]at h;exact SeqAt.EqAt.none_int j u _ _ _ _ h
   ·rw[show decide ((Sum.inl none:Key)=Sum.inr y)=false from a52 (by simp)]at h;exact SeqAt.EqAt.none_str y u _ _ _ _ h
   ·rw[decide_eq_true rfl]at h;unfold PySem.eqBool;refine kr ?_;exact lO (λ_=>jX (kP (jY h))) λhab=>absurd rfl hab
 «strs»:=λk x t v h=>by
  rcases a0G h with ⟨i,u,rfl,e⟩ | ⟨y,u,rfl,e⟩ | ⟨rfl,e⟩
  ·exact nomatch e
  ·injection e with e1 _
   subst e1;cases v<;>rfl
  ·exact nomatch e
theorem a8l (prog:j7) (w:World) (i:Int) (t:Tok):(a0O prog w).is (.inl (some i)) (.int i t)=true:=b0G i t
theorem a8m (prog:j7) (w:World) (x:Str) (t:Tok):(a0O prog w).is (.inr x) (.str x t)=true:=b0H x t
end L2
namespace L2
open PySem PySem.Spec PyProof.Rows
inductive V where
 | non | bl (b:Bool) | int (i:Int) | str (x:Str) | byt (b:Array UInt8) | flt (b:UInt64) | ref (a:Addr) | ty (n:String)
 deriving DecidableEq
def RelV:V->Value->Prop
 | .non,u=>u=Value.none
 | .bl b,u=>u=Value.bool b
 | .int i,u=>∃ t,u=Value.int i t
 | .str x,u=>∃ t,u=Value.str x t
 | .byt b,u=>∃ t,u=Value.bytes b t
 | .flt b,u=>∃ t,u=Value.float b t
 | .ref a,u=>u=Value.ref a
 | .ty n,u=>u=Value.type n
abbrev Vals:List V->List Value->Prop:=Paired RelV
theorem Vals.length (r:Vals xs us):xs.length=us.length:=Paired.length r
theorem Vals.get:∀ {xs:List V}{us:List Value}{i:Nat}{x:V},Vals xs us->xs[i]?=some x->∃ u,us[i]?=some u/\RelV x u
 | _,_,_,_,.nil,e=>by simp at e
 | _,_,0,_,.cons r _,e=>by simp at e;subst e;exact⟨_,rfl,r⟩
 | _,_,i+1,x,.cons _ t,e=>by
  obtain⟨u,b,a⟩:=Vals.get t (by simpa using e);exact⟨u,by simpa using b,a⟩
theorem Vals.set (r:RelV x u):∀ {xs:List V}{us:List Value}(i:Nat),Vals xs us->Vals (xs.set i x) (us.set i u)
 | _,_,_,.nil=>.nil
 | _,_,0,.cons _ t=>.cons r t
 | _,_,i+1,.cons q t=>.cons q (Vals.set r i t)
theorem Vals.append:∀ {xs ys:List V}{us ws:List Value},Vals xs us->Vals ys ws->Vals (xs++ys) (us++ws)
 | _,_,_,_,.nil,s=>s
 | _,_,_,_,.cons r t,s=>.cons r (Vals.append t s)
theorem Vals.take:∀ {xs:List V}{us:List Value}(n:Nat),Vals xs us->Vals (xs.take n) (us.take n)
 | _,_,0,_=>.nil
 | _,_,_+1,.nil=>.nil
 | _,_,n+1,.cons r t=>.cons r (Vals.take n t)
theorem Vals.drop:∀ {xs:List V}{us:List Value}(n:Nat),Vals xs us->Vals (xs.drop n) (us.drop n)
 | _,_,0,r=>r
 | _,_,_+1,.nil=>.nil
 | _,_,n+1,.cons _ t=>Vals.drop n t
theorem Vals.none_of:∀ {xs:List V}{us:List Value}{i:Nat},Vals xs us->xs[i]?=none->us[i]?=none:=λ{a d i} r e=>by
 have b:=r.length;have c:=ja.mp e;exact ja.mpr (by omega)
def RelO:Option V->Option Value->Prop
 | some v,some u=>RelV v u
 | none,none=>True
 | _,_=>False
def KV {κ:Type}:List (κ×V)->List (κ×Value)->Prop:=Paired λ(p:κ×V) (q:κ×Value)=>p.1=q.1/\RelV p.2 q.2
def kV:Key->V
 | .inl (some i)=>.int i
 | .inl none=>.non
 | .inr x=>.str x
inductive HO where
 /-- a list -/
 | lst (xs:List V)
 /-- a tuple (never changes) -/
 | tup (xs:List V)
 /-- a dict whose keys are ints and texts;one whose keys are tuples of ints and texts (the empty one is both) -/
 | dK (kvs:List (Key×V)) | dT (kvs:List (List Key×V))
 /-- a set of ints: its members,its size -/
 | set (S:Int->Bool) (n:Nat)
 /-- an instance of the class at C,its dict at dx,its attributes -/
 | ins (C dx:Addr) (fs:List (Str×V))
 /-- the dict of the instance at x -/
 | own (x:Addr)
 /-- the dict of an exception -/
 | xd (fs:List (Str×V))
 /-- a bound method,f of x -/
 | met (f x:Addr)
 /-- a range object lo,lo+1,.. below hi -/
 | rng (lo hi:Int)
 /-- a thing that is known to the object (the script;a dict while a loop walks it): read,never written while it is so -/
 | frz (o:Obj) (u:HO)
 /-- a code object's table -/
 | tbl (ps:Array Value)
 /-- any other thing,by what is true of its one object (a def of one's own: SetO a S n:=HO.ext λh=>..) -/
 | ext (φ:Heap->Prop)
abbrev Hp:=Addr->Option HO
def upd (H:Hp) (a:Addr) (o:HO):Hp:=λb=>if b=a then some o else H b
theorem a0y:upd H a o a=some o:=by unfold upd;rw[if_pos rfl]
theorem a0r (h:b≠a):upd H a o b=H b:=by unfold upd;rw[if_neg h]
theorem a0Q {H:Hp}(h:H a=some o) (h':H b=none):a≠b:=by
 intro e;subst e;rw[h]at h';cases h'
section
variable (P:j7) (w:World)
def ObjOk (H:Hp) (h:Heap) (a:Addr):HO->Prop
 | .lst xs=>xs.length≤jZ/\∃ (its:List Value) (n:Nat),Vals xs its/\h.get? a=some { cls:=.type "list",data:=.seq its.toArray n }
 | .tup xs=>xs.length≤jZ/\∃ its:List Value,Vals xs its/\IsTup h a its.toArray
 | .dK kvs=>kvs.length≤jZ/\(a==kL)=false/\∃ vs,KV kvs vs/\h.DictOf (a0O P w) a vs
 | .dT kvs=>kvs.length≤jZ/\(a==kL)=false/\∃ xs:List (List Key×Addr×Value),
   Paired (λ(p:List Key×V) (q:List Key×Addr×Value)=>p.1=q.1/\H q.2.1=some (.tup (p.1.map kV))/\RelV p.2 q.2.2) kvs xs /\
   ∃ o es ep,h.get? a=some o/\o.ExactDict/\o.data=.dict es ep/\es.toList=xs.map (entryOfKey (ma (a0O P w)))/\(xs.map (·.1)).Nodup
 | .set S n=>h.SetOf (ku P w) a S n
 | .ins C dx fs=>H dx=some (.own a)/\fs.length≤1000/\dx≠a/\h.get? a=some (PySem.W.instObj C dx) /\
   ∃ mA,h.Ns1 dx mA/\(∀ f,RelO (fs.lookup f) (mA f))/\PySem.Within mA (fs.map (·.1))
 | .own _=>∃ o,h.get? a=some o
 | .xd fs=>∃ mA,h.Ns1 a mA/\∀ f,RelO (fs.lookup f) (mA f)
 | .rng lo hi=>∃ t u v,h.get? a=some { cls:=.type "range",data:=.fields #[.int lo t,.int hi u,.int 1 v] }
 | .frz o u=>h.get? a=some o/\ObjOk H h a u
 | .tbl ps=>h.get? a=some { cls:=.none,data:=.fields ps }
 | .met f x=>h.get? a=some (PySem.W.methodObj (.ref f) (.ref x))
 | .ext φ=>φ h/\(∃ o,h.get? a=some o)/\∀ h1 h2:Heap,φ h1->(∀ o,h1.get? a=some o->h2.get? a=some o)->φ h2
def HOk (H:Hp) (h:Heap):Prop:=∀ a o,H a=some o->ObjOk P w H h a o
end
section
variable {P:j7}{w:World}{H H':Hp}{h h':Heap}{a:Addr}{o:HO}
theorem ObjOk.lt (x:ObjOk P w H h a o):a<h.objs.size:=by
 cases o with
 | lst xs=>obtain⟨_,_,_,_,e⟩:=x;exact Heap.lt_size e
 | tup xs=>obtain⟨_,_,_,p⟩:=x;exact p.lt
 | dK kvs=>obtain⟨_,_,_,_,o,_,_,e,_⟩:=x;exact Heap.lt_size e
 | dT kvs=>obtain⟨_,_,_,_,o,_,_,e,_⟩:=x;exact Heap.lt_size e
 | set S n=>obtain⟨o,_,_,_,e,_⟩:=x;exact Heap.lt_size e
 | ins C dx fs=>obtain⟨_,_,_,e,_⟩:=x;exact Heap.lt_size e
 | own y=>obtain⟨_,e⟩:=x;exact Heap.lt_size e
 | xd fs=>obtain⟨_,⟨_,_,_,e,_⟩,_⟩:=x;exact Heap.lt_size e
 | rng lo hi=>obtain⟨_,_,_,e⟩:=x;exact Heap.lt_size e
 | frz ob u=>obtain⟨e,_⟩:=x;exact Heap.lt_size e
 | tbl ps=>exact Heap.lt_size (x)
 | met f y=>exact Heap.lt_size (x)
 | ext φ=>obtain⟨_,⟨_,e⟩,_⟩:=x;exact Heap.lt_size e
theorem Paired.mapP {α β:Type}{F G:α->β->Prop}:∀ {l₁:List α}{l₂:List β},Paired F l₁ l₂->(∀ a b,F a b->G a b)->Paired G l₁ l₂
 | _,_,.nil,_=>.nil
 | _,_,.cons r t,f=>.cons (f _ _ r) (Paired.mapP t f)
theorem ObjOk.stay (x:ObjOk P w H h a o) (k:∀ b u,(b=a\/H b=some (.own a))->h.get? b=some u->h'.get? b=some u)
  (ho:∀ b,H b=some (.own a)->H' b=some (.own a)) (ht:∀ b xs,H b=some (.tup xs)->H' b=some (.tup xs)):ObjOk P w H' h' a o:=by
 induction o with
 | lst s=>obtain⟨z,l,n,r,e⟩:=x;exact⟨z,l,n,r,k _ _ (.inl rfl) e⟩
 | tup s=>obtain⟨z,l,r,g,e,c⟩:=x;exact⟨z,l,r,g,k _ _ (.inl rfl) e,c⟩
 | dK kvs=>obtain⟨z,y,F,r,g,i,j,e,c⟩:=x;exact⟨z,y,F,r,g,i,j,k _ _ (.inl rfl) e,c⟩
 | dT kvs=>
  obtain⟨z,y,s,r,g,i,j,e,c⟩:=x;exact⟨z,y,s,Paired.mapP r λp q z=>⟨z.1,ht _ _ z.2.1,z.2.2⟩,g,i,j,k _ _ (.inl rfl) e,c⟩
 | set S n=>obtain⟨g,i,j,t,e,c⟩:=x;exact⟨g,i,j,t,k _ _ (.inl rfl) e,c⟩
 | ins C dx fs=>
  obtain⟨d,z,D,e,A,⟨m,i,j,E,c⟩,r⟩:=x;exact⟨ho _ d,z,D,k _ _ (.inl rfl) e,A,⟨m,i,j,k _ _ (.inr d) E,c⟩,r⟩
 | own y=>obtain⟨g,e⟩:=x;exact⟨g,k _ _ (.inl rfl) e⟩
 | xd fs=>obtain⟨A,⟨m,i,j,e,c⟩,r⟩:=x;exact⟨A,⟨m,i,j,k _ _ (.inl rfl) e,c⟩,r⟩
 | rng lo hi=>obtain⟨t,u,v,e⟩:=x;exact⟨t,u,v,k _ _ (.inl rfl) e⟩
 | frz g u ih=>obtain⟨e,q⟩:=x;exact⟨k _ _ (.inl rfl) e,ih q⟩
 | tbl ps=>
  have e:=x;exact k a _ (.inl rfl) e
 | met f y=>
  have e:=x;exact k a _ (.inl rfl) e
 | ext φ=>obtain⟨p,⟨o,e⟩,B⟩:=x;exact⟨B _ _ p λo q=>k _ _ (.inl rfl) q,⟨o,k _ _ (.inl rfl) e⟩,B⟩
theorem HOk.lt (x:HOk P w H h) (e:H a=some o):a<h.objs.size:=(x a o e).lt
theorem HOk.fresh (x:HOk P w H h) (e:h.objs.size≤a):H a=none:=by
 cases q:H a with
 | none=>rfl
 | some u=>exact absurd (eJ (x.lt q) e) (eR _)
theorem HOk.kept (x:HOk P w H h) (k:∀ b u,h.get? b=some u->h'.get? b=some u):HOk P w H h':=λa o e=>
 (x a o e).stay (λb u _ q=>k b u q) (λ_ q=>q) λ_ _ q=>q
theorem HOk.laid (x:HOk P w H h) (k:∀ b u,h.get? b=some u->h'.get? b=some u) (hp:h.objs.size≤a) (new:ObjOk P w (upd H a o) h' a o):HOk P w (upd H a o) h':=λb u e=>by
 have d:=x.fresh hp
 by_cases hb:b=a
 ·subst hb;rw[a0y]at e;cases e;exact new
 ·rw[a0r hb]at e;exact (x b u e).stay (λc v _ q=>k c v q) (λc q=>by rw[a0r (a0Q q d)];exact q) λc f q=>by rw[a0r (a0Q q d)];exact q
end
def Rd (H:Hp) (a:Addr) (u:HO):Prop:=H a=some u\/∃ o,H a=some (.frz o u)
theorem Rd.of (h:H a=some u):Rd H a u:=.inl h
theorem Rd.ok (r:Rd H a u) (x:HOk P w H h):ObjOk P w H h a u:=by
 rcases r with r | ⟨o,r⟩
 ·exact x a u r
 ·obtain⟨_,q⟩:=x a _ r;exact q
def Mut:Option HO->Prop
 | some (.lst _)=>True
 | some (.dK _)=>True
 | some (.dT _)=>True
 | some (.set _ _)=>True
 | some (.ins _ _ _)=>True
 | some (.ext _)=>True
 | _=>False
section
variable {P:j7}{w:World}{H:Hp}{h h':Heap}{x e:Addr}{o':HO}
theorem HOk.write (ok:HOk P w H h) (mu:Mut (H x)) (he:e=x\/H e=some (.own x)) (k:∀ b u,b≠e->h.get? b=some u->h'.get? b=some u) (heo:∃ u,h'.get? e=some u)
  (new:ObjOk P w (upd H x o') h' x o'):HOk P w (upd H x o') h':=λb u q=>by
 have a:∀ c y,H c=some (.own y)->c≠x:=λc y r z=>by subst z;rw[r]at mu;exact mu
 have g:∀ c d,H c=some (.tup d)->c≠x:=λc d r z=>by subst z;rw[r]at mu;exact mu
 by_cases hb:b=x
 ·subst hb;rw[a0y]at q;cases q;exact new
 ·rw[a0r hb]at q
  by_cases hbe:b=e
  ·have i:H b=some (.own x):=by
    rcases he with z | z
    ·exact absurd (hbe.trans z) hb
    ·rw[hbe];exact z
   rw[q]at i;cases i;obtain⟨v,j⟩:=heo;exact⟨v,by rw[hbe];exact j⟩
  ·refine (ok b u q).stay (λc v f r=>k c v ?_ r) (λc r=>by rw[a0r (a c b r)];exact r) λc d r=>by rw[a0r (g c d r)];exact r
   rcases f with rfl | f
   ·omega
   ·grind
end
structure Un (fs ex:List Addr) (H H':Hp) (h h':Heap):Prop where
 keep:∀ b o,h.get? b=some o->H b=none->b∉fs->b∉ex->h'.get? b=some o
 slot:∀ b o,h.get? b=some o->H b=none->b∈fs->b∉ex->∃ sl,h'.get? b=some { o with slots:=sl }
 free:∀ b o,h.get? b=some o->H b=none->b∉ex->H' b=none
 there:∀ b o,h.get? b=some o->b∉ex->∃ o',h'.get? b=some o'
 tups:∀ b xs,H b=some (.tup xs)->H' b=some (.tup xs)
 frzs:∀ b o u,H b=some (.frz o u)->H' b=some (.frz o u)
 tbls:∀ b ps,H b=some (.tbl ps)->∃ more,H' b=some (.tbl (ps++more))
section
variable {fs fs' ex ex':List Addr}{H H1 H2:Hp}{h h1 h2 h':Heap}{a x e:Addr}{o:HO}
theorem Un.any (u:Un fs ex H H1 h h1) (q:h.get? b=some ob) (n:H b=none) (hx:b∉ex):∃ sl,h1.get? b=some { ob with slots:=sl }:=by
 by_cases hb:b∈fs
 ·exact u.slot b ob q n hb hx
 ·exact⟨ob.slots,u.keep b ob q n hb hx⟩
theorem Un.trans (a:Un fs ex H H1 h h1) (b:Un fs ex H1 H2 h1 h2):Un fs ex H H2 h h2 where
 keep:=λc ob q n hc hx=>b.keep c ob (a.keep c ob q n hc hx) (a.free c ob q n hx) hc hx
 slot:=λc ob q n hc hx=>by
  obtain⟨sl,e1⟩:=a.slot c ob q n hc hx;obtain⟨sl',e2⟩:=b.slot c _ e1 (a.free c ob q n hx) hc hx;exact⟨sl',e2⟩
 free:=λc ob q n hx=>by
  obtain⟨o',e1⟩:=a.there c ob q hx;exact b.free c o' e1 (a.free c ob q n hx) hx
 there:=λc ob q hx=>by
  obtain⟨o',e1⟩:=a.there c ob q hx;exact b.there c o' e1 hx
 tups:=λc xs q=>b.tups c xs (a.tups c xs q)
 frzs:=λc ob xs q=>b.frzs c ob xs (a.frzs c ob xs q)
 tbls:=λc ps q=>by
  obtain⟨m1,e1⟩:=a.tbls c ps q;obtain⟨m2,e2⟩:=b.tbls c _ e1;exact⟨m1++m2,by rw[e2,jc]⟩
theorem Un.kept (k:∀ b u,h.get? b=some u->h'.get? b=some u):Un fs ex H H h h':=
 ⟨λb a q _ _ _=>k b a q,λb a q _ _ _=>⟨a.slots,k b a q⟩,λ_ _ _ n _=>n,λb a q _=>⟨a,k b a q⟩,λ_ _ q=>q,λ_ _ _ q=>q,λ_ c q=>⟨#[],by rw[q];simp⟩⟩
theorem Un.refl:Un fs ex H H h h:=Un.kept λ_ _ q=>q
theorem Un.laid (k:∀ b u,h.get? b=some u->h'.get? b=some u) (hp:h.objs.size≤a) (hn:H a=none):Un fs ex H (upd H a o) h h' where
 keep:=λb u q _ _ _=>k b u q
 slot:=λb u q _ _ _=>⟨u.slots,k b u q⟩
 free:=λb u q n _=>by rw[a0r (eu (eJ (Heap.lt_size q) hp))];exact n
 there:=λb u q _=>⟨u,k b u q⟩
 tups:=λb xs q=>by rw[a0r (a0Q q hn)];exact q
 frzs:=λb u xs q=>by rw[a0r (a0Q q hn)];exact q
 tbls:=λb ps q=>⟨#[],by rw[a0r (a0Q q hn),q];simp⟩
theorem Un.write (mu:Mut (H x)) (he:e=x\/H e=some (.own x)) (k:∀ b u,b≠e->h.get? b=some u->h'.get? b=some u) (heo:∃ u,h'.get? e=some u):Un fs ex H (upd H x o) h h':=by
 have d:∀ b,H b=none->b≠x:=λb n z=>by subst z;rw[n]at mu;exact mu
 have c:∀ b,H b=none->b≠e:=λb n z=>by simp_all
 have a:∀ b u,H b=some u->¬ Mut (some u)->b≠x:=λb u q g z=>by subst z;rw[q]at mu;exact g mu
 refine⟨λb u q n _ _=>k b u (c b n) q,λb u q n _ _=>⟨u.slots,k b u (c b n) q⟩,λb u q n _=>by rw[a0r (d b n)];exact n,λb u q _=>?_,
  λb f q=>by rw[a0r (a b _ q λz=>z)];exact q,λb u f q=>by rw[a0r (a b _ q λz=>z)];exact q,λb i q=>⟨#[],by rw[a0r (a b _ q λz=>z),q];simp⟩⟩
 by_cases hbe:b=e
 ·grind
 ·exact⟨u,k b u hbe q⟩
theorem Un.mono (u:Un fs ex H H1 h h1) (hs:∀ b∈fs,b∈fs') (hx:∀ b∈ex,b∈ex'):Un fs' ex' H H1 h h1:=
 ⟨λb c q n d a=>u.keep b c q n (λz=>d (hs b z)) λz=>a (hx b z),λ_ _ q n _ a=>u.any q n λz=>a (hx _ z),λb c q n a=>u.free b c q n λz=>a (hx b z),λb c q a=>u.there b c q λz=>a (hx b z),u.tups,u.frzs,u.tbls⟩
end
noncomputable def trk (h:Heap) (H:Hp):List Addr:=(ff h.objs.size).filter λa=>(H a).isSome
def hidT (h:Heap) (H:Hp):Heap:=PySem.W.hideAll h (trk h H)
theorem b0I (h:Heap) (H:Hp):(hidT h H).objs.size=h.objs.size:=PySem.W.hideAll_size _ _
theorem b2N (e:h.get? b=some o) (n:H b=none):(hidT h H).get? b=some o:=
 PySem.W.hideAll_get _ e λa=>by
  have q:=(gg.mp a).2;rw[n]at q;simp at q
theorem b4T (e:(hidT h H).get? b=some o):h.get? b=some o/\H b=none:=by
 have a:=PySem.W.of_hideAll _ e;refine⟨a,?_⟩;cases q:H b with
 | none=>rfl
 | some x=>
  have c:b∈trk h H:=gg.mpr ⟨iA.mpr (Heap.lt_size a),by simp[q]⟩;have z:(hidT h H).get? b=none:=PySem.W.hideAll_none _ c;rw[z]at e;cases e
noncomputable def b4U (g h:Heap) (L:Addr):List (Addr×Obj):=(ff h.objs.size).filterMap λa=>if a=L\/(g.get? a).isSome=true then none else (h.get? a).map λo=>(a,o)
noncomputable def rest (g h:Heap) (L d:Addr):List (Addr×Obj):=(b4U g h L).filter λp=>decide (p.1≠d)
end L2
namespace L2
open PySem PySem.Spec PyProof.Rows
structure Mod (K:Fg) (mg:Str->Option Value) (base:Heap):Prop where
 kin:K.In base
 glob:base.Ns j5 mg
 blt:∃ mb,base.Ns mE mb/\∀ x:Str,x≠"__name__"->mb x=kH x
 nolimit:base.NoLimit
structure Cx where
 prog:j7
 w:World
 K:Fg
 mg:Str->Option Value
 base:Heap
 A:Around
 N:List Str
 s₀:Shared
 H₀:Hp
 env:Env
 outer:List Env
 stack:List Env
 ex:List Addr
 fn:Str->Bool
 calm:Bool
 pn:List (Addr×Obj)
 xe:Value->Shared->Prop
def frs (l:List Env):List Addr:=l.filterMap (·.frame)
abbrev Cx.fs (X:Cx):List Addr:=frs X.outer
def Vis (sc:Scope) (x:Str):Prop:=sc.names.lookup x=some .local\/sc.names.lookup x=some .cell\/sc.names.lookup x=some .free
def Loc (sc:Scope) (x:Str):Prop:=sc.names.lookup x=some .local\/sc.names.lookup x=some .cell
def Look (env:Env) (h:Heap) (m:Str->Option Value) (x:Str) (u:Value):Prop:=
 (env.kindOf x=some .local/\m x=some u)\/((env.kindOf x=some .cell\/env.kindOf x=some .free)/\∃ c,env.cells.lookup x=some c/\h.IsCell c (some u))
structure Cx.Ok (X:Cx):Prop where
 mod:Mod X.K X.mg X.base
 kind:X.env.scope.kind=.function
 glob:X.env.globals=j5
 blt:X.env.builtins=mE
 above:X.s₀.heap.objs.size≤X.env.locals
 inj:∀ x y c,X.env.cells.lookup x=some c->X.env.cells.lookup y=some c->x=y
 has:∀ x,(X.env.kindOf x=some .cell\/X.env.kindOf x=some .free)->∃ c,X.env.cells.lookup x=some c
 cab:∀ x c,X.fn x=true->X.env.cells.lookup x=some c->X.s₀.heap.objs.size≤c
 hd:X.calm=true->X.A.handled=none
 frames:X.A.frames=some X.stack
 stk:X.stack=X.outer\/(X.stack=X.env::X.outer/\X.env.frame=some X.env.locals)
 exf:∀ b∈X.ex,b≠X.env.locals/\∀ x c,X.env.cells.lookup x=some c->c≠b
 bs:∀ b o,X.base.get? b=some o->X.s₀.heap.get? b=some o/\X.H₀ b=none
 bsz:X.base.objs.size≤X.s₀.heap.objs.size
 noex:∀ b o,X.base.get? b=some o->b∉X.ex
 exfs:∀ b∈X.ex,b∉X.fs
 funs:X.s₀.heap.FunFrames X.base X.outer
 frf:∀ b∈X.fs,X.H₀ b=none
structure Inv (X:Cx) (pins:List (Addr×Obj)) (σ:List (Option V)) (H:Hp) (s:Shared):Prop where
 ok:X.Ok
 os:s.os=X.s₀.os
 bare:kI s.gens
 base:Un X.fs X.ex X.H₀ H X.s₀.heap s.heap
 loc:∃ m,s.heap.Ns X.env.locals m/\∀ (i:Nat) (x:Str) (v:V),X.N[i]?=some x->σ[i]?=some (some v)->Vis X.env.scope x->∃ u,RelV v u/\Look X.env s.heap m x u
 cell:∀ x c,X.env.cells.lookup x=some c->∃ v,s.heap.IsCell c v
 free:H X.env.locals=none
 freeC:∀ x c,X.env.cells.lookup x=some c->H c=none
 pin:∀ p∈X.pn++pins,s.heap.get? p.1=some p.2/\H p.1=none/\p.1≠X.env.locals/\p.1∉X.fs/\∀ v,p.2.data≠.cell v
 hok:HOk X.prog X.w H s.heap
 len:σ.length=X.N.length
section
variable {X:Cx}{pins:List (Addr×Obj)}{σ:List (Option V)}{H H':Hp}{s:Shared}{h':Heap}
theorem Cx.Ok.nofr (ok:X.Ok) (e:X.base.get? b=some o):b∉X.fs:=λa=>by
 have:=(ok.funs.mem a).1
 rw[e]at this;cases this
theorem Inv.bs (I:Inv X pins σ H s):∀ b o,X.base.get? b=some o->s.heap.get? b=some o/\H b=none:=λb o e=>
 ⟨I.base.keep b o (I.ok.bs b o e).1 (I.ok.bs b o e).2 (I.ok.nofr e) (I.ok.noex b o e),I.base.free b o (I.ok.bs b o e).1 (I.ok.bs b o e).2 (I.ok.noex b o e)⟩
theorem Inv.bk (I:Inv X pins σ H s):∀ b o,X.base.get? b=some o->s.heap.get? b=some o:=λb o e=>(I.bs b o e).1
theorem Inv.mod (I:Inv X pins σ H s):Mod X.K X.mg X.base:=I.ok.mod
theorem Inv.kIn (I:Inv X pins σ H s):X.K.In s.heap:=I.ok.mod.kin.keeps I.bk
theorem Inv.nolimit (I:Inv X pins σ H s):s.heap.NoLimit:=I.ok.mod.nolimit.keeps I.bk
theorem Inv.fr (I:Inv X pins σ H s):∃ m,Fr X.base X.env.locals s.heap m:=
 let ⟨m,hn,_⟩:=I.loc
 ⟨m,hn,I.bk,eD I.ok.bsz I.ok.above⟩
theorem Inv.lt (I:Inv X pins σ H s):X.env.locals<s.heap.objs.size:=let ⟨_,hn,_⟩:=I.loc;hn.lt
theorem Inv.sz (I:Inv X pins σ H s):X.s₀.heap.objs.size≤s.heap.objs.size:=eD I.ok.above (fh I.lt)
theorem Inv.nofs (I:Inv X pins σ H s) (h:s.heap.objs.size≤a):a∉X.fs:=λc=>by
 obtain⟨_,o,b,_⟩:=I.ok.funs.mem c;exact absurd (eJ (Heap.lt_size b) (eD I.sz h)) (eR _)
theorem Inv.cne (I:Inv X pins σ H s):∀ x c,X.env.cells.lookup x=some c->c≠X.env.locals:=λx c e z=>by
 obtain⟨v,o,d,b⟩:=I.cell x c e;obtain⟨m,⟨i,g,h,a,f,_⟩,_⟩:=I.loc;rw[z,a]at d;cases d;rw[f]at b;cases b
theorem Inv.funs (I:Inv X pins σ H s):s.heap.FunFrames X.base X.outer:=by
 have g:∀ l,(∀ b∈frs l,b∈X.fs)->X.s₀.heap.FunFrames X.base l->s.heap.FunFrames X.base l:=by
  intro l
  induction l with
  | nil=>intro _ _;trivial
  | cons env r ih=>
   intro f h;obtain⟨k,⟨L,o,c,n,m,j⟩,i⟩:=h;have d:=f L (by unfold frs;rw[fJ,c];exact ft);obtain⟨p,e⟩:=I.base.slot L o m (I.ok.frf L d) d λz=>I.ok.exfs L z d;exact⟨k,⟨L,_,c,n,e,j⟩,ih (λb a=>f b (by unfold frs;rw[fJ,c];exact fi _ a)) i⟩
 exact g X.outer (λ_ a=>a) I.ok.funs
theorem Inv.stack (I:Inv X pins σ H s):s.heap.FunFrames X.base X.stack:=by
 rcases I.ok.stk with e | ⟨e,hf⟩
 ·rw[e];exact I.funs
 ·rw[e];obtain⟨m,a,_⟩:=I.loc;refine .cons (by rw[I.ok.kind];decide) hf a ?_ I.funs;exact Heap.get?_none_of_le (eD I.ok.bsz I.ok.above)
theorem Inv.stkSub (I:Inv X pins σ H s):∀ b∈frs X.stack,b∈X.env.locals::X.fs:=λb a=>by
 rcases I.ok.stk with e | ⟨e,hf⟩
 ·rw[e]at a;exact fi _ a
 ·rw[e]at a;unfold frs at a;rw[fJ,hf]at a;exact a
theorem Inv.stkFree (I:Inv X pins σ H s):∀ b∈frs X.stack,H b=none:=λb a=>by
 rcases dY.mp (I.stkSub b a) with e | a
 ·rw[e];exact I.free
 ·obtain⟨_,o,c,_⟩:=I.ok.funs.mem a;exact I.base.free b o c (I.ok.frf b a) λz=>I.ok.exfs b z a
theorem Inv.step {ch:List Addr}(I:Inv X pins σ H s)
  (hch:∀ b∈ch,(b∈X.ex\/X.s₀.heap.objs.size≤b)/\b≠X.env.locals/\(∀ x c,X.env.cells.lookup x=some c->c≠b)/\∀ p∈X.pn++pins,p.1≠b)
  (keep:∀ b o,b≠X.env.locals->b∉X.fs->b∉ch->s.heap.get? b=some o->H b=none->h'.get? b=some o)
  (slot:∀ b o,b≠X.env.locals->b∈X.fs->b∉ch->s.heap.get? b=some o->H b=none->∃ sl,h'.get? b=some { o with slots:=sl }) (free:∀ b o,b∉ch->s.heap.get? b=some o->H b=none->H' b=none)
  (there:∀ b o,b∉ch->s.heap.get? b=some o->∃ o',h'.get? b=some o')
  (tups:∀ b xs,H b=some (.tup xs)->H' b=some (.tup xs)) (frzs:∀ b o u,H b=some (.frz o u)->H' b=some (.frz o u)) (tbls:∀ b ps,H b=some (.tbl ps)->∃ more,H' b=some (.tbl (ps++more)))
  (ns:∀ m,s.heap.Ns X.env.locals m->h'.Ns X.env.locals m) (hok:HOk X.prog X.w H' h') (hg:kI g') :
  Inv X pins σ H' { s with heap:=h',gens:=g',drawn:=d',toks:=t' }:=by
 have C:∀ b o,X.s₀.heap.get? b=some o->b≠X.env.locals:=λb o e=>eu (eJ (Heap.lt_size e) I.ok.above);have j:∀ b o,X.s₀.heap.get? b=some o->b∉X.ex->b∉ch:=λb o e a h=>by
  rcases (hch b h).1 with z | z
  ·grind
  ·exact absurd (eJ (Heap.lt_size e) z) (eR _)
 have t:∀ x c,X.env.cells.lookup x=some c->∀ v,s.heap.IsCell c v->h'.IsCell c v:=λx c e v ⟨o,y,E⟩=>by
  have g:=λz=>(hch c z).2.2.1 x c e rfl
  by_cases hc:c∈X.fs
  ·obtain⟨S,q⟩:=slot c o (I.cne x c e) hc g y (I.freeC x c e);exact⟨_,q,E⟩
  ·exact⟨o,keep c o (I.cne x c e) hc g y (I.freeC x c e),E⟩
 refine⟨I.ok,I.os,hg,⟨λb o e n h a=>?_,λb o e n h a=>?_,λb o e n a=>?_,λb o e a=>?_,λb B e=>tups b B (I.base.tups b B e),λb o B e=>frzs b o B (I.base.frzs b o B e),λb Q e=>?_⟩,?_,λx c e=>?_,?_,λx c e=>?_,λp L=>?_,hok,I.len⟩
 ·exact keep b o (C b o e) h (j b o e a) (I.base.keep b o e n h a) (I.base.free b o e n a)
 ·obtain⟨S,f⟩:=I.base.slot b o e n h a;obtain⟨F,A⟩:=slot b _ (C b o e) h (j b o e a) f (I.base.free b o e n a);exact⟨F,A⟩
 ·obtain⟨D,f⟩:=I.base.there b o e a;exact free b D (j b o e a) f (I.base.free b o e n a)
 ·obtain⟨D,f⟩:=I.base.there b o e a;exact there b D (j b o e a) f
 ·obtain⟨N,f⟩:=I.base.tbls b Q e;obtain⟨U,A⟩:=tbls b _ f;exact⟨N++U,by rw[A,jc]⟩
 ·obtain⟨m,T,M⟩:=I.loc;refine⟨m,ns m T,λi x v f A R=>?_⟩;obtain⟨u,r,l⟩:=M i x v f A R;refine⟨u,r,?_⟩;rcases l with l | ⟨k,c,e,z⟩
  ·exact .inl l
  ·exact .inr ⟨k,c,e,t x c e _ z⟩
 ·obtain⟨v,z⟩:=I.cell x c e;exact⟨v,t x c e v z⟩
 ·obtain⟨m,⟨o,_,_,y,_⟩,_⟩:=I.loc;exact free _ o (λz=>(hch _ z).2.1 rfl) y I.free
 ·obtain⟨v,o,y,E⟩:=I.cell x c e;exact free c o (λz=>(hch c z).2.2.1 x c e rfl) y (I.freeC x c e)
 ·obtain⟨e,n,G,J,d⟩:=I.pin p L;have g:=λz=>(hch p.1 z).2.2.2 p L rfl;exact⟨keep p.1 p.2 G J g e n,free p.1 p.2 g e n,G,J,d⟩
theorem Inv.un (I:Inv X pins σ H s) (u:Un X.fs [] H H' s.heap h') (hok:HOk X.prog X.w H' h'):Inv X pins σ H' { s with heap:=h',toks:=t' }:=by
 obtain⟨m,⟨o,k,q,g,r⟩,_⟩:=id I.loc;obtain⟨l,j⟩:=u.any g I.free (by simp);exact I.step (ch:=[]) (λ_ z=>nomatch z) (λb o _ c _ e n=>u.keep b o e n c (by simp)) (λb o _ c _ e n=>u.slot b o e n c (by simp)) (λb o _ e n=>u.free b o e n (by simp)) (λb o _ e=>u.there b o e (by simp)) u.tups u.frzs u.tbls (λt h=>by
  obtain⟨p,d,f,a,i⟩:=h;rw[g]at a;cases a;exact⟨_,d,f,j,i⟩) hok I.bare
theorem Inv.call (I:Inv X pins σ H s) (u:Un (frs X.stack) ch H H' s.heap h') (hok:HOk X.prog X.w H' h') (hg:kI g')
  (hch:∀ b∈ch,(b∈X.ex\/X.s₀.heap.objs.size≤b)/\b≠X.env.locals/\(∀ x c,X.env.cells.lookup x=some c->c≠b)/\∀ p∈X.pn++pins,p.1≠b) :
  Inv X pins σ H' { s with heap:=h',gens:=g',drawn:=d',toks:=t' }:=by
 obtain⟨m,⟨o,q,y,i,r⟩,_⟩:=id I.loc;obtain⟨t,f⟩:=u.any i I.free λz=>(hch _ z).2.1 rfl;exact I.step hch (λb o f l a e n=>u.keep b o e n (λz=>(dY.mp (I.stkSub b z)).elim f l) a) (λb o _ _ a e n=>u.any e n a) (λb o a e n=>u.free b o e n a) (λb o a e=>u.there b o e a) u.tups u.frzs u.tbls (λA j=>by
  obtain⟨v,g,h,d,k⟩:=j;rw[i]at d;cases d;exact⟨_,g,h,f,k⟩) hok hg
theorem Inv.turned (I:Inv X pins σ H s) (k:∀ b o,b≠it->s.heap.get? b=some o->h'.get? b=some o) (hn:H it=none) (hL:it≠X.env.locals)
  (h1:it∈X.ex\/X.s₀.heap.objs.size≤it) (h2:∀ x c,X.env.cells.lookup x=some c->c≠it) (h3:∀ p∈X.pn++pins,p.1≠it):Inv X pins σ H { s with heap:=h',toks:=t' }:=by
 have d:∀ b u,H b=some u->b≠it:=λb u e z=>by rw[z,hn]at e;cases e
 refine I.step (ch:=[it]) (λb i=>?_) (λb o _ _ a e _=>k b o (λz=>a (by simp[z])) e) (λb o _ _ a e _=>⟨o.slots,k b o (λz=>a (by simp[z])) e⟩) (λ_ _ _ _ n=>n)
  (λb o a e=>⟨o,k b o (λz=>a (by simp[z])) e⟩) (λ_ _ e=>e) (λ_ _ _ e=>e) (λb l e=>⟨#[],by rw[e];simp⟩) (λm h=>?_) (λb u e=>?_) I.bare
 ·have e:b=it:=by simpa using i
  subst e;exact⟨h1,hL,h2,h3⟩
 ·obtain⟨o,f,j,g,r⟩:=h;exact⟨o,f,j,k _ o (Ne.symm hL) g,r⟩
 ·refine (I.hok b u e).stay (λc v a q=>k c v ?_ q) (λ_ q=>q) λ_ _ q=>q;rcases a with z | z
  ·rw[z];exact d b u e
  ·exact d c _ z
theorem Inv.tok (I:Inv X pins σ H s) (t:Nat):Inv X pins σ H { s with toks:=t }:=I.un Un.refl I.hok
theorem Inv.kept (I:Inv X pins σ H s) (k:∀ b u,s.heap.get? b=some u->h'.get? b=some u):Inv X pins σ H { s with heap:=h',toks:=t' }:=I.un (Un.kept k) (I.hok.kept k)
theorem Inv.laid (I:Inv X pins σ H s) (k:∀ b u,s.heap.get? b=some u->h'.get? b=some u) (hp:s.heap.objs.size≤a) (new:ObjOk X.prog X.w (upd H a o) h' a o) :
  Inv X pins σ (upd H a o) { s with heap:=h',toks:=t' }:=I.un (Un.laid k hp (I.hok.fresh hp)) (I.hok.laid k hp new)
theorem Inv.write (I:Inv X pins σ H s) (mu:Mut (H x)) (he:e=x\/H e=some (.own x)) (k:∀ b u,b≠e->s.heap.get? b=some u->h'.get? b=some u) (heo:∃ u,h'.get? e=some u)
  (new:ObjOk X.prog X.w (upd H x o) h' x o):Inv X pins σ (upd H x o) { s with heap:=h',toks:=t' }:=I.un (Un.write mu he k heo) (I.hok.write mu he k heo new)
theorem Inv.weak (I:Inv X pins σ H s) (hl:σ'.length=σ.length) (w:∀ (i:Nat) v,σ'[i]?=some (some v)->σ[i]?=some (some v)):Inv X pins σ' H s:=
 ⟨I.ok,I.os,I.bare,I.base,let ⟨m,hn,hl'⟩:=I.loc;⟨m,hn,λi x v b c a=>hl' i x v b (w i v c) a⟩,I.cell,I.free,I.freeC,I.pin,I.hok,hl.trans I.len⟩
theorem Inv.pins_of (I:Inv X pins σ H s) (h:∀ p∈pins',s.heap.get? p.1=some p.2/\H p.1=none/\p.1≠X.env.locals/\p.1∉X.fs/\∀ v,p.2.data≠.cell v):Inv X pins' σ H s:=
 ⟨I.ok,I.os,I.bare,I.base,I.loc,I.cell,I.free,I.freeC,λp a=>(dU.mp a).elim (λz=>I.pin p (eV _ z)) (h p),I.hok,I.len⟩
theorem a8W {N:List Str}(hN:N.Nodup) {i j:Nat}(a:N[i]?=some x) (b:N[j]?=some x):i=j:=by
 obtain⟨f,c⟩:=eq.mp a;obtain⟨e,d⟩:=eq.mp b;exact (jd hN).mp (c.trans d.symm)
theorem a7a (I:Inv X pins σ H s) (hN:X.N.Nodup) (hi:X.N[i]?=some x) (hx:Loc X.env.scope x) (r:RelV v u)
  (h:∀ s',Inv X pins (σ.set i (some v)) H s'->(∃ a,Heap.SameBut a s.heap s'.heap/\(a=X.env.locals\/X.env.cells.lookup x=some a))->Q () s') (hf:X.fn x=true\/X.env.scope.names.lookup x=some .local:=by first | exact .inl rfl | exact .inr rfl | assumption):wpAny M A (mF X.env x u) Q E s:=by
 obtain⟨m,hn,hl⟩:=id I.loc;have hcls:(X.env.scope.kind==.class||(X.env.scope.kind==.module&&X.env.locals != X.env.globals))=false:=by rw[I.ok.kind];rfl
 have U:i<σ.length:=by rw[I.len];exact (eq.mp hi).1
 have J:=I.cne;have B:∀ {a:Addr}{G:Heap},(∃ o,s.heap.get? a=some o/\H a=none)->Heap.SameBut a s.heap G->HOk X.prog X.w H G:=λ{a G} ha f b ob e=>by
  obtain⟨_,_,F⟩:=ha;refine (I.hok b ob e).stay (λc R l q=>(f.2 c ?_).trans q) (λ_ q=>q) λ_ _ q=>q;rintro rfl;rcases l with rfl | l
  ·rw[F]at e;cases e
  ·rw[F]at l;cases l
 rcases hx with hk | hk
 ·refine wpAny_storeName_local hk hn (λG hn' f=>?_) hcls;obtain⟨oL,_,_,hoL,_⟩:=id hn;refine h _ ⟨I.ok,I.os,I.bare,⟨λb o e n D hx=>?_,λb o e n D hx=>?_,I.base.free,λb o e hx=>?_,I.base.tups,I.base.frzs,I.base.tbls⟩,⟨_,hn',λj y v' g C e3=>?_⟩,λy c e=>?_,I.free,I.freeC,λp hp=>?_,B ⟨oL,hoL,I.free⟩ f,by simpa using I.len⟩ ⟨_,f,.inl rfl⟩
  ·exact (f.2 b (eu (eJ (Heap.lt_size e) I.ok.above))).trans (I.base.keep b o e n D hx)
  ·obtain⟨sl,g⟩:=I.base.slot b o e n D hx;exact⟨sl,(f.2 b (eu (eJ (Heap.lt_size e) I.ok.above))).trans g⟩
  ·obtain⟨o',g⟩:=I.base.there b o e hx;exact⟨o',(f.2 b (eu (eJ (Heap.lt_size e) I.ok.above))).trans g⟩
  ·by_cases hj:j=i
   ·subst hj;rw[hi]at g;cases g;rw[hZ U]at C;cases C;exact⟨u,r,.inl ⟨hk,by simp⟩⟩
   ·rw[gH (Ne.symm hj)]at C;obtain⟨u',r',q⟩:=hl j y v' g C e3;refine⟨u',r',?_⟩;rcases q with ⟨k,e⟩ | ⟨k,c,e,z⟩
    ·refine .inl ⟨k,?_⟩
     have:y≠x:=λe=>hj (a8W hN g (e▸hi))
     simp[this,e]
    ·exact .inr ⟨k,c,e,z.sameBut f (J y c e)⟩
  ·obtain⟨R,z⟩:=I.cell y c e;exact⟨R,z.sameBut f (J y c e)⟩
  ·obtain⟨e,n,S,nf,d⟩:=I.pin p hp;exact⟨(f.2 p.1 S).trans e,n,S,nf,d⟩
 ·have L:X.fn x=true:=by
   rcases hf with z | z
   ·exact z
   ·rw[z]at hk;cases hk
  obtain⟨c,l⟩:=I.ok.has x (.inl hk);obtain⟨R,z⟩:=I.cell x c l;refine wpAny_storeName_cell I.ok.kind hk l z (λG Y f=>?_);obtain⟨oc,W,hocd⟩:=id z;refine h { s with heap:=G } ⟨I.ok,I.os,I.bare,⟨λb o e n D hx=>?_,λb o e n D hx=>?_,I.base.free,λb o e hx=>?_,I.base.tups,I.base.frzs,I.base.tbls⟩,⟨m,hn.sameBut f (Ne.symm (J x c l)),λj y v' g C e3=>?_⟩,λy T e=>?_,I.free,I.freeC,λp hp=>?_,B ⟨oc,W,I.freeC x c l⟩ f,by simpa using I.len⟩ ⟨c,f,.inr l⟩
  ·exact (f.2 b (eu (eJ (Heap.lt_size e) (I.ok.cab x c L l)))).trans (I.base.keep b o e n D hx)
  ·obtain⟨sl,g⟩:=I.base.slot b o e n D hx;exact⟨sl,(f.2 b (eu (eJ (Heap.lt_size e) (I.ok.cab x c L l)))).trans g⟩
  ·obtain⟨o',g⟩:=I.base.there b o e hx;exact⟨o',(f.2 b (eu (eJ (Heap.lt_size e) (I.ok.cab x c L l)))).trans g⟩
  ·by_cases hj:j=i
   ·subst hj;rw[hi]at g;cases g;rw[hZ U]at C;cases C;exact⟨u,r,.inr ⟨.inl hk,c,l,Y⟩⟩
   ·rw[gH (Ne.symm hj)]at C;obtain⟨u',r',q⟩:=hl j y v' g C e3;refine⟨u',r',?_⟩;rcases q with q | ⟨k,T,e,z'⟩
    ·exact .inl q
    ·refine .inr ⟨k,T,e,z'.sameBut f ?_⟩;rintro rfl;exact hj (a8W hN g (I.ok.inj _ _ _ e l▸hi))
  ·by_cases hcc:T=c
   ·subst hcc;exact⟨_,Y⟩
   ·obtain⟨w2,z2⟩:=I.cell y T e;exact⟨w2,z2.sameBut f hcc⟩
  ·obtain⟨e,n,S,nf,d⟩:=I.pin p hp;refine⟨(f.2 p.1 ?_).trans e,n,S,nf,d⟩;intro q;rw[q,W]at e;have q':=eZ.inj e;exact d R (by rw[<- q'];exact hocd)
theorem a4Z (I:Inv X pins σ H s) (hN:X.N.Nodup) (hi:X.N[i]?=some x) (hx:Loc X.env.scope x) (r:RelV v u)
  (h:∀ s',Inv X pins (σ.set i (some v)) H s'->Q () s') (hf:X.fn x=true\/X.env.scope.names.lookup x=some .local:=by first | exact .inl rfl | exact .inr rfl | assumption):wpAny M A (mF X.env x u) Q E s:=
 a7a I hN hi hx r (λa b _=>h a b) hf
theorem Inv.call' (I:Inv X pins σ H s) (ho:s'.os=s.os) (u:Un (frs X.stack) ch H H' s.heap s'.heap) (hok:HOk X.prog X.w H' s'.heap) (hg:kI s'.gens)
  (hch:∀ b∈ch,(b∈X.ex\/X.s₀.heap.objs.size≤b)/\b≠X.env.locals/\(∀ x c,X.env.cells.lookup x=some c->c≠b)/\∀ p∈X.pn++pins,p.1≠b):Inv X pins σ H' s':=by
 obtain⟨h',g',d',t',g⟩:=s';have e:=ho;subst e;exact I.call u hok hg hch
end
abbrev XK:=Value->Option Addr->Hp->Prop
abbrev St:=List (Option V)
abbrev VK:=V->Hp->Prop
abbrev TE:=St->Hp->VK->Prop
abbrev TT:=St->Hp->(Bool->Hp->Prop)->Prop
abbrev TA:=St->Hp->(List V->Hp->Prop)->Prop
structure Ends where
 nx:St->Hp->Prop
 rt:VK
 bk:St->Hp->Prop:=λ_ _=>False
 ct:St->Hp->Prop:=λ_ _=>False
abbrev TS:=Ends->St->Hp->Prop
def EP (X:Cx) (pins:List (Addr×Obj)) (σ:St) (Q:VK) (u:Value) (s':Shared):Prop:=∃ v H',Inv X pins σ H' s'/\RelV v u/\Q v H'
def TP (X:Cx) (pins:List (Addr×Obj)) (σ:St) (Q:Bool->Hp->Prop) (b:Bool) (s':Shared):Prop:=∃ H',Inv X pins σ H' s'/\Q b H'
def AP (X:Cx) (pins:List (Addr×Obj)) (σ:St) (Q:List V->Hp->Prop) (us:List Value) (s':Shared):Prop:=∃ vs H',Inv X pins σ H' s'/\Vals vs us/\Q vs H'
def SP (X:Cx) (pins:List (Addr×Obj)) (D:Ends) (f:Flow) (s':Shared):Prop:=
 match f with
 | .next=>∃ σ' H',Inv X pins σ' H' s'/\D.nx σ' H'
 | .brk=>∃ σ' H',Inv X pins σ' H' s'/\D.bk σ' H'
 | .cont=>∃ σ' H',Inv X pins σ' H' s'/\D.ct σ' H'
 | .ret u=>∃ v σ' H',Inv X pins σ' H' s'/\RelV v u/\D.rt v H'
def PE (X:Cx) (e:Expr) (t:TE):Prop:=
 ∀ (pins:List (Addr×Obj)) (s:Shared) (σ:St) (H:Hp) (Q:VK),Inv X pins σ H s->t σ H Q->wpAny (model X.prog X.w) X.A (eval e X.env) (EP X pins σ Q) X.xe s
def PT (X:Cx) (e:Expr) (t:TT):Prop:=
 ∀ (pins:List (Addr×Obj)) (s:Shared) (σ:St) (H:Hp) (Q:Bool->Hp->Prop),Inv X pins σ H s->t σ H Q->wpAny (model X.prog X.w) X.A (isTrue e X.env (eval e X.env)) (TP X pins σ Q) X.xe s
def PW (X:Cx) (e:Expr) (t:TT):Prop:=
 ∀ (whole:Sem Value) (pins:List (Addr×Obj)) (s:Shared) (σ:St) (H:Hp) (Q:Bool->Hp->Prop),Inv X pins σ H s->t σ H Q->wpAny (model X.prog X.w) X.A (isTrue e X.env whole) (TP X pins σ Q) X.xe s
theorem PW.pt (h:PW X e t):PT X e t:=h _
def PA (X:Cx) (es:List Expr) (t:TA):Prop:=
 ∀ (pos:Pos) (pins:List (Addr×Obj)) (s:Shared) (σ:St) (H:Hp) (Q:List V->Hp->Prop),Inv X pins σ H s->t σ H Q->wpAny (model X.prog X.w) X.A (spliced (backTo pos (j0 es X.env))) (AP X pins σ Q) X.xe s
def PS (X:Cx) (st:Stmt) (t:TS):Prop:=
 ∀ (pins:List (Addr×Obj)) (s:Shared) (σ:St) (H:Hp) (D:Ends),Inv X pins σ H s->t D σ H->wpAny (model X.prog X.w) X.A (exec st X.env) (SP X pins D) X.xe s
def PSs (X:Cx) (st:List Stmt) (t:TS):Prop:=
 ∀ (pins:List (Addr×Obj)) (s:Shared) (σ:St) (H:Hp) (D:Ends),Inv X pins σ H s->t D σ H->wpAny (model X.prog X.w) X.A (execs st X.env) (SP X pins D) X.xe s
theorem thn {α:Type}{t:Sem α}{Q Q':α->Shared->Prop}(h:wpAny M A t Q E s) (hQ:∀ a s,Q a s->Q' a s):wpAny M A t Q' E s:=kg h hQ λ_ _ x=>x
end L2
namespace L2
open PySem PySem.Spec PyProof.Rows
section
variable {X:Cx}
def tVar (i:Nat):TE:=fun σ H Q=>∃ v,σ[i]?=some (some v)/\Q v H
def tC (v:V):TE:=λ_ H Q=>Q v H
theorem b6v (hN:X.N[i]?=some x) (hv:Vis X.env.scope x) (hd:(x==("__debug__":Str))=false:=by decide) (hcd:(x==("__classdict__":Str))=false:=by decide):PE X (.Name x pos) (tVar i):=by
 intro b s σ H Q I h;obtain⟨v,e,h⟩:=h;obtain⟨m,f,d⟩:=I.loc;obtain⟨u,r,l⟩:=d i x v hN e hv;have a:EP X b σ Q u s:=⟨v,H,I,r,h⟩;rcases l with ⟨hk,hm⟩ | ⟨hk,c,hc,hcell⟩
 ·exact mG (wpAny_loadName_local I.ok.kind hk f hm a) hd
 ·rcases hk with hk | hk
  ·exact mG (wpAny_loadName_cell I.ok.kind hk hc hcell a) hd
  ·exact mG (wpAny_loadName_free I.ok.kind hk hc hcell a hcd) hd
theorem b6w:PE X (.Constant (.int i) j pos) (tC (.int i)):=λ_ _ _ H _ I h=>wpAny_Constant_int ⟨.int i,H,I.tok _,⟨_,rfl⟩,h⟩
theorem b9k:PE X (.Constant (.bool b) j pos) (tC (.bl b)):=λ_ _ _ H _ I h=>Constant_bool ⟨.bl b,H,I,rfl,h⟩
theorem b6x:PE X (.Constant .none j pos) (tC .non):=λ_ _ _ H _ I h=>Constant_none ⟨.non,H,I,rfl,h⟩
theorem b6y:PE X (.Constant (.str x) j pos) (tC (.str x)):=λ_ _ _ H _ I h=>Calls.Constant_str ⟨.str x,H,I.tok _,⟨_,rfl⟩,h⟩
def Gl (X:Cx) (x:Str):Prop:=X.env.kindOf x=some .globalImplicit
theorem a4a (I:Inv X pins σ H s) (hg:Gl X x) (hm:X.mg x=some u) (h:Q u s)
  (hd:(x==("__debug__":Str))=false:=by decide):wpAny (model X.prog X.w) X.A (eval (.Name x pos) X.env) Q E s:=
 Calls.Name_function_global I.ok.kind hg (Calls.loadGlobal_global (by rw[I.ok.glob];exact I.mod.glob.keeps I.bk) hm h) hd
theorem a53 (I:Inv X pins σ H s) (hg:Gl X x) (hm:X.mg x=none) (hv:kH x=some u) (h:Q u s)
  (hn:x≠"__name__":=by decide) (hd:(x==("__debug__":Str))=false:=by decide):wpAny (model X.prog X.w) X.A (eval (.Name x pos) X.env) Q E s:=by
 obtain⟨c,b,a⟩:=I.mod.blt;exact Calls.Name_function_global I.ok.kind hg (Calls.loadGlobal_builtin (by rw[I.ok.glob];exact I.mod.glob.keeps I.bk) hm (by rw[I.ok.blt];exact b.keeps I.bk) ((a x hn).trans hv) h) hd
theorem b0J (hg:Gl X x) (hm:X.mg x=some u) (r:RelV v u) (hd:(x==("__debug__":Str))=false:=by decide):PE X (.Name x pos) (tC v):=
 λ_ _ _ H _ I h=>a4a I hg hm ⟨v,H,I,r,h⟩ hd
theorem a2O (hg:Gl X x) (hm:X.mg x=none) (hv:kH x=some u) (r:RelV v u) (hn:x≠"__name__":=by decide) (hd:(x==("__debug__":Str))=false:=by decide):PE X (.Name x pos) (tC v):=
 λ_ _ _ H _ I h=>a53 I hg hm hv ⟨v,H,I,r,h⟩ hn hd
variable {a b:Expr}{ta tb:TE}{pos:Pos}
def PC (X:Cx) (op:CmpOp) (a b:Expr) (t:TE):Prop:=
 ∀ (pins:List (Addr×Obj)) (s:Shared) (σ:St) (H:Hp) (Q:VK),Inv X pins σ H s->t σ H Q ->
  wpAny (model X.prog X.w) X.A (eval a X.env) (λv s₁=>wpAny (model X.prog X.w) X.A (eval b X.env) (λu s₂=>wpAny (model X.prog X.w) X.A (ke op v u) (EP X pins σ Q) X.xe s₂) X.xe s₁) X.xe s
def tB (t:TE):TT:=fun σ H Q=>t σ H λx H1=>∃ c,x=.bl c/\Q c H1
theorem b6z (h:PE X e t) (he:∀ whole,isTrue e X.env whole=(do let v <- whole;kQ e.pos;kB [v] (truthy v)):=by intro _;rfl):PT X e (tB t):=by
 intro a s σ H Q I f;refine isTrue_plain (thn (h a s σ H _ I f) λv j ⟨x,b,i,g,c⟩=>?_) (he _);obtain⟨d,rfl,q⟩:=c;cases g;exact kW ⟨b,i,q⟩
variable {tA tB':TT}{rest:List Expr}
def tAnd (t u:TT):TT:=fun σ H Q=>t σ H λc H1=>if c=true then u σ H1 Q else Q false H1
def tOr (t u:TT):TT:=fun σ H Q=>t σ H λc H1=>if c=true then Q true H1 else u σ H1 Q
def tNot (t:TT):TT:=fun σ H Q=>t σ H λc H1=>Q (!c) H1
theorem b4V (ha:PT X a tA):PW X (.BoolOp .And [a] pos) tA:=by
 intro f b s σ H Q I h;refine isTrue_and (thn (ha b s σ H Q I h) λc d e=>?_);cases c with
 | true=>exact isTrue_and_nil e
 | false=>exact e
theorem b6A (ha:PT X a tA):PW X (.BoolOp .Or [a] pos) tA:=by
 intro f b s σ H Q I h;refine isTrue_or (thn (ha b s σ H Q I h) λc d e=>?_);cases c with
 | false=>exact isTrue_or_nil e
 | true=>exact e
theorem b6B (ha:PT X a tA) (hb:PW X (.BoolOp .And (b::rest) pos) tB'):PW X (.BoolOp .And (a::b::rest) pos) (tAnd tA tB'):=by
 intro j d s σ H Q I h;refine isTrue_and (thn (ha d s σ H _ I h) λc i ⟨e,g,f⟩=>?_);cases c with
 | true=>exact hb j d i σ e Q g f
 | false=>exact⟨e,g,f⟩
theorem b9l (ha:PT X a tA) (hb:PW X (.BoolOp .Or (b::rest) pos) tB'):PW X (.BoolOp .Or (a::b::rest) pos) (tOr tA tB'):=by
 intro j d s σ H Q I h;refine isTrue_or (thn (ha d s σ H _ I h) λc i ⟨g,e,f⟩=>?_);cases c with
 | true=>exact⟨g,e,f⟩
 | false=>exact hb j d i σ g Q e f
theorem b6C (ha:PT X a tA):PT X (.UnaryOp .Not a pos) (tNot tA):=by
 intro b s σ H Q I h;exact isTrue_not (ha b s σ H _ I h)
def b9m (ta tb:TE):TE:=fun σ H Q=>ta σ H λx H1=>∃ c,x=.bl c/\if c=true then tb σ H1 Q else Q (.bl false) H1
def tOrV (ta tb:TE):TE:=fun σ H Q=>ta σ H λx H1=>∃ c,x=.bl c/\if c=true then Q (.bl true) H1 else tb σ H1 Q
def b9n (ta:TE):TE:=fun σ H Q=>ta σ H λx H1=>∃ c,x=.bl c/\Q (.bl (!c)) H1
theorem b6D (h:PE X a t):PE X (.BoolOp op [a] pos) t:=λb s σ H Q I c=>BoolOp_one (h b s σ H Q I c)
theorem b6E (ha:PE X a ta) (hb:PE X (.BoolOp .And (b::rest) pos) tb):PE X (.BoolOp .And (a::b::rest) pos) (b9m ta tb):=by
 intro d s σ H Q I h;refine BoolOp_and (thn (ha d s σ H _ I h) λv j ⟨x,f,g,i,e⟩=>?_);obtain⟨c,rfl,e⟩:=e;cases i;refine kW ?_;cases c with
 | true=>exact hb d j σ f Q g e
 | false=>exact⟨.bl false,f,g,rfl,e⟩
theorem b9o (ha:PE X a ta) (hb:PE X (.BoolOp .Or (b::rest) pos) tb):PE X (.BoolOp .Or (a::b::rest) pos) (tOrV ta tb):=by
 intro d s σ H Q I h;refine BoolOp_or (thn (ha d s σ H _ I h) λv i ⟨x,g,f,j,e⟩=>?_);obtain⟨c,rfl,e⟩:=e;cases j;refine kW ?_;cases c with
 | false=>exact hb d i σ g Q f e
 | true=>exact⟨.bl true,g,f,rfl,e⟩
theorem b6F (ha:PE X a ta):PE X (.UnaryOp .Not a pos) (b9n ta):=by
 intro b s σ H Q I h;refine UnaryOp_ (thn (ha b s σ H _ I h) λv i ⟨x,g,f,e,d⟩=>?_);obtain⟨c,rfl,d⟩:=d;cases e;exact not_of (kW ⟨.bl (!c),g,f,rfl,d⟩)
def tIf (t:TT) (ta tb:TE):TE:=fun σ H Q=>t σ H λc H1=>if c=true then ta σ H1 Q else tb σ H1 Q
theorem b2O (hc:PT X c tA) (ha:PE X a ta) (hb:PE X b tb):PE X (.IfExp c a b pos) (tIf tA ta tb):=by
 intro e s σ H Q I h;refine wpAny_IfExp (thn (hc e s σ H _ I h) λd j ⟨i,f,g⟩=>?_);cases d with
 | true=>exact ha e j σ i Q f g
 | false=>exact hb e j σ i Q f g
end
end L2
namespace L2
open PySem PySem.Spec PyProof.Rows
def SqL (K:Fg) (H:Hp) (a:Addr) (xs:List V):Prop:=
 Rd H a (.lst xs) \/
  ∃ (o:Obj) (its:Array Value) (n:Nat),K.lookup a=some o/\o.cls=.type "list"/\o.dict=none/\o.data=.seq its n/\its.size≤jZ/\Vals xs its.toList
def SqT (K:Fg) (H:Hp) (a:Addr) (xs:List V):Prop:=
 Rd H a (.tup xs) \/
  ∃ (o:Obj) (its:Array Value) (n:Nat),K.lookup a=some o/\o.cls=.type "tuple"/\o.data=.seq its n/\its.size≤jZ/\Vals xs its.toList
noncomputable def absV:Value->Option V
 | .none=>some .non
 | .bool b=>some (.bl b)
 | .int i _=>some (.int i)
 | .str x _=>some (.str x)
 | .bytes b _=>some (.byt b)
 | .float b _=>some (.flt b)
 | .ref a=>some (.ref a)
 | .type n=>some (.ty n)
 | _=>none
theorem RelV.abs (r:RelV x u):absV u=some x:=by
 cases x with
 | non=>cases r;rfl
 | bl _=>cases r;rfl
 | int _=>obtain⟨t,rfl⟩:=r;rfl
 | str _=>obtain⟨t,rfl⟩:=r;rfl
 | byt _=>obtain⟨t,rfl⟩:=r;rfl
 | flt _=>obtain⟨t,rfl⟩:=r;rfl
 | ref _=>cases r;rfl
 | ty _=>cases r;rfl
theorem RelV.inj (r:RelV x u) (q:RelV y u):x=y:=eZ.inj (r.abs.symm.trans q.abs)
theorem Vals.inj:∀ {xs ys:List V}{us:List Value},Vals xs us->Vals ys us->xs=ys
 | _,_,_,.nil,.nil=>rfl
 | _,_,_,.cons r t,.cons r' t'=>by rw[r.inj r',Vals.inj t t']
section
variable {X:Cx}{pins:List (Addr×Obj)}{σ:St}{H:Hp}{s:Shared}{a:Addr}{xs ys:List V}
theorem SqL.of {K:Fg}(h:H a=some (.lst xs)):SqL K H a xs:=.inl (.inl h)
theorem SqT.of {K:Fg}(h:H a=some (.tup xs)):SqT K H a xs:=.inl (.inl h)
theorem Inv.list (I:Inv X pins σ H s) (h:SqL X.K H a xs):∃ its:List Value,Vals xs its/\PlainL s.heap a its.toArray/\xs.length≤sizeLine:=by
 rcases h with h | ⟨o,b,n,hk,hc,hd,hs,hz,r⟩
 ·obtain⟨z,b,n,r,e⟩:=h.ok I.hok;exact⟨b,r,⟨_,n,e,rfl,rfl,rfl⟩,z⟩
 ·refine⟨b.toList,r,⟨o,n,I.kIn a o hk,hc,hd,by simpa using hs⟩,?_⟩;have e:=r.length;simp at e;omega
theorem Inv.tuple (I:Inv X pins σ H s) (h:SqT X.K H a xs):∃ its:List Value,Vals xs its/\IsTup s.heap a its.toArray/\xs.length≤sizeLine:=by
 rcases h with h | ⟨o,b,n,hk,hc,hs,hz,r⟩
 ·obtain⟨z,b,r,p⟩:=h.ok I.hok;exact⟨b,r,p,z⟩
 ·refine⟨b.toList,r,⟨o,I.kIn a o hk,hc,n,by simpa using hs⟩,?_⟩;have e:=r.length;simp at e;omega
theorem Inv.list_inj (I:Inv X pins σ H s) (h:SqL X.K H a xs) (h':SqL X.K H a ys):xs=ys:=by
 obtain⟨f,r,⟨o,n,e,_,_,d⟩,_⟩:=I.list h;obtain⟨b,i,⟨j,k,c,_,_,g⟩,_⟩:=I.list h'
 have:f=b:=by grind
 subst this;exact r.inj i
theorem Inv.tuple_inj (I:Inv X pins σ H s) (h:SqT X.K H a xs) (h':SqT X.K H a ys):xs=ys:=by
 obtain⟨f,r,⟨o,e,_,n,d⟩,_⟩:=I.tuple h;obtain⟨b,i,⟨j,c,_,k,g⟩,_⟩:=I.tuple h'
 have:f=b:=by grind
 subst this;exact r.inj i
end
abbrev Cx.wish (X:Cx) (E:Value->Shared->Prop):Cx:={ X with xe:=E }
abbrev Cx.nox (X:Cx):Cx:=X.wish λ_ _=>False
theorem Cx.Ok.wish {X:Cx}(ok:X.Ok) (E:Value->Shared->Prop):(X.wish E).Ok:=
 ⟨ok.mod,ok.kind,ok.glob,ok.blt,ok.above,ok.inj,ok.has,ok.cab,ok.hd,ok.frames,ok.stk,ok.exf,ok.bs,ok.bsz,ok.noex,ok.exfs,ok.funs,ok.frf⟩
theorem Cx.Ok.unwish {X:Cx}(ok:(X.wish E).Ok):X.Ok:=
 ⟨ok.mod,ok.kind,ok.glob,ok.blt,ok.above,ok.inj,ok.has,ok.cab,ok.hd,ok.frames,ok.stk,ok.exf,ok.bs,ok.bsz,ok.noex,ok.exfs,ok.funs,ok.frf⟩
section
variable {X:Cx}{pins:List (Addr×Obj)}{σ:St}{H:Hp}{s:Shared}{E:Value->Shared->Prop}
theorem Inv.wish (I:Inv X pins σ H s) (E:Value->Shared->Prop):Inv (X.wish E) pins σ H s:=⟨I.ok.wish E,I.os,I.bare,I.base,I.loc,I.cell,I.free,I.freeC,I.pin,I.hok,I.len⟩
theorem Inv.unwish (I:Inv (X.wish E) pins σ H s):Inv X pins σ H s:=⟨I.ok.unwish,I.os,I.bare,I.base,I.loc,I.cell,I.free,I.freeC,I.pin,I.hok,I.len⟩
theorem SP.unwish (h:SP (X.wish E) pins D f s'):SP X pins D f s':=by
 cases f with
 | next=>obtain⟨σ',H',I,q⟩:=h;exact⟨σ',H',I.unwish,q⟩
 | brk=>obtain⟨σ',H',I,q⟩:=h;exact⟨σ',H',I.unwish,q⟩
 | cont=>obtain⟨σ',H',I,q⟩:=h;exact⟨σ',H',I.unwish,q⟩
 | ret u=>obtain⟨v,σ',H',I,r,q⟩:=h;exact⟨v,σ',H',I.unwish,r,q⟩
theorem PE.nox (h:PE X.nox e t):PE X e t:=λa s σ H Q I d=>
 kg (h a s σ H Q (I.wish _) d) (λ_ _ ⟨v,b,c,r,q⟩=>⟨v,b,c.unwish,r,q⟩) λ_ _ z=>ei z
theorem PT.nox (h:PT X.nox e t):PT X e t:=λa s σ H Q I d=>
 kg (h a s σ H Q (I.wish _) d) (λ_ _ ⟨c,b,q⟩=>⟨c,b.unwish,q⟩) λ_ _ z=>ei z
theorem PSs.nox {st:List Stmt}(h:PSs X.nox st t):PSs X st t:=λa s σ H D I b=>
 kg (h a s σ H D (I.wish _) b) (λ_ _ q=>q.unwish) λ_ _ z=>ei z
end
section
variable {X:Cx}{st:Stmt}{rest:List Stmt}{t u:TS}{e:Expr}{te:TE}{pos:Pos}
def b9p:TS:=λD σ H=>D.nx σ H
def tSeq (t u:TS):TS:=λD σ H=>t { D with nx:=u D } σ H
theorem b4W:PSs X [] b9p:=λ_ _ σ H _ I h=>lD ⟨σ,H,I,h⟩
theorem a8X (h1:PS X st t) (h2:PSs X rest u):PSs X (st::rest) (tSeq t u):=by
 intro a s σ H D I h;refine mH (thn (h1 a s σ H { D with nx:=u D } I h) λf b q=>?_);cases f with
 | next=>
  obtain⟨σ',H',I',q⟩:=q;exact h2 a b σ' H' D I' q
 | ret v=>exact q
 | brk=>exact q
 | cont=>exact q
theorem b4X (h1:PS X st t):PSs X [st] t:=by
 intro a s σ H D I h;refine mH (thn (h1 a s σ H D I h) λf b q=>?_);cases f with
 | next=>exact lD q
 | ret v=>exact q
 | brk=>exact q
 | cont=>exact q
theorem Inv.quiet (I:Inv X pins σ H s):interactive X.env=false:=by simp[interactive,I.ok.kind]
def b9q (te:TE):TS:=λD σ H=>te σ H λ_ H1=>D.nx σ H1
theorem b4Y (he:PE X e te) (hs:kM e none pos.line X.env=pure false:=by rfl):PS X (.Expr e pos) (b9q te):=by
 intro a s σ H D I h;exact wpAny_Expr_any (thn (he a s σ H _ I h) λv f ⟨x,d,c,g,b⟩=>⟨σ,d,c,b⟩) I.quiet hs
def tRet (te:TE):TS:=λD σ H=>te σ H D.rt
theorem b6G (he:PE X e te):PS X (.Return (some e) pos) (tRet te):=by
 intro a s σ H D I h;exact wpAny_Return_some (thn (he a s σ H _ I h) λv g ⟨x,c,b,f,d⟩=>⟨x,σ,c,b,f,d⟩)
def tIfS (c:TT) (t u:TS):TS:=λD σ H=>c σ H λb H1=>if b=true then t D σ H1 else u D σ H1
theorem b9r (hc:PT X c tc) (ha:PSs X a t) (hb:PSs X b u):PS X (.If c a b pos) (tIfS tc t u):=by
 intro e s σ H D I h;refine wpAny_If (thn (hc e s σ H _ I h) λd f ⟨g,i,j⟩=>?_);cases d with
 | true=>exact ha e f σ g D i j
 | false=>exact hb e f σ g D i j
end
abbrev TG:=V->St->Hp->(St->Hp->Prop)->Prop
abbrev TGs:=List V->St->Hp->(St->Hp->Prop)->Prop
def PG (X:Cx) (target:Expr) (t:TG):Prop:=
 ∀ (pins:List (Addr×Obj)) (s:Shared) (σ:St) (H:Hp) (v:V) (u:Value) (Q:St->Hp->Prop),Inv X pins σ H s->RelV v u->t v σ H Q ->
  wpAny (model X.prog X.w) X.A (assign target X.env u) (λ_ s'=>∃ σ' H',Inv X pins σ' H' s'/\Q σ' H') X.xe s
def PGs (X:Cx) (ts:List Expr) (t:TGs):Prop:=
 ∀ (pins:List (Addr×Obj)) (s:Shared) (σ:St) (H:Hp) (vs:List V) (us:List Value) (Q:St->Hp->Prop),Inv X pins σ H s->Vals vs us->t vs σ H Q ->
  wpAny (model X.prog X.w) X.A (assignInOrder ((kZ ts X.env).map (·.2)) us) (λ_ s'=>∃ σ' H',Inv X pins σ' H' s'/\Q σ' H') X.xe s
abbrev TSet:=V->V->V->Hp->(Hp->Prop)->Prop
def PSet (X:Cx) (t:TSet):Prop:=
 ∀ (pins:List (Addr×Obj)) (s:Shared) (σ:St) (H:Hp) (o i v:V) (ov iv u:Value) (Q:Hp->Prop),Inv X pins σ H s->RelV o ov->RelV i iv->RelV v u->t o i v H Q ->
  wpAny (model X.prog X.w) X.A (setItem ov iv u) (λ_ s'=>∃ H',Inv X pins σ H' s'/\Q H') X.xe s
abbrev TIp:=V->V->Hp->VK->Prop
def PIp (X:Cx) (op:Operator) (t:TIp):Prop:=
 ∀ (pins:List (Addr×Obj)) (s:Shared) (σ:St) (H:Hp) (x y:V) (v u:Value) (Q:VK),Inv X pins σ H s->RelV x v->RelV y u->t x y H Q ->
  wpAny (model X.prog X.w) X.A (lh op v u) (EP X pins σ Q) X.xe s
section
variable {X:Cx}{pos:Pos}
def b0K (i:Nat):TG:=λv σ H Q=>Q (σ.set i (some v)) H
theorem a0o (hN:X.N.Nodup) (hi:X.N[i]?=some x) (hx:Loc X.env.scope x) (hf:X.fn x=true\/X.env.scope.names.lookup x=some .local:=by first | exact .inl rfl | exact .inr rfl | assumption):PG X (.Name x pos) (b0K i):=by
 intro b s σ H v u Q I r h;exact wpAny_assign_Name (a4Z I hN hi hx r (λc a=>⟨_,H,a,h⟩) hf)
def gNil:TGs:=λvs σ H Q=>vs=[]/\Q σ H
def b6H (t:TG) (u:TGs):TGs:=λvs σ H Q=>∃ v r,vs=v::r/\t v σ H fun σ' H'=>u r σ' H' Q
theorem a2s:PGs X [] gNil:=by
 intro a s σ H b c Q I r h;obtain⟨e,h⟩:=h;subst e;exact assignInOrder_nil ⟨σ,H,I,h⟩
theorem a0w (h1:PG X e t) (h2:PGs X es u)
  (hs:(kZ (e::es) X.env).map (·.2)=assign e X.env::(kZ es X.env).map (·.2):=by rfl):PGs X (e::es) (b6H t u):=by
 intro a s σ H k i Q I r h;obtain⟨v,j,g,h⟩:=h;subst g;cases r with
 | cons r rr=>
  rw[hs];refine assignInOrder_cons (thn (h1 a s σ H _ _ _ I r h) λ_ f ⟨σ1,d,b,c⟩=>?_);exact h2 a f σ1 d _ _ Q b rr c
def gTup (K:Fg) (n:Nat) (t:TGs):TG:=λv σ H Q=>∃ a xs,v=.ref a/\SqT K H a xs/\xs.length=n/\t xs σ H Q
theorem a3H (hc:X.calm=true) (h:PGs X es t)
  (hn:(kZ es X.env).length=n:=by rfl) (hst:(kZ es X.env).findIdx? (·.1)=none:=by rfl):PG X (.Tuple es k pos) (gTup X.K n t):=by
 intro c s σ H v u Q I r d;obtain⟨a,i,q,m,l,d⟩:=d;subst q;cases r;obtain⟨x,f,p,y⟩:=I.tuple m;refine assign_Tuple_tuple (I.ok.hd hc) p (by simp[hn,<- l,f.length]) hst λw j=>?_;have g:=I.kept (t':=s.toks) λb o e=>j b o (eu (Heap.lt_size e)) e;exact h c _ σ H i _ Q g (by omega) d
def gSub (to ti:TE) (t:TSet):TG:=λv σ H Q=>to σ H λo H1=>ti σ H1 λi H2=>t o i v H2 λH3=>Q σ H3
theorem b6I (ho:PE X o to) (hi:PE X i ti) (hs:PSet X t)
  (ha:∀ v,assign (.Subscript o i pos) X.env v=(do
   let ov <- kB [v] (eval o X.env)
   let iv <- kB [v,ov] (eval i X.env)
   kQ pos
   kB [v,ov,iv] (setItem ov iv v)
   release [v,ov,iv] []):=by intro _;rfl):PG X (.Subscript o i pos) (gSub to ti t):=by
 intro a s σ H v u Q I r h;rw[ha];refine jX (kr (thn (ho a s σ H _ I h) λl n ⟨x,c,e,g,p⟩=>?_));refine jX (kr (thn (hi a n σ c _ e p) λm q ⟨y,f,w,b,k⟩=>?_));refine jX (mI (jX (kr (thn (hs a q σ f x y v l m u _ w g b r k) λ_ A ⟨j,z,d⟩=>?_))));exact wpAny_release ⟨σ,j,z,d⟩
def tAsg (te:TE) (g:TG):TS:=λD σ H=>te σ H λx H1=>g x σ H1 D.nx
theorem b4j (he:PE X e te) (hg:PG X tg g) (hs:mJ [tg] e pos.line X.env=pure false:=by rfl) (hw:mK [tg] e X.env=pure none:=by rfl)
  (h1:(kZ [tg] X.env).map (·.2)=[assign tg X.env]:=by rfl):PS X (.Assign [tg] e pos) (tAsg te g):=by
 intro a s σ H D I h;refine wpAny_Assign_stores (thn (he a s σ H _ I h) λv c ⟨x,d,b,i,f⟩=>?_) hs hw;rw[h1];exact thn (hg a c σ d x v _ b i f) λ_ j q=>q
theorem b6J (hN:X.N.Nodup) (hi:X.N[i]?=some x) (hx:Loc X.env.scope x) (he:PE X e te) (hs:kM e (some (.Name x pos')) pos.line X.env=pure false:=by rfl) (hf:X.fn x=true\/X.env.scope.names.lookup x=some .local:=by first | exact .inl rfl | exact .inr rfl | assumption) :
  PS X (.Assign [.Name x pos'] e pos) (tAsg te (b0K i)):=by
 intro a s σ H D I h;refine wpAny_Assign_Name (thn (he a s σ H _ I h) λv j ⟨y,f,d,c,g⟩=>?_) hs;exact a4Z d hN hi hx c (λk b=>⟨_,f,b,g⟩) hf
def tAug (i:Nat) (te:TE) (ti:TIp):TS:=λD σ H=>∃ x,σ[i]?=some (some x)/\te σ H λy H1=>ti x y H1 λz H2=>D.nx (σ.set i (some z)) H2
theorem b6K (hN:X.N.Nodup) (hi:X.N[i]?=some x) (hx:Loc X.env.scope x) (he:PE X e te) (ho:PIp X op ti) (hf:X.fn x=true\/X.env.scope.names.lookup x=some .local:=by first | exact .inl rfl | exact .inr rfl | assumption) :
  PS X (.AugAssign (.Name x pos') op e pos) (tAug i te ti):=by
 intro a s σ H D I h;obtain⟨v,f,h⟩:=h;obtain⟨m,g,j⟩:=I.loc;have b:Vis X.env.scope x:=by rcases hx with k | k;exact .inl k;exact .inr (.inl k)
 obtain⟨u,r,l⟩:=j i x v hi f b;refine wpAny_AugAssign_Name ?_;have d:wpAny (model X.prog X.w) X.A (eval e X.env) (λw B=>wpAny (model X.prog X.w) X.A (lh op u w) (λr G=>wpAny (model X.prog X.w) X.A (mF X.env x r) (λ_=>SP X a D .next) X.xe G) X.xe B) X.xe s:=by
  refine thn (he a s σ H _ I h) λw C ⟨y,n,p,F,t⟩=>?_;refine thn (ho a C σ n v y u w _ p r F t) λz Q ⟨M,E,o,L,J⟩=>?_;exact a4Z o hN hi hx L (λR q=>⟨_,E,q,J⟩) hf
 rcases l with ⟨hk,hm⟩ | ⟨hk,c,hc,hcell⟩
 ·exact wpAny_loadName_local I.ok.kind hk g hm d
 ·rcases hk with hk | hk
  ·exact wpAny_loadName_cell I.ok.kind hk hc hcell d
  ·rcases hx with k | k
   ·have:X.env.scope.names.lookup x=some .free:=hk
    rw[k]at this;cases this
   ·have:X.env.scope.names.lookup x=some .free:=hk
    rw[k]at this;cases this
end
section
variable {X:Cx}{pos:Pos}
def b6L (c:TT) (tb:TS):TS:=λD σ H=>∃ W:Nat->St->Hp->Prop,(∃ m,W m σ H)/\∀ m σ H,W m σ H ->
 c σ H λb H1=>if b=true then ∃ N:St->Hp->Prop,(∀ σ' H',N σ' H'->∃ m',m'<m/\W m' σ' H')/\tb { D with nx:=N,ct:=N,bk:=D.nx } σ H1 else D.nx σ H1
theorem b2P (hp:kj (model X.prog X.w) X.A X.env X.xe) (hc:PT X c tc) (hb:PSs X body tb):PS X (.While c body [] pos) (b6L tc tb):=by
 intro a s σ H D I h;obtain⟨W,⟨z,y⟩,g⟩:=h;refine wpAny_While (codeAny_whileLoop (λn t=>∃ σ' H',Inv X a σ' H' t/\W n σ' H') ?_ z ⟨σ,H,I,y⟩);rintro n x ⟨σ1,q,r,u⟩;refine lj hp (thn (hc a x σ1 q _ r (g n σ1 q u)) λb B ⟨o,m,e⟩=>?_);cases b with
 | true=>
  obtain⟨N,p,e⟩:=e;refine lj hp (thn (hb a B σ1 o _ m e) λf C d=>?_);cases f with
  | next=>
   obtain⟨σ3,H3,I3,k⟩:=d;obtain⟨j,l,i⟩:=p σ3 H3 k;exact⟨j,l,σ3,H3,I3,i⟩
  | cont=>
   obtain⟨σ3,H3,I3,k⟩:=d;obtain⟨j,l,i⟩:=p σ3 H3 k;exact⟨j,l,σ3,H3,I3,i⟩
  | brk=>exact d
  | ret v=>exact d
 | false=>
  exact lD ⟨σ1,o,m,e⟩
end
structure It where
 go:Nat->Hp->Prop
 yld:Nat->Hp->V->Hp->Prop
 stop:Nat->Hp->Prop
def FpOk (X:Cx) (pins:List (Addr×Obj)) (H:Hp) (b:Addr):Prop:=
 H b=none/\b≠X.env.locals/\b∉X.fs/\(b∈X.ex\/X.s₀.heap.objs.size≤b)/\(∀ x c,X.env.cells.lookup x=some c->c≠b)/\∀ p∈X.pn++pins,p.1≠b
theorem Inv.fpOk (I:Inv X pins σ H s) (hb:s.heap.objs.size≤b) (hn:H' b=none):FpOk X pins H' b:=by
 refine⟨hn,fG (eJ I.lt hb),I.nofs hb,.inr (eD I.sz hb),λx c e z=>?_,λp a z=>?_⟩
 ·obtain⟨v,q⟩:=I.cell x c e;exact absurd (eJ q.lt (by simp_all)) (eR _)
 ·exact absurd (eJ (Heap.lt_size (I.pin p a).1) (by simp_all)) (eR _)
structure Turn (P:j7) (w:World) (K:Fg) (tg:Expr) (J:It) (fp:List Addr) (it:Addr) (tn:Nat->Heap->Prop):Prop where
 mem:it∈fp
 obj:∀ i h,tn i h->∀ b∈fp,∃ o,h.get? b=some o/\∀ v,o.data≠.cell v
 keep:∀ i h h',tn i h->(∀ b∈fp,∀ o,h.get? b=some o->h'.get? b=some o)->tn i h'
 item:∀ (X:Cx),X.prog=P->X.w=w->X.K=K->X.calm=true->∀ (i:Nat) (pins:List (Addr×Obj)) (s:Shared) (σ:St) (H:Hp) (E:Value->Shared->Prop),Inv X pins σ H s->(∀ b∈fp,FpOk X pins H b)->tn i s.heap->J.go i H ->
  wpAny (model P w) X.A (pyNext (.ref it)) (λr s1=>∃ u,r=some u /\
   wpAny (model P w) X.A (mL tg (.ref it) u) (λ_ s2=>∃ x H',Inv X pins σ H' s2/\RelV x u/\J.yld i H x H'/\tn (i+1) s2.heap/\∀ b∈fp,H' b=none) E s1) E s
 done:∀ (X:Cx),X.prog=P->X.w=w->X.K=K->X.calm=true->∀ (i:Nat) (pins:List (Addr×Obj)) (s:Shared) (σ:St) (H:Hp) (E:Value->Shared->Prop),Inv X pins σ H s->(∀ b∈fp,FpOk X pins H b)->tn i s.heap->J.stop i H ->
  wpAny (model P w) X.A (pyNext (.ref it)) (λr s1=>r=none/\Inv X pins σ H s1) E s
 self:∀ (A:Around) (i:Nat) (s:Shared) (Q:Value->Shared->Prop) (E:Value->Shared->Prop),tn i s.heap->Q (.ref it) s->wpAny (model P w) A (pyIter (.ref it)) Q E s
abbrev TI:=St->Hp->(It->Hp->Prop)->Prop
def PIE (X:Cx) (pins:List (Addr×Obj)) (σ:St) (tg:Expr) (R:It->Hp->Prop) (itv:Value) (s2:Shared):Prop:=
 ∃ (it:Addr) (fp:List Addr) (tn:Nat->Heap->Prop) (J:It) (H':Hp),itv=.ref it/\Inv X pins σ H' s2/\Turn X.prog X.w X.K tg J fp it tn/\tn 0 s2.heap/\(∀ b∈fp,FpOk X pins H' b)/\R J H'
def PI (X:Cx) (tg iter:Expr) (wi:TI):Prop:=
 ∀ (pins:List (Addr×Obj)) (s:Shared) (σ:St) (H:Hp) (R:It->Hp->Prop),Inv X pins σ H s->wi σ H R ->
  wpAny (model X.prog X.w) X.A (eval iter X.env) (λv s1=>wpAny (model X.prog X.w) X.A (pyIter v) (PIE X pins σ tg R) X.xe s1) X.xe s
theorem a9W (ho:s.heap.get? it=some o) (hc:o.cls=.type n) (hd:o.data=.fields vs)
    (hn:["enumerate","zip","dict_itemiterator","dict_reverseitemiterator","odict_iterator","itertools.zip_longest","itertools.pairwise"].contains n=false) (hQ:Q () s):wpAny M A (mL tg (.ref it) u) Q E s:=by
  cases tg<;>first
    | exact jY hQ
    | (cases u<;>first
        | exact jY hQ
        | (refine jX (lP ho ?_)
           rw[hc,hd]
           show wpAny M A (if _=true then _ else _) Q E s
           rw[if_neg (by grind)];exact jY hQ))
def Itl (K:Fg) (a:Addr):It:=
 ⟨λi H=>∃ xs x,SqL K H a xs/\xs[i]?=some x,λi H x H'=>H'=H/\∀ xs,SqL K H a xs->xs[i]?=some x,λi H=>∃ xs,SqL K H a xs/\xs.length≤i⟩
def Itt (K:Fg) (a:Addr):It:=
 ⟨λi H=>∃ xs x,SqT K H a xs/\xs[i]?=some x,λi H x H'=>H'=H/\∀ xs,SqT K H a xs->xs[i]?=some x,λi H=>∃ xs,SqT K H a xs/\xs.length≤i⟩
def Itr (lo:Int) (n:Nat):It:=⟨λi _=>i<n,λi H x H'=>H'=H/\x=.int (lo+i),λi _=>n≤i⟩
theorem b0L {P:j7}{w:World}{K:Fg}{tg:Expr}(a it:Addr):Turn P w K tg (Itl K a) [it] it (λi h=>h.IsListIter it a i) where
 mem:=by simp
 obj:=λi h st b hb=>by
  have e:b=it:=by simpa using hb
  subst e;obtain⟨o,e,c,d⟩:=st;exact⟨o,e,λv z=>by rw[d]at z;cases z⟩
 keep:=λi h h' st k=>st.at λo e=>k it (by simp) o e
 item:=by
  intro X hP hw hK hc i pins s σ H E I hf st hg;subst hP hw hK;obtain⟨xs,x,hq,hx⟩:=hg;obtain⟨its,rv,p,hz⟩:=I.list hq;obtain⟨u,hu,ru⟩:=rv.get hx;obtain⟨f0,f1,f2,f3,f4,f5⟩:=hf it (by simp);refine wpAny_pyNext_list_item st p.isList (x:=u) (by simpa using hu) λh' st' sb=>?_;have I1:Inv X pins σ H { s with heap:=h' }:=I.turned (t':=s.toks) (λb o hb e=>(sb.2 b hb).trans e) f0 f1 f3 f4 f5;obtain⟨o,e,c,d⟩:=id st';exact⟨u,rfl,a9W (s:={ s with heap:=h' }) e c d (by decide) ⟨x,H,I1,ru,⟨rfl,λys hy=>by rw[I.list_inj hy hq];exact hx⟩,st',λb hb=>(hf b hb).1⟩⟩
 done:=by
  intro X hP hw hK hc i pins s σ H E I hf st hg;subst hP hw hK;obtain⟨xs,hq,hx⟩:=hg;obtain⟨its,rv,p,hz⟩:=I.list hq;obtain⟨f0,f1,f2,f3,f4,f5⟩:=hf it (by simp);have hl:=rv.length;exact wpAny_pyNext_list_end (I.ok.hd hc) st p.isList (by simp;omega) λh' eb=>⟨rfl,I.turned (t':=s.toks) (λb o hb e=>eb b o hb e) f0 f1 f3 f4 f5⟩
 self:=λ_ _ _ _ _ st h=>wpAny_pyIter_listiter st h
theorem a9X {P:j7}{w:World}{K:Fg}{tg:Expr}(a it:Addr):Turn P w K tg (Itt K a) [it] it (λi h=>h.IsTupleIter it a i) where
 mem:=by simp
 obj:=λi h st b hb=>by
  have e:b=it:=by simpa using hb
  subst e;obtain⟨o,e,c,d⟩:=st;exact⟨o,e,λv z=>by rw[d]at z;cases z⟩
 keep:=λi h h' st k=>st.at λo e=>k it (by simp) o e
 item:=by
  intro X hP hw hK hc i pins s σ H E I hf st hg;subst hP hw hK;obtain⟨xs,x,hq,hx⟩:=hg;obtain⟨its,rv,p,hz⟩:=I.tuple hq;obtain⟨u,hu,ru⟩:=rv.get hx;obtain⟨f0,f1,f2,f3,f4,f5⟩:=hf it (by simp);refine wpAny_pyNext_tuple_item st (show s.heap.IsTuple a its.toArray from p) (x:=u) (by simpa using hu) λh' st' sb=>?_;have I1:Inv X pins σ H { s with heap:=h' }:=I.turned (t':=s.toks) (λb o hb e=>(sb.2 b hb).trans e) f0 f1 f3 f4 f5;obtain⟨o,e,c,d⟩:=id st';exact⟨u,rfl,a9W (s:={ s with heap:=h' }) e c d (by decide) ⟨x,H,I1,ru,⟨rfl,λys hy=>by rw[I.tuple_inj hy hq];exact hx⟩,st',λb hb=>(hf b hb).1⟩⟩
 done:=by
  intro X hP hw hK hc i pins s σ H E I hf st hg;subst hP hw hK;obtain⟨xs,hq,hx⟩:=hg;obtain⟨its,rv,p,hz⟩:=I.tuple hq;obtain⟨f0,f1,f2,f3,f4,f5⟩:=hf it (by simp);have hl:=rv.length;exact wpAny_pyNext_tuple_end (I.ok.hd hc) st (show s.heap.IsTuple a its.toArray from p) (by simp;omega) λh' eb=>⟨rfl,I.turned (t':=s.toks) (λb o hb e=>eb b o hb e) f0 f1 f3 f4 f5⟩
 self:=λ_ _ _ _ _ st h=>wpAny_pyIter_tupleiter st h
theorem a9Y {P:j7}{w:World}{K:Fg}{tg:Expr}(it:Addr) (lo:Int) (n:Nat):Turn P w K tg (Itr lo n) [it] it (λi h=>IsRangeIter h it (lo+(i:Nat)*1) ((n:Int) - (i:Nat)) 1) where
 mem:=by simp
 obj:=λi h st b hb=>by
  have e:b=it:=by simpa using hb
  subst e;exact⟨_,st,λv z=>by
   have z':Data.fields _=Data.cell v:=z;cases z'⟩
 keep:=λi h h' st k=>k it (by simp) _ st
 item:=by
  intro X hP hw hK hc i pins s σ H E I hf st hg;subst hP hw hK;obtain⟨f0,f1,f2,f3,f4,f5⟩:=hf it (by simp);have W:=Walks.range (prog:=X.prog) (w:=X.w) (I.ok.hd hc) it lo 1 n;refine W.item i s _ _ hg st λv h' tk hv st' kk=>?_;obtain⟨t,rfl⟩:=hv;have I1:Inv X pins σ H { s with heap:=h',toks:=tk }:=I.turned (λb o hb e=>kk b o (by simpa using hb) e) f0 f1 f3 f4 f5;refine⟨_,rfl,a9W (s:={ s with heap:=h',toks:=tk }) (n:="range_iterator") st' rfl rfl (by decide) ⟨.int (lo+i),H,I1,⟨t,?_⟩,⟨rfl,rfl⟩,st',λb hb=>(hf b hb).1⟩⟩;rw[Int.mul_one]
 done:=by
  intro X hP hw hK hc i pins s σ H E I hf st hg;subst hP hw hK;obtain⟨f0,f1,f2,f3,f4,f5⟩:=hf it (by simp);exact wpAny_pyNext_range_end (I.ok.hd hc) st (by have:n≤i:=hg;omega) λh' eb=>⟨rfl,I.turned (t':=s.toks) (λb o hb e=>eb b o hb e) f0 f1 f3 f4 f5⟩
 self:=λ_ _ _ _ _ st h=>wpAny_pyIter_rangeiter st h
end L2
namespace L2
open PySem PySem.Spec PyProof.Rows
section
variable {X:Cx}{tg:Expr}
def b9s (K:Fg) (tl:TE):TI:=fun σ H R=>tl σ H λx H1=>∃ a,x=.ref a/\(∃ xs,SqL K H1 a xs)/\R (Itl K a) H1
def iTup (K:Fg) (tl:TE):TI:=fun σ H R=>tl σ H λx H1=>∃ a,x=.ref a/\(∃ xs,SqT K H1 a xs)/\R (Itt K a) H1
theorem b4Z (hl:PE X l tl):PI X tg l (b9s X.K tl):=by
 intro f s σ H R I h;refine thn (hl f s σ H _ I h) λv d ⟨x,m,c,g,i⟩=>?_;obtain⟨a,e,⟨r,j⟩,q⟩:=i;subst e;cases g;obtain⟨n,u,p,t⟩:=c.list j;refine lQ p.isList ?_;refine⟨d.heap.objs.size,[d.heap.objs.size],_,_,m,rfl,c.kept λb o e=>Heap.get?_push_of_some _ e,b0L a _,⟨_,Heap.get?_push_size _ rfl,rfl,rfl⟩,λb k=>?_,q⟩;have e:b=d.heap.objs.size:=by simp_all
 subst e;exact c.fpOk (dS _) (c.hok.fresh (dS _))
theorem b6M (hl:PE X l tl):PI X tg l (iTup X.K tl):=by
 intro f s σ H R I h;refine thn (hl f s σ H _ I h) λv c ⟨x,m,d,k,j⟩=>?_;obtain⟨a,e,⟨u,n⟩,q⟩:=j;subst e;cases k;obtain⟨g,t,p,r⟩:=d.tuple n;refine wpAny_pyIter_tuple (p) ?_;refine⟨c.heap.objs.size,[c.heap.objs.size],_,_,m,rfl,d.kept λb o e=>Heap.get?_push_of_some _ e,a9X a _,⟨_,Heap.get?_push_size _ rfl,rfl,rfl⟩,λb i=>?_,q⟩;have e:b=c.heap.objs.size:=by simp_all
 subst e;exact d.fpOk (dS _) (d.hok.fresh (dS _))
theorem b2Q {lo hi:Int}(I:Inv X pins σ H s) (h1:-(2 ^ 62)≤lo) (h2:lo<2 ^ 62) (h3:-(2 ^ 62)≤hi) (h4:hi<2 ^ 62)
  (q:R (Itr lo (hi - lo).toNat) H):wpAny (model X.prog X.w) X.A (pyIter (.ref s.heap.objs.size)) (PIE X pins σ tg R) E { s with heap:=s.heap.push { cls:=.type "range",data:=.fields #[.int lo t,.int hi u,.int 1 v] },toks:=tk }:=by
 refine wpAny_pyIter_range (IsRange.new ..) (small_one h1 h2 h3 h4) ?_;have a:Inv X pins σ H { s with heap:=s.heap.push { cls:=.type "range",data:=.fields #[.int lo t,.int hi u,.int 1 v] },toks:=tk }:=I.kept λb o e=>Heap.get?_push_of_some _ e;refine⟨(s.heap.push { cls:=.type "range",data:=.fields #[.int lo t,.int hi u,.int 1 v] }).objs.size,[(s.heap.push { cls:=.type "range",data:=.fields #[.int lo t,.int hi u,.int 1 v] }).objs.size],_,_,H,rfl,
  a.kept λb o e=>Heap.get?_push_of_some _ e,a9Y _ lo (hi - lo).toNat,?_,λb d=>?_,q⟩
 ·have c:lo+((0:Nat))*1=lo:=by simp
  have f:(((hi - lo).toNat)) - ((0:Nat))=j8.Range.rangeSize lo hi 1:=by rw[rangeSize_one];split<;>omega
  rw[c,f];exact Heap.get?_push_size _ rfl
 ·have e:b=(s.heap.push { cls:=.type "range",data:=.fields #[.int lo t,.int hi u,.int 1 v] }).objs.size:=by simpa using d
  subst e;exact a.fpOk (dS _) (a.hok.fresh (dS _))
def b6N (ta:TA):TI:=fun σ H R=>ta σ H λvs H1=>∃ j:Int,vs=[.int j]/\-(2 ^ 62)≤j/\j<2 ^ 62/\R (Itr 0 j.toNat) H1
theorem b0M (hg:Gl X "range") (hm:X.mg "range"=none) (ha:PA X [a] ta) (hs:j0 [a] X.env=[(false,eval a X.env)]:=by rfl):PI X tg (.Call (.Name "range" p) [a] [] pos) (b6N ta):=by
 intro b s σ H R I h;refine Call_ (a53 I hg hm boot_range (PyProof.Rows.callWith_type1 (thn (ha pos b s σ H _ I h) λl k ⟨i,m,d,f,c⟩=>?_) hs rfl));obtain⟨j,e,c,g,q⟩:=c;subst e;cases f with
 | cons r rr=>
  cases rr;obtain⟨t,rfl⟩:=r;exact call_range_1 (b2Q d (by simp) (by simp) c g (by grind))
def tFor (wi:TI) (g:TG) (tb:TS):TS:=λD σ H=>wi σ H λJ H1=>∃ W:Nat->Nat->St->Hp->Prop,(∃ m,W 0 m σ H1)/\∀ i m σ H,W i m σ H ->
 (J.stop i H/\D.nx σ H)\/(J.go i H/\∃ N:St->Hp->Prop,(∀ σ' H',N σ' H'->∃ m',m'<m/\W (i+1) m' σ' H')/\∀ x H',J.yld i H x H'->g x σ H' fun σ2 H2=>tb { D with nx:=N,ct:=N,bk:=D.nx } σ2 H2)
def a8Y (fp:List Addr) (h:Heap):List (Addr×Obj):=fp.filterMap λb=>(h.get? b).map λo=>(b,o)
theorem a20 (hb:b∈fp) (e:h.get? b=some o):(b,o)∈a8Y fp h:=fK.mpr ⟨b,hb,by rw[e];rfl⟩
theorem b0N (hp:p∈a8Y fp h):p.1∈fp/\h.get? p.1=some p.2:=by
 obtain⟨b,a,e⟩:=fK.mp hp;cases q:h.get? b with
 | none=>rw[q]at e;cases e
 | some o=>
  rw[q]at e;have c:=eZ.inj e;subst c;exact⟨a,q⟩
theorem Inv.pinned (I:Inv X pins σ H s) (hf:∀ b∈fp,FpOk X pins H b) (ho:∀ b∈fp,∃ o,s.heap.get? b=some o/\∀ v,o.data≠.cell v):Inv X (pins++a8Y fp s.heap) σ H s:=
 I.pins_of λp h=>(dU.mp h).elim (λz=>I.pin p (e7 _ z)) λz=>by
  obtain⟨a,e⟩:=b0N z;obtain⟨g,f,i,_⟩:=hf p.1 a;obtain⟨o,c,d⟩:=ho p.1 a;rw[e]at c;cases c;exact⟨e,g,f,i,d⟩
theorem Inv.unpinned (I:Inv X (pins++pl) σ H s):Inv X pins σ H s:=I.pins_of λp a=>I.pin p (e7 _ (eV _ a))
theorem b6O (hp:kj (model X.prog X.w) X.A X.env X.xe) (hc:X.calm=true) (hi:PI X tg iter wi) (hg:PG X tg g) (hb:PSs X body tb)
  (hs:∀ x,k7 iter X.env x=pure x:=by intro _;rfl):PS X (.For tg iter body [] pos) (tFor wi g tb):=by
 intro a s σ H D I h;refine wpAny_For (thn (hi a s σ H _ I h) λv s1 h1=>thn h1 λitv s2 h2=>?_) hs;obtain⟨it,z,Q,J,H2,e,I2,T,st2,S,W,⟨m0,w0⟩,F⟩:=h2;subst e;have p:∀ {H':Hp},(∀ b∈z,H' b=none)->∀ b∈z,FpOk X a H' b:=λhn b hb=>⟨hn b hb,(S b hb).2⟩;refine codeAny_forLoop_any (λn Y=>∃ i σ' H',Inv X a σ' H' Y/\Q i Y.heap/\(∀ b∈z,H' b=none)/\W i n σ' H') ?_ m0 ⟨0,σ,H2,I2,st2,λb hb=>(S b hb).1,w0⟩;rintro n U ⟨i,σ3,B,R,E,C,w3⟩;rcases F i n σ3 B w3 with ⟨stop,qn⟩ | ⟨go,N,hN,step⟩
 ·refine lj hp (thn (T.done X rfl rfl rfl hc i a U σ3 B X.xe R (p C) E stop) λr s4 ⟨G,I4⟩=>?_);subst G;exact lD ⟨σ3,B,I4,qn⟩
 ·refine lj hp (thn (T.item X rfl rfl rfl hc i a U σ3 B X.xe R (p C) E go) λr s4 ⟨u,G,h4⟩=>?_);subst G;refine lj hp (thn h4 λ_ s5 ⟨x,H5,I5,r5,y5,y,M⟩=>?_);have V:=I5.pinned (p M) (T.obj _ _ y);refine lj hp (thn (hg _ s5 σ3 H5 x u _ V r5 (step x H5 y5)) λ_ s6 ⟨σ6,H6,I6,q6⟩=>?_);refine lj hp (thn (hb _ s6 σ6 H6 _ I6 q6) λf L l=>?_);have q:∀ {σ7:St}{j:Hp},Inv X _ σ7 j L->N σ7 j->∃ m,m<n/\∃ i σ' H',Inv X a σ' H' L/\Q i L.heap/\(∀ b∈z,H' b=none)/\W i m σ' H':=λ{σ7 j} c t=>by
   obtain⟨m',hm,w7⟩:=hN σ7 j t;refine⟨m',hm,i+1,σ7,j,c.unpinned,T.keep _ _ _ y λb hb o e=>(c.pin _ (e7 _ (e7 _ (a20 hb e)))).1,λb hb=>?_,w7⟩;obtain⟨o,e,d⟩:=T.obj _ _ y b hb;exact (c.pin _ (e7 _ (e7 _ (a20 hb e)))).2.1
  cases f with
  | next=>obtain⟨σ7,j,c,t⟩:=l;exact q c t
  | cont=>obtain⟨σ7,j,c,t⟩:=l;exact q c t
  | brk=>obtain⟨σ7,j,c,l⟩:=l;exact⟨σ7,j,c.unpinned,l⟩
  | ret v=>obtain⟨x7,σ7,j,c,r7,l⟩:=l;exact⟨x7,σ7,j,c.unpinned,r7,l⟩
end
end L2
namespace L2
open PySem PySem.Spec PyProof.Rows
abbrev R2:=V->V->Hp->VK->Prop
def OpR (X:Cx) (f:Value->Value->Sem Value) (r:R2):Prop:=
 ∀ (pins:List (Addr×Obj)) (s:Shared) (σ:St) (H:Hp) (x y:V) (v u:Value) (Q:VK),Inv X pins σ H s->RelV x v->RelV y u->r x y H Q ->
  wpAny (model X.prog X.w) X.A (f v u) (EP X pins σ Q) X.xe s
def UnR (X:Cx) (f:Value->Sem Value) (r:V->Hp->VK->Prop):Prop:=
 ∀ (pins:List (Addr×Obj)) (s:Shared) (σ:St) (H:Hp) (x:V) (v:Value) (Q:VK),Inv X pins σ H s->RelV x v->r x H Q ->
  wpAny (model X.prog X.w) X.A (f v) (EP X pins σ Q) X.xe s
def CallR (X:Cx) (f:Value) (r:List V->Hp->VK->Prop):Prop:=
 ∀ (pins:List (Addr×Obj)) (s:Shared) (σ:St) (H:Hp) (xs:List V) (us:List Value) (Q:VK),Inv X pins σ H s->Vals xs us->r xs H Q ->
  wpAny (model X.prog X.w) X.A (call f us) (EP X pins σ Q) X.xe s
def TruR (X:Cx) (r:V->Hp->(Bool->Hp->Prop)->Prop):Prop:=
 ∀ (pins:List (Addr×Obj)) (s:Shared) (σ:St) (H:Hp) (x:V) (v:Value) (Q:Bool->Hp->Prop),Inv X pins σ H s->RelV x v->r x H Q ->
  wpAny (model X.prog X.w) X.A (truthy v) (TP X pins σ Q) X.xe s
def tOp (r:R2) (ta tb:TE):TE:=fun σ H Q=>ta σ H λx H1=>tb σ H1 λy H2=>r x y H2 Q
def tUn (r:V->Hp->VK->Prop) (ta:TE):TE:=fun σ H Q=>ta σ H λx H1=>r x H1 Q
def rI (C:Int->Int->Prop) (g:Int->Int->V):R2:=λx y H Q=>∃ i j,x=.int i/\y=.int j/\C i j/\Q (g i j) H
def rI0 (g:Int->Int->V):R2:=λx y H Q=>∃ i j,x=.int i/\y=.int j/\Q (g i j) H
def rU (g:Int->V):V->Hp->VK->Prop:=λx H Q=>∃ i,x=.int i/\Q (g i) H
section
variable {X:Cx}{a b c:Expr}{ta tb tc:TE}{pos:Pos}
theorem binT (ha:PE X a ta) (hb:PE X b tb) {R:V->V->Hp->Prop}(I:Inv X pins σ H s)
  (h:ta σ H λx H1=>tb σ H1 λy H2=>R x y H2) {f:Value->Value->Sem Value}
  (hf:∀ v u s2 x y H2,Inv X pins σ H2 s2->RelV x v->RelV y u->R x y H2->wpAny (model X.prog X.w) X.A (f v u) Q X.xe s2) :
  wpAny (model X.prog X.w) X.A (eval a X.env) (λv s₁=>wpAny (model X.prog X.w) X.A (eval b X.env) (λu s₂=>wpAny (model X.prog X.w) X.A (f v u) Q X.xe s₂) X.xe s₁) X.xe s:=by
 refine thn (ha pins s σ H _ I h) λv c ⟨x,j,i,g,n⟩=>?_;refine thn (hb pins c σ j _ i n) λu e ⟨y,m,d,k,l⟩=>?_;exact hf v u e x y m d g k l
theorem b9t (ho:OpR X (kl op) r) (ha:PE X a ta) (hb:PE X b tb):PE X (.BinOp a op b pos) (tOp r ta tb):=by
 intro c s σ H Q I h;exact wpAny_BinOp (binT ha hb I h λv u i x y f e d g q=>ho c i σ f x y v u Q e d g q)
theorem b9u (ho:UnR X (me op) r) (ha:PE X a ta):PE X (.UnaryOp op a pos) (tUn r ta):=by
 intro b s σ H Q I h;exact UnaryOp_ (thn (ha b s σ H _ I h) λv d ⟨x,e,c,g,f⟩=>ho b d σ e x v Q c g f)
theorem opI {g:Int->Int->Int}
  (rule:∀ (i j:Int) (t u:Tok) (s:Shared) (Q:Value->Shared->Prop) (E:Value->Shared->Prop),C i j->Q (.int (g i j) s.toks) { s with toks:=s.toks+1 }->wpAny (model X.prog X.w) X.A (f (.int i t) (.int j u)) Q E s) :
  OpR X f (rI C λi j=>.int (g i j)):=by
 intro b s σ H x y v u Q I a d h;obtain⟨i,j,rfl,rfl,e,q⟩:=h;obtain⟨t,rfl⟩:=a;obtain⟨c,rfl⟩:=d;exact rule i j t c s _ _ e ⟨.int _,H,I.tok _,⟨_,rfl⟩,q⟩
theorem opI0 {g:Int->Int->Int}
  (rule:∀ (i j:Int) (t u:Tok) (s:Shared) (Q:Value->Shared->Prop) (E:Value->Shared->Prop),Q (.int (g i j) s.toks) { s with toks:=s.toks+1 }->wpAny (model X.prog X.w) X.A (f (.int i t) (.int j u)) Q E s) :
  OpR X f (rI0 λi j=>.int (g i j)):=by
 intro a s σ H x y v u Q I d b h;obtain⟨i,j,rfl,rfl,q⟩:=h;obtain⟨t,rfl⟩:=d;obtain⟨c,rfl⟩:=b;exact rule i j t c s _ _ ⟨.int _,H,I.tok _,⟨_,rfl⟩,q⟩
theorem opB0 {g:Int->Int->Bool}
  (rule:∀ (i j:Int) (t u:Tok) (s:Shared) (Q:Value->Shared->Prop) (E:Value->Shared->Prop),Q (.bool (g i j)) s->wpAny (model X.prog X.w) X.A (f (.int i t) (.int j u)) Q E s) :
  OpR X f (rI0 λi j=>.bl (g i j)):=by
 intro d s σ H x y v u Q I c a h;obtain⟨i,j,rfl,rfl,q⟩:=h;obtain⟨t,rfl⟩:=c;obtain⟨b,rfl⟩:=a;exact rule i j t b s _ _ ⟨.bl _,H,I,rfl,q⟩
def CPow (i j:Int):Prop:=0≤j/\j≤1000000/\i.natAbs<2 ^ 64
def CMul (i j:Int):Prop:=(-(2 ^ 64)<i/\i<2 ^ 64)\/(-(2 ^ 64)<j/\j<2 ^ 64)
theorem CMul.ok (h:CMul i j):IntMulOk i j:=by
 rcases h with ⟨h1,h2⟩ | ⟨h1,h2⟩
 ·exact .of_left (intBits_le_64 h1 h2)
 ·exact .of_right (intBits_le_64 h1 h2)
theorem op_add:OpR X (kl .Add) (rI0 λi j=>.int (i+j)):=opI0 λ_ _ _ _ _ _ _ q=>add_int q
theorem b6P:OpR X (kl .Sub) (rI0 λi j=>.int (i - j)):=opI0 λ_ _ _ _ _ _ _ q=>sub_int q
theorem b6Q:OpR X (kl .Mult) (rI CMul λi j=>.int (i*j)):=opI λ_ _ _ _ _ _ _ a q=>mul_int q a.ok
theorem b6R:OpR X (kl .Mod) (rI (λ_ j=>0<j) λi j=>.int (i % j)):=opI λi j _ _ _ _ _ a q=>by
 have b:(0:Int)<j:=a;exact mod_int' (by omega) (by rw[Int.fmod_eq_emod_of_nonneg i (by omega)];exact q)
theorem b6S:OpR X (kl .Pow) (rI CPow λi j=>.int (i ^ j.toNat)):=opI λ_ _ _ _ _ _ _ a q=>pow_int_small a.1 a.2.1 a.2.2 q
theorem b40:OpR X (lh .Add) (rI0 λi j=>.int (i+j)):=opI0 λ_ _ _ _ _ _ _ q=>iadd_int q
theorem unI {g:Int->Int}
  (rule:∀ (i:Int) (t:Tok) (s:Shared) (Q:Value->Shared->Prop) (E:Value->Shared->Prop),Q (.int (g i) s.toks) { s with toks:=s.toks+1 }->wpAny (model X.prog X.w) X.A (f (.int i t)) Q E s) :
  UnR X f (rU λi=>.int (g i)):=by
 intro b s σ H x v Q I a h;obtain⟨i,rfl,q⟩:=h;obtain⟨t,rfl⟩:=a;exact rule i t s _ _ ⟨.int _,H,I.tok _,⟨_,rfl⟩,q⟩
theorem b6T:UnR X (me .USub) (rU λi=>.int (-i)):=unI λ_ _ _ _ _ q=>neg_int q
end
noncomputable def scal:V->V->Bool
 | .non,.non=>true | .non,.int _=>true | .int _,.non=>true | .non,.bl _=>true | .bl _,.non=>true | .non,.str _=>true | .str _,.non=>true
 | .int _,.int _=>true | .bl _,.bl _=>true | .str _,.str _=>true | .byt _,.byt _=>true
 | .int _,.str _=>true | .str _,.int _=>true | .bl _,.str _=>true | .str _,.bl _=>true
 | _,_=>false
def rEq:R2:=λx y H Q=>scal x y=true/\Q (.bl (decide (x=y))) H
def rNe:R2:=λx y H Q=>scal x y=true/\Q (.bl (!decide (x=y))) H
theorem b0O:decide (V.int i=V.int j)=(i==j):=by
 rw[gh];simp
theorem b0P:decide (V.bl i=V.bl j)=(i==j):=by
 rw[gh];simp
theorem b0Q:decide (V.str i=V.str j)=(i==j):=by
 rw[gh];simp
theorem b0R:decide (V.byt i=V.byt j)=(i.toList==j.toList):=by
 rw[gh];cases i;cases j;simp
section
variable {X:Cx}{a b c:Expr}{ta tb tc:TE}{pos:Pos}
theorem a0E (I:Inv X pins σ H s) (q:Q (.bl k) H) (e:k=k'):EP X pins σ Q (.bool k') s:=by
 subst e;exact⟨.bl k,H,I,rfl,q⟩
theorem op_eq:OpR X (ke .Eq) rEq:=by
 intro pins s σ H x y v u Q I rx ry h;obtain⟨hs,q⟩:=h;cases x with
 | non=>
  cases rx;cases y with
  | non=>cases ry;exact PySem.EqNone.eq_none_none (a0E I q (by simp))
  | bl j=>cases ry;exact PySem.EqNone.eq_none_bool (a0E I q (by simp))
  | int j=>obtain⟨t',rfl⟩:=ry;exact PySem.EqNone.eq_none_int (a0E I q (by simp))
  | str j=>obtain⟨t',rfl⟩:=ry;exact PySem.EqNone.eq_none_str (a0E I q (by simp))
  | _=>exact absurd (show false=true from hs) eW
 | bl i=>
  cases rx;cases y with
  | non=>cases ry;exact PySem.EqNone.eq_bool_none (a0E I q (by simp))
  | bl j=>cases ry;exact eq_bool (a0E I q b0P)
  | str j=>obtain⟨t',rfl⟩:=ry;exact PySem.EqMixed.eq_bool_str (a0E I q (by simp))
  | _=>exact absurd (show false=true from hs) eW
 | int i=>
  obtain⟨t,rfl⟩:=rx;cases y with
  | non=>cases ry;exact PySem.EqNone.eq_int_none (a0E I q (by simp))
  | int j=>obtain⟨t',rfl⟩:=ry;exact eq_int (a0E I q b0O)
  | str j=>obtain⟨t',rfl⟩:=ry;exact PySem.EqMixed.eq_int_str (a0E I q (by simp))
  | _=>exact absurd (show false=true from hs) eW
 | str i=>
  obtain⟨t,rfl⟩:=rx;cases y with
  | non=>cases ry;exact PySem.EqNone.eq_str_none (a0E I q (by simp))
  | bl j=>cases ry;exact PySem.EqMixed.eq_str_bool (a0E I q (by simp))
  | int j=>obtain⟨t',rfl⟩:=ry;exact PySem.EqMixed.eq_str_int (a0E I q (by simp))
  | str j=>obtain⟨t',rfl⟩:=ry;exact eq_str (a0E I q b0Q)
  | _=>exact absurd (show false=true from hs) eW
 | byt i=>
  obtain⟨t,rfl⟩:=rx;cases y with
  | byt j=>obtain⟨t',rfl⟩:=ry;exact PySem.W.eq_bytes (a0E I q b0R)
  | _=>exact absurd (show false=true from hs) eW
 | _=>cases y<;>exact absurd (show false=true from hs) eW
theorem op_ne:OpR X (ke .NotEq) rNe:=by
 intro e s σ H x y v u Q I d a h;obtain⟨c,q⟩:=h;cases x with
 | non=>
  cases d;cases y with
  | non=>cases a;exact PySem.EqNone.ne_none_none (a0E I q (by simp))
  | bl j=>cases a;exact PySem.EqNone.ne_none_bool (a0E I q (by simp))
  | int j=>obtain⟨b,rfl⟩:=a;exact PySem.EqNone.ne_none_int (a0E I q (by simp))
  | str j=>obtain⟨b,rfl⟩:=a;exact PySem.EqNone.ne_none_str (a0E I q (by simp))
  | _=>exact absurd (show false=true from c) eW
 | bl i=>
  cases d;cases y with
  | non=>cases a;exact PySem.EqNone.ne_bool_none (a0E I q (by simp))
  | bl j=>cases a;exact ne_bool (a0E I q (congrArg not b0P))
  | str j=>obtain⟨b,rfl⟩:=a;exact PySem.EqMixed.ne_bool_str (a0E I q (by simp))
  | _=>exact absurd (show false=true from c) eW
 | int i=>
  obtain⟨t,rfl⟩:=d;cases y with
  | non=>cases a;exact PySem.EqNone.ne_int_none (a0E I q (by simp))
  | int j=>obtain⟨b,rfl⟩:=a;exact ne_int (a0E I q (congrArg not b0O))
  | str j=>obtain⟨b,rfl⟩:=a;exact PySem.EqMixed.ne_int_str (a0E I q (by simp))
  | _=>exact absurd (show false=true from c) eW
 | str i=>
  obtain⟨t,rfl⟩:=d;cases y with
  | non=>cases a;exact PySem.EqNone.ne_str_none (a0E I q (by simp))
  | bl j=>cases a;exact PySem.EqMixed.ne_str_bool (a0E I q (by simp))
  | int j=>obtain⟨b,rfl⟩:=a;exact PySem.EqMixed.ne_str_int (a0E I q (by simp))
  | str j=>obtain⟨b,rfl⟩:=a;exact ne_str (a0E I q (congrArg not b0Q))
  | _=>exact absurd (show false=true from c) eW
 | byt i=>
  obtain⟨t,rfl⟩:=d;cases y with
  | byt j=>obtain⟨b,rfl⟩:=a;exact PySem.W.ne_bytes (a0E I q (congrArg not b0R))
  | _=>exact absurd (show false=true from c) eW
 | _=>cases y<;>exact absurd (show false=true from c) eW
theorem b9v:OpR X (ke .Lt) (rI0 λi j=>.bl (decide (i<j))):=opB0 λ_ _ _ _ _ _ _ q=>lt_int q
theorem b9w:OpR X (ke .LtE) (rI0 λi j=>.bl (decide (i≤j))):=opB0 λ_ _ _ _ _ _ _ q=>le_int q
theorem b9x:OpR X (ke .Gt) (rI0 λi j=>.bl (decide (j<i))):=opB0 λ_ _ _ _ _ _ _ q=>gt_int q
theorem b0S:OpR X (ke .Lt) (λx y H Q=>∃ i j,x=.str i/\y=.str j/\Q (.bl (decide (i.cps.toList<j.cps.toList))) H):=by
 intro b s σ H x y v u Q I a c h;obtain⟨i,j,rfl,rfl,q⟩:=h;obtain⟨t,rfl⟩:=a;obtain⟨d,rfl⟩:=c;exact lt_str (a0E I q rfl)
theorem op_isN:OpR X (ke .Is) (λx y H Q=>y=.non/\Q (.bl (decide (x=.non))) H):=by
 intro b s σ H x y v u Q I a c h;obtain⟨rfl,q⟩:=h;cases c;refine is_none_gen (a0E I q ?_);cases x<;>first
  | (cases a;rfl)
  | (obtain⟨t,rfl⟩:=a;rfl)
theorem b41:OpR X (ke .IsNot) (λx y H Q=>y=.non/\Q (.bl (!decide (x=.non))) H):=by
 intro c s σ H x y v u Q I a b h;obtain⟨rfl,q⟩:=h;cases b;refine isnot_none_gen (a0E I q ?_);cases x<;>first
  | (cases a;rfl)
  | (obtain⟨t,rfl⟩:=a;rfl)
theorem OpR.or (h:OpR X f r) (h':OpR X f r'):OpR X f (λx y H Q=>r x y H Q\/r' x y H Q):=by
 intro a s σ H x y v u Q I c b q;rcases q with q | q
 ·exact h a s σ H x y v u Q I c b q
 ·exact h' a s σ H x y v u Q I c b q
theorem a0p (b:Expr) (h:op≠.In:=by decide) (h2:op≠.NotIn:=by decide):lE op b=false:=by
 have a:(op==CmpOp.In)=false:=by grind
 have c:(op==CmpOp.NotIn)=false:=by grind
 cases b<;>simp[lE,a,c]
theorem b42 (ho:OpR X (ke op) r) (ha:PE X a ta) (hb:PE X b tb) (hm:lE op b=false):PE X (.Compare a [op] [b] pos) (tOp r ta tb):=by
 intro c s σ H Q I h;exact wpAny_Compare1 (binT ha hb I h λv u d x y f g i e q=>ho c d σ f x y v u Q g i e q) hm
def b9y (t:TE):TT:=fun σ H Q=>t σ H λx H'=>∃ k,x=.bl k/\Q k H'
theorem b43 (ho:OpR X (ke op) r) (ha:PE X a ta) (hb:PE X b tb) (hm:lE op b=false):PT X (.Compare a [op] [b] pos) (b9y (tOp r ta tb)):=by
 intro d s σ H Q I h;refine wpAny_isTrue_Compare1 (thn (ha d s σ H _ I h) λv l ⟨x,w,f,n,B⟩=>thn (hb d l σ w _ f B) λu t ⟨y,m,i,j,A⟩=>
  thn (ho d t σ m x y v u _ i n j A) λc C ⟨z,q,p,o,k,e,g⟩=>?_) hm
 subst e;cases o;exact kW ⟨q,p,g⟩
def b4k (r r':R2) (ta tb tc:TE):TE:=fun σ H Q=>ta σ H λx H1=>tb σ H1 λy H2=>r x y H2 λz H3=>∃ k,z=.bl k /\
 (if k=true then tc σ H3 λw' H4=>r' y w' H4 Q else Q (.bl false) H3)
theorem b2R (ho:OpR X (ke op) r) (ho':OpR X (ke op') r') (ha:PE X a ta) (hb:PE X b tb) (hc:PE X c tc)
  (hm:lastMarks [op,op'] [b,c]=false:=by with_unfolding_all rfl):PE X (.Compare a [op,op'] [b,c] pos) (b4k r r' ta tb tc):=by
 intro f s σ H Q I h;refine Compare_chain (thn (ha f s σ H _ I h) λv m ⟨x,t,J,p,N⟩=>chain_link (thn (hb f m σ t _ J N) λu o ⟨y,C,F,j,L⟩=>
  thn (ho f o σ C x y v u _ F p j L) λd A ⟨z,i,g,n,k,e,l⟩=>?_)) hm
 subst e;cases n;refine kW ?_;cases k with
 | false=>exact ite_ff ⟨.bl false,i,g,rfl,l⟩
 | true=>exact ite_tt (chain_last (thn (hc f A σ i _ g l) λM w ⟨D,q,B,G,E⟩=>ho' f w σ q y D u M Q B j G E))
def TruV (K:Fg) (x:V) (H:Hp) (k:Bool):Prop:=
 match x with
 | .non=>k=false
 | .bl b=>k=b
 | .int i=>k=(i != 0)
 | .str y=>y.length≤jZ/\k=((y.length:Int) != 0)
 | .byt y=>y.size≤jZ/\k=((y.size:Int) != 0)
 | .ref p=>(∃ xs,SqL K H p xs/\k=!xs.isEmpty)\/(∃ xs,SqT K H p xs/\k=!xs.isEmpty)\/∃ kvs,H p=some (.dK kvs)/\k=!kvs.isEmpty
 | _=>False
theorem a9Z {κ:Type}{kvs:List (κ×V)}{vs:List (κ×Value)}(r:KV kvs vs):(!vs.isEmpty)=!kvs.isEmpty:=by
 cases r<;>rfl
theorem a54 (r:Vals xs its):(!its.toArray.isEmpty)=!xs.isEmpty:=by
 cases r<;>simp
theorem a7b:(jZ:Nat)<2 ^ 63:=by rw[ki];decide
theorem b6U:TruR X (λx H Q=>∃ k,TruV X.K x H k/\Q k H):=by
 intro u s σ H x v Q I c h;obtain⟨k,e,q⟩:=h;have z:=a7b;have A:jZ=16777216:=ki;cases x with
 | non=>
  cases c;have a:k=false:=e;subst a;exact truthy_none ⟨H,I,q⟩
 | bl b=>
  cases c;have a:k=b:=e;subst a;exact kW ⟨H,I,q⟩
 | int i=>
  obtain⟨t,rfl⟩:=c;have a:k=(i != 0):=e;subst a;exact PySem.P.truthy_int ⟨H,I,q⟩
 | str y=>
  obtain⟨t,rfl⟩:=c;obtain⟨o,a⟩:=e;subst a;exact PySem.P.truthy_str (by omega) ⟨H,I.tok _,q⟩
 | byt y=>
  obtain⟨t,rfl⟩:=c;obtain⟨o,a⟩:y.size≤jZ/\k=((y.size:Int) != 0):=e;subst a;exact PySem.W.truthy_bytes (by omega) ⟨H,I.tok _,q⟩
 | ref p=>
  cases c;have a:=e;rcases a with ⟨xs,hx,a⟩ | ⟨xs,hx,a⟩ | ⟨kvs,hx,a⟩
  ·subst a;obtain⟨l,r,g,j⟩:=I.list hx;have d:=r.length;exact wpAny_truthy_list g.isList (by simp only[e8];omega) ⟨H,I.tok _,by rw[a54 r];exact q⟩
  ·subst a;obtain⟨l,r,g,j⟩:=I.tuple hx;have d:=r.length;exact truthy_tuple g (by simp only[e8];omega) ⟨H,I.tok _,by rw[a54 r];exact q⟩
  ·subst a;obtain⟨j,n,f,r,m⟩:=I.hok p _ hx;have d:kvs.length=f.length:=Paired.length r;exact wpAny_truthy_dict n m (by omega) ⟨H,I.tok _,by rw[a9Z r];exact q⟩
 | _=>exact (show False from e).elim
theorem b2S (ha:PE X a ta) (he:∀ whole,isTrue a X.env whole=(do let v <- whole;kQ a.pos;kB [v] (truthy v))) :
  PT X a (fun σ H Q=>ta σ H λx H'=>∃ k,TruV X.K x H' k/\Q k H'):=by
 intro b s σ H Q I h;exact isTrue_plain (thn (ha b s σ H _ I h) λv e ⟨x,f,d,g,c⟩=>b6U b e σ f x v Q d g c) (he _)
theorem op_add_str:OpR X (kl .Add) (λx y H Q=>∃ i j,x=.str i/\y=.str j/\i.length+j.length≤jZ/\Q (.str (i++j)) H):=by
 intro b s σ H x y v u Q I a d h;obtain⟨i,j,rfl,rfl,e,q⟩:=h;obtain⟨t,rfl⟩:=a;obtain⟨c,rfl⟩:=d;exact add_str (λc f=>⟨.str (i++j),H,I.tok _,⟨_,rfl⟩,q⟩) e
theorem a2P (r:Vals [x] us):∃ u,us=[u]/\RelV x u:=by
 cases r with
 | cons r1 r2=>cases r2;exact⟨_,rfl,r1⟩
theorem a90 (r:Vals [x,y] us):∃ u w',us=[u,w']/\RelV x u/\RelV y w':=by
 cases r with
 | cons r1 r2=>
  cases r2 with
  | cons r3 r4=>cases r4;exact⟨_,_,rfl,r1,r3⟩
theorem b0T (hc:X.calm=true):CallR X (.builtin "max") (λxs H Q=>∃ i j,xs=[.int i,.int j]/\Q (.int (if j > i then j else i)) H):=by
 intro a s σ H d e Q I r h;obtain⟨i,j,rfl,q⟩:=h;obtain⟨u,f,rfl,⟨t,rfl⟩,⟨b,rfl⟩⟩:=a90 r;refine max_two_ints (I.ok.hd hc) λg c k=>⟨_,H,I.kept k,?_,q⟩
 by_cases hj:j > i
 ·rw[if_pos hj,if_pos hj];exact⟨_,rfl⟩
 ·rw[if_neg hj,if_neg hj];exact⟨_,rfl⟩
theorem b0U (hc:X.calm=true):CallR X (.builtin "min") (λxs H Q=>∃ i j,xs=[.int i,.int j]/\Q (.int (if j<i then j else i)) H):=by
 intro a s σ H d f Q I r h;obtain⟨i,j,rfl,q⟩:=h;obtain⟨u,g,rfl,⟨t,rfl⟩,⟨c,rfl⟩⟩:=a90 r;refine min_two_ints (I.ok.hd hc) λb e k=>⟨_,H,I.kept k,?_,q⟩
 by_cases hj:j<i
 ·rw[if_pos hj,if_pos hj];exact⟨_,rfl⟩
 ·rw[if_neg hj,if_neg hj];exact⟨_,rfl⟩
def LenV (K:Fg) (x:V) (H:Hp) (n:Nat):Prop:=
 match x with
 | .str y=>y.length≤jZ/\n=y.length
 | .byt y=>y.size≤jZ/\n=y.size
 | .ref p=>(∃ xs,SqL K H p xs/\n=xs.length)\/∃ xs,SqT K H p xs/\n=xs.length
 | _=>False
theorem b2T:CallR X (.builtin "len") (λxs H Q=>∃ x n,xs=[x]/\LenV X.K x H n/\Q (.int n) H):=by
 intro j s σ H a v Q I r h;obtain⟨x,n,rfl,e,q⟩:=h;obtain⟨u,rfl,d⟩:=a2P r;have o:=ki;cases x with
 | str y=>
  obtain⟨t,rfl⟩:=d;obtain⟨k,b⟩:=e;subst b;exact len_str (by omega) ⟨.int _,H,I.tok _,⟨_,rfl⟩,q⟩
 | byt y=>
  obtain⟨t,rfl⟩:=d;obtain⟨k,b⟩:=e;subst b;exact PySem.W.len_bytes (by omega) ⟨.int _,H,I.tok _,⟨_,rfl⟩,q⟩
 | ref p=>
  cases d;have b:=e;rcases b with ⟨a,hx,b⟩ | ⟨a,hx,b⟩
  ·subst b;obtain⟨i,g,f,l⟩:=I.list hx;have c:=g.length;exact Calls.call_len_list f.isList (by grind) ⟨.int a.length,H,I.tok _,⟨_,by simp only[e8];rw[c]⟩,q⟩
  ·subst b;obtain⟨i,g,f,l⟩:=I.tuple hx;have c:=g.length;exact len_tuple f (by grind) ⟨.int a.length,H,I.tok _,⟨_,by simp only[e8];rw[c]⟩,q⟩
 | _=>exact (e).elim
end
end L2
namespace L2
open PySem PySem.Spec PyProof.Rows
structure ObjM (h:Heap) (x dx C:Addr) (mA:Str->Option Value):Prop where
 obj:h.get? x=some (PySem.W.instObj C dx)
 ns:h.Ns1 dx mA
 ne:dx≠x
theorem b0V {h:Heap}(n:h.Ns1 dx mA):∃ od,h.get? dx=some od/\∀ name,PySem.W.lookIn name od=some (mA name):=by
 obtain⟨o,d,m,l,j,f,_,g⟩:=n;refine⟨o,l,λc=>?_⟩;have e:=g c;unfold nsFind findBy at e;rw[<- Array.find?_toList]at e;unfold PySem.W.lookIn;rw[j];dsimp only
 split
 ·simp_all
 ·rename_i q
  rw[q]at e;have a:d.toList.any (·.refKey)=false:=by
   rw[je];intro y k;obtain⟨z,t,b⟩:=f y (jf.mp k);simp[mN.refKey,b]
  have i:¬ d.toList.any (·.refKey)=true:=by rw[a];exact eW
  rw[if_neg i];exact congrArg some e
theorem ObjM.look (I:ObjM h x dx C mA):∃ od,PySem.W.InstAt h x (PySem.W.instObj C dx) C (some od)/\∀ name,PySem.W.lookIn name od=some (mA name):=
 let ⟨od,ho,hl⟩:=b0V I.ns
 ⟨od,⟨I.obj,rfl,rfl,ho⟩,hl⟩
section
variable {prog:j7}{w:World}{A:Around}{E:Value->Shared->Prop}{s:Shared}{K:Fg}{x dx C f:Addr}{mA:Str->Option Value}{name:Str}{v:Value}
theorem b44 (X:K.In s.heap) (I:ObjM s.heap x dx C mA) (hg:PySem.W.plainGet K C name=true) (hh:PySem.W.hasDictIn K C=true)
  (ha:PySem.W.findIn K (.ref C) name=some none) (hv:mA name=some v) (hv':PySem.W.handedIn v=true) (h:Q v { s with toks:=s.toks+1 }) :
  wpAny (model prog w) A (getAttr (.ref x) name expr) Q E s:=by
 obtain⟨b,J,a⟩:=I.look;exact PySem.W.get_value X J (PySem.W.plainGet_of hg).1 (PySem.W.findObj_own hh ha rfl (by simp_all)) hv' h
theorem b2U (X:K.In s.heap) (I:ObjM s.heap x dx C mA) (hg:PySem.W.plainGet K C name=true)
  (hf:PySem.W.findIn K (.ref C) name=some (some (.ref f))) (ht:PySem.W.isFn K (.ref f)=true) (hv:mA name=none) (h:Q (.ref f,[.ref x]) s) :
  wpAny (model prog w) A (lR (.ref x) name pl) Q E s:=by
 obtain⟨b,J,a⟩:=I.look;exact PySem.W.method_fn X J (PySem.W.plainGet_of hg).1 (PySem.W.plainGet_of hg).2 hf (beq_iff_eq.mp ht) (by show (PySem.W.lookIn name b).map _=some false;rw[a,hv];rfl) h
theorem b45 (X:K.In s.heap) (I:ObjM s.heap x dx C mA)
  (hs:PySem.W.findIn K (.ref C) "__setattr__"=some (some (.builtin "object.__setattr__"))) (hp:PySem.W.plainOver K C=true) (ht:PySem.W.takerIn K C name=some none) (hh:PySem.W.hasDictIn K C=true)
  (hw:PySem.Within mA ns) (hsz:ns.length≤jZ)
  (h:∀ h',ObjM h' x dx C (λy=>if y=name then some v else mA y)->Heap.SameBut dx s.heap h'->Q () { s with heap:=h',toks:=s.toks+2 }) :
  wpAny (model prog w) A (setAttr (.ref x) name v) Q E s:=by
 obtain⟨p,J,n⟩:=I.look;refine PySem.W.set_plain X J hs (PySem.W.osa_open X J hp ht λb=>?_);obtain⟨o,j,i⟩:=PySem.W.any_some hh;have k:=I.obj;refine jX (jY (jX (jX (wpAny_loadPart k (jX (PySem.W.Looks.here (PySem.W.looks_clsIn X j) ?_))))));rw[i];refine jY (jX (jY (jX ?_)));refine wpAny_nsSet1 I.ns λt d c=>?_;obtain⟨q,l,m,f,g,e⟩:=d.count (PySem.Within.cons name v hw);refine jX (wpAny_lookBehind f (by rw[g];exact pastItsLine_dict (eD e (by grind))) ?_);exact jY (h _ ⟨(c.2 _ (Ne.symm I.ne)).trans I.obj,d,I.ne⟩ c)
theorem b2V (X:K.In s.heap) (hm:PySem.W.makesIn K C=true)
  (hi:PySem.W.findIn K (.ref C) "__init__"=some (some (.ref f))) (hf:PySem.W.typeIn K (.ref f)=some (.type "function"))
  (h:kC (model prog w) (A.under (.builtin "type.__call__" ⟨.ref C::vs,kw⟩)) (.call (.ref f) ⟨.ref (s.heap.objs.size+1)::vs,kw⟩) (PySem.W.InitBack (s.heap.objs.size+1) R)
   { s with heap:=(s.heap.push PySem.W.emptyDict).push (PySem.W.instObj C s.heap.objs.size) }) :
  kC (model prog w) A (.call (.ref C) ⟨vs,kw⟩) R s:=PySem.W.make_core (PySem.W.makes_of X hm) (PySem.W.looks_findIn X hi) (λa=>PySem.W.bind_fn X a hf) (.inl rfl) h
end
noncomputable def putF (f:Str) (v:V):List (Str×V)->List (Str×V)
 | []=>[(f,v)]
 | (g,x)::r=>if g=f then (g,v)::r else (g,x)::putF f v r
theorem a49 (f g:Str) (v:V):∀ fs:List (Str×V),(putF f v fs).lookup g=if g=f then some v else fs.lookup g
 | []=>by
  show h8 g [_]=_
  by_cases h:g=f
  ·simp_all
  ·simp_all
 | (k,x)::r=>by
  have b:=a49 f g v r;rw[show putF f v _=(if k=f then _::r else (k,x)::putF f v r) from rfl]
  by_cases hk:k=f
  ·rw[if_pos hk]
   by_cases h:g=k
   ·simp_all
   ·have a:=beq_eq_false_iff_ne.mpr h;simp only[h8,a,if_neg (λe:g=f=>h (e.trans hk.symm))]
  ·rw[if_neg hk]
   by_cases h:g=k
   ·simp_all
   ·have a:=beq_eq_false_iff_ne.mpr h;simp only[h8,a];exact b
theorem a5a (f:Str) (v:V):∀ fs:List (Str×V),f∈(putF f v fs).map (·.1)/\∀ g,g∈fs.map (·.1)->g∈(putF f v fs).map (·.1)
 | []=>⟨by simp[putF],λg h=>by simp at h⟩
 | (k,x)::r=>by
  obtain⟨a,b⟩:=a5a f v r;rw[show putF f v _=(if k=f then _::r else (k,x)::putF f v r) from rfl]
  by_cases hk:k=f
  ·grind
  ·rw[if_neg hk];refine⟨?_,λg h=>?_⟩
   ·rw[eE];exact fi _ a
   ·rw[eE]at h ⊢;rcases dY.mp h with e | e
    ·exact dY.mpr (.inl e)
    ·exact fi _ (b g e)
theorem a5b (f:Str) (v:V):∀ fs:List (Str×V),(putF f v fs).length≤fs.length+1
 | []=>by simp[putF]
 | (k,x)::r=>by
  have a:=a5b f v r;rw[show putF f v _=(if k=f then _::r else (k,x)::putF f v r) from rfl]
  by_cases hk:k=f
  ·grind
  ·grind
theorem RelO.some_of (r:RelO (some v) o):∃ u,o=some u/\RelV v u:=by
 cases o with
 | none=>exact (r).elim
 | some u=>exact⟨u,rfl,r⟩
theorem RelO.none_of (r:RelO none o):o=none:=by
 cases o with
 | none=>rfl
 | some u=>exact (r).elim
theorem b0W (r:RelV v u):PySem.W.handedIn u=true:=by
 cases v with
 | non=>cases (r);rfl
 | bl b=>cases (r);rfl
 | int i=>obtain⟨t,e⟩:=(r);cases e;rfl
 | str x=>obtain⟨t,e⟩:=(r);cases e;rfl
 | byt b=>obtain⟨t,e⟩:=(r);cases e;rfl
 | flt b=>obtain⟨t,e⟩:=(r);cases e;rfl
 | ref a=>cases (r);rfl
 | ty n=>cases (r);rfl
section
variable {P:j7}{w:World}{H H':Hp}{h h':Heap}{a C dx:Addr}{fs fs':List (Str×V)}
theorem a6w (hok:HOk P w H h) (e:H a=some (.ins C dx fs)):∃ mA,ObjM h a dx C mA/\(∀ f,RelO (fs.lookup f) (mA f))/\PySem.Within mA (fs.map (·.1))/\fs.length≤1000/\H dx=some (.own a):=by
 obtain⟨d,z,c,g,b,n,r,q⟩:=(hok a _ e);exact⟨b,⟨g,n,c⟩,r,q,z,d⟩
end
structure Cls (K:Fg) (C:Addr):Prop where
 pg:PySem.W.plainGet K C Str.empty=true
 hd:PySem.W.hasDictIn K C=true
 po:PySem.W.plainOver K C=true
 sa:PySem.W.findIn K (.ref C) "__setattr__"=some (some (.builtin "object.__setattr__"))
theorem Cls.get {K:Fg}(c:Cls K C) (f:Str):PySem.W.plainGet K C f=true:=c.pg
def NoAttr (K:Fg) (C:Addr) (f:Str):Prop:=PySem.W.findIn K (.ref C) f=some none
theorem NoAttr.taker {K:Fg}(n:NoAttr K C f):PySem.W.takerIn K C f=some none:=by
 unfold PySem.W.takerIn;rw[n]
 rfl
structure Meth (K:Fg) (C:Addr) (m:Str) (f:Addr):Prop where
 at_:PySem.W.findIn K (.ref C) m=some (some (.ref f))
 fn:PySem.W.isFn K (.ref f)=true
 kp:PySem.W.keepIn K (.ref f)=true
section
variable {X:Cx}{pins:List (Addr×Obj)}{σ:St}{H:Hp}{s:Shared}{a C dx:Addr}{fs:List (Str×V)}{f:Str}{v:V}{A:Around}{E:Value->Shared->Prop}
theorem a55 (I:Inv X pins σ H s) (e:H a=some (.ins C dx fs)) (c:Cls X.K C) (n:NoAttr X.K C f) (l:fs.lookup f=some v)
  (h:∀ u s',Inv X pins σ H s'->RelV v u->Q u s'):wpAny (model X.prog X.w) A (getAttr (.ref a) f b) Q E s:=by
 obtain⟨i,O,r,_,_,_⟩:=a6w I.hok e;obtain⟨u,g,d⟩:=RelO.some_of (by rw[<- l];exact r f);exact b44 I.kIn O (c.get f) c.hd n g (b0W d) (h u _ (I.tok _) d)
theorem a91 (I:Inv X pins σ H s) (e:H a=some (.ins C dx fs)) (c:Cls X.K C) (k:Meth X.K C m g) (l:fs.lookup m=none)
  (h:Q (.ref g,[.ref a]) s):wpAny (model X.prog X.w) A (lR (.ref a) m pl) Q E s:=by
 obtain⟨b,O,r,_,_,_⟩:=a6w I.hok e;have d:=RelO.none_of (by rw[<- l];exact r m);exact b2U I.kIn O (c.get m) k.at_ k.fn d h
theorem a56 (I:Inv X pins σ H s) (e:H a=some (.ins C dx fs)) (c:Cls X.K C) (n:NoAttr X.K C f) (hl:fs.length<1000) (ry:RelV y u)
  (h:∀ s',Inv X pins σ (upd H a (.ins C dx (putF f y fs))) s'->Q () s'):wpAny (model X.prog X.w) A (setAttr (.ref a) f u) Q E s:=by
 obtain⟨i,O,r,j,_,k⟩:=a6w I.hok e;have v:(fs.map (·.1)).length≤sizeLine:=by rw[dQ,ki];omega
 refine b45 I.kIn O c.sa c.po n.taker c.hd j v λm d l=>h _ ?_;have t:∃ o,m.get? dx=some o:=let ⟨o,_,_,e',_⟩:=d.ns;⟨o,e'⟩
 refine I.write (by rw[e];exact True.intro) (.inr k) (λb q p z=>(l.2 b p).trans z) t ?_;refine⟨by rw[a0r O.ne];exact k,?_,O.ne,d.obj,_,d.ns,λg=>?_,λg B=>?_⟩
 ·have:=a5b f y fs;omega
 ·show RelO _ _
  rw[a49]
  by_cases q:g=f
  ·rw[if_pos q,if_pos q];exact ry
  ·simp_all
 ·by_cases q:g=f
  ·rw[q];exact (a5a f y fs).1
  ·refine (a5a f y fs).2 g (j g λz=>B ?_)
   show (if g=f then some u else i g)=none
   rw[if_neg q];exact z
theorem Inv.made (I:Inv X pins σ H s):Inv X pins σ (upd (upd H s.heap.objs.size (.own (s.heap.objs.size+1))) (s.heap.objs.size+1) (.ins C s.heap.objs.size []))
  { s with heap:=(s.heap.push PySem.W.emptyDict).push (PySem.W.instObj C s.heap.objs.size) }:=by
 have c:(s.heap.push PySem.W.emptyDict).get? s.heap.objs.size=some PySem.W.emptyDict:=Heap.get?_push_size s.heap rfl;have i:((s.heap.push PySem.W.emptyDict).push (PySem.W.instObj C s.heap.objs.size)).get? (s.heap.objs.size+1)=some (PySem.W.instObj C s.heap.objs.size):=by
  have:=Heap.get?_push_size (s.heap.push PySem.W.emptyDict) (o:=PySem.W.instObj C s.heap.objs.size) rfl
  rwa [Heap.size_push]at this
 have g:(s.heap.push PySem.W.emptyDict).Ns s.heap.objs.size _:=⟨PySem.W.emptyDict,#[],_,c,rfl,(λe h=>absurd h (by simp)),λ_=>rfl⟩;have j:=I.laid (o:=.own (s.heap.objs.size+1)) (t':=s.toks) (λb u q=>Heap.get?_push_of_some _ q) (dS _) ⟨_,c⟩;refine j.laid (t':=s.toks) (λb u q=>Heap.get?_push_of_some _ q) (fL (Heap.size_push _ _)) ?_;have d:s.heap.objs.size≠s.heap.objs.size+1:=eu (h9 _);refine⟨by rw[a0r d,a0y],eP _,d,i,λ_=>none,(Heap.Ns1.of_empty g).at λo q=>Heap.get?_push_of_some _ q,λ_=>True.intro,λy f=>absurd rfl f⟩
theorem b46 (hb:lp e f env (eval e env)=eval e env)
  (h:wpAny (model prog w) A (eval e env) (λo s₁=>wpAny (model prog w) A (getAttr o f true) Q E s₁) E s):wpAny (model prog w) A (eval (.Attribute e f pos) env) Q E s:=
 Attribute_any_ h (by rw[arm_eval_Attribute,hb])
end
def tFld (K:Fg) (ta:TE) (f:Str):TE:=fun σ H Q=>ta σ H λx H1=>∃ a C dx fs v,x=.ref a/\H1 a=some (.ins C dx fs)/\Cls K C/\NoAttr K C f/\fs.lookup f=some v/\Q v H1
def sFld (K:Fg) (ta tv:TE) (f:Str):TS:=λD σ H=>tv σ H λy H1=>ta σ H1 λx H2=>∃ a C dx fs,x=.ref a/\H2 a=some (.ins C dx fs)/\Cls K C/\NoAttr K C f/\fs.length<1000 /\
 D.nx σ (upd H2 a (.ins C dx (putF f y fs)))
def InOp (X:Cx) (op:Operator) (rd:V->V->Hp->VK->Prop):Prop:=
 ∀ (pins:List (Addr×Obj)) (s:Shared) (σ:St) (H:Hp) (x y:V) (u v:Value) (Q:VK),Inv X pins σ H s->RelV x u->RelV y v->rd x y H Q->wpAny (model X.prog X.w) X.A (lh op u v) (EP X pins σ Q) X.xe s
def b47 (K:Fg) (ta tv:TE) (rd:V->V->Hp->VK->Prop) (f:Str):TS:=λD σ H=>ta σ H λx H1=>∃ a C dx fs v,x=.ref a/\H1 a=some (.ins C dx fs)/\Cls K C/\NoAttr K C f/\fs.lookup f=some v /\
 tv σ H1 λy H2=>rd v y H2 λz H3=>∃ dx' fs',H3 a=some (.ins C dx' fs')/\fs'.length<1000/\D.nx σ (upd H3 a (.ins C dx' (putF f z fs')))
section
variable {X:Cx}{o e value:Expr}{f:Str}{pos pos' tpos:Pos}{ta tv:TE}
theorem b6V (he:PE X e ta) (hb:lp e f X.env (eval e X.env)=eval e X.env):PE X (.Attribute e f pos) (tFld X.K ta f):=by
 intro b s σ H Q I h;refine b46 hb (thn (he b s σ H _ I h) λu p ⟨x,d,i,j,a,C,r,w,v,g,m,c,n,l,q⟩=>?_);subst g;obtain rfl:u=Value.ref a:=j;exact a55 i m c n l λy t o k=>⟨v,d,o,k,q⟩
theorem b6W (ha:PE X o ta) (hv:PE X value tv) (hs:kM value (some (.Attribute o f pos')) pos.line X.env=pure false):PS X (.Assign [.Attribute o f pos'] value pos) (sFld X.K ta tv f):=by
 intro b s σ H D I h;refine plainObj_wpAny_Assign_Attribute (thn (hv b s σ H _ I h) λu g ⟨y,d,k,v,q⟩=>thn (ha b g σ d _ k q) λj A ⟨x,B,r,p,a,C,z,E,i,t,c,n,l,m⟩=>?_) hs;subst i;obtain rfl:j=Value.ref a:=p;exact a56 r t c n l v λw e=>⟨σ,_,e,m⟩
theorem b0X (ha:PE X o ta) (hv:PE X value tv) (hop:InOp X op rd):PS X (.AugAssign (.Attribute o f tpos) op value pos) (b47 X.K ta tv rd f):=by
 intro b s σ H D I h;refine wpAny_AugAssign_AttributeAny (thn (ha b s σ H _ I h) λj T ⟨x,e,k,M,a,C,dx,fs,v,B,p,c,n,l,q⟩=>?_);subst B;obtain rfl:j=Value.ref a:=M;refine a55 k p c n l λu J r m=>thn (hv b J σ e _ r q) λi E ⟨y,t,g,w,L⟩=>thn (hop b E σ t v y u i _ g m w L) λU Y ⟨z,H3,N,A,R,S,d,Q,F⟩=>?_;exact a56 N d c n Q A λW G=>⟨σ,_,G,F⟩
end
section
variable {X:Cx}{pins:List (Addr×Obj)}{σ:St}{H:Hp}{s:Shared}{A:Around}{E:Value->Shared->Prop}{Q:Value->Shared->Prop}{c:Value}{b:Bool}
inductive TyOf (K:Fg) (H:Hp):V->Value->Prop where
 | non:TyOf K H .non (.type "NoneType")
 | bl (x:Bool):TyOf K H (.bl x) (.type "bool")
 | int (i:Int):TyOf K H (.int i) (.type "int")
 | str (x:Str):TyOf K H (.str x) (.type "str")
 | flt (x:UInt64):TyOf K H (.flt x) (.type "float")
 | lst {a:Addr} {xs:List V} (e:H a=some (.lst xs)):TyOf K H (.ref a) (.type "list")
 | frz {a:Addr} {o:Obj} {xs:List V} (e:H a=some (.frz o (.lst xs))):TyOf K H (.ref a) (.type "list")
 | tup {a:Addr} {xs:List V} (e:H a=some (.tup xs)):TyOf K H (.ref a) (.type "tuple")
 | dK {a:Addr} {kvs:List (Key×V)} (e:H a=some (.dK kvs)):TyOf K H (.ref a) (.type "dict")
 | dT {a:Addr} {kvs:List (List Key×V)} (e:H a=some (.dT kvs)):TyOf K H (.ref a) (.type "dict")
 | ins {a C dx:Addr} {fs:List (Str×V)} (e:H a=some (.ins C dx fs)) (cl:Cls K C) (ha:PySem.W.findIn K (.ref C) "__class__"=some (some (.builtin "object.__class__")))
   (hn:PySem.W.specialIn K (.builtin "object.__class__") "__get__"=some (some (.builtin "getset_descriptor.__get__"))) (htk:PySem.W.takesIn K (.builtin "object.__class__")=some true)
   (hm:PySem.W.mroIn K C (.type "object")=some true):TyOf K H (.ref a) (.ref C)
theorem b0Y (I:Inv X pins σ H s) (rx:RelV x u) (ty:TyOf X.K H x t) (e:PySem.W.kitOne X.K t c=some b) (h:∀ tk,Q (.bool b) { s with toks:=tk }) :
  wpAny (model X.prog X.w) A (call (.builtin "isinstance") [u,c]) Q E s:=by
 cases ty with
 | non=>cases (rx);exact PySem.W.kia_one PySem.W.kitx_none I.kIn True.intro e (λz=>nomatch z) h
 | bl y=>cases (rx);exact PySem.W.kia_one PySem.W.kitx_bool I.kIn True.intro e (λz=>nomatch z) h
 | int i=>obtain⟨t,q⟩:=(rx);cases q;exact PySem.W.kia_one PySem.W.kitx_int I.kIn True.intro e (λz=>nomatch z) h
 | str y=>obtain⟨t,q⟩:=(rx);cases q;exact PySem.W.kia_one PySem.W.kitx_str I.kIn True.intro e (λz=>nomatch z) h
 | flt y=>obtain⟨t,q⟩:=(rx);cases q;exact PySem.W.kia_one PySem.W.kitx_float I.kIn True.intro e (λz=>nomatch z) h
 | @lst a f ea=>
  cases (rx);obtain⟨_,_,n,_,d⟩:=(I.hok a _ ea);exact PySem.W.kia_one PySem.W.kitx_list I.kIn ⟨_,d,rfl⟩ e (λz=>nomatch z) h
 | @frz a ob f ea=>
  cases (rx);obtain⟨_,_,_,n,_,d⟩:=(I.hok a _ ea);exact PySem.W.kia_one PySem.W.kitx_list I.kIn ⟨_,d,rfl⟩ e (λz=>nomatch z) h
 | @tup a f ea=>
  cases (rx);obtain⟨_,_,_,p⟩:=(I.hok a _ ea);obtain⟨o,d,g,_⟩:=p;exact PySem.W.kia_one PySem.W.kitx_tuple I.kIn ⟨o,d,g⟩ e (λz=>nomatch z) h
 | @dK a kvs ea=>
  cases (rx);obtain⟨_,_,l,_,p⟩:=(I.hok a _ ea);obtain⟨o,j,k,d,g,_⟩:=p;exact PySem.W.kia_one PySem.W.kitx_dict I.kIn ⟨o,d,g.1⟩ e (λz=>nomatch z) h
 | @dT a kvs ea=>
  cases (rx);obtain⟨_,_,f,_,o,j,k,d,g,_⟩:=(I.hok a _ ea);exact PySem.W.kia_one PySem.W.kitx_dict I.kIn ⟨o,d,g.1⟩ e (λz=>nomatch z) h
 | @ins a C dx fs ea cl ha hn htk hm=>
  cases (rx);obtain⟨r,O,_⟩:=a6w I.hok ea;obtain⟨m,J,_⟩:=O.look;exact PySem.W.kia_one (PySem.W.kitx_own (cl.get _) cl.hd ha hn htk hm) I.kIn J e (λz=>nomatch z) h
end
end L2
namespace L2
open PySem PySem.Spec PyProof.Rows
structure Room (k:Nat) (A:Around):Prop where
 hd:A.handled=none
 dp:A.depth+3*k+5<recursionLimit
 un:A.units+16*k+200<cLine
theorem Room.mono (r:Room k A) (h:j≤k):Room j A:=⟨r.hd,by have:=r.dp;omega,by have:=r.un;omega⟩
theorem Room.deeper (r:Room (k+1) A) (env:Env):Room k (A.deeper env):=
 ⟨r.hd,by have:=r.dp;show A.depth+1+3*k+5<_;omega,by have:=r.un;show A.units+3+16*k+200<_;omega⟩
theorem Room.in1 (r:Room (k+1) A):Room k A.in1:=
 ⟨r.hd,by have:=r.dp;show A.depth+3*k+5<_;omega,by have:=r.un;show A.units+1+16*k+200<_;omega⟩
theorem a92 {A:Around}:(A.under (.builtin "type.__call__" ⟨.ref C::us,kw⟩)).depth=A.depth+1:=rfl
theorem a93 {A:Around}:(A.under (.builtin "type.__call__" ⟨.ref C::us,kw⟩)).units=A.units+1:=rfl
theorem Room.make (r:Room (k+1) A) (C:Addr) (us:List Value) (kw:List (Str×Value)):Room k (A.under (.builtin "type.__call__" ⟨.ref C::us,kw⟩)):=
 ⟨r.hd,by have:=r.dp;rw[a92];omega,by have:=r.un;rw[a93];omega⟩
theorem Room.depth (r:Room k A):A.depth<recursionLimit:=by have:=r.dp;omega
theorem Room.units (r:Room k A):A.units+64<cLine:=by have:=r.un;omega
def tNil:TA:=λ_ H Q=>Q [] H
def b9z (ta:TE) (tr:TA):TA:=fun σ H Q=>ta σ H λx H1=>tr σ H1 λxs H2=>Q (x::xs) H2
section
variable {X:Cx}{e:Expr}{es:List Expr}{te:TE}{t:TA}{pos:Pos}
theorem b4l:PA X [] tNil:=λ_ _ _ _ H Q I h=>Calls.spliced_nil ⟨[],H,I,.nil,h⟩
theorem b0Z (ha:PE X e te) (hr:PA X es t) (hs:j0 (e::es) X.env=(false,eval e X.env)::j0 es X.env:=by rfl):PA X (e::es) (b9z te t):=by
 intro b a s σ H Q I h;rw[hs];refine Calls.spliced_cons (thn (ha a s σ H _ I h) λu j ⟨x,d,k,c,g⟩=>?_);exact thn (hr b a j σ d _ k g) λp o ⟨i,f,l,m,n⟩=>⟨x::i,f,l,.cons c m,n⟩
def tTup (t:TA):TE:=fun σ H Q=>t σ H λxs H1=>xs.length≤jZ/\∀ p,H1 p=none->Q (.ref p) (upd H1 p (.tup xs))
def tLst (t:TA):TE:=fun σ H Q=>t σ H λxs H1=>xs.length≤jZ/\∀ p,H1 p=none->Q (.ref p) (upd H1 p (.lst xs))
theorem b6X (h:PA X es t):PE X (.Tuple es x1 pos) (tTup t):=by
 intro c s σ H Q I i;refine wpAny_Tuple_spliced (thn (h pos c s σ H _ I i) λk a ⟨g,d,f,r,z,q⟩=>⟨by rw[<- r.length];exact z,?_⟩);have j:=f.hok.fresh (dS _);refine⟨.ref a.heap.objs.size,upd d a.heap.objs.size _,f.laid (λb u e=>Heap.get?_push_of_some _ e) (dS _) ?_,rfl,q _ j⟩;exact⟨z,k,r,⟨_,Heap.get?_push_size _ rfl,rfl,_,rfl⟩⟩
theorem b6Y (h:PA X es t):PE X (.List es pos) (tLst t):=by
 intro c s σ H Q I j;refine wpAny_List_spliced (thn (h pos c s σ H _ I j) λi a ⟨k,d,f,r,z,q⟩=>⟨by rw[<- r.length];exact z,?_⟩);have g:=f.hok.fresh (dS _);refine⟨.ref a.heap.objs.size,upd d a.heap.objs.size _,f.laid (λb u e=>Heap.get?_push_of_some _ e) (dS _) ?_,rfl,q _ g⟩;exact⟨z,i,0,r,Heap.get?_push_size _ rfl⟩
end
abbrev Sp:=List V->Hp->VK->XK->Prop
abbrev CXT:=List Env->Hp->Shared->XK->Value->Shared->Prop
structure Env0 (P:j7) (w:World) (K:Fg) (mg:Str->Option Value) (base:Heap) (A:Around) (outer:List Env) (s:Shared) (H:Hp):Prop where
 frames:A.frames=some outer
 mod:Mod K mg base
 bs:∀ b o,base.get? b=some o->s.heap.get? b=some o/\H b=none
 bsz:base.objs.size≤s.heap.objs.size
 funs:s.heap.FunFrames base outer
 frf:∀ b∈frs outer,H b=none
 hok:HOk P w H s.heap
 bare:kI s.gens
def CE (outer:List Env) (P:j7) (w:World) (H:Hp) (s:Shared) (Q:VK) (u:Value) (s':Shared):Prop:=
 ∃ v H',s'.os=s.os/\kI s'.gens/\Un (frs outer) [] H H' s.heap s'.heap/\HOk P w H' s'.heap/\RelV v u/\Q v H'
def CR (CX:CXT) (outer:List Env) (P:j7) (w:World) (H:Hp) (s:Shared) (Q:VK) (E:XK) (r:Result) (s':Shared):Prop:=
 match r with
 | .ok (.ret u)=>CE outer P w H s Q u s'
 | .ok _=>False
 | .error e=>CX outer H s E e s'
structure FnOk (P:j7) (w:World) (K:Fg) (mg:Str->Option Value) (base:Heap) (CX:CXT) (k:Nat) (f:Addr) (fd:j9) (ps:List Str) (sp:Sp):Prop where
 len:∀ vs H Q E,sp vs H Q E->vs.length=ps.length
 run:∀ (A:Around) (outer:List Env) (s:Shared) (H:Hp) (args:Args) (us:List Value) (vs:List V) (Q:VK) (E:XK),Room k A->Env0 P w K mg base A outer s H->lF s fd args (ps.zip us)->Vals vs us->sp vs H Q E ->
  kC (model P w) A (.call (.ref f) args) (CR CX outer P w H s Q E) s
theorem FnOk.mono {K:Fg}(F:FnOk P w K mg base CX j f fd ps sp) (h:j≤k) :
  FnOk P w K mg base CX k f fd ps sp:=⟨F.len,λA a s H b c e Q E d=>F.run A a s H b c e Q E (d.mono h)⟩
theorem FnOk.imp {K:Fg}(F:FnOk P w K mg base CX k f fd ps sp)
  (h:∀ vs H Q E,sp' vs H Q E->sp vs H Q E):FnOk P w K mg base CX k f fd ps sp':=
 ⟨λb H Q E q=>F.len b H Q E (h _ _ _ _ q),λA a s H c d b Q E j i g l e=>F.run A a s H c d b Q E j i g l (h _ _ _ _ e)⟩
theorem Env0.make {K:Fg}(e:Env0 P w K mg base A outer s H) (C:Addr) (us:List Value) (kw:List (Str×Value)) :
  Env0 P w K mg base (A.under (.builtin "type.__call__" ⟨.ref C::us,kw⟩)) outer s H:=⟨by first | exact e.frames | (simpa using e.frames),e.mod,e.bs,e.bsz,e.funs,e.frf,e.hok,e.bare⟩
theorem Env0.in1 {K:Fg}(e:Env0 P w K mg base A outer s H) :
  Env0 P w K mg base A.in1 outer s H:=⟨e.frames,e.mod,e.bs,e.bsz,e.funs,e.frf,e.hok,e.bare⟩
section
variable {X:Cx}{pins:List (Addr×Obj)}{σ:St}{H:Hp}{s s':Shared}
theorem Inv.env0 (I:Inv X pins σ H s):Env0 X.prog X.w X.K X.mg X.base X.A X.stack s H:=
 ⟨I.ok.frames,I.ok.mod,I.bs,eD I.ok.bsz I.sz,I.stack,I.stkFree,I.hok,I.bare⟩
theorem Inv.after (I:Inv X pins σ H s) (h:CE X.stack X.prog X.w H s Q u s'):EP X pins σ Q u s':=by
 obtain⟨v,H',j,a,f,c,r,q⟩:=h;obtain⟨i,g,d,t,e⟩:=s';obtain rfl:e=s.os:=j;exact⟨v,H',I.call f c a (λb z=>absurd z (by simp)),r,q⟩
end
def b6Z (sp:Sp) (dvs:List V) (E:XK) (t:TA):TE:=fun σ H Q=>t σ H λvs H1=>sp (vs++dvs) H1 Q E
def b60 (C:Addr) (m:Str) (sp:Sp) (dvs:List V) (E:XK) (ta:TE) (t:TA):TE:=fun σ H Q=>ta σ H λx H1=>∃ a dx fs,x=.ref a/\H1 a=some (.ins C dx fs)/\fs.lookup m=none /\
 t σ H1 λvs H2=>sp (x::(vs++dvs)) H2 Q E
def b9A (C:Addr) (sp:Sp) (dvs:List V) (E:XK) (t:TA):TE:=fun σ H Q=>t σ H λvs H1=>∀ x dx,H1 x=none->H1 dx=none->dx≠x ->
 sp (.ref x::(vs++dvs)) (upd (upd H1 dx (.own x)) x (.ins C dx [])) (λv H2=>v=.non/\Q (.ref x) H2) E
def Binds (K:Fg) (fd:j9) (ps:List Str) (ds:List Value):Prop:=
 ∀ (s:Shared) (us:List Value),K.In s.heap->(us++ds).length=ps.length->lF s fd ⟨us,[]⟩ (ps.zip (us++ds))
theorem Binds.all {K:Fg}(h:∀ us:List Value,us.length=ps.length->bindArgs fd ⟨us,[]⟩=pure (ps.zip us)):Binds K fd ps []:=λs b _ a=>by
 rw[eL]at a ⊢;exact .of_eq (h b a)
def a2I (CX:CXT) (X:Cx) (E:XK):Prop:=∀ (pins:List (Addr×Obj)) (σ:St) (H:Hp) (s:Shared) (e:Value) (s':Shared),Inv X pins σ H s->CX X.stack H s E e s'->X.xe e s'
section
variable {X:Cx}{CX:CXT}{k:Nat}{f C:Addr}{fd:j9}{ps:List Str}{sp:Sp}{dvs:List V}{ds:List Value}{E:XK}{x m:Str}{p pos apos:Pos}{e o:Expr}{es:List Expr}{ta:TE}{t:TA}
theorem b4m (F:FnOk X.prog X.w X.K X.mg X.base CX k f fd ps sp) (hr:Room k X.A) (hb:Binds X.K fd ps ds) (hd:Vals dvs ds) (hx:a2I CX X E)
  (I:Inv X pins σ H s) (r:Vals vs us) (h:sp (vs++dvs) H Q E):wpAny (model X.prog X.w) X.A (call (.ref f) us) (EP X pins σ Q) X.xe s:=by
 have b:=r.append hd;have d:(us++ds).length=ps.length:=by rw[<- b.length];exact F.len _ _ _ _ h
 refine lG (lb (F.run X.A X.stack s H ⟨us,[]⟩ (us++ds) _ Q E hr I.env0 (hb s us I.kIn d) b h) λr c a=>?_);cases r with
 | error e=>exact hx pins σ H s e c I a
 | ok fl=>
  cases fl with
  | ret u=>exact I.after a
  | next=>exact ei a
  | brk=>exact ei a
  | cont=>exact ei a
theorem b00 (F:FnOk X.prog X.w X.K X.mg X.base CX k f fd ps sp) (hr:Room k X.A) (hg:Gl X x) (hm:X.mg x=some (.ref f)) (hk:PySem.W.keepIn X.K (.ref f)=true) (hb:Binds X.K fd ps ds) (hd:Vals dvs ds) (hx:a2I CX X E)
  (ha:PA X (e::es) t) (hdb:(x==("__debug__":Str))=false:=by decide) (he:j0 (e::es) X.env=(false,eval e X.env)::j0 es X.env:=by rfl) (hpl:(backTo pos (j0 es X.env)).any (·.1)=false:=by rfl) :
  PE X (.Call (.Name x p) (e::es) [] pos) (b6Z sp dvs E t):=by
 intro a s σ H Q I h;refine lS (a4a I hg hm ?_ hdb);refine PySem.W.callWith_K I.ok.mod.kin hk (thn (ha pos a s σ H _ I h) λi d ⟨c,g,b,r,q⟩=>⟨b.kIn,?_⟩) he hpl;exact b4m F hr hb hd hx b r q
theorem b01 (he:PE X o ta) (c:Cls X.K C) (hm:Meth X.K C m f) (F:FnOk X.prog X.w X.K X.mg X.base CX k f fd ps sp) (hr:Room k X.A) (hb:Binds X.K fd ps ds) (hd:Vals dvs ds) (hx:a2I CX X E) (ha:PA X (e::es) t)
  (hst:j0 (e::es) X.env=(false,eval e X.env)::j0 es X.env:=by rfl) (hpl:(backTo pos (j0 es X.env)).any (·.1)=false:=by rfl)
  (ht:eval (.Call (.Attribute o m apos) (e::es) [] pos) X.env=(do
   let ov <- eval o X.env
   kQ apos.atName
   let (f,first) <- kB [ov] (lR ov m pl)
   mO pos f first (backTo pos (j0 (e::es) X.env)) (lV pos (lW [] X.env))):=by rfl) :
  PE X (.Call (.Attribute o m apos) (e::es) [] pos) (b60 C m sp dvs E ta t):=by
 intro b s σ H Q I h;refine PySem.W.methodCall_KW (thn (he b s σ H _ I h) λu z ⟨x,p,i,n,a,dx,fs,v,y,l,q⟩=>?_) ht;subst v;obtain rfl:u=Value.ref a:=n;refine a91 i y c hm l ?_;refine PySem.W.callWith_K I.ok.mod.kin hm.kp (thn (ha pos b z σ p _ i q) λus s2 ⟨vs,H2,g,r,B⟩=>⟨g.kIn,?_⟩) hst hpl;exact b4m (vs:=.ref a::vs) F hr hb hd hx g (.cons rfl r) B
structure Mk (K:Fg) (C f:Addr):Prop where
 makes:PySem.W.makesIn K C=true
 init:PySem.W.findIn K (.ref C) "__init__"=some (some (.ref f))
 fn:PySem.W.isFn K (.ref f)=true
 kp:PySem.W.keepIn K (.ref C)=true
theorem b2W (M:Mk X.K C f) (F:FnOk X.prog X.w X.K X.mg X.base CX k f fd ps sp) (hr:Room (k+1) X.A) (hb:Binds X.K fd ps ds) (hd:Vals dvs ds)
  (hx:a2I CX X E) (I:Inv X pins σ H s) (r:Vals vs us)
  (h:∀ x dx,H x=none->H dx=none->dx≠x->sp (.ref x::(vs++dvs)) (upd (upd H dx (.own x)) x (.ins C dx [])) (λv H2=>v=.non/\Q (.ref x) H2) E) :
  wpAny (model X.prog X.w) X.A (call (.ref C) us) (EP X pins σ Q) X.xe s:=by
 have d:=h _ s.heap.objs.size (I.hok.fresh (fP _)) (I.hok.fresh (dS _)) (eu (h9 _));have b:=Inv.made (C:=C) I;have c:Vals (V.ref (s.heap.objs.size+1)::_) _:=.cons rfl (r.append hd);have g:(Value.ref (s.heap.objs.size+1)::us++ds).length=ps.length:=by
  have e:=c.length;rw[F.len _ _ _ _ d]at e;exact e.symm
 refine lG (b2V I.kIn M.makes M.init (beq_iff_eq.mp M.fn) (lb (F.run _ X.stack _ _ ⟨Value.ref (s.heap.objs.size+1)::us,[]⟩ _ _ _ E (hr.make C us [])
  (b.env0.make C us []) (hb _ _ b.kIn g) c d) λr m a=>?_))
 cases r with
 | error e=>exact hx pins σ _ _ e m b a
 | ok fl=>
  cases fl with
  | ret u=>
   obtain⟨v,H',I3,j,l,i⟩:=b.after a;subst l;exact⟨j,⟨V.ref (s.heap.objs.size+1),H',I3,rfl,i⟩⟩
  | next=>exact ei a
  | brk=>exact ei a
  | cont=>exact ei a
theorem b2X (M:Mk X.K C f) (F:FnOk X.prog X.w X.K X.mg X.base CX k f fd ps sp) (hr:Room (k+1) X.A) (hg:Gl X x) (hm:X.mg x=some (.ref C)) (hb:Binds X.K fd ps ds) (hd:Vals dvs ds) (hx:a2I CX X E)
  (hdb:(x==("__debug__":Str))=false:=by decide):PE X (.Call (.Name x p) [] [] pos) (b9A C sp dvs E tNil):=by
 intro a s σ H Q I h;refine lS (a4a I hg hm ?_ hdb);exact PySem.W.callWith_K0 I.kIn M.kp (b2W M F hr hb hd hx I .nil h)
end
section
variable {X:Cx}{CX:CXT}{k:Nat}{f C:Addr}{fd:j9}{ps ks:List Str}{sp:Sp}{E:XK}{x m:Str}{p pos apos kpos:Pos}{e o:Expr}{es:List Expr}{kws:List lX}{te ta:TE}{t tk:TA}{nm:Option Str}
variable {g:List Value->List Value->List Value}{gV:List V->List V->List V}
end
structure FnScope (N P:List Str) (sc:Scope):Prop where
 kind:sc.kind=.function
 co:sc.isCoroutine=false
 gen:sc.isGenerator=false
 nd:N.Nodup
 pre:N.take P.length=P
 par:∀ x∈P,sc.names.lookup x=some .local\/sc.names.lookup x=some .cell
 nofree:∀ y∈sc.names,y.2≠.free
theorem a7c {kindOf:Str->Option kc}:∀ {binds:List (Str×Value)}{m:Str->Option Value},(∀ v,(x,v)∉binds)->bindL kindOf binds m x=m x
 | [],_,_=>rfl
 | (n,v)::r,m,h=>by
  unfold bindL;rw[a7c λw a=>h w (fi _ a)]
  split
  ·have:x≠n:=by rintro rfl;exact h v ft
   simp[this]
  ·rfl
theorem a7d {kindOf:Str->Option kc}:∀ {binds:List (Str×Value)}{m:Str->Option Value},(∀ v,(x,v)∉binds)->bindC kindOf binds m x=m x
 | [],_,_=>rfl
 | (n,v)::r,m,h=>by
  unfold bindC;rw[a7d λw a=>h w (fi _ a)]
  split
  ·rfl
  ·have:x≠n:=by rintro rfl;exact h v ft
   simp[this]
theorem a7e {kindOf:Str->Option kc}:∀ {P:List Str}{vs:List Value}{i:Nat}{m:Str->Option Value},P.Nodup->P[i]?=some x->vs[i]?=some v->kindOf x=some .local ->
  bindL kindOf (P.zip vs) m x=some v
 | [],_,_,_,_,h,_,_=>by simp at h
 | _::_,[],_,_,_,_,h,_=>by simp at h
 | p::P,w::vs,0,m,nd,h1,h2,hk=>by
  simp at h1 h2;subst h1;subst h2
  show bindL kindOf (_::P.zip vs) m p=_
  unfold bindL;rw[a7c λv a=>(e9.mp nd).1 (iB a).1,if_pos hk];simp
 | p::P,w::vs,i+1,m,nd,h1,h2,hk=>by
  unfold bindL;exact a7e (e9.mp nd).2 (by simpa using h1) (by simp_all) hk
theorem a7f {kindOf:Str->Option kc}:∀ {P:List Str}{vs:List Value}{i:Nat}{m:Str->Option Value},P.Nodup->P[i]?=some x->vs[i]?=some v->kindOf x≠some .local ->
  bindC kindOf (P.zip vs) m x=some v
 | [],_,_,_,_,h,_,_=>by simp at h
 | _::_,[],_,_,_,_,h,_=>by simp at h
 | p::P,w::vs,0,m,nd,h1,h2,hk=>by
  simp at h1 h2;subst h1;subst h2
  show bindC kindOf (_::P.zip vs) m p=_
  unfold bindC;rw[a7d λv a=>(e9.mp nd).1 (iB a).1,if_neg hk];simp
 | p::P,w::vs,i+1,m,nd,h1,h2,hk=>by
  unfold bindC;exact a7f (e9.mp nd).2 (by simpa using h1) (by simp_all) hk
noncomputable def start (N:List Str) (vs:List V):St:=vs.map some++ib (N.length - vs.length) none
noncomputable def cxOf (CX:CXT) (P:j7) (w:World) (K:Fg) (mg:Str->Option Value) (base:Heap) (N:List Str) (qual:Str) (scope:Scope) (f:Addr) (cd:Value) (A:Around) (outer:List Env) (s:Shared) (H:Hp) (E:XK):Cx where
 prog:=P
 w:=w
 K:=K
 mg:=mg
 base:=base
 A:=A.deeper (envOfC qual scope s.heap.objs.size f cd)
 N:=N
 s₀:=s
 H₀:=H
 env:=envOfC qual scope s.heap.objs.size f cd
 outer:=outer
 stack:=envOfC qual scope s.heap.objs.size f cd::outer
 ex:=[]
 calm:=true
 fn:=λ_=>true
 pn:=[]
 xe:=λe s'=>wpAny (model P w) (A.deeper (envOfC qual scope s.heap.objs.size f cd)) (mf (envOfC qual scope s.heap.objs.size f cd) e) (λ_ s''=>CX outer H s E e s'') (λe' s''=>CX outer H s E e' s'') s'
theorem a40 {sc:Scope}(h:sc.names.lookup x=some .cell):∃ c,(kf n sc.names []).lookup x=some c:=by
 have q:=PySem.W.cellsFrom_some sc.names n [] (.inl h);exact ic.mp q
theorem b02 {K:Fg}
  (S:FnScope N ps scope) (hd:A.handled=none) (e0:Env0 P w K mg base A outer s H) (hl:vs.length=ps.length) (r:Vals vs us)
  (x:InCallC s s.heap.objs.size (bindL (envOfC qual scope s.heap.objs.size f cd).kindOf (ps.zip us) λ_=>none) (kf (s.heap.objs.size+1) scope.names []) (bindC (envOfC qual scope s.heap.objs.size f cd).kindOf (ps.zip us) λ_=>none) s1) :
  Inv (cxOf CX P w K mg base N qual scope f cd A outer s H E) [] (start N vs) H s1:=by
 have G:ps.length≤N.length:=by have:=congrArg eQ S.pre;rw[eG]at this;omega
 obtain⟨m,J,rfl,C⟩:=x.done;have l:∀ b:Addr,b∉(cxOf CX P w K mg base N qual scope f cd A outer s H E).ex:=λb z=>absurd (show b∈([]) from z) (by simp);refine⟨⟨e0.mod,S.kind,rfl,rfl,dS _,λy z c m d=>?_,λy g=>?_,λy c _ h=>?_,λ_=>hd,Around.frames_deeper e0.frames,.inr ⟨rfl,rfl⟩,λb z=>absurd z (l b),e0.bs,e0.bsz,λb _ _=>l b,λb z=>absurd z (l b),e0.funs,e0.frf⟩,
  rfl,e0.bare,Un.kept C,⟨_,x.toInCall.ns,λi y v m d I=>?_⟩,λy c h=>⟨_,x.cell y c h⟩,e0.hok.fresh (dS _),λy c h=>?_,λp j=>absurd (show p∈([]) from j) (by simp),e0.hok.kept C,?_⟩
 ·exact name_of_addr x.apart (PySem.mem_of_lookup m) (PySem.mem_of_lookup d)
 ·have g:=g;rcases g with g | g
  ·exact a40 g
  ·exact absurd rfl (S.nofree _ (PySem.mem_of_lookup g))
 ·exact fh (x.above y c (PySem.mem_of_lookup h))
 ·have o:i<vs.length:=by
   unfold start at d
   by_cases o:i<vs.length
   ·exact o
   ·rw[fQ (by simp_all)]at d;rw[List.getElem?_replicate]at d
    split at d<;>cases d
  have F:vs[i]?=some v:=by
   unfold start at d;rw[fR (by simpa using o),er]at d;cases e:vs[i]? with
   | none=>rw[e]at d;cases d
   | some a=>rw[e]at d;cases d;rfl
  obtain⟨u,B,D⟩:=r.get F;have j:ps[i]?=some y:=by
   rw[<- S.pre,List.getElem?_take_of_lt (by omega)];exact m
  have t:ps.Nodup:=by rw[<- S.pre];exact S.nd.sublist (gI _ _)
  refine⟨u,D,?_⟩;rcases S.par y (eI j) with k | k
  ·exact .inl ⟨k,a7e t j B k⟩
  ·obtain⟨c,e⟩:=a40 k;refine .inr ⟨.inl k,c,e,?_⟩;have q:=x.cell y c e;rw[a7f t j B (by show scope.names.lookup y≠_;rw[k];decide)]at q;exact q
 ·exact e0.hok.fresh (fh (x.above y c (PySem.mem_of_lookup h)))
 ·unfold start
  show _=N.length
  rw[dW,dQ,List.length_replicate];omega
theorem b61 {K:Fg}{dV kV doc pm cdv ct oc:Value}
 (lk:K.lookup f=some ⟨oc,od,.func (PySem.W.fnOf name qual params body scope dV kV doc pm an cdv ct),osl⟩) (hcd:PySem.W.codeIn K cdv qual=true) (S:FnScope N ps scope)
    (len:∀ vs H Q E,sp vs H Q E->vs.length=ps.length)
    (hbody:∀ (A:Around) (outer:List Env) (s:Shared) (H:Hp) (vs:List V) (Q:VK) (E:XK),Room k (A.deeper (envOfC qual scope s.heap.objs.size f cdv))->sp vs H Q E ->
      ∃ t,PSs (cxOf CX P w K mg base N qual scope f cdv A outer s H E) body t/\t { nx:=λ_ H'=>Q .non H',rt:=Q } (start N vs) H) :
    FnOk P w K mg base CX (k+1) f (PySem.W.fnOf name qual params body scope dV kV doc pm an cdv ct) ps sp:=by
  refine⟨len,λA a s H L F m Q E z g R r i=>?_⟩;have M:=len _ _ _ _ i;have C:=g.mod.kin.keeps λb o e=>(g.bs b o e).1;have D:=g.mod.nolimit.keeps λb o e=>(g.bs b o e).1;have h:∀ y∈ps.zip F,scope.names.lookup y.1=some .local\/(scope.names.lookup y.1=some .cell/\((kf (s.heap.objs.size+1) scope.names []).lookup y.1).isSome=true):=λ⟨n,v⟩ G=>by
    rcases S.par n (iB G).1 with q | q
    · exact .inl q
    · exact .inr ⟨q,PySem.W.cellsFrom_some _ _ _ (.inl q)⟩
  refine codeAny_call_function z.depth (C _ _ lk) rfl S.co S.gen rfl (PySem.W.codeRec_of C hcd) (R _ _ _ _ ?_);refine wpAny_newFunctionEnv_cells S.kind h λaa Y B x=>?_;subst Y;refine⟨D.keeps x.toInCall.keep,codeAny_func ?_⟩;obtain⟨t,T,U⟩:=hbody A a s H m Q E (z.deeper _) i;have I:Inv (cxOf CX P w K mg base N qual scope f cdv A a s H E) [] _ H B:=b02 S z.hd g M r x;refine kg (T [] B _ H _ I U) (λX p c=>?_) λe p c=>c;have j:∀ {σ':St}{d:Hp}{v:V}{u:Value},Inv (cxOf CX P w K mg base N qual scope f cdv A a s H E) [] σ' d p->RelV v u->Q v d->CE a P w H s Q u p:=
    λ{σ' d v u} J l q=>⟨v,d,J.os,J.bare,J.base,J.hok,l,q⟩
  cases X with
  | ret u=>
    obtain⟨v,σ',d,J,l,q⟩:=c;exact j J l q
  | next=>
    obtain⟨σ',d,J,q⟩:=c;exact j (v:=V.non) J rfl q
  | brk=>
    obtain⟨_,_,_,q⟩:=c;exact ei q
  | cont=>
    obtain⟨_,_,_,q⟩:=c;exact ei q
end L2
namespace L2
open PySem PySem.Spec PyProof.Rows
section
variable {X:Cx}{x:Str}{p pos:Pos}{e:Expr}{es:List Expr}{t:TA}{id T:String}{r:List V->Hp->VK->Prop}
def tCB (r:List V->Hp->VK->Prop) (t:TA):TE:=fun σ H Q=>t σ H λvs H1=>r vs H1 Q
theorem a8Z (hc:CallR X (.builtin id) r) (hg:Gl X x) (hm:X.mg x=none) (hv:kH x=some (.builtin id)) (ha:PA X (e::es) t) (hn:x≠"__name__":=by decide) (hdb:(x==("__debug__":Str))=false:=by decide)
  (he:j0 (e::es) X.env=(false,eval e X.env)::j0 es X.env:=by rfl) (hpl:(backTo pos (j0 es X.env)).any (·.1)=false:=by rfl):PE X (.Call (.Name x p) (e::es) [] pos) (tCB r t):=by
 intro a s σ H Q I h;refine lS (a53 I hg hm hv ?_ hn hdb);exact PyProof.Rows.callWith_builtin1 (thn (ha pos a s σ H _ I h) λg c ⟨b,f,i,d,j⟩=>hc a c σ f b g Q i d j) he hpl
theorem a7g (hc:CallR X (.type T) r) (hg:Gl X x) (hm:X.mg x=none) (hv:kH x=some (.type T)) (ha:PA X (e::es) t) (hn:x≠"__name__":=by decide) (hdb:(x==("__debug__":Str))=false:=by decide)
  (he:j0 (e::es) X.env=(false,eval e X.env)::j0 es X.env:=by rfl) (hpl:(backTo pos (j0 es X.env)).any (·.1)=false:=by rfl):PE X (.Call (.Name x p) (e::es) [] pos) (tCB r t):=by
 intro a s σ H Q I h;refine lS (a53 I hg hm hv ?_ hn hdb);exact PyProof.Rows.callWith_type1 (thn (ha pos a s σ H _ I h) λj f ⟨b,g,d,i,c⟩=>hc a f σ g b j Q d i c) he hpl
end
end L2
namespace HT
open PySem PyProof.Rows
section
open PySem.SeqAt
open PySem.AutoSeq1 (wpAny_loadPart')
open PySem.MeetsSeq PySem.MeetsSeq2 PySem.MeetsSeq3
end
section
variable {prog:j7}{w:World}{A:Around}{E:Value->Shared->Prop}{s:Shared}
theorem cat_tup (ht:IsTup s.heap t vs.toArray) (hb:IsTup s.heap b ws.toArray) (hv:vs≠[])
  (h1:ws=[]->Q (.ref t) s) (h2:ws≠[]->Q (.ref s.heap.objs.size) { s with heap:=s.heap.push { cls:=.type "tuple",data:=.seq (vs++ws).toArray } })
  (hsz:vs.length+ws.length≤jZ):wpAny (model prog w) A (kl .Add (.ref t) (.ref b)) Q E s:=by
 obtain⟨⟨r,j,p,k⟩,c,l,n,m⟩:=id ht;obtain⟨⟨q,f,o,h⟩,a,g,i,d⟩:=id hb;subst l m g d;have e:vs.toArray++ws.toArray=(vs++ws).toArray:=by simp
 by_cases hw:ws=[]
 ·exact concat_meets ⟨_,c,rfl⟩ ⟨_,a,rfl⟩ noFill_tuple_add seq_tuple_add PySem.F.slot_tuple_add PySem.F.entry_tuple_add (PySem.F.args_tuple_add_2 _ _)
   (tuple_addW1 t b vs.toArray ws.toArray n i j f k h (by simp_all) (by grind)) ⟨c,a,h1 hw⟩
 ·refine concat_meets ⟨_,c,rfl⟩ ⟨_,a,rfl⟩ noFill_tuple_add seq_tuple_add PySem.F.slot_tuple_add PySem.F.entry_tuple_add (PySem.F.args_tuple_add_2 _ _)
   (tuple_addW2 t b vs.toArray ws.toArray n i j f k h (by simp_all) (by simp_all) (by omega)) ⟨c,a,?_⟩
  rw[e];exact h2 hw
noncomputable def sIx (n d:Nat):Option Int->Nat
 | none=>d
 | some v=>if v<0 then (v+(n:Int)).toNat else min v.toNat n
theorem sIx_none (n d:Nat):sIx n d none=d:=rfl
theorem sIx_nat (n d k:Nat):sIx n d (some (k:Int))=min k n:=rfl
theorem c0P (n d:Nat) (hd:d≤n) (o:Option Int):sIx n d o≤n:=by
 cases o with
 | none=>exact hd
 | some v=>
  show (if v<0 then (v+n).toNat else min v.toNat n)≤n
  by_cases hv:v<0
  ·grind
  ·rw[if_neg hv];exact Nat.min_le_right _ _
theorem b03 (v:Int) (n d:Nat):(if v<0 then max (v+(n:Int)) 0 else min v (n:Int))=((sIx n d (some v):Nat):Int):=by grind [sIx]
theorem a94 (lo hi:Option Int) (n:Nat):j8.Slice.sliceAdjust lo hi 1 (n:Int)=(((sIx n 0 lo:Nat):Int),((sIx n n hi:Nat):Int)):=by
 unfold j8.Slice.sliceAdjust;refine Prod.ext ?_ ?_
 ·cases lo with
  | none=>rfl
  | some v=>exact b03 v n 0
 ·cases hi with
  | none=>rfl
  | some v=>exact b03 v n n
theorem a95 (i j:Nat):j8.Slice.slicePlaces (i:Int) (j:Int) 1=j - i:=by
 unfold j8.Slice.slicePlaces;simp
 split<;>omega
theorem a57 (p:IsPart v o) (h:Q o s):wpAny (model prog w) A (j8.Slice.slicePartIndex v) Q E s:=by
 cases p with
 | none=>exact slicePart_none h
 | int i t=>exact slicePart_int h
theorem a4J {lo hi:Option Int}{n:Nat}(hs:s.heap.IsSliceOf sl vl vu .none) (pl:IsPart vl lo) (pu:IsPart vu hi)
  (h:Q (((sIx n 0 lo:Nat):Int),1,sIx n n hi - sIx n 0 lo) s):wpAny (model prog w) A (j8.Slice.sliceApplied (.ref sl) (pure (n:Int))) Q E s:=by
 obtain⟨d,a,c,b⟩:=id hs;refine jX (jX (kx a b rfl (jX (kx a b rfl (jX (kx a b rfl (jY ?_)))))));refine jX (slicePart_none ?_);refine jX (a57 pl (jX (a57 pu (jX (jY ?_)))))
 show wpAny _ _ (match j8.Slice.sliceAdjust lo hi 1 n with | (lo,hi)=>pure (lo,_,j8.Slice.slicePlaces lo hi 1)) _ _ s
 rw[a94 lo hi n]
 show wpAny _ _ (pure _) _ _ s
 rw[a95];exact jY h
theorem b2Y (xs:Array Value) (i k:Nat):((ff k).filterMap λ(m:Nat)=>xs[((i:Int)+(m:Int)*1).toNat]?).toArray=((xs.toList.drop i).take k).toArray:=by
 have e:(λ(m:Nat)=>xs[(i+(m:Int)*1).toNat]?)=λm=>xs[i+m]?:=by
  funext m
  have:(i+(m:Int)*1).toNat=i+m:=by omega
  rw[this]
 rw[e]
 have:=pick_run xs i k
 rw[jg]at this;have a:(_∘λx=>i+x)=λm=>xs[i+m]?:=rfl;rw[a]at this;rw[this]
theorem getItem_tuple_cut {lo hi:Option Int}(ht:IsTup s.heap t items) (hs:s.heap.IsSliceOf sl vl vu .none) (pl:IsPart vl lo) (pu:IsPart vu hi)
  (hw:¬ (sIx items.size 0 lo=0/\sIx items.size items.size hi=items.size))
  (h:Q (.ref s.heap.objs.size) { s with heap:=s.heap.push { cls:=.type "tuple",data:=.seq ((items.toList.drop (sIx items.size 0 lo)).take (sIx items.size items.size hi - sIx items.size 0 lo)).toArray } })
  (hsz:items.size≤jZ):wpAny (model prog w) A (lY (.ref t) (.ref sl)) Q E s:=by
 have a:sizeOk (.seq ((items.toList.drop (sIx items.size 0 lo)).take (sIx items.size items.size hi - sIx items.size 0 lo)).toArray):=by
  show ((items.toList.drop (sIx items.size 0 lo)).take (sIx items.size items.size hi - sIx items.size 0 lo)).toArray.size≤jZ
  rw[e8,eG,eS,fj];omega
 obtain⟨f,d,e,g⟩:=id hs;have b:s.TypeIs (.ref sl) "slice":=⟨f,d,e⟩;unfold lY
 try with_reducible refine kr ?_
 refine jX (wpAny_sequenceKey ht.typeIs (by decide) ?_);refine jX (wpAny_callSpecial?_slot ht.typeIs PyProof.Rows.slot_tuple_getitem
  (kD PyProof.Rows.slot_tuple_getitem ht.typeIs entry_tuple_getitem ?_ (args_tuple_getitem _ _)))
 show wpAny _ _ (j8.Tuple.tupleItemsOf _ >>= _) _ _ s
 refine jX (tupleItemsOf_ ht ?_);refine jX (mh b ?_);refine jX (a4J hs pl pu ?_);have c:¬ ((((sIx items.size 0 lo):Int)==0&&(1:Int)==1&&(sIx items.size items.size hi - sIx items.size 0 lo)==items.size)=true):=by grind
 show wpAny _ _ (if (((sIx items.size 0 lo):Int)==0&&(1:Int)==1&&(sIx items.size items.size hi - sIx items.size 0 lo)==items.size)=true then _ else _) _ _ s
 rw[if_neg c,b2Y]
 first
  | exact jX (kJ (jY ⟨_,rfl,jY h⟩) a)
  | exact jX _
  | exact jX _
  | exact jX _
end
end HT
namespace L2
open PySem PySem.Spec PyProof.Rows
abbrev TO:=St->Hp->(Option Int->Hp->Prop)->Prop
def PO (X:Cx) (e:Option Expr) (t:TO):Prop:=
 ∀ (pins:List (Addr×Obj)) (s:Shared) (σ:St) (H:Hp) (Q:Option Int->Hp->Prop),Inv X pins σ H s->t σ H Q ->
  wpAny (model X.prog X.w) X.A (evalPart e X.env) (λu s'=>∃ o H',Inv X pins σ H' s'/\IsPart u o/\Q o H') X.xe s
def b48:TO:=λ_ H Q=>Q none H
def b9B (t:TE):TO:=fun σ H Q=>t σ H λx H1=>∃ i,x=.int i/\Q (some i) H1
theorem a58:∀ {us:List Value},Vals (ns.map V.int) us->kh us ns:=by
 induction ns with
 | nil=>intro a r;cases r;exact .nil
 | cons n ns ih=>
  intro a r;cases r with
  | cons r1 r2=>
   obtain⟨t,e⟩:=r1;subst e;exact .cons n t (ih r2)
section
variable {X:Cx}{e:Expr}{te:TE}{lo hi:Option Expr}{tl th:TO}{pos p2:Pos}
theorem b49:PO X none b48:=by
 intro a s σ H Q I h;exact jY ⟨none,H,I,.none,h⟩
theorem b5a (h:PE X e te):PO X (some e) (b9B te):=by
 intro a s σ H Q I b;refine thn (h a s σ H _ I b) λu j ⟨x,d,f,c,g⟩=>?_;obtain⟨i,rfl,q⟩:=g;obtain⟨t,rfl⟩:=c;exact⟨some i,d,f,.int i t,q⟩
def SlR (X:Cx) (r:V->Option Int->Option Int->Hp->VK->Prop):Prop:=
 ∀ (pins:List (Addr×Obj)) (s:Shared) (σ:St) (H:Hp) (x:V) (v vl vu:Value) (lo hi:Option Int) (sl:Addr) (Q:VK),Inv X pins σ H s->RelV x v->s.heap.IsSliceOf sl vl vu .none->IsPart vl lo->IsPart vu hi->r x lo hi H Q ->
  ∃ T id,typeLookup (.type T) "__getitem__"=pure (some (.builtin id))/\s.TypeIs v T/\wpAny (model X.prog X.w) X.A (lY v (.ref sl)) (EP X pins σ Q) X.xe s
theorem SlR.or (h:SlR X r) (h':SlR X r'):SlR X (λx lo hi H Q=>r x lo hi H Q\/r' x lo hi H Q):=by
 intro a s σ H x v b k d j c Q I g i e f q;rcases q with q | q
 ·exact h a s σ H x v b k d j c Q I g i e f q
 ·exact h' a s σ H x v b k d j c Q I g i e f q
def tSl (r:V->Option Int->Option Int->Hp->VK->Prop) (te:TE) (tl th:TO):TE:=fun σ H Q=>te σ H λx H1=>tl σ H1 λl H2=>th σ H2 λu H3=>r x l u H3 Q
theorem b2Z (hr:SlR X r) (he:PE X e te) (hl:PO X lo tl) (hu:PO X hi th):PE X (.Subscript e (.Slice lo hi none p2) pos) (tSl r te tl th):=by
 intro a s σ H Q I h;refine Subscript_ (thn (he a s σ H _ I h) λv o ⟨x,D,j,t,J⟩=>?_);refine wpAny_Slice (thn (hl a o σ D _ j J) λf B ⟨l,p,m,n,G⟩=>thn (hu a B σ p _ m G) λd c ⟨u,g,y,z,k⟩=>?_);refine jY ?_;have C:Inv X a σ g { c with heap:=c.heap.push { cls:=.type "slice",data:=.fields #[f,d,.none] } }:=y.kept λb L q=>Heap.get?_push_of_some _ q;obtain⟨T,M,F,E,i⟩:=hr a { c with heap:=c.heap.push { cls:=.type "slice",data:=.fields #[f,d,.none] } } σ g x v f d l u c.heap.objs.size Q C t (Heap.IsSliceOf.new ..) n z k;exact tail_any E F i (by with_unfolding_all rfl)
def cutV (xs:List V) (lo hi:Option Int):List V:=(xs.drop (HT.sIx xs.length 0 lo)).take (HT.sIx xs.length xs.length hi - HT.sIx xs.length 0 lo)
theorem a5c (xs:List V) (lo hi:Option Int):(cutV xs lo hi).length≤xs.length:=by
 unfold cutV;rw[eG,eS];omega
def rSlT (K:Fg):V->Option Int->Option Int->Hp->VK->Prop:=λx lo hi H Q=>∃ a xs,x=.ref a/\SqT K H a xs /\
 ¬ (HT.sIx xs.length 0 lo=0/\HT.sIx xs.length xs.length hi=xs.length)/\∀ p,H p=none->Q (.ref p) (upd H p (.tup (cutV xs lo hi)))
theorem sl_tup:SlR X (rSlT X.K):=by
 intro p s σ H x v A w e f z Q I k m l t h;obtain⟨a,d,rfl,n,u,q⟩:=h;cases k;obtain⟨j,r,g,i⟩:=I.tuple n;have c:j.toArray.size=d.length:=by rw[e8];exact r.length.symm
 refine⟨"tuple",_,PyProof.Rows.slot_tuple_getitem.lookup,g.typeIs,?_⟩;refine HT.getItem_tuple_cut g m l t (by rw[c];exact u) ?_ (by simp_all);rw[c];refine⟨.ref s.heap.objs.size,_,I.laid (λb y q=>Heap.get?_push_of_some _ q) (dS _) ?_,rfl,q _ (I.hok.fresh (dS _))⟩;exact⟨eD (a5c d e f) i,_,(r.drop _).take _,IsTup.new _ _⟩
def b9C (K:Fg):R2:=λx y H Q=>∃ a b xs ys,x=.ref a/\y=.ref b/\SqT K H a xs/\SqT K H b ys/\xs≠[]/\xs.length+ys.length≤jZ /\
 (ys=[]->Q (.ref a) H)/\(ys≠[]->∀ p,H p=none->Q (.ref p) (upd H p (.tup (xs++ys))))
theorem Vals.nil_iff (r:Vals xs us):us=[]↔xs=[]:=by
 cases r with
 | nil=>simp
 | cons _ _=>simp
theorem op_catT:OpR X (kl .Add) (b9C X.K):=by
 intro r s σ H x y v u Q I p B h;obtain⟨a,b,k,j,rfl,rfl,t,g,f,e,m,n⟩:=h;cases p;cases B;obtain⟨C,d,i,_⟩:=I.tuple t;obtain⟨l,c,A,_⟩:=I.tuple g;refine HT.cat_tup i A (λz=>f (d.nil_iff.mp z)) (λz=>⟨.ref a,H,I,rfl,m (c.nil_iff.mp z)⟩) (λz=>?_) (by rw[<- d.length,<- c.length];exact e);refine⟨.ref s.heap.objs.size,_,I.laid (λb D q=>Heap.get?_push_of_some _ q) (dS _) ?_,rfl,n (λw=>z (c.nil_iff.mpr w)) _ (I.hok.fresh (dS _))⟩;exact⟨by rw[dW];exact e,_,d.append c,IsTup.new _ _⟩
end
end L2
namespace L2
open PySem PySem.Spec PyProof.Rows
def ixN (n:Nat) (i:Int):Option Nat:=if 0≤i then (if i<n then some i.toNat else none) else if -(n:Int)≤i then some (i+n).toNat else none
def atI {α:Type}(xs:List α) (i:Int):Option α:=(ixN xs.length i).bind λj=>xs[j]?
theorem b04 (h:ixN n i=some j):seqIndex? i n=some j/\j<n/\-(n:Int)≤i/\i<n:=by
 unfold ixN at h
 by_cases h0:0≤i
 ·rw[if_pos h0]at h
  by_cases h1:i<n
  ·rw[if_pos h1]at h;have e:=eZ.inj h;exact⟨by rw[mQ h0 h1,e],by omega,by omega,h1⟩
  ·simp_all
 ·rw[if_neg h0]at h
  by_cases h1:-n≤i
  ·rw[if_pos h1]at h;have e:=eZ.inj h;exact⟨by rw[mR (by omega) h1,e],by omega,h1,by omega⟩
  ·simp_all
theorem a8n {α:Type}{xs:List α}{v:α}(h:atI xs i=some v):∃ j,seqIndex? i xs.length=some j/\xs[j]?=some v/\j<xs.length/\-(xs.length:Int)≤i/\i<xs.length:=by
 unfold atI at h;cases e:ixN xs.length i with
 | none=>rw[e]at h;cases h
 | some j=>
  rw[e]at h;obtain⟨d,c,b,a⟩:=b04 e;exact⟨j,d,h,c,b,a⟩
theorem a1O {α:Type}{xs:List α}{j:Nat}{v:α}(h:xs[j]?=some v):atI xs (j:Int)=some v:=by
 have a:=(eq.mp h).1;have e:ixN xs.length j=some j:=by
  unfold ixN;rw[if_pos (by simp),if_pos (by omega)];simp
 unfold atI;rw[e];exact h
def b05 (b:Expr):Prop:=∀ o i,subscripted b false o i=operate [o,i] (lY o i)
def IxR (X:Cx) (r:R2):Prop:=
 ∀ (value slice:Expr) (pins:List (Addr×Obj)) (s:Shared) (σ:St) (H:Hp) (x y:V) (v u:Value) (Q:VK),Inv X pins σ H s->RelV x v->RelV y u->r x y H Q ->
  subscripted slice false v u=operate [v,u] (lY v u)->wpAny (model X.prog X.w) X.A (subscriptTail value slice v u) (EP X pins σ Q) X.xe s
def MtR (X:Cx) (id:String) (r:V->List V->Hp->VK->Prop):Prop:=
 ∀ (pins:List (Addr×Obj)) (s:Shared) (σ:St) (H:Hp) (x:V) (xs:List V) (v:Value) (us:List Value) (Q:VK),Inv X pins σ H s->RelV x v->Vals xs us->r x xs H Q ->
  wpAny (model X.prog X.w) X.A (call (.builtin id) (v::us)) (EP X pins σ Q) X.xe s
section
variable {X:Cx}{a b:Expr}{ta tb:TE}{pos:Pos}
theorem IxR.or (h:IxR X r) (h':IxR X r'):IxR X (λx y H Q=>r x y H Q\/r' x y H Q):=by
 intro b a c s σ H x y v u Q I e f q d;rcases q with q | q
 ·exact h b a c s σ H x y v u Q I e f q d
 ·exact h' b a c s σ H x y v u Q I e f q d
theorem MtR.or {id:String}(h:MtR X id r) (h':MtR X id r'):MtR X id (λx xs H Q=>r x xs H Q\/r' x xs H Q):=by
 intro a s σ H x e v b Q I c d q;rcases q with q | q
 ·exact h a s σ H x e v b Q I c d q
 ·exact h' a s σ H x e v b Q I c d q
theorem b9D (hr:IxR X r) (ha:PE X a ta) (hb:PE X b tb) (hs:b05 b):PE X (.Subscript a b pos) (tOp r ta tb):=by
 intro c s σ H Q I h;exact Subscript_ (binT ha hb I h λv u d x y f g i e q=>hr a b c d σ f x y v u Q g i e q (hs _ _))
def rIxL (K:Fg):R2:=λx y H Q=>∃ p xs i v,x=.ref p/\y=.int i/\SqL K H p xs/\atI xs i=some v/\Q v H
def rIxT (K:Fg):R2:=λx y H Q=>∃ p xs i v,x=.ref p/\y=.int i/\SqT K H p xs/\atI xs i=some v/\Q v H
def rIxS:R2:=λx y H Q=>∃ z i c,x=.str z/\y=.int i/\z.length≤jZ/\atI z.cps.toList i=some c/\Q (.str ⟨#[c]⟩) H
theorem ix_list:IxR X (rIxL X.K):=by
 intro n m a s σ H x y v u Q I F o h f;obtain⟨p,M,i,z,rfl,rfl,C,J,q⟩:=h;cases F;obtain⟨t,rfl⟩:=o;obtain⟨l,r,d,R⟩:=I.list C;obtain⟨j,b,B,L,D,A⟩:=a8n J;obtain⟨w,g,k⟩:=r.get B;have G:=r.length;have N:=a7b;have c:EP X a σ Q w s:=⟨z,H,I,k,q⟩
 by_cases h0:0≤i
 ·have e:i.toNat=j:=by
   rw[mQ h0 A]at b;exact eZ.inj b
  exact item_listR d.isList h0 (by omega) (by rw[e];simpa using g) c f
 ·have e:(i+(l.toArray.size:Int)).toNat=j:=by
   rw[mR (by omega) D]at b;rw[e8,<- G];exact eZ.inj b
  exact mS d.isList.typeIs slot_list_getitem.lookup
   (wpAny_getItem_list_neg d.isList (by omega) (by simp_all) (by omega) (by rw[e];simpa using g) ⟨rfl,c⟩) f
theorem ix_tup:IxR X (rIxT X.K):=by
 intro f e a s σ H x y v u Q I A D h k;obtain⟨p,J,i,z,rfl,rfl,B,C,q⟩:=h;cases A;obtain⟨t,rfl⟩:=D;obtain⟨E,r,d,M⟩:=I.tuple B;obtain⟨j,l,g,G,F,L⟩:=a8n C;obtain⟨w,m,c⟩:=r.get g;have n:=r.length;have N:=a7b;have b:EP X a σ Q w s:=⟨z,H,I,c,q⟩;exact mS d.typeIs slot_tuple_getitem.lookup
  (getItem_tuple d (by omega) (by omega) (by rw[e8,<- n];exact l) (by simp_all) ⟨rfl,b⟩) k
theorem b62:IxR X rIxS:=by
 intro b d r s σ H x y v u Q I o f h p;obtain⟨z,i,c,rfl,rfl,A,n,q⟩:=h;obtain⟨t,rfl⟩:=o;obtain⟨C,rfl⟩:=f;obtain⟨j,a,l,D,g,w⟩:=a8n n;have k:z.cps.toList.length=z.length:=by simp[Str.length]
 rw[k]at a g w;have B:=a7b;exact tail_any (lq s z t) slot_str_getitem.lookup (getItem_str (by grind) (by rw[a];simpa using l) ⟨.str ⟨#[c]⟩,H,I.tok _,⟨_,rfl⟩,q⟩) p
def rIx (K:Fg):R2:=λx y H Q=>rIxL K x y H Q\/rIxT K x y H Q\/rIxS x y H Q
theorem b63:IxR X (rIx X.K):=ix_list.or (ix_tup.or b62)
theorem a96 (its:List Value) (n j:Nat) (u:Value):Obj.mapSeq (·.setIfInBounds j u) { cls:=.type "list",data:=.seq its.toArray n }={ cls:=.type "list",data:=.seq (its.set j u).toArray n }:=by
 simp[Obj.mapSeq]
theorem Inv.lst {pins:List (Addr×Obj)}{σ:St}{H:Hp}{s:Shared}{p:Addr}{xs:List V}(I:Inv X pins σ H s) (h:H p=some (.lst xs)) :
  ∃ (its:List Value) (n:Nat),Vals xs its/\s.heap.get? p=some { cls:=.type "list",data:=.seq its.toArray n }/\xs.length≤sizeLine:=by
 obtain⟨z,a,n,r,e⟩:=I.hok p _ h;exact⟨a,n,r,e,z⟩
theorem Inv.lstUpd {its its':List Value}(I:Inv X pins σ H s) (h:H p=some (.lst xs))
  (ho:s.heap.get? p=some { cls:=.type "list",data:=.seq its.toArray n }) (hf:f { cls:=.type "list",data:=.seq its.toArray n }={ cls:=.type "list",data:=.seq its'.toArray n' }) (r:Vals ys its') (hz:ys.length≤jZ) (t:Nat) :
  Inv X pins σ (upd H p (.lst ys)) { s with heap:=s.heap.update p f,toks:=t }:=by
 have e:(s.heap.update p f).get? p=some { cls:=.type "list",data:=.seq its'.toArray n' }:=by
  rw[Heap.get?_update_self f ho (by rw[hf]<;>rfl),hf]
 refine I.write (by rw[h];trivial) (.inl rfl) (λb u a q=>(Heap.get?_update_other _ _ (Ne.symm a)).trans q) ⟨_,e⟩ ?_;exact⟨hz,its',n',r,e⟩
def b9E:V->V->V->Hp->(Hp->Prop)->Prop:=λo i v H Q=>∃ p xs k j,o=.ref p/\i=.int k/\H p=some (.lst xs)/\ixN xs.length k=some j/\Q (upd H p (.lst (xs.set j v)))
theorem b20:PSet X b9E:=by
 intro d s σ H o i v D F u Q I x z C h;obtain⟨p,y,k,j,rfl,rfl,g,B,q⟩:=h;cases x;obtain⟨t,rfl⟩:=z;obtain⟨b,n,r,f,A⟩:=I.lst g;obtain⟨a,E,m,w⟩:=b04 B;have e:=r.length;have G:=a7b;have l:=
  I.lstUpd g f (a96 b n j u) (r.set C j) (by simp_all) s.toks
 by_cases h0:0≤k
 ·have c:k.toNat=j:=by
   rw[mQ h0 w]at a;exact eZ.inj a
  exact PySem.W.ki_setAt f h0 (by omega) (by simp_all) (by rw[c];exact⟨_,l,q⟩)
 ·have c:(k+(b.toArray.size)).toNat=j:=by
   rw[mR (by omega) m]at a;rw[e8,<- e];exact eZ.inj a
  exact PySem.W.ki_setBack f (by omega) (by simp_all) (by omega) (by rw[c];exact⟨_,l,q⟩)
theorem a7h (lo hi:Option Int) (n:Nat):(lr lo hi none n).1=((HT.sIx n 0 lo:Nat):Int)/\(lr lo hi none n).2.1=((HT.sIx n n hi:Nat):Int)/\(lr lo hi none n).2.2=1:=by
 refine⟨?_,?_,rfl⟩
 ·cases lo with
  | none=>simp[lr,HT.sIx]
  | some i=>
   simp only[lr,HT.sIx,jh]
   by_cases h:i<0
   ·grind
   ·grind
 ·cases hi with
  | none=>simp[lr,HT.sIx]
  | some i=>
   simp only[lr,HT.sIx,jh]
   by_cases h:i<0
   ·grind
   ·grind
theorem a6x (its:List Value) (lo hi:Option Int):slicePick its.toArray lo hi none=((its.drop (HT.sIx its.length 0 lo)).take (HT.sIx its.length its.length hi - HT.sIx its.length 0 lo)).toArray:=by
 obtain⟨a,c,b⟩:=a7h lo hi its.toArray.size;unfold slicePick;rw[a,c,b];simp only[sliceRange_one,pick_run]<;>rfl
def rSlL (K:Fg):V->Option Int->Option Int->Hp->VK->Prop:=λx lo hi H Q=>∃ a xs,x=.ref a/\SqL K H a xs/\∀ p,H p=none->Q (.ref p) (upd H p (.lst (cutV xs lo hi)))
theorem sl_list:SlR X (rSlL X.K):=by
 intro p s σ H x v u w d e y Q I m i n j h;obtain⟨a,c,rfl,k,q⟩:=h;cases m;obtain⟨t,r,g,l⟩:=I.list k;have f:=r.length;refine⟨"list",_,slot_list_getitem.lookup,g.isList.typeIs,?_⟩;refine wpAny_getItem_list_slice g.isList i n j .none (by simp) ?_ (by grind);rw[a6x,<- f];refine⟨.ref s.heap.objs.size,_,I.laid (λb z q=>Heap.get?_push_of_some _ q) (dS _) ?_,rfl,q _ (I.hok.fresh (dS _))⟩;exact⟨eD (a5c c d e) l,_,0,(r.drop _).take _,Heap.get?_push_size _ rfl⟩
theorem CallR.or (h:CallR X f r) (h':CallR X f r'):CallR X f (λxs H Q=>r xs H Q\/r' xs H Q):=by
 intro a s σ H c d Q I b q;rcases q with q | q
 ·exact h a s σ H c d Q I b q
 ·exact h' a s σ H c d Q I b q
theorem a7i:CallR X (.type "list") (λxs H Q=>∃ p ys,xs=[.ref p]/\(SqL X.K H p ys\/SqT X.K H p ys)/\∀ l,H l=none->Q (.ref l) (upd H l (.lst ys))):=by
 intro z s σ H C D Q I r h;obtain⟨p,v,rfl,j,q⟩:=h;obtain⟨u,rfl,B⟩:=a2P r;cases B;have k:∀ a,Vals v a->v.length≤jZ->∀ c f,_ ->
   c.get? s.heap.objs.size=some { cls:=.type "list",dict:=none,data:=.seq a.toArray f,slots:=#[] }->EP X z σ Q _ { s with heap:=c }:=λa d g c f i e=>
  ⟨.ref s.heap.objs.size,_,I.laid i (dS _) (show ObjOk X.prog X.w _ c _ (.lst v) from ⟨g,a,f,d,e⟩),rfl,q _ (I.hok.fresh (dS _))⟩
 rcases j with j | j
 ·obtain⟨a,d,y,g⟩:=I.list j;have t:=d.length;obtain⟨o,x,A,n,m⟩:=y.isList;exact call_list_seq p (.inl rfl) x A m (λc f i e=>k a d g c f i e) (by grind)
 ·obtain⟨a,d,y,g⟩:=I.tuple j;have t:=d.length;obtain⟨o,x,A,n,m⟩:=y;exact call_list_seq p (.inr rfl) x A m (λc f i e=>k a d g c f i e) (by grind)
theorem a6y:CallR X (.type "tuple") (λxs H Q=>∃ p ys,xs=[.ref p]/\((SqL X.K H p ys/\∀ l,H l=none->Q (.ref l) (upd H l (.tup ys)))\/(SqT X.K H p ys/\Q (.ref p) H))):=by
 intro c s σ H x y Q I r h;obtain⟨p,j,rfl,h⟩:=h;obtain⟨u,rfl,n⟩:=a2P r;cases n;rcases h with ⟨hq,q⟩ | ⟨hq,q⟩
 ·obtain⟨a,f,g,k⟩:=I.list hq;have m:=f.length;refine call_tuple_list g.isList (λd t=>?_) (by grind);have i:Inv X c σ H { s with heap:=d }:=I.kept t;have v:Inv X c σ (upd H d.objs.size (.tup j)) { s with heap:=d.push { cls:=.type "tuple",data:=.seq a.toArray } }:=
   i.laid (λb o e=>Heap.get?_push_of_some _ e) (dS _) (⟨k,a,f,IsTup.new _ _⟩)
  exact⟨.ref d.objs.size,_,v,rfl,q _ (i.hok.fresh (dS _))⟩
 ·obtain⟨a,f,g,k⟩:=I.tuple hq;exact call_tuple_same g ⟨.ref p,H,I,rfl,q⟩
def tyV (K:Fg) (T:String) (x:V) (H:Hp):Prop:=match x with
 | .str _=>T="str"
 | .int _=>T="int"
 | .ref p=>(T="list"/\∃ xs,SqL K H p xs)\/(T="tuple"/\∃ o,K.lookup p=some o/\o.cls=.type "tuple"/\o.dict=none) \/
   (T="dict"/\((∃ kvs,H p=some (.dK kvs))\/(∃ kvs,H p=some (.dT kvs))\/∃ ob kvs,H p=some (.frz ob (.dK kvs))))\/(T="set"/\∃ S n,H p=some (.set S n))
 | _=>False
theorem b4n (I:Inv X pins σ H s) (r:RelV x v) (ty:tyV X.K T x H) :
  s.TypeIs v T/\∀ a,v=.ref a->∃ ob,s.heap.get? a=some ob/\ob.dict=none:=by
 cases x with
 | str z=>
  obtain⟨t,rfl⟩:=r;cases (ty);exact⟨lq s z t,λ_ e=>nomatch e⟩
 | int i=>
  obtain⟨t,rfl⟩:=r;cases (ty);exact⟨typeIs_int s i t,λ_ e=>nomatch e⟩
 | ref p=>
  cases r;rcases ty with ⟨rfl,xs,hq⟩ | ⟨rfl,o,hk,hc,f⟩ | ⟨rfl,hk⟩ | ⟨rfl,S,n,hk⟩
  ·obtain⟨h,_,g,_⟩:=I.list hq;refine⟨g.isList.typeIs,λa e=>?_⟩;cases e;obtain⟨o,n,e,c,f,_⟩:=g;exact⟨o,e,f⟩
  ·refine⟨⟨o,I.kIn p o hk,hc⟩,λa e=>?_⟩;cases e;exact⟨o,I.kIn _ o hk,f⟩
  ·have z:∃ o,s.heap.get? p=some o/\o.ExactDict:=by
    rcases hk with ⟨kvs,hk⟩ | ⟨kvs,hk⟩ | ⟨ob,kvs,hk⟩
    ·obtain⟨_,_,_,_,o,_,_,e,b,_⟩:=I.hok p _ hk;exact⟨o,e,b⟩
    ·obtain⟨_,_,_,_,o,_,_,e,b,_⟩:=I.hok p _ hk;exact⟨o,e,b⟩
    ·obtain⟨_,_,_,_,_,o,_,_,e,b,_⟩:=I.hok p _ hk;exact⟨o,e,b⟩
   obtain⟨o,e,b⟩:=z;refine⟨⟨o,e,b.1⟩,λa d=>?_⟩;cases d;exact⟨o,e,b.2.1⟩
  ·obtain⟨o,_,_,_,e,b,_⟩:=I.hok p _ hk;refine⟨⟨o,e,b.1⟩,λa d=>?_⟩;cases d;exact⟨o,e,b.2.1⟩
 | _=>exact ei ty
def tBM0 (K:Fg) (T:String) (r:V->List V->Hp->VK->Prop) (to:TE):TE:=fun σ H Q=>to σ H λx H1=>tyV K T x H1/\r x [] H1 Q
def tBM (K:Fg) (T:String) (r:V->List V->Hp->VK->Prop) (to:TE) (t:TA):TE:=fun σ H Q=>to σ H λx H1=>tyV K T x H1/\t σ H1 λxs H2=>r x xs H2 Q
variable {o e:Expr}{es:List Expr}{to:TE}{t:TA}{name:Str}{apos cpos:Pos}{T id:String}{r:V->List V->Hp->VK->Prop}
theorem b64 (pa:mi T) (slot:Slot T name id) (hty:typeOf (.builtin id)=pure (.type "method_descriptor")) (hm:MtR X id r) (ho:PE X o to)
  (hbase:lp o name X.env (eval o X.env)=eval o X.env:=by rfl) (hline:(apos.endLine==cpos.line)=true:=by rfl):PE X (.Call (.Attribute o name apos) [] [] cpos) (tBM0 X.K T r to):=by
 intro a s σ H Q I h;refine wpAny_Call_method0_late hbase hline (thn (ho a s σ H _ I h) λv g ⟨x,d,c,b,i,e⟩=>?_);obtain⟨j,f⟩:=b4n c b i;exact⟨T,id,pa,slot,hty,j,f,Calls.callWith_builtin rfl (PySem.evalArgs_none (hm a g σ d x [] v [] Q c b .nil e))⟩
theorem b9F (pa:mi T) (slot:Slot T name id) (hty:typeOf (.builtin id)=pure (.type "method_descriptor")) (hm:MtR X id r) (ho:PE X o to) (ha:PA X (e::es) t)
  (hbase:lp o name X.env (eval o X.env)=eval o X.env:=by rfl)
  (hfew:((backTo cpos (j0 (e::es) X.env)).all (λx=>!x.1)&&(lV cpos (lW [] X.env)).all (λx=>x.1.isSome)
   && decide ((e::es).length+([]:List lX).length+(if ([]:List lX).isEmpty then 0 else 1)<30))=true:=by rfl)
  (hline:(apos.endLine==cpos.line)=true:=by rfl) (hs:j0 (e::es) X.env=(false,eval e X.env)::j0 es X.env:=by rfl) (hplain:(backTo cpos (j0 es X.env)).any (·.1)=false:=by rfl) :
  PE X (.Call (.Attribute o name apos) (e::es) [] cpos) (tBM X.K T r to t):=by
 intro a s σ H Q I h;refine wpAny_Call_method_late hbase hfew hline rfl (thn (ho a s σ H _ I h) λv k ⟨x,w,b,c,u,j⟩=>?_);obtain⟨g,n⟩:=b4n b c u;refine⟨T,id,pa,slot,hty,g,n,?_⟩;have d:=ha cpos a k σ w _ b j;rw[hs]at d ⊢;refine Calls.callWith_builtin (by show (false||(backTo cpos _).any _)=false;rw[hplain]<;>rfl) (Calls.evalArgs_plain ?_)
 exact thn d λi m ⟨q,l,y,f,p⟩=>hm a m σ l x q v i Q y c f p
end
end L2
namespace L2
open PySem PySem.Spec PyProof.Rows
def MtM (X:Cx) (id:String) (r:V->List V->Hp->VK->Prop):Prop:=
 ∀ (pins:List (Addr×Obj)) (s:Shared) (σ:St) (H:Hp) (x:V) (xs:List V) (v:Value) (us:List Value) (Q:VK),Inv X pins σ H s->RelV x v->Vals xs us->r x xs H Q ->
  wpAny (model X.prog X.w) X.A (call (.builtin id) (v::us)) (EP X pins σ Q) X.xe s
theorem Vals.one:∀ {x:V}{us:List Value},Vals [x] us->∃ u,us=[u]/\RelV x u
 | _,_,.cons r .nil=>⟨_,rfl,r⟩
theorem Vals.two:∀ {x y:V}{us:List Value},Vals [x,y] us->∃ u v,us=[u,v]/\RelV x u/\RelV y v:=by
 intro x y a h;cases h with
 | cons r h=>cases h with
  | cons q h=>cases h;exact⟨_,_,rfl,r,q⟩
theorem Vals.zero:∀ {us:List Value},Vals [] us->us=[]
 | _,.nil=>rfl
theorem Vals.dropLast (h:Vals xs us):Vals xs.dropLast us.dropLast:=by
 induction h with
 | nil=>exact .nil
 | cons r t ih=>
  cases t with
  | nil=>exact .nil
  | cons q t'=>exact .cons r ih
theorem Vals.eraseIdx:∀ {xs:List V}{us:List Value}(i:Nat),Vals xs us->Vals (xs.eraseIdx i) (us.eraseIdx i)
 | _,_,_,.nil=>.nil
 | _,_,0,.cons _ t=>t
 | _,_,i+1,.cons r t=>.cons r (Vals.eraseIdx i t)
theorem Vals.reverse (h:Vals xs us):Vals xs.reverse us.reverse:=by
 induction h with
 | nil=>exact .nil
 | cons r t ih=>rw[gJ,gJ];exact Vals.append ih (.cons r .nil)
theorem b6s {α:Type}(l:List α):l.eraseIdx (l.length - 1)=l.dropLast:=by simp
section
variable {X:Cx}{pins:List (Addr×Obj)}{σ:St}{H:Hp}{s:Shared}{l b:Addr}{xs ys zs:List V}
theorem Inv.lset {its its':List Value}(I:Inv X pins σ H s) (hH:H l=some (.lst xs))
  (e:s.heap.get? l=some { cls:=.type "list",data:=.seq its.toArray n }) (hf:f its.toArray=its'.toArray) (hv:Vals ys its') (hz:ys.length≤jZ) :
  Inv X pins σ (upd H l (.lst ys)) { s with heap:=s.heap.update l (Obj.mapSeq f),toks:=t' }:=by
 have q:=PySem.IsL.update e f;rw[hf]at q;refine I.write (by rw[hH];exact trivial) (.inl rfl) (λc u a b=>(Heap.get?_update_other s.heap _ (Ne.symm a)).trans b) ⟨_,q⟩ ?_;exact⟨hz,its',_,hv,q⟩
theorem Inv.lnew (I:Inv X pins σ H s) (hv:Vals ys its) (hz:ys.length≤jZ) :
  Inv X pins σ (upd H s.heap.objs.size (.lst ys)) { s with heap:=s.heap.push { cls:=.type "list",data:=.seq its.toArray },toks:=t' }:=
 I.laid (λ_ _ q=>Heap.get?_push_of_some _ q) (dS _) ⟨hz,its,0,hv,Heap.get?_push_size _ rfl⟩
theorem Inv.fresh (I:Inv X pins σ H s):H s.heap.objs.size=none:=I.hok.fresh (dS _)
theorem Inv.lstM (I:Inv X pins σ H s) (hH:H l=some (.lst xs)):xs.length≤jZ/\∃ (its:List Value) (n:Nat),Vals xs its/\xs.length=its.length/\s.heap.get? l=some { cls:=.type "list",data:=.seq its.toArray n }:=by
 obtain⟨z,a,n,r,e⟩:=I.hok l _ hH;exact⟨z,a,n,r,r.length,e⟩
theorem b21 (h:n≤jZ):j8.List.listTooLong n=false:=decide_eq_false (by omega)
end
section
variable {X:Cx}
def b5b:V->List V->Hp->VK->Prop:=λx vs H Q=>∃ l xs y,x=.ref l/\vs=[y]/\H l=some (.lst xs)/\xs.length<jZ/\Q .non (upd H l (.lst (xs++[y])))
theorem a7j:MtM X "list.append" b5b:=by
 intro c s σ H x k v o Q I f d h;obtain⟨l,j,y,rfl,rfl,b,i,q⟩:=h;cases f;obtain⟨u,rfl,g⟩:=d.one;obtain⟨z,a,n,r,m,e⟩:=I.lstM b;refine lZ F.slot_list_append ⟨_,e,rfl⟩ F.entry_list_append (F.args_list_append_2 _ _) (PySem.list_append l a.toArray n u (by grind)) ⟨e,?_⟩;refine⟨.non,_,I.lset b e (by simp) (r.append (.cons g .nil)) ?_,rfl,q⟩;rw[dW,ji];omega
def b5c:V->List V->Hp->VK->Prop:=λx vs H Q=>∃ l b xs zs,x=.ref l/\vs=[.ref b]/\H l=some (.lst xs)/\H b=some (.lst zs)/\xs.length+zs.length≤jZ/\Q .non (upd H l (.lst (xs++zs)))
theorem b06:MtM X "list.extend" b5c:=by
 intro k s σ H x A v C Q I i j h;obtain⟨l,b,B,E,rfl,rfl,f,t,G,q⟩:=h;cases i;obtain⟨u,rfl,p⟩:=j.one;cases p;obtain⟨z,c,n,r,D,e⟩:=I.lstM f;obtain⟨J,a,w,m,y,o⟩:=I.lstM t;have g:c.toArray.size+a.toArray.size≤sizeLine:=by grind
 have d:¬ (!c.toArray.isEmpty&&j8.List.listTooLong (c.toArray.size+a.toArray.size))=true:=by
  rw[b21 g,gK];exact eW
 refine lZ F.slot_list_extend ⟨_,e,rfl⟩ F.entry_list_extend (F.args_list_extend_2 _ _)
  (AutoSeq1.list_extend_list_list_0 l c.toArray n b a.toArray w d (by grind) (by omega)) ⟨e,o,?_⟩
 refine⟨.non,_,I.lset f e (by simp) (r.append m) ?_,rfl,q⟩;rw[dW];omega
def rPop:V->List V->Hp->VK->Prop:=λx vs H Q=>∃ l xs y,x=.ref l/\vs=[]/\H l=some (.lst xs)/\xs[xs.length - 1]?=some y/\Q y (upd H l (.lst xs.dropLast))
theorem b65:MtM X "list.pop" rPop:=by
 intro k s σ H x w v t Q I i f h;obtain⟨l,p,y,rfl,rfl,d,g,q⟩:=h;cases i;have c:=f.zero;subst c;obtain⟨z,a,n,r,j,e⟩:=I.lstM d;obtain⟨u,m,o⟩:=r.get g;have b:a.toArray[a.toArray.size - 1]?=some u:=by simp_all
 refine lZ F.slot_list_pop ⟨_,e,rfl⟩ F.entry_list_pop (F.args_list_pop_1 _) (MeetsSeq.list_pop_last l a.toArray n u b (by simp_all)) ⟨e,?_⟩;refine⟨y,_,I.lset d e ?_ r.dropLast ?_,o,q⟩
 ·simp_all
 ·rw[jj];omega
def b66:V->List V->Hp->VK->Prop:=λx vs H Q=>∃ l xs,x=.ref l/\vs=[]/\H l=some (.lst xs)/\Q .non (upd H l (.lst []))
theorem b22:MtM X "list.clear" b66:=by
 intro f s σ H x i v m Q I d g h;obtain⟨l,k,rfl,rfl,c,q⟩:=h;cases d;have b:=g.zero;subst b;obtain⟨z,a,n,r,j,e⟩:=I.lstM c;refine lZ F.slot_list_clear ⟨_,e,rfl⟩ F.entry_list_clear (F.args_list_clear_1 _) (AutoSeq1.list_clear_list_0 l a.toArray n (by grind)) ⟨e,?_⟩;exact⟨.non,_,I.lset c e rfl .nil (eP _),rfl,q⟩
def rCat:R2:=λx y H Q=>∃ l b xs zs,x=.ref l/\y=.ref b/\H l=some (.lst xs)/\H b=some (.lst zs)/\xs.length+zs.length≤jZ/\∀ p,H p=none->Q (.ref p) (upd H p (.lst (xs++zs)))
theorem b67:OpR X (kl .Add) rCat:=by
 intro i s σ H x y v u Q I f k h;obtain⟨l,b,C,w,rfl,rfl,m,d,A,q⟩:=h;cases f;cases k;obtain⟨z,c,n,r,t,e⟩:=I.lstM m;obtain⟨B,a,D,o,p,g⟩:=I.lstM d;refine PySem.P.add_list e g ?_ (by grind);have j:c.toArray++a.toArray=(c++a).toArray:=by simp
 rw[j];exact⟨.ref _,_,I.lnew (r.append o) (by grind),rfl,q _ I.fresh⟩
end
section
variable {prog:j7}{w:World}{A:Around}{E:Value->Shared->Prop}{s:Shared}
end
section
variable {X:Cx}
end
end L2
namespace Att
open PySem PySem.W PySem.Calls PyProof.Rows
theorem a5d:∀ (ns:List Int) (vs:List Value),WellAll P h vs (ns.map WData.int)->kh vs ns:=by
 intro c
 induction c with
 | nil=>
  intro d w;cases w;exact .nil
 | cons n c ih=>
  intro d w;cases w with
  | cons a b=>
   cases a;exact .cons _ _ (ih _ b)
theorem b07 {l:OpenLaw}(hn:l.most=some n)
  (hpre:l.row.toRowW.claim.pre args=true) (hwl:WellAll P h vals args) :
  ∃ a vs ns,vals=[Value.ref a]/\args=[WData.list (ns.map WData.int)]/\h.get? a=some { cls:=.type "list",data:=.seq vs.toArray }/\kh vs ns/\ns.length≤n:=by
 have i:=(pre_splitW hpre).1;have g:l.pre.holds [] { args:=args }=true:=(pre_splitW hpre).2;obtain⟨d,r,rfl,j,m⟩:=hasAllW_cons i;obtain rfl:=hasAllW_nil m;obtain⟨p,rfl,o⟩:=hasW_list j;obtain⟨b,rfl⟩:=items_int o;have f:b.length≤n:=by
  have c:(WTm.not (.lt (.lit (.int n)) (.len (.arg 0)))).holds [] { args:=[.list (b.map .int)] }=true:=by
   have c:=(holds_andW g).1;rw[hn]at c;exact c
  have e:=condW_of c (w_not (w_lt w_lit (w_len_list (w_arg rfl))))
  first
   | (rw[decide_eq_true k]at e;exact absurd e (by simp))
   | (simp at e;omega)
 cases hwl with
 | cons w1 w2=>
  cases w2;cases w1 with
  | list ho hall=>exact⟨_,_,b,rfl,rfl,ho,a5d b _ hall,f⟩
theorem b08 (l:OpenLaw) (args:List WData):l.row.toRowW.claim.post args (.bool true) args=true:=
 postW_of
  (show WShape.has [] _ .bool=true by first | rfl | decide | simp)
  (w_eq_bool (w_res rfl) w_lit) rfl
theorem attach_call {l:OpenLaw}
  (hn:l.most=some n) (hdf:d.params.defaults=[])
  (call:∀ (w:World) (s₀ s₁:Shared) (mg mb:Str->Option Value) (fa:Addr) (o:Obj) (pm cd doc:Value) (a:Addr) (vs:List Value) (ns:List Int),
   Ground q loose [] XP w s₀ mg mb s₁.heap->YP w s₁.heap ->
   s₁.heap.get? fa=some o->o.data=.func (docDef d.name d.params d.body d.scope pm cd doc)->s₁.heap.CodeRec cd d.name->mg d.name=some (.ref fa) ->
   s₁.heap.get? a=some { cls:=.type "list",data:=.seq vs.toArray }->kh vs ns->ns.length≤n->s₁.gens=#[] ->
   kC (model l.prog w) lu (.call (.ref fa) ⟨[.ref a],[]⟩) (λr s'=>r=.ok (.ret (.bool true))/\OldK s₁.heap s'.heap/\s'.os=s₁.os/\kI s'.gens) s₁) :
  WalkO q loose XP YP l.row.toRowW d [] (λf vs=>PySem.call f vs):=by
 intro w C s D y G Y x o F v i Q H L B k h j N u J U c A S m T;obtain rfl:Q=.none:=Dflts.none h hdf;obtain rfl:H=.none:=Dflts.noKw h;obtain⟨a,I,E,rfl,rfl,g,b,e⟩:=b07 hn c m;refine enter_call (lb (call w C s D y x o F v i a I E G Y L (fd_plain B) k j g b e N) λr V R=>?_);obtain⟨rfl,t,z,M⟩:=R;exact⟨.inl ⟨.bool true,.bool true,[],rfl,λ_=>rfl,.bool true,b08 l _,λ_=>⟨gi.nil,λ_ p=>(nomatch p)⟩⟩,t,z,M⟩
section
variable {prog:j7}{w:World}{A:Around}{E:Value->Shared->Prop}{s:Shared}{K:Frag}
end
end Att
namespace L2
open PySem PySem.Spec PyProof.Rows
theorem a7k:∀ {vs:List Value}{ns:List Int},kh vs ns->Vals (ns.map V.int) vs
 | _,_,.nil=>.nil
 | _,_,.cons n t h=>.cons ⟨t,rfl⟩ (a7k h)
def Only (H:Hp):Prop:=∀ b,H b=none\/∃ o xs,H b=some (.frz o (.lst xs))
theorem b23 {K:Fg}
  (KX:K.In s₁.heap) (hns:s₁.heap.Ns j5 mg) (hb:s₁.heap.Ns mE mb) (hbb:∀ x:Str,x≠"__name__"->mb x=kH x) (hlim:s₁.heap.NoLimit) (hg:s₁.gens=#[])
  (ha:s₁.heap.get? a=some { cls:=.type "list",data:=.seq vs.toArray }) (hi:kh vs ns) (hl:ns.length≤jZ) (hr:Room k lu)
  (F:∀ base:Heap,K.In base->base.Ns j5 mg->FnOk P w K mg base CX k fa fd [x] sp) (hbind:∀ (s:Shared) (u:Value),lF s fd ⟨[u],[]⟩ [(x,u)])
  (hsp:∀ H:Hp,Only H->SqL K H a (ns.map V.int)->sp [.ref a] H (λv _=>v=.bl true) λ_ _ _=>False)
  (hCX:∀ H e s',CX [] H s₁ (λ_ _ _=>False) e s'->False) :
  kC (model P w) lu (.call (.ref fa) ⟨[.ref a],[]⟩) (λr s'=>r=.ok (.ret (.bool true))/\OldK s₁.heap s'.heap/\s'.os=s₁.os/\kI s'.gens) s₁:=by
 have L:=a7k hi;have E:=hi.length;have p:∀ H:Hp,Only H->SqL K H a (ns.map V.int)->HOk P w H s₁.heap->(∀ b,H b≠none->b=a)->(H a≠none->K.lookup a=none) ->
   kC (model P w) lu (.call (.ref fa) ⟨[.ref a],[]⟩) (λr j=>r=.ok (.ret (.bool true))/\OldK s₁.heap j.heap/\j.os=s₁.os/\kI j.gens) s₁:=by
  intro H I R y G X;have f:∀ {b:Addr}{o:Obj},s₁.heap.get? b=some o->H b=none->(hidT s₁.heap H).get? b=some o:=λe n=>b2N e n;have N:∀ {b:Addr}{o:Obj}{i:Array mN}{l:Nat},s₁.heap.get? b=some o->o.data=.dict i l->H b=none:=λ{b o i l} e d=>by grind
  have g:∀ {b:Addr}{m:Str->Option Value},s₁.heap.Ns b m->(hidT s₁.heap H).Ns b m:=λ{b m} ⟨o,i,l,e,d,r⟩=>⟨o,i,l,f e (N e d),d,r⟩;have A:=λb o e=>f (KX b o e) (by grind);have T:Mod K mg (hidT s₁.heap H):=⟨A,g hns,⟨mb,g hb,hbb⟩,let ⟨mc,h1,h2⟩:=hlim;⟨mc,g h1,h2⟩⟩;have U:Env0 P w K mg (hidT s₁.heap H) lu [] s₁ H:=⟨rfl,T,λb o e=>b4T e,fL (b0I _ _),trivial,λb hb=>absurd (show b∈([]) from hb) (by simp),y,.of_eq hg⟩;refine lb ((F _ A (g hns)).run lu [] s₁ H ⟨[.ref a],[]⟩ [.ref a] [.ref a] _ _ hr U (hbind s₁ (.ref a)) (.cons rfl .nil) (hsp H I R)) λr j h=>?_;cases r with
  | error e=>exact (hCX H e j h).elim
  | ok fl=>
   cases fl with
   | next=>exact ei h
   | brk=>exact ei h
   | cont=>exact ei h
   | ret u=>
    obtain⟨v,H',Q,C,J,B,S,q⟩:=h;have q':=q;subst q';obtain rfl:u=Value.bool true:=S;refine⟨rfl,OldK.of_keep λb o e=>?_,Q,C⟩;cases q:H b with
    | none=>exact J.keep b o e q (by intro z;exact absurd (show b∈([]) from z) (by simp)) (by simp)
    | some u=>
     rcases I b with z | ⟨ob,xs,z⟩
     ·rw[q]at z;cases z
     ·have z2:=J.frzs b ob _ z;obtain⟨M,_⟩:=y b _ z;obtain⟨Y,_⟩:=B b _ z2;rw[e]at M;cases M;exact Y
 cases hk:K.lookup a with
 | some o=>
  have e:=KX a o hk;rw[ha]at e;cases e;refine p _ (λ_=>.inl rfl) (.inr ⟨_,vs.toArray,_,hk,rfl,rfl,rfl,by rw[e8,E];exact hl,by simpa using L⟩) (λb u z=>by have t:=z;cases t) (λb z=>absurd rfl z) λz=>absurd rfl z
 | none=>
  refine p (λb=>if b=a then some _ else none) (λb=>?_) (.inl (.inr ⟨{ cls:=.type "list",data:=.seq vs.toArray },if_pos rfl⟩)) (λb u z=>?_) (λb z=>?_) λ_=>hk
  ·grind
  ·by_cases hb:b=a
   ·have t:=(if_pos hb).symm.trans z;cases t;subst hb;exact⟨ha,by rw[dQ];exact hl,vs,_,L,ha⟩
   ·have t:=(if_neg hb).symm.trans z;cases t
  ·by_cases hb:b=a
   ·exact hb
   ·exact absurd (if_neg hb) z
end L2
namespace L2
open PySem PySem.Spec PyProof.Rows
theorem walk_of {l:PySem.W.OpenLaw}{K:Params->Fg}{CX:World->CXT}{sp:World->Sp}
  (hn:l.most=some n) (hn2:n≤jZ) (hdf:d.params.defaults=[]) (hr:Room k lu)
  (hY:∀ (w:World) (h:Heap),YP w h->(K w.params).In h)
  (F:∀ (w:World) (mg:Str->Option Value) (fa:Addr) (h:Heap),(K w.params).In h->h.Ns j5 mg->mg d.name=some (.ref fa) ->
   ∃ fd:j9,(∀ (s:Shared) (u:Value),lF s fd ⟨[u],[]⟩ [(x,u)]) /\
    ∀ base:Heap,(K w.params).In base->base.Ns j5 mg->FnOk l.prog w (K w.params) mg base (CX w) k fa fd [x] (sp w))
  (hsp:∀ (w:World) (H:Hp) (a:Addr) (ns:List Int),ns.length≤n->Only H->SqL (K w.params) H a (ns.map V.int)->sp w [.ref a] H (λv _=>v=.bl true) λ_ _ _=>False)
  (hCX:∀ (w:World) (H:Hp) (s:Shared) (e:Value) (s':Shared),CX w [] H s (λ_ _ _=>False) e s'->False) :
  PySem.W.WalkO q loose XP YP l.row.toRowW d [] (λf vs=>PySem.call f vs):=by
 refine Att.attach_call hn hdf λw N r y U B o R Q J a S z G Y X M L p j i c D=>?_;have m:=hY w _ Y;obtain⟨fd,C,A⟩:=F w y B _ m G.T.g p;exact b23 m G.T.g G.T.b G.T.builtins G.T.nolimit D j i (eD c hn2) hr A C (λH I E=>hsp w H a z c I E) λH e t=>hCX w H r e t
end L2
namespace L2
open PySem PySem.Spec PyProof.Rows
def a3n (s:Stmt) (j:Nat):Stmt:=match s with
 | .ClassDef _ _ _ body _ _ _ _ _ _ _=>body.getD j (.Pass ⟨0,0,0,0⟩)
 | _=>.Pass ⟨0,0,0,0⟩
def a3o (s:Stmt):Arguments:=match s with
 | .FunctionDef _ a _ _ _ _ _ _ _ _=>a
 | _=>{ posonlyargs:=[],args:=[],vararg:=none,kwonlyargs:=[],kw_defaults:=[],kwarg:=none,defaults:=[] }
def a2e (s:Stmt):List Stmt:=match s with
 | .FunctionDef _ _ b _ _ _ _ _ _ _=>b
 | _=>[]
def a0i (s:Stmt):Scope:=match s with
 | .FunctionDef _ _ _ _ _ _ sc _ _ _=>sc
 | _=>{ kind:=.function,names:=[],isGenerator:=false,isCoroutine:=false }
abbrev CX0:CXT:=λ_ _ _ _ _ _=>False
abbrev E0:XK:=λ_ _ _=>False
theorem b5d:a2I CX0 X E0:=λ_ _ _ _ _ _ _ h=>h.elim
structure Fun (K:Fg) (x qual:Str) (st:Stmt) (f:Addr) (fd:j9):Prop where
 ex:∃ (oc:Value) (od:Option Addr) (kV doc pm:Value) (an:Option Addr) (cdv ct:Value) (osl:Array (Option Value)),
  fd=PySem.W.fnOf x qual (a3o st) (a2e st) (a0i st) .none kV doc pm an cdv ct/\K.lookup f=some ⟨oc,od,.func fd,osl⟩/\PySem.W.codeIn K cdv qual=true
 kp:PySem.W.keepIn K (.ref f)=true
section
variable {P:j7}{w:World}{K:Fg}{mg:Str->Option Value}{base:Heap}
theorem Fun.ok {st:Stmt}(F:Fun K x qual st f fd) (S:FnScope N ps (a0i st)) (len:∀ vs H Q E,sp vs H Q E->vs.length=ps.length)
  (hbody:∀ (cdv:Value) (A:Around) (outer:List Env) (s:Shared) (H:Hp) (vs:List V) (Q:VK) (E:XK),Room k (A.deeper (envOfC qual (a0i st) s.heap.objs.size f cdv))->sp vs H Q E ->
   ∃ t,PSs (cxOf CX0 P w K mg base N qual (a0i st) f cdv A outer s H E).nox (a2e st) t/\t { nx:=λ_ H'=>Q .non H',rt:=Q } (start N vs) H):FnOk P w K mg base CX0 (k+1) f fd ps sp:=by
 obtain⟨n,u,r,l,m,o,c,p,j,rfl,i,d⟩:=F.ex;refine b61 i d S len λA a s H g Q E e b=>?_;obtain⟨t,h,q⟩:=hbody c A a s H g Q E e b;exact⟨t,h.nox,q⟩
theorem Fun.binds {st:Stmt}(F:Fun K x qual st f fd)
  (h:∀ (kV doc pm:Value) (an:Option Addr) (cdv ct:Value) (us:List Value),us.length=ps.length->bindArgs (PySem.W.fnOf x qual (a3o st) (a2e st) (a0i st) .none kV doc pm an cdv ct) ⟨us,[]⟩=pure (ps.zip us)):Binds K fd ps []:=by
 obtain⟨k,l,g,a,e,d,b,c,i,rfl,m,j⟩:=F.ex;exact .all (h g a e d b c)
theorem b4o {st:Stmt}{kV doc pm cdv ct:Value}(l:K.lookup f=some ⟨oc,od,.func (PySem.W.fnOf x qual (a3o st) (a2e st) (a0i st) .none kV doc pm an cdv ct),osl⟩)
  (c:PySem.W.codeIn K cdv qual=true) (k:PySem.W.keepIn K (.ref f)=true):Fun K x qual st f (PySem.W.fnOf x qual (a3o st) (a2e st) (a0i st) .none kV doc pm an cdv ct):=⟨⟨oc,od,kV,doc,pm,an,cdv,ct,osl,rfl,l,c⟩,k⟩
end
theorem a0t (h:n≤1000):n<sizeLine:=ie h (by decide)
section
variable {X:Cx}
theorem pv (i:Nat) (hN:X.N[i]?=some x:=by rfl) (hv:Vis X.env.scope x:=by first | exact dR rfl | exact ig (dR rfl) | exact ig (ig rfl)) (hd:(x==("__debug__":Str))=false:=by decide)
  (hcd:(x==("__classdict__":Str))=false:=by decide):PE X (.Name x pos) (tVar i):=b6v hN hv hd hcd
end
def Same (H H':Hp):Prop:=∀ b o,H b=some o->H' b=some o
theorem Same.refl (H:Hp):Same H H:=λ_ _ h=>h
theorem Same.trans (a:Same H H1) (b:Same H1 H2):Same H H2:=λc o h=>b c o (a c o h)
theorem Same.free (e:Same H H') (h:H' l=Option.none):H l=Option.none:=by
 cases q:H l with
 | none=>rfl
 | some o=>
  rw[e l o q]at h;cases h
theorem Same.seq {K:Fg}(e:Same H H') (h:SqL K H a xs):SqL K H' a xs:=by
 rcases h with (h | ⟨o,h⟩) | h
 ·exact .inl (.inl (e _ _ h))
 ·exact .inl (.inr ⟨o,e _ _ h⟩)
 ·exact .inr h
end L2
namespace L2
open PySem PySem.Spec PyProof.Rows
section
variable {κ:Type}[DecidableEq κ]
def valV (kvs:List (κ×V)) (k:κ):Option V:=(kvs.find? λkv=>decide (kv.1=k)).map (·.2)
noncomputable def putK (kvs:List (κ×V)) (k:κ) (v:V):List (κ×V):=
 if (kvs.any λkv=>decide (kv.1=k))=true then kvs.map (λkv=>if kv.1=k then (kv.1,v) else kv) else kvs++[(k,v)]
def b68 (kvs:List (κ×V)) (k:κ):List (κ×V):=kvs.filter λkv=>decide (kv.1≠k)
theorem a6z {k:κ}(e:p.1=k):valV (p::r) k=some p.2:=by simp[valV,fu,e]
theorem a6A {k:κ}(e:¬ p.1=k):valV (p::r) k=valV r k:=by simp[valV,fu,e]
theorem a80 (k:κ):∀ kvs:List (κ×V),(kvs.any λkv=>decide (kv.1=k))=(valV kvs k).isSome
 | []=>rfl
 | p::r=>by
  rw[gj]
  by_cases e:p.1=k
  ·simp only[a6z e,decide_eq_true e,Bool.true_or,Option.isSome_some]
  ·rw[a6A e,decide_eq_false e,jk];exact a80 k r
theorem a5e (kvs:List (κ×V)) (k:κ) (v:V):(putK kvs k v).length≤kvs.length+1:=by grind [putK]
theorem RelO.isSome_eq (r:RelO o u):o.isSome=u.isSome:=by
 cases o with
 | none=>cases u with
  | none=>rfl
  | some _=>exact (r).elim
 | some _=>cases u with
  | none=>exact (r).elim
  | some _=>rfl
theorem RelO.getD (r:RelO o u) (rd:RelV d d'):RelV (o.getD d) (u.getD d'):=by
 cases o with
 | none=>cases u with
  | none=>exact rd
  | some _=>exact (r).elim
 | some _=>cases u with
  | none=>exact (r).elim
  | some _=>exact r
theorem KV.val (r:KV kvs vs) (k:κ):RelO (valV kvs k) (lH vs k):=by
 induction r with
 | nil=>exact True.intro
 | @cons p q ps qs h t ih=>
  obtain⟨c,d⟩:=h
  by_cases e:p.1=k
  ·have a:=c.symm.trans e;have b:lH (q::qs) k=some q.2:=by simp[lH,a]
   rw[a6z e,b];exact d
  ·have a:¬ q.1=k:=λz=>e (c.trans z);have b:lH (q::qs) k=lH qs k:=by simp[lH,a]
   rw[a6A e,b];exact ih
theorem KV.any (r:KV kvs vs) (k:κ):(kvs.any λkv=>decide (kv.1=k))=vs.any λkv=>decide (kv.1=k):=by
 induction r with
 | nil=>rfl
 | cons h t ih=>rw[gj,gj,ih,h.1]
theorem KV.repl (r:KV kvs vs) (k:κ) (ry:RelV y u) :
  KV (kvs.map λkv=>if kv.1=k then (kv.1,y) else kv) (vs.map λkv=>if kv.1=k then (kv.1,u) else kv):=by
 induction r with
 | nil=>exact .nil
 | @cons p q ps qs h t ih=>
  rw[eE,eE];refine .cons ?_ ih;obtain⟨a,b⟩:=h
  by_cases e:p.1=k
  ·rw[if_pos e,if_pos (a.symm.trans e)];exact⟨a,ry⟩
  ·rw[if_neg e,if_neg (λz=>e (a.trans z))];exact⟨a,b⟩
theorem KV.put (r:KV kvs vs) (k:κ) (ry:RelV y u):KV (putK kvs k y) (stored vs k u):=by
 unfold putK stored;rw[r.any k]
 by_cases e:(vs.any λkv=>decide (kv.1=k))=true
 ·rw[if_pos e,if_pos e];exact r.repl k ry
 ·rw[if_neg e,if_neg e];exact Paired.snoc r ⟨rfl,ry⟩
theorem KV.drop (r:KV kvs vs) (k:κ):KV (b68 kvs k) (without vs k):=by
 unfold b68 without
 induction r with
 | nil=>exact .nil
 | @cons p q ps qs h t ih=>
  obtain⟨c,d⟩:=h;rw[fS,fS]
  by_cases e:p.1=k
  ·simp_all
  ·have f:¬ q.1=k:=λz=>e (c.trans z);have a:decide (p.1≠k)=true:=by simp[e]
   have b:decide (q.1≠k)=true:=by simp[f]
   rw[if_pos a,if_pos b];exact .cons ⟨c,d⟩ ih
theorem KV.keys {kvs:List (κ×V)}(r:KV kvs vs):kvs.map (·.1)=vs.map (·.1):=by
 induction r with
 | nil=>rfl
 | cons h t ih=>rw[eE,eE,ih,h.1]
theorem KV.length (r:KV kvs vs):kvs.length=vs.length:=Paired.length r
end
theorem b09 (r:RelV (kV k) u):(a0O P w).is k u=true:=by
 match k,r with
 | .inl (some i),r=>obtain⟨t,e⟩:=(r);subst e;exact a8l P w i t
 | .inl none,r=>rw[r];rfl
 | .inr x,r=>obtain⟨t,e⟩:=(r);subst e;exact a8m P w x t
theorem a7l:∀ {ks:List Key}{us:List Value},Vals (ks.map kV) us->ItemsAre (a0O P w) ks us
 | [],_,r=>by rw[eT]at r;cases r;exact .nil
 | k::ks,_,r=>by
  cases r with
  | cons h t=>exact .cons (b09 h) (a7l t)
abbrev KT (H:Hp):List (List Key×V)->List (List Key×Addr×Value)->Prop:=Paired λp q=>p.1=q.1/\H q.2.1=some (.tup (p.1.map kV))/\RelV p.2 q.2.2
theorem KT.val (r:KT H kvs xs) (k:List Key):RelO (valV kvs k) ((atKey xs k).map (·.2)):=by
 induction r with
 | nil=>exact True.intro
 | @cons p q ps qs h t ih=>
  obtain⟨c,_,d⟩:=h
  by_cases e:p.1=k
  ·have a:=c.symm.trans e;have b:atKey (q::qs) k=some q.2:=by simp[atKey,a]
   rw[a6z e,b];exact d
  ·have a:¬ q.1=k:=λz=>e (c.trans z);have b:atKey (q::qs) k=atKey qs k:=by simp[atKey,a]
   rw[a6A e,b];exact ih
theorem KT.repl (r:KT H kvs xs) (k:List Key) (ry:RelV y u) :
  KT H (kvs.map λkv=>if kv.1=k then (kv.1,y) else kv) (xs.map (putAt k u)):=by
 induction r with
 | nil=>exact .nil
 | @cons p q ps qs h t ih=>
  rw[eE,eE];refine .cons ?_ ih;obtain⟨a,b,c⟩:=h;unfold putAt
  by_cases e:p.1=k
  ·rw[if_pos e,if_pos (a.symm.trans e)];exact⟨a,b,ry⟩
  ·rw[if_neg e,if_neg (λz=>e (a.trans z))];exact⟨a,b,c⟩
theorem KT.put (r:KT H kvs xs) (k:List Key) (hb:H b=some (.tup (k.map kV))) (ry:RelV y u) :
  KT H (putK kvs k y) (storedH xs k b u):=by
 have e:(kvs.any λa=>decide (a.1=k))=(atKey xs k).isSome:=by
  rw[a80,(r.val k).isSome_eq,Option.isSome_map]
 unfold putK storedH;rw[e]
 by_cases q:(atKey xs k).isSome=true
 ·rw[if_pos q,if_pos q];exact r.repl k ry
 ·rw[if_neg q,if_neg q];exact Paired.snoc r ⟨rfl,hb,ry⟩
theorem KT.keeps (r:KT H kvs xs) (ht:∀ b ys,H b=some (.tup ys)->H' b=some (.tup ys)):KT H' kvs xs:=
 Paired.mapP r λ_ _ z=>⟨z.1,ht _ _ z.2.1,z.2.2⟩
section
variable {P:j7}{w:World}{H:Hp}{h:Heap}{a:Addr}
theorem b69 (ok:HOk P w H h) (e:Rd H a u):ObjOk P w H h a u:=e.ok ok
theorem b7a (ok:HOk P w H h) (e:Rd H a (.dK kvs)):kvs.length≤jZ/\(a==kL)=false/\∃ vs,KV kvs vs/\h.DictOf (a0O P w) a vs:=
 b69 ok e
theorem b24 (ok:HOk P w H h) (e:H a=some (.dK kvs)):kvs.length≤jZ/\(a==kL)=false/\∃ vs,KV kvs vs/\h.DictOf (a0O P w) a vs:=b7a ok (.inl e)
theorem b4p (ok:HOk P w H h) (e:H a=some (.tup (ks.map kV))):(ma (a0O P w)).is h ks a:=by
 obtain⟨_,b,r,o,d,c,n,f⟩:=(ok a _ e);exact⟨o,b.toArray,n,d,c,f,by simpa using a7l r⟩
theorem b9G (ok:HOk P w H h) (e:Rd H a (.dT kvs)):kvs.length≤jZ/\(a==kL)=false /\
  ∃ xs,KT H kvs xs/\h.DictOfH (ma (a0O P w)) a xs:=by
 obtain⟨z,y,g,r,o,d,s,j,k,f,n,i⟩:=(b69 ok e);refine⟨z,y,g,r,o,d,s,j,k,f,n,λx b=>?_,i⟩;have c:∀ {l:List _}{m:List _},KT H l m->∀ x∈m,(ma (a0O P w)).is h x.1 x.2.1:=by
  intro l m q
  induction q with
  | nil=>intro x b;exact nomatch b
  | @cons p q ps qs hq t ih=>
   intro x b;rcases dY.mp b with e | b
   ·subst e;exact b4p ok (by simp_all)
   ·exact ih x b
 exact c r x b
end
def DGet (H:Hp) (a:Addr) (y:V) (r:Option V):Prop:=
 (∃ kvs k,Rd H a (.dK kvs)/\y=kV k/\r=valV kvs k)\/∃ kvs k b,Rd H a (.dT kvs)/\y=.ref b/\H b=some (.tup (k.map kV))/\r=valV kvs k
def DPut (H:Hp) (a:Addr) (y v:V) (H':Hp):Prop:=
 (∃ kvs k,H a=some (.dK kvs)/\y=kV k/\kvs.length<jZ/\H'=upd H a (.dK (putK kvs k v))) \/
 ∃ kvs k b,H a=some (.dT kvs)/\y=.ref b/\H b=some (.tup (k.map kV))/\kvs.length<jZ/\H'=upd H a (.dT (putK kvs k v))
theorem DGet.k {k:Key}(e:H a=some (.dK kvs)):DGet H a (kV k) (valV kvs k):=.inl ⟨kvs,k,.inl e,rfl,rfl⟩
theorem DGet.t {k:List Key}(e:H a=some (.dT kvs)) (eb:H b=some (.tup (k.map kV))):DGet H a (.ref b) (valV kvs k):=.inr ⟨kvs,k,b,.inl e,rfl,eb,rfl⟩
theorem DPut.k {k:Key}(e:H a=some (.dK kvs)) (hl:kvs.length<jZ):DPut H a (kV k) v (upd H a (.dK (putK kvs k v))):=.inl ⟨kvs,k,e,rfl,hl,rfl⟩
theorem DPut.t {k:List Key}(e:H a=some (.dT kvs)) (eb:H b=some (.tup (k.map kV))) (hl:kvs.length<jZ) :
  DPut H a (.ref b) v (upd H a (.dT (putK kvs k v))):=.inr ⟨kvs,k,b,e,rfl,eb,hl,rfl⟩
section
variable {X:Cx}{pins:List (Addr×Obj)}{σ:St}{H:Hp}{s:Shared}{a:Addr}{y v:V}{u r:Value}{o:Option V}{A:Around}{E:Value->Shared->Prop}
theorem Inv.big (I:Inv X pins σ H s):kL<s.heap.objs.size:=by
 have h:=(I.mod.glob.keeps I.bk).lt;exact gq (by decide) h
theorem b5e (I:Inv X pins σ H s) (mu:Mut (H a)) (hs:Heap.SameBut a s.heap h') (he:∃ q,h'.get? a=some q) (new:ObjOk X.prog X.w (upd H a ob) h' a ob) :
  Inv X pins σ (upd H a ob) { s with heap:=h',toks:=t' }:=
 I.write mu (.inl rfl) (λb q c z=>(hs.2 b c).trans z) he new
theorem b7b (z:kvs.length≤jZ) (hd:(a==kL)=false) (rel:KV kvs vs) (dd:h'.DictOf (a0O P w) a vs) :
  ObjOk P w H' h' a (.dK kvs):=⟨z,hd,vs,rel,dd⟩
end
section
variable {X:Cx}{pins:List (Addr×Obj)}{σ:St}{H:Hp}{s:Shared}{a:Addr}{kvs:List (Key×V)}{k:Key}{u:Value}{A:Around}{E:Value->Shared->Prop}
end
section
variable {X:Cx}{o i e value:Expr}{pos pos' tpos:Pos}{td ty tv:TE}
end
theorem a81 (h:Heap) (hb:kL<h.objs.size):ObjOk P w H (h.push { cls:=.type "dict",data:=.dict #[] }) h.objs.size (.dK []):=
 ⟨eP _,beq_eq_false_iff_ne.mpr (Ne.symm (eu hb)),[],.nil,Heap.DictOf.new h⟩
def b7c:TE:=λ_ H Q=>∀ p,H p=none->Q (.ref p) (upd H p (.dK []))
section
variable {X:Cx}{pos:Pos}
theorem b25:PE X (.Dict [] [] pos) b7c:=λb s σ H Q I h=>
 wpAny_Dict_empty ⟨.ref s.heap.objs.size,_,I.laid (λ_ _ q=>Heap.get?_push_of_some _ q) (dS _) (a81 s.heap I.big),rfl,h _ (I.hok.fresh (dS _))⟩
end
def b7d (kvs more:List (Key×V)):List (Key×V):=more.foldl (λacc kv=>putK acc kv.1 kv.2) kvs
theorem KV.merge:∀ {more:List (Key×V)}{rs:List (Key×Value)}{kvs:List (Key×V)}{vs:List (Key×Value)},KV more rs->KV kvs vs->KV (b7d kvs more) (merged vs rs):=by
 intro d f a b r
 induction r generalizing a b with
 | nil=>intro q;exact q
 | @cons p q ps qs h t ih=>
  intro c;have e:KV (putK a p.1 p.2) (stored b q.1 q.2):=by
   have:=c.put p.1 h.2
   rw[<- h.1];exact this
  exact ih e
section
variable {X:Cx}{pins:List (Addr×Obj)}{σ:St}{H:Hp}{s:Shared}{a:Addr}{y d:V}{u r:Value}{o:Option V}{A:Around}{E:Value->Shared->Prop}
theorem b7e (hu:A.units+1<cLine) (I:Inv X pins σ H s) (g:DGet H a y o) (ry:RelV y u) (rd:RelV d r) (h:∀ w' s',Inv X pins σ H s'->RelV (o.getD d) w'->Q w' s') :
  wpAny (model X.prog X.w) A (call (.builtin "dict.get") [.ref a,u,r]) Q E s:=by
 rcases g with ⟨kvs,k,e,ey,l⟩ | ⟨kvs,k,b,e,ey,eb,l⟩
 ·subst ey;obtain⟨z,i,m,f,c⟩:=b7a I.hok e;refine mT PySem.F.slot_dict_get c.typeIs PySem.F.entry_dict_get (PySem.F.args_dict_get_3 _ _ _) (meets_dict_get_default _ a (b09 ry) i r) ⟨_,c.mapOf,h _ _ (I.tok _) ?_⟩;rw[l];exact (f.val k).getD rd
 ·subst ey;cases (ry);obtain⟨z,i,j,f,c⟩:=b9G I.hok e;refine mT PySem.F.slot_dict_get c.typeIs PySem.F.entry_dict_get (PySem.F.args_dict_get_3 _ _ _) (meetsH_dict_get_default _ a b i r) ⟨tupleKind_room_in1 hu,k,j,b4p I.hok eb,c,h _ _ (I.tok _) ?_⟩;rw[l];exact (f.val k).getD rd
end
section
variable {X:Cx}{o e f:Expr}{apos cpos:Pos}{td ty tx:TE}
end
section
variable {X:Cx}{pins:List (Addr×Obj)}{σ:St}{H:Hp}{s:Shared}{a:Addr}{kvs:List (Key×V)}{A:Around}{E:Value->Shared->Prop}
end
section
variable {X:Cx}{pins:List (Addr×Obj)}{σ:St}{H:Hp}{s:Shared}{a:Addr}{y:V}{u:Value}{A:Around}{E:Value->Shared->Prop}
end
end L2
namespace PySem
noncomputable def a1a (env:Env):List (Str×kc)->List (Str×Addr)->List (Str×Addr)
 | [],cs=>cs
 | (n,k)::r,cs=>if (k==.free)=true then a1a env r ((n,(env.cells.lookup n).getD 0)::cs) else a1a env r cs
theorem a6B (h:∀ x∈scope.names,x.2=.free->∃ c,env.cells.lookup x.1=some c):closureFor scope env=pure (a1a env scope.names []):=by
 simp only[closureFor]
 suffices H:∀ l b,(∀ x∈l,x.2=.free->∃ c,env.cells.lookup x.1=some c) ->
   forIn l b _=pure (a1a env l b) by
  rw[H scope.names [] h];rfl
 intro l
 induction l with
 | nil=>intro b _;rfl
 | cons x l ih=>
  intro b j;obtain⟨n,k⟩:=x;have g:=λb=>ih b λy o=>j y (fi _ o);rw[List.forIn_cons]
  by_cases hk:k=.free
  ·subst hk;obtain⟨c,m⟩:=j _ ft rfl;have f:cellOf env n=pure c:=by unfold cellOf;rw[m]
   rw[if_pos (show (kc.free==kc.free)=true from rfl),f];have e:a1a env ((n,kc.free)::l) b=a1a env l ((n,c)::b):=by
    show (if (kc.free==kc.free)=true then _ else _)=_
    rw[m];rfl
   rw[e,<- g ((n,c)::b)]
   rfl
  ·have i:(k==kc.free)=false:=by simpa using hk
   have e:a1a env ((n,k)::l) b=a1a env l b:=by
    show (if (k==kc.free)=true then _ else _)=_
    rw[i];rfl
   rw[e,<- g b];rw[i,if_neg eW]
   rfl
theorem a2t:∀ (l:List (Str×kc)) (cs:List (Str×Addr)),(∀ y∈l,y.2=.free->∃ c,env.cells.lookup y.1=some c)->(∀ y c,cs.lookup y=some c->env.cells.lookup y=some c) ->
  ∀ c,(a1a env l cs).lookup x=some c->env.cells.lookup x=some c
 | [],cs,_,hc,c,h=>hc x c h
 | (n,k)::r,cs,hx,hc,c,h=>by
  have g:=λy m=>hx y (fi _ m);unfold a1a at h
  split at h
  ·rename_i hk
   have f:k=.free:=by simpa using hk
   obtain⟨d,j⟩:=hx (n,k) ft f;refine a2t r _ g (λy i a=>?_) c h;rw[fv]at a;cases e:y==n with
   | true=>
    rw[e]at a;have o:y=n:=by simpa using e
    subst o;have b:=j;rw[b]at a ⊢;exact a
   | false=>rw[e]at a;exact hc y i a
  ·exact a2t r cs g hc c h
theorem a2u:∀ (l:List (Str×kc)) (cs:List (Str×Addr)) (c:Addr),cs.lookup x=some c->∃ c',(a1a env l cs).lookup x=some c'
 | [],cs,c,h=>⟨c,h⟩
 | (n,k)::r,cs,c,h=>by
  unfold a1a
  split
  ·cases e:x==n with
   | true=>exact a2u r _ _ (by rw[fv,e])
   | false=>exact a2u r _ c (by rw[fv,e];exact h)
  ·exact a2u r cs c h
theorem a21:∀ (l:List (Str×kc)) (cs:List (Str×Addr)),(x,kc.free)∈l->∃ c,(a1a env l cs).lookup x=some c
 | [],cs,h=>by cases h
 | _::r,cs,h=>by
  unfold a1a;rcases dY.mp h with e | e
  ·cases e;exact a2u r _ ((env.cells.lookup x).getD 0) (by simp)
  ·split
   ·exact a21 r _ e
   ·exact a21 r _ e
end PySem
namespace PySem
theorem a3g {env:Env}:∀ (names:List (Str×kc)),
  (names.map λ(n,k)=>if (k==kc.free&&env.scope.kind==.function&&env.kindOf n==some .cell) then (n,kc.cell) else (n,k)).lookup x =
   (names.lookup x).map λk=>if (k==kc.free&&env.scope.kind==.function&&env.kindOf x==some .cell)=true then kc.cell else k
 | []=>rfl
 | (n,k)::r=>by
  have a:=a3g (env:=env) (x:=x) r
  show h8 x ((if _=true then _ else (n,k))::_)=_
  cases hx:x==n with
  | true=>
   have e:x=n:=by grind
   subst e
   by_cases hc:(k==kc.free&&env.scope.kind==.function&&env.kindOf x==some .cell)=true
   simp only[fv,hx,gx,if_pos hc];simp only[fv,hx,gx,if_neg hc]
  | false=>
   by_cases hc:(k==kc.free&&env.scope.kind==.function&&env.kindOf n==some .cell)=true
   ·rw[if_pos hc];simp only[fv,hx];exact a
   ·rw[if_neg hc];simp only[fv,hx];exact a
theorem a3p (I:Nat->Shared->Prop)
  (turn:∀ n s,I n s->wpAny (model prog w) A (pyNext it) (λr s₁=>match r with
   | none=>R (.ok .next) s₁
   | some v=>wpAny (model prog w) A (mL target it v) (λ_ s₁=>wpAny (model prog w) A (assign target env v) (λ_ s₂=>
     wpAny (model prog w) A (forIn ifs true λc r=>if r=true then do let ok <- isTrue c env (eval c env);pure (ForInStep.yield ok) else pure (ForInStep.yield r)) (λok s₃=>
      if ok=true then wpAny (model prog w) A (eval elt env) (λx s₄=>
       wpAny (model prog w) A (call (.builtin "list.append") [acc,x]) (λ_ s₅=>∃ m,m<n/\I m s₅) (lI (model prog w) A env λe s'=>R (.error e) s') s₄) (lI (model prog w) A env λe s'=>R (.error e) s') s₃
      else ∃ m,m<n/\I m s₃) (lI (model prog w) A env λe s'=>R (.error e) s') s₂) (lI (model prog w) A env λe s'=>R (.error e) s') s₁) (λ_ _=>False) s₁) (λ_ _=>False) s)
  (n:Nat) (h:I n s) :
  kC (model prog w) A (.compLoop (.ListComp elt [⟨target,iter,ifs,0⟩] scope pos) 0 it acc env) R s:=by
 refine codeAny_loop rfl I (λn s k=>?_) n h;refine wpAny_noted ?_;refine jX (mI (jX (kg (turn n s k) (λr d a=>?_) λ_ _ f=>f.elim)));cases r with
 | none=>exact jY a
 | some v=>
  refine jX (kg a (λ_ d a=>?_) λ_ _ f=>f.elim);refine jX (kg a (λ_ p g=>jX (kg g (λl z b=>?_) λ_ _ f=>f)) λ_ _ f=>f);cases l with
  | false=>exact jY ⟨rfl,b⟩
  | true=>
   exact jX (jX (kg b (λx o i=>jX (kg i (λ_ u j=>jY (jY ⟨rfl,j⟩)) λ_ _ f=>f)) λ_ _ f=>f))
theorem a1B:∀ (names:List (Str×kc)) (n:Nat) (acc:List (Str×Addr)),kf n names acc=kf n names []++acc
 | [],_,_=>rfl
 | (x,k)::r,n,acc=>by
  rw[kf,kf]
  split
  ·rw[a1B r _ _,a1B r _ [_]];simp
  ·exact a1B r n acc
theorem a5f:∀ {names:List (Str×kc)}{n:Nat},(x,c)∈kf n names []->(x,kc.cell)∈names
 | [],_,h=>by rw[kf]at h;simp at h
 | _::r,n,h=>by
  rw[kf]at h
  split at h
  ·next e=>
   rw[a1B,dU]at h;rcases h with h | h
   ·exact .tail _ (a5f h)
   ·grind
  ·exact .tail _ (a5f h)
theorem a6C {code:Value}
  (h:∀ h',h'.Ns s.heap.objs.size (λ_=>none)->(∀ b o,s.heap.get? b=some o->h'.get? b=some o)->mj h' (s.heap.objs.size+1) (kf (s.heap.objs.size+1) scope.names [])->Q (newEnv scope s.heap.objs.size globals (kf (s.heap.objs.size+1) scope.names closure) qual func code around builtins) { s with heap:=h' }) :
  wpAny M A (newFunctionEnv scope globals closure [] qual func code around builtins) Q E s:=by
 refine jX (wpAny_alloc (jX (wpAny_layCells _ (λ_ _ _=>rfl) scope.names closure _ _ ?_)));have e:=Heap.size_push s.heap { cls:=Value.type (if around.isSome=true then "dict" else "frame"),data:=.dict #[] };have q:=h _ ((Heap.Ns.new s.heap _).keeps (pushCells_keeps _ _)) (λb o h=>pushCells_keeps _ _ _ _ (Heap.get?_push_of_some _ h)) (by
  rw[<- e];exact cellsFrom_ok scope.names _ _ [] ⟨λ_ _ h=>by simp at h,.nil⟩ (dS _))
 rw[<- e]at q;exact jX (jY (jY q))
end PySem
namespace L2
open PySem PySem.Spec PyProof.Rows
noncomputable def a4b (cap:List (Option Nat)) (σ:St):St:=cap.map λo=>o.bind λj=>(σ[j]?).join
def a2v:St->St->Prop
 | [],[]=>True
 | none::a,_::b=>a2v a b
 | some x::a,y::b=>y=some x/\a2v a b
 | _,_=>False
theorem a4c:∀ {a b:St},a2v a b->a.length=b.length/\∀ (i:Nat) v,a[i]?=some (some v)->b[i]?=some (some v)
 | [],[],_=>⟨rfl,λi v h=>by simp at h⟩
 | none::a,y::b,h=>by
  have c:=a4c (b:=b) h;refine⟨by simp[c.1],λi v e=>?_⟩;cases i with
  | zero=>simp at e
  | succ i=>simpa using c.2 i v (by simp_all)
 | some x::a,y::b,h=>by
  obtain⟨d,h⟩:=(h);have c:=a4c (b:=b) h;refine⟨by simp[c.1],λi v e=>?_⟩;cases i with
  | zero=>rw[d];simpa using e
  | succ i=>simpa using c.2 i v (by simpa using e)
 | [],_::_,h=>ei h
 | none::_,[],h=>ei h
 | some _::_,[],h=>ei h
theorem a2Q:∀ a:St,a2v a a
 | []=>True.intro
 | none::a=>a2Q a
 | some _::a=>⟨rfl,a2Q a⟩
noncomputable def capB (N:List Str) (so sc:Scope) (N':List Str) (cap:List (Option Nat)):Bool:=
 decide (sc.kind=.function)&&decide N'.Nodup&&decide (cap.length=N'.length)&&(sc.names.all λy=>decide (y.2=.cell->sc.names.lookup y.1=some .cell)) &&
 (sc.names.all λy=>decide (y.2=.local->sc.names.lookup y.1=some .local)) &&
 (sc.names.all λy=>decide (y.2=.free->so.names.lookup y.1=some .cell\/so.names.lookup y.1=some .free)) &&
 ((N'.zip cap).all λy=>match y.2 with | none=>true | some j=>decide (N[j]?=some y.1)&&decide (sc.names.lookup y.1=some .free))
structure CapOk (N:List Str) (so sc:Scope) (N':List Str) (cap:List (Option Nat)):Prop where
 kind:sc.kind=.function
 nd:N'.Nodup
 len:cap.length=N'.length
 cms:∀ y∈sc.names,y.2=.cell->sc.names.lookup y.1=some .cell
 nms:∀ y∈sc.names,y.2=.local->sc.names.lookup y.1=some .local
 fre:∀ y∈sc.names,y.2=.free->so.names.lookup y.1=some .cell\/so.names.lookup y.1=some .free
 cap:∀ (i:Nat) x j,N'[i]?=some x->cap[i]?=some (some j)->N[j]?=some x/\sc.names.lookup x=some .free
theorem b1a (h:capB N so sc N' cap=true):CapOk N so sc N' cap:=by
 unfold capB at h;simp only[fM,decide_eq_true_eq,fV]at h;obtain⟨⟨⟨⟨⟨⟨f,k⟩,d⟩,g⟩,b⟩,l⟩,e⟩:=h;refine⟨f,k,d,g,b,l,λi x j c a=>?_⟩;have m:(N'.zip cap)[i]?=some (x,some j):=by rw[List.getElem?_zip_eq_some];exact⟨c,a⟩
 have q:=e (x,some j) (eI m);simpa using q
end L2
namespace L2
open PySem PySem.Spec PyProof.Rows
structure Lk (fr:List Addr) (ex:Addr->Prop) (h h':Heap):Prop where
 keep:∀ b o,h.get? b=some o->b∉fr->¬ ex b->h'.get? b=some o
 slot:∀ b o,h.get? b=some o->¬ ex b->∃ sl,h'.get? b=some { o with slots:=sl }
 size:h.objs.size≤h'.objs.size
theorem Lk.refl {fr:List Addr}{ex:Addr->Prop}{h:Heap}:Lk fr ex h h:=⟨λ_ _ q _ _=>q,λ_ o q _=>⟨o.slots,q⟩,dS _⟩
theorem Lk.trans {fr:List Addr}{ex ex2:Addr->Prop}{h h1 h2:Heap}(a:Lk fr ex h h1) (b:Lk fr ex2 h1 h2) (i:∀ x,ex2 x->ex x\/h.objs.size≤x):Lk fr ex h h2:=by
 have n:∀ {x o},h.get? x=some o->¬ ex x->¬ ex2 x:=λ{x o} q n z=>by
  rcases i x z with z | z
  ·exact n z
  ·exact absurd (Heap.lt_size q) (Nat.not_lt.mpr z)
 refine⟨λx o q f z=>b.keep x o (a.keep x o q f z) f (n q z),λx o q z=>?_,eD a.size b.size⟩;obtain⟨sl,e⟩:=a.slot x o q z;obtain⟨sl2,e2⟩:=b.slot x _ e (n q z);exact⟨sl2,e2⟩
theorem Lk.funs (k:Lk fr ex h h'):∀ {l:List Env},(∀ b∈frs l,¬ ex b)->h.FunFrames base l->h'.FunFrames base l
 | [],_,_=>True.intro
 | env::rest,hx,⟨hk,⟨L,o,hf,hn,ho,hd⟩,hr⟩=>by
  have a:L∈frs (env::rest):=by show L∈(env::rest).filterMap _;rw[fJ,hf];exact .head _
  obtain⟨d,e⟩:=k.slot L o ho (hx L a);exact⟨hk,⟨L,_,hf,hn,e,hd⟩,k.funs (λb c=>hx b (by show b∈(env::rest).filterMap _;rw[fJ,hf];exact .tail _ c)) hr⟩
def FlyT (e:Addr) (cls:Value) (T:Addr) (fl:Value) (h:Heap):Prop:=∃ oe vs oT ts,h.get? e=some oe/\(oe.cls=cls/\oe.dict=none)/\oe.data=.fields vs/\vs[1]?=some (.ref T)/\T≠e/\h.get? T=some oT/\oT.data=.fields ts/\ts[3]?=some fl
section
variable {M:Model}{A:Around}{E:Value->Shared->Prop}{s:Shared}{base:Heap}{env:Env}{outer:List Env}{L e T:Addr}{cls fl:Value}{Q:Unit->Shared->Prop}
theorem a5N (f:Array Value->Array Value) (o:Obj):(o.mapFields f).dict=o.dict:=by
 unfold Obj.mapFields
 split<;>rfl
theorem b4q (hfr:A.frames=some (env::outer)) (hl:s.heap.FunFrames base (env::outer)) (hf:env.frame=some L) (he:s.heap.get? e=some oe) (hn0:oe.dict=none) (hd:oe.data=.fields vs) (hz:1<vs.size)
  (q:∀ h' T',Lk (frs (env::outer)) (·=e) s.heap h'->FlyT e oe.cls T' (rawInt L) h'->s.heap.objs.size≤T'->Q () { s with heap:=h' }) :
  wpAny M A (do let a <- frameOf env;let pl <- entryPlaceOf L hn;let b <- EntryCells.newEntry head a .none (rawInt L) .none pl;setField (.ref e) 1 b) Q E s:=by
 have t:e∉frs _:=λD=>by
  obtain⟨_,F,i,C⟩:=hl.mem D;rw[he]at i;cases i;exact C vs hd
 refine jX (wpAny_frameOf_fun hfr hl hf λc g=>jX (wpAny_entryPlaceOf λl m=>?_));unfold EntryCells.newEntry;refine jX ?_;refine kJ ?_ (m.sizeOk5 _ _ _ _ _);generalize ht:([head,Value.ref L,.none,rawInt L,.none]++_).toArray=ts;have w:ts[3]?=some (rawInt L):=by rw[<- ht];simp
 have p:=(g.2.1 e t).trans he;have z:=Heap.lt_size p;have j:=fG z;have k:=Heap.get?_push_of_some { cls:=.type "traceback",dict:=none,data:=.fields ts } p;have r:=Obj.data_mapFields hd (·.setIfInBounds 1 (Value.ref c.objs.size));have u:=Heap.get?_update_self _ k (Obj.isFreed_of_fields r);have y:=(Heap.get?_update_other (c.push { cls:=.type "traceback",dict:=none,data:=.fields ts }) (Obj.mapFields (·.setIfInBounds 1 (Value.ref c.objs.size))) (Ne.symm j)).trans (Heap.get?_push_size c rfl);refine kO k hd hz (q _ c.objs.size ?_ ⟨_,_,_,_,u,⟨Obj.cls_mapFields _ _,(a5N _ _).trans hn0⟩,r,by simp[hz],j,y,rfl,w⟩ (fL g.1.symm));have n:∀ b o,b≠e->c.get? b=some o->((c.push { cls:=.type "traceback",dict:=none,data:=.fields ts }).update e (Obj.mapFields (·.setIfInBounds 1 (Value.ref c.objs.size)))).get? b=some o:=λb o d f=>by
  rw[Heap.get?_update_other _ _ (Ne.symm d)];exact Heap.get?_push_of_some _ f
 refine⟨λb o f x d=>n b o d ((g.2.1 b x).trans f),λb o f d=>?_,?_⟩
 ·obtain⟨v,B⟩:=g.2.2 b o f;exact⟨v,n b _ d B⟩
 ·rw[Heap.size_update,<- g.1];exact fh (by simp)
theorem b1b (hT:FlyT e cls T fl s.heap) (q:∀ h',(∀ fr,Lk fr (·=T) s.heap h')->FlyT e cls T x h'->Q () { s with heap:=h' }):wpAny M A (setField (.ref T) 3 x) Q E s:=by
 obtain⟨l,m,oT,ts,r,p,j,k,i,hT,c,t⟩:=hT;have h:=(ii.mp t).1;refine kO hT c h (q _ (λfr=>?_) ?_)
 all_goals have d:∀ b,b≠T->(s.heap.update T (Obj.mapFields (·.setIfInBounds 3 x))).get? b=s.heap.get? b:=λb a=>Heap.get?_update_other _ _ (Ne.symm a)
 all_goals have n:=Heap.get?_update_self (Obj.mapFields (·.setIfInBounds 3 x)) hT (Obj.isFreed_of_fields (Obj.data_mapFields c _))
 ·exact⟨λb o a _ g=>(d b g).trans a,λb o a g=>⟨o.slots,(d b g).trans a⟩,by rw[Heap.size_update];exact dS _⟩
 ·exact⟨l,m,_,_,(d e (Ne.symm i)).trans r,p,j,k,i,n,Obj.data_mapFields c _,by simp[h]⟩
theorem FlyT.field {Q:Value->Shared->Prop}(h:FlyT e cls T fl s.heap) (q:Q (.ref T) s):wpAny M A (field (.ref e) 1) Q E s:=by
 obtain⟨_,_,_,_,a,_,b,c,_⟩:=h;exact kx a b c q
theorem FlyT.mark {Q:Value->Shared->Prop}(h:FlyT e cls T fl s.heap) (q:Q fl s):wpAny M A (PySem.field (.ref T) 3) Q E s:=by
 obtain⟨_,_,_,_,_,_,_,_,_,a,c,b⟩:=h;exact kx a c b q
theorem b1c (hT:FlyT e cls T fl s.heap) (q:∀ h',(∀ fr,Lk fr (·=T) s.heap h')->FlyT e cls T (fo.elim .none λf=>rawInt f) h'->Q () { s with heap:=h' }):wpAny M A (setFlight (.ref e) fo) Q E s:=by
 refine jX (hT.field ?_);exact b1b hT q
theorem b26 (hfr:A.frames=some (env::outer)) (hl:s.heap.FunFrames base (env::outer)) (hf:env.frame=some L) (he:s.heap.get? e=some oe) (hn0:oe.dict=none) (hd:oe.data=.fields vs) (h1:vs[1]?=some .none)
  (q:∀ h' T',Lk (frs (env::outer)) (·=e) s.heap h'->FlyT e oe.cls T' (rawInt L) h'->s.heap.objs.size≤T'->Q () { s with heap:=h' }):wpAny M A (lv (.ref e) env) Q E s:=by
 unfold lv;simp only[hf];refine jX ?_;refine kx he hd h1 ?_;exact b4q hfr hl hf he hn0 hd (ii.mp h1).1 q
theorem b1d (hfr:A.frames=some (env::outer)) (hl:s.heap.FunFrames base (env::outer)) (hf:env.frame=some L) (hT:FlyT e cls T fl s.heap)
  (q:∀ h' T',Lk (frs (env::outer)) (λb=>b=e\/b=T) s.heap h'->FlyT e cls T' (rawInt L) h'->T'=T\/s.heap.objs.size≤T'->Q () { s with heap:=h' }):wpAny M A (lv (.ref e) env) Q E s:=by
 unfold lv;simp only[hf];refine jX (hT.field ?_);refine jX (hT.mark ?_)
 by_cases c:(fl==rawInt L)=true
 ·rw[if_pos c];rw[show fl=rawInt L by simpa using c]at hT;exact jY (q s.heap T .refl hT (.inl rfl))
 ·rw[if_neg c];refine jX (b1b hT λh a B=>?_);have l:=(a []).funs (λb v z=>by
   obtain⟨_,I,g,u⟩:=hl.mem v;obtain⟨_,_,_,i,_,_,_,_,_,d,j,_⟩:=hT;rw[z,d]at g;cases g;exact u i j) hl
  obtain⟨D,G,F,i,C,p,t,r,H,d,j,J⟩:=B;refine b4q hfr l hf C p.2 t (ii.mp r).1 λy w k f z=>q y w ?_ (p.1▸f) (.inr (eD (a []).size z));have m:Lk (frs (env::outer)) (λb=>b=e\/b=T) s.heap h:=⟨λb o q f n=>(a _).keep b o q f λz=>n (.inr z),λb o q n=>(a []).slot b o q λz=>n (.inr z),(a []).size⟩;exact m.trans k λx z=>.inl (.inl z)
theorem b27 (hfr:A.frames=some (env::outer)) (hl:s.heap.FunFrames base (env::outer)) (hf:env.frame=some L) (he:s.heap.get? e=some oe) (hn0:oe.dict=none) (hd:oe.data=.fields vs) (h1:vs[1]?=some .none)
  (q:∀ h' T',Lk (frs (env::outer)) (·=e) s.heap h'->FlyT e oe.cls T' .none h'->s.heap.objs.size≤T'->Q () { s with heap:=h' }):wpAny M A (mf env (.ref e)) Q E s:=
 jX (b26 hfr hl hf he hn0 hd h1 λ_ b k f z=>b1c f λa d c=>q a b (k.trans (d _) λx w=>.inr (by rw[w];exact z)) c z)
theorem b4r (hfr:A.frames=some (env::outer)) (hl:s.heap.FunFrames base (env::outer)) (hf:env.frame=some L) (hT:FlyT e cls T fl s.heap)
  (q:∀ h' T',Lk (frs (env::outer)) (λb=>b=e\/b=T) s.heap h'->FlyT e cls T' .none h'->T'=T\/s.heap.objs.size≤T'->Q () { s with heap:=h' }):wpAny M A (mf env (.ref e)) Q E s:=
 jX (b1d hfr hl hf hT λ_ c k f z=>b1c f λa g d=>q a c (k.trans (g _) λx w=>by
  rw[w];rcases z with z | z
  ·exact .inl (.inr z)
  ·exact .inr z) d z)
end
end L2
namespace L2
open PySem PySem.Spec PyProof.Rows
theorem Un.lk (u:Un fs ex0 H0 H h0 h) (v:Lk fr ex h h') (hf:∀ b∈fr,b∈fs\/h0.get? b=none) (hx:∀ b,ex b->b∈ex0\/h0.get? b=none):Un fs ex0 H0 H h0 h':=by
 have g:∀ {b o},h0.get? b=some o->b∉ex0->¬ ex b:=λ{b o} q n z=>by
  rcases hx b z with z | z
  ·grind
  ·grind
 refine⟨λb o q n c a=>?_,λb o q n c a=>?_,u.free,λb o q a=>?_,u.tups,u.frzs,u.tbls⟩
 ·refine v.keep b o (u.keep b o q n c a) (λz=>?_) (g q a);rcases hf b z with z | z
  ·grind
  ·grind
 ·obtain⟨j,f⟩:=u.slot b o q n c a;obtain⟨d,e⟩:=v.slot b _ f (g q a);exact⟨d,e⟩
 ·obtain⟨i,f⟩:=u.there b o q a;obtain⟨d,e⟩:=v.slot b _ f (g q a);exact⟨_,e⟩
theorem Un.gone (u:Un fs ex H0 H h0 h) (n:h.get? b=none):b∈ex\/h0.get? b=none:=by
 cases q:h0.get? b with
 | none=>exact .inr rfl
 | some o=>
  by_cases c:b∈ex
  ·exact .inl c
  ·obtain⟨a,e⟩:=u.there b o q c;rw[n]at e;cases e
theorem Un.gone0 (u:Un fs [] H0 H h0 h) (n:h.get? b=none):h0.get? b=none:=(u.gone n).resolve_left (by simp)
theorem ObjOk.is (x:ObjOk P w H h a o):∃ ob,h.get? a=some ob:=by
 cases o with
 | lst xs=>obtain⟨_,_,_,_,e⟩:=x;exact⟨_,e⟩
 | tup xs=>obtain⟨_,_,_,b,e,_⟩:=x;exact⟨_,e⟩
 | dK kvs=>obtain⟨_,_,_,_,o,_,_,e,_⟩:=x;exact⟨_,e⟩
 | dT kvs=>obtain⟨_,_,_,_,o,_,_,e,_⟩:=x;exact⟨_,e⟩
 | set S n=>obtain⟨o,_,_,_,e,_⟩:=x;exact⟨_,e⟩
 | ins C dx fs=>obtain⟨_,_,_,e,_⟩:=x;exact⟨_,e⟩
 | own y=>obtain⟨_,e⟩:=x;exact⟨_,e⟩
 | xd fs=>obtain⟨_,⟨_,_,_,e,_⟩,_⟩:=x;exact⟨_,e⟩
 | rng lo hi=>obtain⟨_,_,_,e⟩:=x;exact⟨_,e⟩
 | frz b u=>obtain⟨e,_⟩:=x;exact⟨_,e⟩
 | tbl ps=>exact⟨_,x⟩
 | met f y=>exact⟨_,x⟩
 | ext φ=>obtain⟨_,⟨_,e⟩,_⟩:=x;exact⟨_,e⟩
theorem HOk.gone (x:HOk P w H h) (n:h.get? a=none):H a=none:=by
 cases q:H a with
 | none=>rfl
 | some u=>obtain⟨b,e⟩:=(x a u q).is;rw[n]at e;cases e
theorem HOk.lk (x:HOk P w H h) (l:Lk fr ex h h') (hf:∀ b∈fr,H b=none) (he:∀ b,ex b->H b=none):HOk P w H h':=λa o q=>
 (x a o q).stay (λb u c r=>by
  have d:H b≠none:=by
   rcases c with rfl | c
   ·simp_all
   ·simp_all
  exact l.keep b u r (λz=>d (hf b z)) λz=>d (he b z)) (λ_ q=>q) λ_ _ q=>q
structure Fly (N:Addr->Prop) (H:Hp) (fl:Value) (e:Addr) (cls:Value) (h:Heap):Prop where
 at_:∃ T,FlyT e cls T fl h/\N T/\H T=none
 old:N e
 free:H e=none
def CXx (P:j7) (w:World):CXT:=λouter H s E ev s'=>∃ e C H',ev=.ref e/\s'.os=s.os/\kI s'.gens/\Un (frs outer) [] H H' s.heap s'.heap/\HOk P w H' s'.heap/\Fly (λb=>s.heap.get? b=none) H' .none e (.ref C) s'.heap/\E (.ref C) none H'
structure TKs (H H':Hp):Prop where
 tup:∀ b xs,H b=some (.tup xs)->H' b=some (.tup xs)
 frz:∀ b o u,H b=some (.frz o u)->H' b=some (.frz o u)
def since (H:Hp) (E:XK):XK:=λc d H'=>TKs H H'->E c d H'
structure Outs (X:Cx) (E:XK):Prop where
 xe:∀ ev s',wpAny (model X.prog X.w) X.A (mf X.env ev) (λ_ s''=>CXx X.prog X.w X.outer X.H₀ X.s₀ E ev s'') (λe' s''=>CXx X.prog X.w X.outer X.H₀ X.s₀ E e' s'') s'->X.xe ev s'
 stk:X.stack=X.env::X.outer
 frm:X.env.frame=some X.env.locals
 ex:X.ex=[]
theorem Outs.of {P:j7}{w:World}{K:Fg}{mg:Str->Option Value}{base:Heap}{N:List Str}{qual:Str}{scope:Scope}{f:Addr}{cd:Value}{A:Around}{outer:List Env}{s:Shared}{H:Hp}{E:XK}:Outs (cxOf (CXx P w) P w K mg base N qual scope f cd A outer s H E) E:=⟨λ_ _ h=>h,rfl,rfl,rfl⟩
section
variable {X:Cx}{E:XK}{pins:List (Addr×Obj)}{σ:St}{H:Hp}{s:Shared}
theorem Outs.frames (O:Outs X E) (I:Inv X pins σ H s):X.A.frames=some (X.env::X.outer):=by rw[<- O.stk];exact I.ok.frames
theorem Outs.sub (O:Outs X E) (I:Inv X pins σ H s):∀ b∈frs (X.env::X.outer),b∈X.fs\/X.s₀.heap.get? b=none:=λb a=>by
 rw[<- O.stk]at a;rcases dY.mp (I.stkSub b a) with z | z
 ·rw[z];exact .inr (Heap.get?_none_of_le I.ok.above)
 ·exact .inl z
theorem Outs.funs (O:Outs X E) (I:Inv X pins σ H s):s.heap.FunFrames X.base (X.env::X.outer):=by rw[<- O.stk];exact I.stack
theorem Outs.free (O:Outs X E) (I:Inv X pins σ H s):∀ b∈frs (X.env::X.outer),H b=none:=by rw[<- O.stk];exact I.stkFree
theorem Outs.base (O:Outs X E) (I:Inv X pins σ H s):Un X.fs [] X.H₀ H X.s₀.heap s.heap:=by have:=I.base;rw[O.ex]at this;exact this
theorem Outs.fin (O:Outs X E) (I:Inv X pins σ H s) {e C T:Addr}{ex:Addr->Prop}{h':Heap}(k:Lk (frs (X.env::X.outer)) ex s.heap h') (f:FlyT e (.ref C) T .none h') (hx:∀ b,ex b->X.s₀.heap.get? b=none/\H b=none) (he:ex e) (hT:ex T\/s.heap.objs.size≤T) (q:since X.H₀ E (.ref C) none H) :
  CXx X.prog X.w X.outer X.H₀ X.s₀ E (.ref e) { s with heap:=h' }:=
 ⟨e,C,H,rfl,I.os,I.bare,(O.base I).lk k (O.sub I) (λb hb=>.inr (hx b hb).1),I.hok.lk k (O.free I) λb hb=>(hx b hb).2,⟨⟨T,f,by
  rcases hT with z | z
  ·exact hx T z
  ·exact⟨Heap.get?_none_of_le (eD I.sz z),I.hok.fresh z⟩⟩,(hx e he).1,(hx e he).2⟩,q ⟨I.base.tups,I.base.frzs⟩⟩
theorem b28 (O:Outs X E) (I:Inv X pins σ H s) (hm:Heap.MadeExcOf s.heap h' e (.ref C) vs) (q:since X.H₀ E (.ref C) none H):X.xe (.ref e) { s with heap:=h' }:=by
 obtain⟨t,d,g,_⟩:=hm.there;have a:Inv X pins σ H { s with heap:=h' }:=I.kept hm.keeps;refine O.xe _ _ (b27 (O.frames I) (O.funs a) O.frm d rfl rfl (by simp) λh T l f z=>?_)
 exact O.fin a l f (λb c=>by rw[c];exact⟨(O.base I).gone0 hm.new,I.hok.gone hm.new⟩) rfl (.inr z) q
theorem a1y (O:Outs X E):a2I (CXx X.prog X.w) X (since X.H₀ E):=by
 intro a σ H s t k I ⟨e,C,o,r,i,c,n,g,⟨⟨T,f,m,d⟩,old,fe⟩,q⟩;subst r;have h:=I.call' i n g c λ_ z=>nomatch z;refine O.xe _ _ (b4r (O.frames I) (O.funs h) O.frm f λv u l p z=>?_);refine O.fin h l p (λb j=>?_) (.inl rfl) (by
  rcases z with z | z
  ·simp_all
  ·exact .inr z) q
 rcases j with rfl | rfl
 ·exact⟨(O.base I).gone0 old,fe⟩
 ·exact⟨(O.base I).gone0 m,d⟩
end
end L2
namespace L2
open PySem PySem.Spec PyProof.Rows
def ExC (X:Cx) (E:XK) (C:Addr) (s:Shared) (H:Hp) (fp:List Addr) (ev:Value) (s':Shared):Prop:=
 ∃ e Cl H',ev=.ref e/\s'.os=s.os/\kI s'.gens/\Un (frs X.stack) fp H H' s.heap s'.heap/\HOk X.prog X.w H' s'.heap/\Fly (λb=>b∈fp\/s.heap.get? b=none) H' .none e (.ref Cl) s'.heap/\(∃ m,s'.heap.Ns C m)/\H' C=none/\C≠e/\E (.ref Cl) none H'
def a4d (X:Cx) (EW:XK) (sc:Scope):Prop:=∀ (pins:List (Addr×Obj)) (σ:St) (H:Hp) (s:Shared) (C:Addr) (fp:List Addr) (use:Option (Value->Sem Unit)) (Fin:Value->Shared->Prop) (acc:Value),Inv X pins σ H s->(∀ b∈fp,FpOk X pins H b)->C=s.heap.objs.size ->
 ∀ ev s',ExC X EW C s H fp ev s'->lI (model X.prog X.w) X.A (lz sc (kf (C+1) sc.names (a1a X.env sc.names [])) C X.env) (λe s''=>mU (model X.prog X.w) X.A X.xe use Fin acc C (.error e) s'') ev s'
theorem a82:a4d X (λ_ _ _=>False) sc:=by
 rintro a σ H s C g d c b _ _ _ e f ⟨_,_,_,_,_,_,_,_,_,_,_,_,q⟩;exact q.elim
end L2
namespace L2
open PySem PySem.Spec PyProof.Rows
noncomputable def cxC (X:Cx) (EW:XK) (N':List Str) (sc:Scope) (C:Addr) (s:Shared) (H:Hp) (fp:List Addr):Cx:=
 { X with N:=N',s₀:=s,H₀:=H,env:=lz sc (kf (C+1) sc.names (a1a X.env sc.names [])) C X.env,outer:=X.stack,stack:=X.stack,ex:=fp,fn:=λx=>sc.names.lookup x==some .cell,pn:=[],xe:=ExC X EW C s H fp }
def PIfs (X:Cx) (ifs:List Expr) (t:TT):Prop:=
 ∀ (pins:List (Addr×Obj)) (s:Shared) (σ:St) (H:Hp) (Q:Bool->Hp->Prop),Inv X pins σ H s->t σ H Q ->
  wpAny (model X.prog X.w) X.A (forIn ifs true λc r=>if r=true then do let ok <- isTrue c X.env (eval c X.env);pure (ForInStep.yield ok) else pure (ForInStep.yield r)) (TP X pins σ Q) X.xe s
def tTT:TT:=λ_ H Q=>Q true H
theorem b29:PIfs X [] tTT:=λ_ _ _ H _ I h=>wpAny_tests_nil ⟨H,I,h⟩
theorem b3a (h:PT X c t):PIfs X [c] t:=λa s σ H Q I q=>wpAny_tests_one (h a s σ H Q I q)
def LcB (J:It) (cap:List (Option Nat)) (g:TG) (tt:TT) (te:TE) (σ:St) (Q:VK) (D:Addr) (H1:Hp):Prop:=
 ∃ W:Nat->Nat->List V->Hp->Prop,(∃ m,W 0 m [] (upd H1 D (.lst [])))/\∀ i m ys H2,W i m ys H2 ->
  (J.stop i H2/\Q (.ref D) H2) \/
  (J.go i H2/\∃ N:List V->Hp->Prop,(∀ ys' H',N ys' H'->∃ m',m'<m/\W (i+1) m' ys' H')/\∀ x H',J.yld i H2 x H' ->
   g x (a4b cap σ) H' fun σ2 H3=>a2v (a4b cap σ) σ2/\tt σ2 H3 λb H4=>if b=true then te σ2 H4 λy H5=>∃ zs,H5 D=some (.lst zs)/\zs.length<jZ/\N (zs++[y]) (upd H5 D (.lst (zs++[y]))) else N ys H4)
def tLC (wi:TI) (cap:List (Option Nat)) (g:TG) (tt:TT) (te:TE):TE:=fun σ H Q=>wi σ H λJ H1=>∀ D,H1 D=none->LcB J cap g tt te σ Q D H1
structure CFree (X:Cx) (pins:List (Addr×Obj)) (H:Hp) (C:Addr):Prop where
 free:H C=none
 loc:C≠X.env.locals
 old:X.s₀.heap.objs.size≤C
 cell:∀ x c,X.env.cells.lookup x=some c->c≠C
 pin:∀ p∈X.pn++pins,p.1≠C
section
variable {X:Cx}{pins:List (Addr×Obj)}{σ:St}{H:Hp}{s:Shared}{N':List Str}{sc:Scope}{cap:List (Option Nat)}{C:Addr}{fp:List Addr}{EW:XK}
theorem b1e (I:Inv X pins σ H s) (ck:CapOk X.N X.env.scope sc N' cap):∀ x∈sc.names,x.2=.free->∃ c,X.env.cells.lookup x.1=some c:=λx a b=>
 I.ok.has x.1 (ck.fre x a b)
theorem a59 (I:Inv X pins σ H s) (ck:CapOk X.N X.env.scope sc N' cap) (h:(a1a X.env sc.names []).lookup x=some c):X.env.cells.lookup x=some c:=
 a2t sc.names [] (b1e I ck) (λy c h=>by simp at h) c h
theorem b1f (h:(kf n sc.names acc).lookup x=some c):(kf n sc.names []).lookup x=some c\/((kf n sc.names []).lookup x=none/\acc.lookup x=some c):=by
 rw[a1B,ij]at h;cases e:(kf n sc.names []).lookup x with
 | none=>rw[e]at h;exact .inr ⟨rfl,h⟩
 | some d=>rw[e]at h;exact .inl h
theorem a6D (I:Inv X pins σ H s) (ck:CapOk X.N X.env.scope sc N' cap) (co:mj h₁ n (kf n sc.names [])) (h:(kf n sc.names (a1a X.env sc.names [])).lookup x=some c):(h₁.IsCell c none/\n≤c)\/X.env.cells.lookup x=some c:=by
 rcases b1f h with h | ⟨_,h⟩
 ·exact .inl (co.empty _ _ (PySem.mem_of_lookup h))
 ·exact .inr (a59 I ck h)
theorem b1g (env:Env) (x:Str):(lz sc cl C env).kindOf x=(sc.names.lookup x).map λk=>if (k==kc.free&&env.scope.kind==.function&&env.kindOf x==some .cell)=true then kc.cell else k:=
 a3g sc.names
theorem a2f {l:List (Str×kc)}(h:l.lookup x=some k):(x,k)∈l:=PySem.mem_of_lookup h
theorem b9H (I:Inv X pins σ H s) (ck:CapOk X.N X.env.scope sc N' cap) (hf:∀ b∈fp,FpOk X pins H b) (hlt:∀ b∈fp,b<s.heap.objs.size) (hC:C=s.heap.objs.size) (co:mj h₁ (C+1) (kf (C+1) sc.names [])):(cxC X EW N' sc C s H fp).Ok:=by
 have cl:∀ {x:Str}{c:Addr},(kf _ sc.names _).lookup x=some c->_\/X.env.cells.lookup x=some c:=λh=>a6D I ck co h;have j:∀ {x:Str}{c:Addr},X.env.cells.lookup x=some c->c<C:=λe=>by
  obtain⟨v,q⟩:=I.cell _ _ e;rw[hC];exact q.lt
 refine⟨I.ok.mod,ck.kind,I.ok.glob,I.ok.blt,by rw[hC];exact dS _,λx y c t g=>?_,λx m=>?_,λx c h g=>?_,I.ok.hd,I.ok.frames,.inl rfl,λb a=>⟨?_,λx c h=>?_⟩,I.bs,eD I.ok.bsz I.sz,λb o e a=>?_,λb a r=>?_,I.stack,I.stkFree⟩
 ·rcases b1f t with a1 | ⟨_,a1⟩<;>rcases b1f g with a2 | ⟨_,a2⟩
  ·exact name_of_addr co.apart (PySem.mem_of_lookup a1) (PySem.mem_of_lookup a2)
  ·exact absurd (eJ (j (a59 I ck a2)) (gy (co.empty _ _ (PySem.mem_of_lookup a1)).2)) (eR _)
  ·exact absurd (eJ (j (a59 I ck a1)) (gy (co.empty _ _ (PySem.mem_of_lookup a2)).2)) (eR _)
  ·exact I.ok.inj x y c (a59 I ck a1) (a59 I ck a2)
 ·have f:(sc.names.lookup x).map (λk=>if (k==kc.free&&X.env.scope.kind==.function&&X.env.kindOf x==some .cell)=true then kc.cell else k)=some .cell \/
    (sc.names.lookup x).map (λk=>if (k==kc.free&&X.env.scope.kind==.function&&X.env.kindOf x==some .cell)=true then kc.cell else k)=some .free:=by
   rw[<- b1g X.env x];exact m
  show ∃ c,(kf _ sc.names _).lookup x=some c
  cases e:sc.names.lookup x with
  | none=>rw[e]at f;rcases f with z | z<;>cases z
  | some k=>
   have p:=a2f e;rw[a1B,ij];cases e2:(kf _ sc.names []).lookup x with
   | some d=>exact⟨d,rfl⟩
   | none=>
    by_cases hk:k=.free
    ·subst hk;exact a21 sc.names [] p
    ·rw[e]at f;have a:(k==kc.free)=false:=by simpa using hk
     simp only[gx,a,eZ.injEq]at f;rcases f with z | z
     ·subst z;obtain⟨d,i⟩:=a40 e;rw[i]at e2;cases e2
     ·exact absurd z hk
 ·have e:sc.names.lookup x=some .cell:=by
   have h:(sc.names.lookup x==some .cell)=true:=h;simpa using h
  obtain⟨d,i⟩:=a40 e;have g:(kf _ sc.names _).lookup x=some c:=g;rw[a1B,ij,i]at g;cases g;exact eD (fL hC.symm) (gy (co.empty _ _ (PySem.mem_of_lookup i)).2)
 ·show b≠C
  rw[hC];exact eu (hlt b a)
 ·rcases cl h with ⟨_,z⟩ | z
  ·exact λe=>absurd (eJ (hlt b a) (eD (fL hC.symm) (e▸gy z))) (eR _)
  ·exact (hf b a).2.2.2.2.1 x c z
 ·obtain⟨_,_,_,z,_⟩:=hf b a;rcases z with z | z
  ·exact I.ok.noex b o e z
  ·exact absurd (eJ (Heap.lt_size e) (eD I.ok.bsz z)) (eR _)
 ·rcases dY.mp (I.stkSub b r) with z | z
  ·exact (hf b a).2.1 z
  ·exact (hf b a).2.2.1 z
theorem b7f (I:Inv X pins σ H s) (ck:CapOk X.N X.env.scope sc N' cap) (hf:∀ b∈fp,FpOk X pins H b) (hlt:∀ b∈fp,b<s.heap.objs.size) (hC:C=s.heap.objs.size)
  (hn:h₁.Ns C m) (co:mj h₁ (C+1) (kf (C+1) sc.names [])) (hk:∀ b o,s.heap.get? b=some o->h₁.get? b=some o):Inv (cxC X EW N' sc C s H fp) [] (a4b cap σ) H { s with heap:=h₁,toks:=t' }:=by
 refine⟨b9H I ck hf hlt hC co,rfl,I.bare,Un.kept hk,⟨m,hn,λi x v F a T=>?_⟩,λx c h=>?_,?_,λx c h=>?_,λp G=>absurd (show p∈([]) from G) (by simp),I.hok.kept hk,?_⟩
 ·have B:=F;unfold a4b at a;rw[er]at a;cases ec:cap[i]? with
  | none=>rw[ec]at a;cases a
  | some o=>
   rw[ec]at a;cases o with
   | none=>simp at a
   | some j=>
    have e:(σ[j]?).join=some v:=by simpa using a
    have t:σ[j]?=some (some v):=by
     cases q:σ[j]? with
     | none=>rw[q]at e;cases e
     | some w=>rw[q]at e;rw[show w=some v from e]
    obtain⟨L,g⟩:=ck.cap i x j B ec;have n:=ck.fre _ (a2f g) rfl;obtain⟨S,_,M⟩:=I.loc;obtain⟨u,E,Q⟩:=M j x v L t (.inr n);refine⟨u,E,.inr ⟨?_,?_⟩⟩
    ·show (lz sc _ C X.env).kindOf x=some .cell\/(lz sc _ C X.env).kindOf x=some .free
     rw[b1g,g];simp only[gx,beq_self_eq_true,fk]
     by_cases hc:(X.env.scope.kind==ScopeKind.function&&X.env.kindOf x==some kc.cell)=true
     ·simp_all
     ·rw[if_neg hc];exact .inr rfl
    ·obtain⟨D,l⟩:=a21 sc.names [] (a2f g);have J:=a59 I ck l;rcases Q with ⟨k,_⟩ | ⟨_,c,ec',z⟩
     ·have R:X.env.scope.names.lookup x=some .local:=k;have f:=n;rw[R]at f;rcases f with q | q<;>cases q
     ·rw[J]at ec';cases ec';obtain⟨y,A,r⟩:=z;refine⟨D,?_,y,hk _ _ A,r⟩
      show (kf (C+1) sc.names _).lookup x=some D
      rw[a1B,ij,l];cases a:(kf (C+1) sc.names []).lookup x with
      | none=>rfl
      | some d=>
       have:=ck.cms _ (a5f (PySem.mem_of_lookup a)) rfl
       rw[g]at this;cases this
 ·rcases a6D I ck co h with ⟨z,_⟩ | z
  ·grind
  ·obtain⟨v,y,A,r⟩:=I.cell x c z;exact⟨v,y,hk _ _ A,r⟩
 ·show H C=none
  rw[hC];exact I.hok.fresh (dS _)
 ·rcases a6D I ck co h with ⟨_,z⟩ | z
  ·exact I.hok.fresh (eD (fL hC.symm) (gy z))
  ·exact I.freeC x c z
 ·show (a4b cap σ).length=N'.length
  unfold a4b;rw[dQ];exact ck.len
theorem b5f (I:Inv X pins σ H s) (hf:∀ b∈fp,FpOk X pins H b) (J:Inv (cxC X EW N' sc C s H fp) pins' σ' H' s'):Inv X pins σ H' s':=
 I.call' J.os J.base J.hok J.bare λb a=>⟨(hf b a).2.2.2.1,(hf b a).2.1,(hf b a).2.2.2.2.1,(hf b a).2.2.2.2.2⟩
theorem b3b (I:Inv X pins σ H s) (hC:C=s.heap.objs.size) (J:Inv (cxC X EW N' sc C s H fp) pins' σ' H' s'):CFree X pins H' C:=by
 refine⟨J.free,by rw[hC];exact fG I.lt,by rw[hC];exact I.sz,λx c e z=>?_,λp a z=>?_⟩
 ·obtain⟨v,q⟩:=I.cell x c e;exact absurd q.lt (by simp_all)
 ·exact absurd (Heap.lt_size (I.pin p a).1) (by simp_all)
theorem CFree.after (F:CFree X pins H C) (I:Inv X pins σ H s) (k:∀ b o,b≠C->s.heap.get? b=some o->h'.get? b=some o):Inv X pins σ H { s with heap:=h',toks:=t' }:=
 I.turned k F.free F.loc (.inr F.old) F.cell F.pin
end
section
variable {X:Cx}{elt tg iter:Expr}{ifs:List Expr}{sc:Scope}{pos:Pos}{wi:TI}{g:TG}{tt:TT}{te:TE}{N':List Str}{cap:List (Option Nat)}{EW:XK}
theorem b1h (hc:X.calm=true) (hE:a4d X EW sc) (ck:CapOk X.N X.env.scope sc N' cap) (hi:PI X tg iter wi)
    (hg:∀ C s H fp,PG (cxC X EW N' sc C s H fp) tg g) (ht:∀ C s H fp,PIfs (cxC X EW N' sc C s H fp) ifs tt) (he:∀ C s H fp,PE (cxC X EW N' sc C s H fp) elt te)
    (hs:∀ x,k7 iter X.env x=pure x) {Fin:Value->Shared->Prop}
 (I:Inv X pins σ H s) (h:tLC wi cap g tt te σ H Q)
    (fin:∀ D s' C m H',Inv X pins σ H' s'->Q (.ref D) H'->s'.heap.Ns C m->CFree X pins H' C->mU (model X.prog X.w) X.A X.xe use Fin (.ref D) C (.ok .next) s') :
    wpAny (model X.prog X.w) X.A (comprehension (.ListComp elt [⟨tg,iter,ifs,0⟩] sc pos) sc X.env pos' (newList []) false (eval iter X.env) use) Fin X.xe s:=by
  refine wpAny_comprehension_free rfl hs (a6B (b1e I ck)) ck.kind ck.nms ?_;refine thn (hi pins s σ H _ I h) λv s1 h1=>thn h1 λitv j h2=>?_;obtain⟨it,f,tn,J,H2,e,I2,T,st2,f2,h2⟩:=h2;subst e;have hD:=I2.hok.fresh (dS _);obtain⟨W,⟨m0,w0⟩,turn⟩:=h2 j.heap.objs.size hD;refine kJ ?_;have t:=I2.lnew (t':=j.toks) .nil (eP _);generalize hs3:({ j with heap:=j.heap.push { cls:=.type "list",data:=.seq ([]:List Value).toArray } }:Shared)=s3 at t;generalize hH3:upd H2 j.heap.objs.size (.lst [])=H3 at t w0;have ac:∀ b∈f,b<j.heap.objs.size:=λb a=>by
    obtain⟨o,e,_⟩:=T.obj _ _ st2 b a;exact Heap.lt_size e
  have sz3:s3.heap.objs.size=j.heap.objs.size+1:=by rw[<- hs3];exact Heap.size_push _ _
  have L:∀ b∈f,b<s3.heap.objs.size:=λb a=>by rw[sz3];exact gz (ac b a)
  have B:∀ b∈f,FpOk X pins H3 b:=λb a=>by
    refine⟨?_,(f2 b a).2⟩;rw[<- hH3,a0r (eu (ac b a))];exact (f2 b a).1
  have st3:tn 0 s3.heap:=T.keep _ _ _ st2 λb _ o e=>by rw[<- hs3];exact Heap.get?_push_of_some _ e
  refine a6C λh₁ hns₁ hk co=>?_;have I4:=b7f (EW:=EW) (t':=s3.toks) t ck B L rfl hns₁ co hk;generalize hs4:({ s3 with heap:=h₁,toks:=s3.toks }:Shared)=s4 at I4 ⊢;have st4:tn 0 s4.heap:=T.keep _ _ _ st3 λb _ o e=>by rw[<- hs4];exact hk b o e
  have G:∀ {k:Hp}{l:List (Addr×Obj)},(∀ p∈l,p.1∉f)->(∀ b∈f,k b=none)->∀ b∈f,FpOk (cxC X EW N' sc s3.heap.objs.size s3 H3 f) l k b:=λ{k l} E hn b a=>
    ⟨hn b a,eu (L b a),λz=>by
      rcases dY.mp (t.stkSub b z) with z | z
      · exact (B b a).2.1 z
      · exact (B b a).2.2.1 z,.inl a,λx c e=>by
        rcases a6D t ck co e with ⟨_,z⟩ | z
        · exact λe=>absurd (eJ (L b a) (e▸gy z)) (eR _)
        · exact (B b a).2.2.2.2.1 x c z,λp hp' z=>E p hp' (by rw[z];exact a)⟩
  have hx:=hE pins σ H3 s3 s3.heap.objs.size f use Fin (.ref j.heap.objs.size) t B rfl;have ab:kC (model X.prog X.w) X.A (.compLoop (.ListComp elt [⟨tg,iter,ifs,0⟩] sc pos) 0 (.ref it) (.ref j.heap.objs.size) (lz sc (kf (s3.heap.objs.size+1) sc.names (a1a X.env sc.names [])) s3.heap.objs.size X.env))
      (mU (model X.prog X.w) X.A X.xe use Fin (.ref j.heap.objs.size) s3.heap.objs.size) s4:=by
    refine a3p (λn s'=>∃ i ys σ' k,Inv (cxC X EW N' sc s3.heap.objs.size s3 H3 f) [] σ' k s'/\a2v (a4b cap σ) σ'/\tn i s'.heap/\(∀ b∈f,k b=none)/\W i n ys k) ?_ m0
      ⟨0,[],a4b cap σ,H3,I4,a2Q _,st4,λb a=>(B b a).1,w0⟩
    rintro n s5 ⟨i,ys,σ5,H5,I5,k5,st5,fr5,w5⟩;have kk:=a4c k5;have I5:=I5.weak kk.1 kk.2;rcases turn i n ys H5 w5 with ⟨stop,q⟩ | ⟨go,N,hN,step⟩
    · refine thn (T.done (cxC X EW N' sc s3.heap.objs.size s3 H3 f) rfl rfl rfl hc i [] s5 _ H5 _ I5 (G (λp E=>by cases E) fr5) st5 stop) λr s6 ⟨hr,I6⟩=>?_
      subst hr;obtain⟨m6,n6,_⟩:=I6.loc;exact fin _ s6 _ m6 H5 (b5f t B I6) q n6 (b3b t rfl I6)
    · refine thn (T.item (cxC X EW N' sc s3.heap.objs.size s3 H3 f) rfl rfl rfl hc i [] s5 _ H5 _ I5 (G (λp E=>by cases E) fr5) st5 go) λr s6 ⟨u,hr,h6⟩=>?_
      subst hr;refine thn h6 λ_ s7 ⟨x,H7,I7,r7,y7,aa,fr7⟩=>?_;have I7':=I7.pinned (G (λp E=>by cases E) fr7) (T.obj _ _ aa);have R:∀ {σ9:St}{F:Hp}{U:Shared}{M:List V},Inv (cxC X EW N' sc s3.heap.objs.size s3 H3 f) ([]++a8Y f s7.heap) σ9 F U->a2v (a4b cap σ) σ9->N M F ->
          ∃ m,m<n/\∃ i ys σ' k,Inv (cxC X EW N' sc s3.heap.objs.size s3 H3 f) [] σ' k U/\a2v (a4b cap σ) σ'/\tn i U.heap/\(∀ b∈f,k b=none)/\W i m ys k:=λ{σ9 F U M} Y k9 n9=>by
        obtain⟨m',hm,w9⟩:=hN M F n9;refine⟨m',hm,i+1,M,σ9,F,Y.unpinned,k9,T.keep _ _ _ aa λb a o e=>(Y.pin (b,o) (e7 _ (e7 _ (a20 a e)))).1,λb a=>?_,w9⟩;obtain⟨o,e,d⟩:=T.obj _ _ aa b a;exact (Y.pin (b,o) (e7 _ (e7 _ (a20 a e)))).2.1
      refine kg (hg _ _ _ _ _ s7 _ H7 x u _ I7' r7 (step x H7 y7)) (λ_ s8 ⟨σ8,H8,I8,k8,q8⟩=>?_) hx;refine kg (ht _ _ _ _ _ s8 σ8 H8 _ I8 q8) (λb U ⟨F,Y,q9⟩=>?_) hx;cases b with
      | false=>
        rw[if_neg eW]at q9 ⊢;exact R Y k8 q9
      | true=>
        rw[if_pos rfl]at q9 ⊢;refine kg (he _ _ _ _ _ U σ8 F _ Y q9) (λy s10 ⟨vy,H10,I10,r10,zs,hacc,hsz,q10⟩=>?_) hx;refine kg (a7j (X:=cxC X EW N' sc s3.heap.objs.size s3 H3 f) _ s10 σ8 H10 (.ref j.heap.objs.size) [vy] (.ref j.heap.objs.size) [y] (λ_ k=>N (zs++[vy]) k) I10 rfl (.cons r10 .nil) ⟨_,zs,vy,rfl,rfl,hacc,hsz,q10⟩) (λ_ s11 ⟨_,H11,I11,_,q11⟩=>?_) hx;exact R I11 k8 q11
  exact codeAny_compStart_list ab (T.self _ 0 _ _ _ st4 ab)
theorem b7g (hc:X.calm=true) (hE:a4d X EW sc) (hNN:X.N=N₀) (hso:X.env.scope=so) (ck:capB N₀ so sc N' cap=true) (hi:PI X tg iter wi)
  (hg:∀ C s H fp,PG (cxC X EW N' sc C s H fp) tg g) (ht:∀ C s H fp,PIfs (cxC X EW N' sc C s H fp) ifs tt) (he:∀ C s H fp,PE (cxC X EW N' sc C s H fp) elt te)
  (hs:∀ x,k7 iter X.env x=pure x:=by intro _;rfl):PE X (.ListComp elt [⟨tg,iter,ifs,0⟩] sc pos) (tLC wi cap g tt te):=by
 intro f s σ H Q I h;subst hNN hso;refine b1h hc hE (b1a ck) hi hg ht he hs I h λD d C m i c q k F=>?_;exact⟨m,k,λl a=>⟨.ref D,i,F.after c (λb o j e=>a.extBut b o j e),rfl,q⟩⟩
theorem b3c (hN:X.N.Nodup) (hx:X.N[i]?=some x) (hl:X.env.scope.names.lookup x=some .local) (hc:X.calm=true) (hE:a4d X EW sc) (hNN:X.N=N₀) (hso:X.env.scope=so) (ck:capB N₀ so sc N' cap=true) (hi:PI X tg iter wi)
  (hg:∀ C s H fp,PG (cxC X EW N' sc C s H fp) tg g) (ht:∀ C s H fp,PIfs (cxC X EW N' sc C s H fp) ifs tt) (he:∀ C s H fp,PE (cxC X EW N' sc C s H fp) elt te)
  (hsw:kM (.ListComp elt [⟨tg,iter,ifs,0⟩] sc pos) (some (.Name x pos')) spos.line X.env=pure true:=by rfl)
  (hs:∀ x,k7 iter X.env x=pure x:=by intro _;rfl):PS X (.Assign [.Name x pos'] (.ListComp elt [⟨tg,iter,ifs,0⟩] sc pos) spos) (tAsg (tLC wi cap g tt te) (b0K i)):=by
 subst hNN hso;intro f s σ H D I h;rw[exec_Assign_Name_used _ _ _ _ hsw];refine jX (mI (jX ?_));refine jX (kg (b1h hc hE (b1a ck) hi hg ht he hs I h λd c C m w t q E F=>?_) (λ_ c u=>jY (jY u)) λ_ _ e=>e);refine wpAny_assign_Name (a7a t hN hx (.inl hl) (v:=.ref d) rfl (λj n y=>?_) (.inr hl));obtain⟨a,p,r⟩:=y;have l:C≠a:=by
  rcases r with z | z
  ·rw[z];exact F.loc
  ·exact Ne.symm (F.cell _ _ z)
 exact⟨m,E.sameBut p l,λG k=>⟨_,w,F.after n (λb o B e=>k.extBut b o B e),q⟩⟩
end
end L2
namespace L2
open PySem PySem.Spec PyProof.Rows
section
variable {X:Cx}{st:Stmt}{rest:List Stmt}{t u:TS}{e:Expr}{te:TE}{tt:TT}
end
end L2
namespace L2
open PySem PySem.Spec PyProof.Rows
mutual
def DV (H:Hp):PyData->V->Prop
 | .none,x=>x=.non
 | .bool b,x=>x=.bl b
 | .int i,x=>x=.int i
 | .str s,x=>x=.str s
 | .list ds,x=>∃ a vs,x=.ref a/\H a=some (.lst vs)/\DVs H ds vs
 | .tuple ds,x=>∃ a vs,x=.ref a/\H a=some (.tup vs)/\DVs H ds vs
 | .dict _,_=>False
def DVs (H:Hp):List PyData->List V->Prop
 | [],vs=>vs=[]
 | d::ds,vs=>∃ v r,vs=v::r/\DV H d v/\DVs H ds r
end
mutual
theorem DV.reads {P:j7}{w:World}{H:Hp}{h:Heap}(ok:HOk P w H h):∀ {d:PyData}{x:V}{u:Value},DV H d x->RelV x u->∃ as,Reads h u d as
 | .none,x,u,q,r=>by
  unfold DV at q;subst q;cases (show u=Value.none from r);exact⟨_,.none⟩
 | .bool b,x,u,q,r=>by
  unfold DV at q;subst q;cases (show u=Value.bool b from r);exact⟨_,.bool b⟩
 | .int i,x,u,q,r=>by
  unfold DV at q;subst q;obtain⟨t,e⟩:=(show ∃ t,u=Value.int i t from r);subst e;exact⟨_,.int i t⟩
 | .str s,x,u,q,r=>by
  unfold DV at q;subst q;obtain⟨t,e⟩:=(show ∃ t,u=Value.str s t from r);subst e;exact⟨_,.str s t⟩
 | .list ds,x,u,q,r=>by
  unfold DV at q;obtain⟨a,vs,e,ha,q⟩:=q;subst e;cases (show u=Value.ref a from r);obtain⟨_,its,n,rv,e⟩:=ok a _ ha;obtain⟨as,rd⟩:=DVs.reads ok q rv;exact⟨_,.list e rfl rfl (by simpa using rd)⟩
 | .tuple ds,x,u,q,r=>by
  unfold DV at q;obtain⟨a,vs,e,ha,q⟩:=q;subst e;cases (show u=Value.ref a from r);obtain⟨_,its,rv,o,e,c,n,d⟩:=ok a _ ha;obtain⟨as,rd⟩:=DVs.reads ok q rv;exact⟨_,.tuple e c d (by simpa using rd)⟩
 | .dict _,x,u,q,r=>by unfold DV at q;exact q.elim
theorem DVs.reads {P:j7}{w:World}{H:Hp}{h:Heap}(ok:HOk P w H h):∀ {ds:List PyData}{vs:List V}{us:List Value},DVs H ds vs->Vals vs us->∃ as,ReadsAll h us ds as
 | [],vs,us,q,r=>by
  unfold DVs at q;subst q;cases r;exact⟨_,.nil⟩
 | d::ds,vs,us,q,r=>by
  unfold DVs at q;obtain⟨v,rr,e,q1,q2⟩:=q;subst e;cases r with
  | cons r1 r2=>
   obtain⟨as,h1⟩:=DV.reads ok q1 r1;obtain⟨bs,h2⟩:=DVs.reads ok q2 r2;exact⟨_,.cons h1 h2⟩
end
def rEqD:R2:=λx y H Q=>∃ d e,DV H d x/\DV H e y/\SeqAt.shaped d=true/\SeqAt.shaped e=true/\Q (.bl (PyData.eqv d e)) H
def rNeD:R2:=λx y H Q=>∃ d e,DV H d x/\DV H e y/\SeqAt.shaped d=true/\SeqAt.shaped e=true/\Q (.bl (!PyData.eqv d e)) H
section
variable {X:Cx}
theorem b7h (hu:X.A.units+66<cLine):OpR X (ke .Eq) rEqD:=by
 intro i s σ H x y v u Q I g k h;obtain⟨d,e,b,f,l,a,q⟩:=h;obtain⟨m,j⟩:=b.reads I.hok g;obtain⟨n,c⟩:=f.reads I.hok k;exact eq_dataH j c l a (by omega) ⟨.bl _,H,I,rfl,q⟩
theorem b7i (hu:X.A.units+66<cLine):OpR X (ke .NotEq) rNeD:=by
 intro b s σ H x y v u Q I j c h;obtain⟨d,e,a,g,l,i,q⟩:=h;obtain⟨n,f⟩:=a.reads I.hok j;obtain⟨m,k⟩:=g.reads I.hok c;exact ne_dataH f k l i (by omega) ⟨.bl _,H,I,rfl,q⟩
def b7j (_ j:Int):Prop:=0<j/\j<2 ^ 64
theorem b3d:OpR X (kl .FloorDiv) (rI b7j λi j=>.int (i / j)):=opI λi j _ _ _ _ _ a q=>by
 have c:(0:Int)<j:=a.1;have d:j<2 ^ 64:=a.2;refine floordiv_int (by omega) ?_ (.inl (PyProof.noPylong_of_log2 ?_))
 ·rw[Int.fdiv_eq_ediv_of_nonneg i (by omega)];exact q
 ·have b:j.natAbs<2 ^ 64:=by omega
  have e:=(Nat.log2_lt (by omega)).mpr b;omega
def rIsT (K:Fg):List V->Hp->VK->Prop:=λxs H Q=>∃ x T t b,xs=[x,.ty T]/\TyOf K H x t/\PySem.W.kitOne K t (.type T)=some b/\Q (.bl b) H
theorem b3e:CallR X (.builtin "isinstance") (rIsT X.K):=by
 intro c s σ H j k Q I r h;obtain⟨x,T,t,b,rfl,i,e,q⟩:=h;obtain⟨u,g,rfl,f,a⟩:=a90 r;cases (a);exact b0Y I f i e λd=>⟨.bl b,H,I.tok d,rfl,q⟩
end
end L2
namespace L2
open PySem PySem.Spec PyProof.Rows
abbrev veM:List Value:=[.type "ValueError",.type "Exception",.type "BaseException",.type "object"]
theorem b7k {K:Fg}(q:PySem.W.excIn K C veM "ValueError.__new__"=true):∃ bm N nm qn bs hd sn sub ab col dd k0 k1 k2 k3 k5,K.lookup C=some (excClassObj nm qn C N bs bm hd sn sub ab col dd k0 k1 k2 k3 k5 "ValueError.__new__") /\
  PySem.W.nsOkIn K N=true/\PySem.W.nsIn K N "__init__"=some none/\PySem.W.tailIn K veM bm=true:=by
 unfold PySem.W.excIn at q
 split at q
 ·rename_i dd cd sl ho
  split at q
  ·rename_i C2 bm k0 k1 k2 k3 nw k5 hm hs
   simp at q;obtain⟨⟨⟨⟨⟨p,k⟩,e⟩,g⟩,b⟩,d⟩:=q;subst p k;obtain⟨r,h,t,m,o,i,n,a,j,c,s⟩:=cd;subst hm e;have f:sl=#[k0,k1,k2,k3,some (.builtin "ValueError.__new__"),k5]:=by
    cases sl with
    | mk l=>dsimp only at hs;rw[hs]
   subst f;exact⟨bm,m,r,o,h,i,n,a,j,c,dd,k0,k1,k2,k3,k5,ho,b,d,g⟩
  ·cases q
 ·cases q
section
variable {X:Cx}{E:XK}
theorem b3f (O:Outs X E) (hc:X.calm=true) (hg:Gl X x) (hm:X.mg x=some (.ref C)) (hq:PySem.W.excIn X.K C veM "ValueError.__new__"=true) (he:PE X e0 te)
  (hs:j0 [e0] X.env=(false,eval e0 X.env)::j0 [] X.env:=by rfl) (hp:(backTo cpos (j0 [] X.env)).any (·.1)=false:=by rfl) (hd:(x==("__debug__":Str))=false:=by decide) :
  PS X (.Raise (some (.Call (.Name x np) [e0] [] cpos)) none pos) (λ_ σ H=>te σ H λ_ H1=>since X.H₀ E (.ref C) none H1):=by
 intro d s σ H D I h;obtain⟨bm,N,nm,qn,bs,k,sn,sub,ab,col,dd,k0,k1,k2,k3,k5,hC,u,z6,z4⟩:=b7k hq;have B:=I.mod.kin;have hN:X.base.Ns N (X.base.nsMap N):=.of_isNs (PySem.W.isNs_of_in B u);have hi:=PySem.W.nsMap_none_of_in B u z6;have T:=PySem.W.tail_of_in B z4;refine wpAny_Raise_call_subT (nm:=nm) (q:=qn) (N:=N) (bs:=bs) (hdct:=k) (sn:=sn) (sub:=sub) (ab:=ab) (col:=col) (dd:=dd) (k0:=k0) (k1:=k1) (k2:=k2) (k3:=k3) (k5:=k5) PySem.F.excBase_ValueError (T.hasType (by decide)) (I.ok.hd hc)
  (by rw[hs];show (false||(backTo cpos _).any (·.1))=false;rw[hp];rfl) hi (a4a I hg hm ⟨rfl,?_⟩ hd)
 rw[hs];refine Calls.evalArgs_plain (Calls.spliced_cons (thn (he d s σ H _ I h) λv s2 ⟨y,H2,a,_,q2⟩=>Calls.spliced_nil ⟨rfl,fh (a0t (jm rfl)),a.bk _ _ (B _ _ hC),hN.keeps a.bk,T.keeps a.bk,λh' e hm=>b28 O a hm q2⟩))
end
end L2
namespace L2
open PySem PySem.Spec PyProof.Rows
theorem a7m (h:env.frame=env'.frame):lv e env=lv e env':=by
 unfold lv PySem.frameOf;rw[h]
theorem a4A {h:Heap}(n:h.Ns a m) (e:h.get? a=some o) (d:o.data=.fields vs):False:=by
 obtain⟨i,g,f,c,b,_⟩:=n;rw[e]at c;cases c;rw[d]at b;cases b
section
variable {X:Cx}{E:XK}
theorem b1i {sc:Scope}(O:Outs X E):a4d X (since X.H₀ E) sc:=by
 rintro pins σ H s C fp use Fin acc I hfp hC ev s' ⟨e,Cl,H',e1,os,bare,un,hok,⟨⟨T,f,nT,fT⟩,ne,fe⟩,⟨m,hm⟩,fC,_,q⟩;subst e1;have I2:Inv X pins σ H' s':=I.call' (ch:=fp) os un hok bare λb hb=>⟨(hfp b hb).2.2.2.1,(hfp b hb).2.1,(hfp b hb).2.2.2.2.1,(hfp b hb).2.2.2.2.2⟩;have old:∀ b,b∈fp\/s.heap.get? b=none->X.s₀.heap.get? b=none:=λb hb=>by
  rcases hb with hb | hb
  ·rcases (hfp b hb).2.2.2.1 with z | z
   ·rw[O.ex]at z;cases z
   ·exact Heap.get?_none_of_le z
  ·exact (O.base I).gone0 hb
 have oC:X.s₀.heap.get? C=none:=Heap.get?_none_of_le (by rw[hC];exact I.sz);have frC:∀ b∈frs (X.env::X.outer),b≠C:=λb hb z=>by
  obtain⟨_,ob,hob,_⟩:=(O.funs I).mem hb
  have:=Heap.lt_size hob
  rw[z,hC]at this;exact eR _ this
 have hx:∀ b,(b=e\/b=T)\/b=C->X.s₀.heap.get? b=none/\H' b=none:=λb hb=>by
  rcases hb with (rfl | rfl) | rfl
  ·exact⟨old _ ne,fe⟩
  ·exact⟨old _ nT,fT⟩
  ·exact⟨oC,fC⟩
 have frx:∀ {h:Heap},h.FunFrames X.base (X.env::X.outer)->∀ {b:Addr}{o:Obj}{vs:Array Value},h.get? b=some o->o.data=.fields vs->b∉frs (X.env::X.outer):=λ{h} hl {b o vs} h1 h2 hb=>by
  obtain⟨_,ob,hob,no⟩:=hl.mem hb;rw[h1]at hob;cases hob;exact no vs h2
 obtain⟨oe,vs,oT,ts,g1,g2,g3,g4,g5,g6,g7,g8⟩:=f;have eC:e≠C:=λz=>by rw[z]at g1;exact a4A hm g1 g3
 have TC:T≠C:=λz=>by rw[z]at g6;exact a4A hm g6 g7
 have ef:=frx (O.funs I2) g1 g3;have Tf:=frx (O.funs I2) g6 g7;have hlC:C<s'.heap.objs.size:=hm.lt;unfold lI;rw[a7m (env':=X.env) (show (lz sc (kf (C+1) sc.names (a1a X.env sc.names [])) C X.env).frame=X.env.frame from rfl)];refine b1d (base:=X.base) (O.frames I) (O.funs I2) O.frm ⟨oe,vs,oT,ts,g1,g2,g3,g4,g5,g6,g7,g8⟩ λh1 T1 k1 f1 z1=>?_;have T1C:T1≠C:=by
  rcases z1 with z | z
  ·rw[z];exact TC
  ·exact λw=>absurd hlC (by rw[<- w];exact Nat.not_lt.mpr z)
 have hm1:h1.Ns C m:=by
  obtain⟨o,es,ep,q1,q2,q3,q4⟩:=hm;exact⟨o,es,ep,k1.keep C o q1 (λz=>frC C z rfl) (λz=>by
   rcases z with z | z
   ·exact eC z.symm
   ·exact TC z.symm),q2,q3,q4⟩
 have goal:∀ h2,Heap.SameBut C h1 h2->∀ cenv:Env,cenv.locals=C->wpAny (model X.prog X.w) X.A (PySem.passOn "comprehension.variables-let-go" (.ref e) cenv:Sem Value) (λ_ _=>False) X.xe { s' with heap:=h2 }:=λh2 sb cenv _=>by
  have f2:FlyT e (.ref Cl) T1 (rawInt X.env.locals) h2:=by
   obtain⟨oe,vs,oT,ts,g1,g2,g3,g4,g5,g6,g7,g8⟩:=f1;exact⟨oe,vs,oT,ts,(sb.2 e eC).trans g1,g2,g3,g4,g5,(sb.2 T1 T1C).trans g6,g7,g8⟩
  have k2:Lk (frs (X.env::X.outer)) (·=C) h1 h2:=⟨λb o q _ n=>(sb.2 b n).trans q,λb o q n=>⟨o.slots,(sb.2 b n).trans q⟩,fL sb.1.symm⟩;have k12:Lk (frs (X.env::X.outer)) (λb=>(b=e\/b=T)\/b=C) s'.heap h2:=Lk.trans ⟨λb o q f n=>k1.keep b o q f λz=>n (.inl z),λb o q n=>k1.slot b o q λz=>n (.inl z),k1.size⟩ k2 λx z=>.inl (.inr z);unfold PySem.passOn;refine jX (f2.field (s:={ s' with heap:=h2 }) ?_);rw[if_neg (by simp)];refine jX (b1c (s:={ s' with heap:=h2 }) f2 λh3 k3 f3=>mV ?_);have k13:Lk (frs (X.env::X.outer)) (λb=>(b=e\/b=T)\/b=C) s'.heap h3:=k12.trans (k3 _) λx z=>by
   rcases z1 with w | w
   ·exact .inl (.inl (.inr (z.trans w)))
   ·exact .inr (by rw[z];exact w)
  have fl3:h3.FunFrames X.base (X.env::X.outer):=k13.funs (λb hb z=>by
   rcases z with (z | z) | z
   ·exact ef (z▸hb)
   ·exact Tf (z▸hb)
   ·exact frC b hb z) (O.funs I2)
  refine O.xe _ _ (b4r (s:={ s' with heap:=h3 }) (base:=X.base) (O.frames I) fl3 O.frm f3 λh4 T4 k4 f4 z4=>?_);have T1x:((T1=e\/T1=T)\/T1=C)\/s'.heap.objs.size≤T1:=by
   rcases z1 with w | w
   ·exact .inl (.inl (.inr w))
   ·exact .inr w
  refine O.fin I2 (ex:=λb=>(b=e\/b=T)\/b=C) (k13.trans k4 λx z=>by
   rcases z with z | z
   ·exact .inl (.inl (.inl z))
   ·rw[z];exact T1x) f4 hx (.inl (.inl rfl)) (by
   rcases z4 with z | z
   ·rw[z];exact T1x
   ·exact .inr (eD k13.size z)) q
 cases use with
 | none=>exact⟨m,hm1,goal⟩
 | some u=>exact⟨m,hm1,goal⟩
theorem b3g:a2I (CXx X.prog X.w) (cxC X E N' sc C s H fp) E:=by
 intro h σ F j B r J ⟨e,o,k,A,v,a,t,g,⟨⟨T,f,p,i⟩,old,fe⟩,q⟩;subst A;have c:=J.call' v t g a λ_ z=>nomatch z;obtain⟨m,y,_⟩:=c.loc;obtain⟨D,n,_⟩:=J.loc;have l:∀ b,j.heap.get? b=none->b∈fp\/s.heap.get? b=none:=λb u=>J.base.gone u;refine⟨e,o,k,rfl,c.os,a,c.base,g,⟨⟨T,f,l _ p,i⟩,l _ old,fe⟩,⟨m,y⟩,c.free,λz=>?_,q⟩;obtain⟨_,_,_,x,_⟩:=n;have d:j.heap.get? C=_:=x;rw[z,old]at d;cases d
end
end L2
namespace L2
open PySem PySem.Spec PySem.Calls PyProof.Rows PySem.W
structure ExK (K:Frag) (D:Addr):Prop where
 cls:(clsIn K D).isSome=true
 ga:findIn K (.ref D) "__getattribute__"=some (some (.builtin "BaseException.__getattribute__"))
 hk:findIn K (.ref D) "__getattr__"=some none
 ha:findIn K (.ref D) "__class__"=some (some (.builtin "object.__class__"))
 hn:specialIn K (.builtin "object.__class__") "__get__"=some (some (.builtin "getset_descriptor.__get__"))
 tk:takesIn K (.builtin "object.__class__")=some true
 hm:mroIn K D (.type "object")=some true
 hb:mroIn K D (.type "BaseException")=some true
section
variable {prog:j7}{w:World}{A:Around}{E:Value->Shared->Prop}{s:Shared}{K:Frag}{x D:Addr}{ox:Obj}
theorem ExK.find (k:ExK K D):findObj K D none "__class__"=some (.bind (.builtin "getset_descriptor.__get__") (.builtin "object.__class__")):=by
 obtain⟨b,a⟩:=ic.mp k.cls;unfold findObj;rw[a,jo,k.ha,jo];simp[k.hn,k.tk]
theorem a7n (k:ExK K D) (X:K.In s.heap) (I:InstAt s.heap x ox D none) (h:Q () s):wpAny (model prog w) A (l4 "BaseException.__getattribute__" ⟨[.ref x,v],[]⟩) Q E s:=by
 have b:builtinKind "BaseException.__getattribute__"=some .slot:=by decide +kernel
 have a:splitId "BaseException.__getattribute__"=some ("BaseException","__getattribute__"):=by decide +kernel
 have i:=I.type (M:=model prog w);have j:=looks_mroIn (M:=model prog w) X k.hb;simp only[l4,b,a]
 repeat lk
 exact h
theorem b7l (k:ExK K D) (X:K.In s.heap) (I:InstAt s.heap x ox D none) (h:Q (.done (.ret (.ref D))) s) :
  wpAny (model prog w) A (j8.«object.__getattribute__» ⟨[.ref x,.str "__class__" tk],[]⟩) Q E s:=by
 obtain⟨b,g,d,t,a⟩:=s;have c:=I.type (M:=model prog w);have e:=looks_find (M:=model prog w) X I k.find
 repeat (first | with_reducible refine lG ?_ | lk)
 exact class_get X I k.hm (jY h)
theorem b1j (k:ExK K D) (X:K.In s.heap) (I:InstAt s.heap x ox D none) (h:Q (some (.ref D)) { s with toks:=s.toks+1 }):wpAny (model prog w) A (getAttr? (.ref x) "__class__") Q E s:=by
 have c:=I.type (M:=model prog w);have a:=looks_findIn (M:=model prog w) X k.ga;have e:=looks_findIn (M:=model prog w) X k.hk;refine jX (wpAny_mkText (jX (kR (kr (jX (c.at (jX (a.at ?_))))))));dsimp only;refine jX (e.at ?_);refine jX (kR (kr ?_));unfold callGetattribute boundAndCalled;rw[if_neg (by simp)];have b:=PySem.F.excAttr_ValueError.ga.bind (.ref x);rw[b];refine jX (jY (lG (codeAny_call_builtin PySem.F.excAttr_ValueError.ga.plain PySem.F.entry_bexc_ga (a7n k X I (b7l k X I ?_)))));exact handed_on rfl (jY h)
theorem a6E (k:ExK K D):KitX K (.ref x) (.ref D) (λh=>InstAt h x ox D none) where
 ty:=λ_ _ _ I=>I.type
 it:=λ_ _ X _=>by
  obtain⟨cd,hc⟩:=ic.mp k.cls;unfold clsIn at hc
  split at hc
  ·rename_i ho
   intro A' Q' E' s' k q;unfold isType loadHead;exact jX (wpAny_loadPart (k _ _ (X _ _ ho)) (jY q))
  ·cases hc
 ne:=λh tp dd its n sl X htp=>by
  obtain⟨cd,hc⟩:=ic.mp k.cls;refine Bool.eq_false_iff.mpr λq=>?_;have e:D=tp:=Value.ref.inj (beq_iff_eq.mp q);subst e;unfold clsIn at hc
  split at hc
  ·rename_i ho
   have z:=(X _ _ ho).symm.trans htp;cases z
  ·cases hc
 ca:=λX I q=>b1j k X I q
end
end L2
namespace L2
open PySem PySem.Spec PyProof.Rows
section
variable {X:Cx}{pins:List (Addr×Obj)}{σ σ':St}{H:Hp}{s:Shared}
theorem Inv.lk (I:Inv X pins σ H s) (k:Lk (frs X.stack) ex s.heap h') (hx:∀ b,ex b->X.s₀.heap.get? b=none/\H b=none/\(∀ x c,X.env.cells.lookup x=some c->c≠b)/\∀ p∈X.pn++pins,p.1≠b)
  (hl:∃ m,h'.Ns X.env.locals m/\∀ (i:Nat) (x:Str) (v:V),X.N[i]?=some x->σ'[i]?=some (some v)->Vis X.env.scope x->∃ u,RelV v u/\Look X.env h' m x u) (hn:σ'.length=σ.length):Inv X pins σ' H { s with heap:=h',toks:=t' }:=by
 refine⟨I.ok,I.os,I.bare,I.base.lk k (λb a=>?_) (λb a=>.inr (hx b a).1),hl,λx c e=>?_,I.free,I.freeC,λp g=>?_,I.hok.lk k I.stkFree λb a=>(hx b a).2.1,hn.trans I.len⟩
 ·rcases dY.mp (I.stkSub b a) with z | z
  ·rw[z];exact .inr (Heap.get?_none_of_le I.ok.above)
  ·simp_all
 ·obtain⟨v,o,l,n⟩:=I.cell x c e;obtain⟨r,d⟩:=k.slot c o l λz=>(hx c z).2.2.1 x c e rfl;exact⟨v,_,d,n⟩
 ·obtain⟨d,q,f,h,j⟩:=I.pin p g;refine⟨k.keep _ _ d (λz=>?_) (λz=>(hx _ z).2.2.2 p g rfl),q,f,h,j⟩;rcases dY.mp (I.stkSub _ z) with z | z
  ·exact f z
  ·exact h z
theorem Inv.lk0 (I:Inv X pins σ H s) (k:Lk (frs X.stack) ex s.heap h') (hx:∀ b,ex b->X.s₀.heap.get? b=none/\H b=none/\b≠X.env.locals/\(∀ x c,X.env.cells.lookup x=some c->c≠b)/\∀ p∈X.pn++pins,p.1≠b):Inv X pins σ H { s with heap:=h' }:=by
 refine I.lk k (λb a=>⟨(hx b a).1,(hx b a).2.1,(hx b a).2.2.2⟩) ?_ rfl;obtain⟨m,⟨o,e,q,B,w,y,h⟩,l⟩:=I.loc;obtain⟨j,r⟩:=k.slot _ o B λz=>(hx _ z).2.2.1 rfl;refine⟨m,⟨_,e,q,r,w,y,h⟩,λi x v d f A=>?_⟩;obtain⟨u,t,n⟩:=l i x v d f A;refine⟨u,t,?_⟩;rcases n with z | ⟨z1,c,z2,oc,z3,z4⟩
 ·exact .inl z
 ·obtain⟨j,g⟩:=k.slot c oc z3 λz=>(hx c z).2.2.2.1 x c z2 rfl;exact .inr ⟨z1,c,z2,_,g,z4⟩
abbrev Cx.hnd (X:Cx) (e:Addr) (oe:Obj):Cx:={ X with A:=X.A.mark (some (.ref e)),calm:=false,pn:=(e,oe)::X.pn,xe:=λ_ _=>False }
theorem Inv.hnd (I:Inv X pins σ H s) (h1:s.heap.get? e=some oe) (h2:H e=none) (h3:e≠X.env.locals) (h4:e∉X.fs) (h5:∀ v,oe.data≠.cell v):Inv (X.hnd e oe) pins σ H s:=
 ⟨⟨I.ok.mod,I.ok.kind,I.ok.glob,I.ok.blt,I.ok.above,I.ok.inj,I.ok.has,I.ok.cab,(λz=>nomatch z),I.ok.frames,I.ok.stk,I.ok.exf,I.ok.bs,I.ok.bsz,I.ok.noex,I.ok.exfs,I.ok.funs,I.ok.frf⟩,I.os,I.bare,I.base,I.loc,I.cell,I.free,I.freeC,(λp a=>by
  rcases dY.mp (a) with rfl | a
  ·exact⟨h1,h2,h3,h4,h5⟩
  ·exact I.pin p a),I.hok,I.len⟩
theorem Inv.unhnd (ok:X.Ok) (I:Inv (X.hnd e oe) pins σ H s):Inv X pins σ H s:=⟨ok,I.os,I.bare,I.base,I.loc,I.cell,I.free,I.freeC,λp a=>I.pin p (fi _ a),I.hok,I.len⟩
theorem a3I (I:Inv X pins σ H s) (hN:X.N.Nodup) (hi:X.N[i]?=some n) (hl:X.env.scope.names.lookup n=some .local) (q:∀ s',Inv X pins (σ.set i none) H s'->Q () s') :
  wpAny M A (do bindName X.env n .none;unbindBehindTheSuite X.env n pos) Q E s:=by
 obtain⟨m,w,B⟩:=I.loc;have f:(X.env.scope.kind==.class||(X.env.scope.kind==.module&&X.env.locals != X.env.globals))=false:=by rw[I.ok.kind];rfl
 refine wpAny_nameGoes_keeps hl w f λJ v g a=>q _ ?_;refine I.lk ⟨λb o q _ n=>(a.2 b n).trans q,λb o q n=>⟨o.slots,(a.2 b n).trans q⟩,fL a.1.symm⟩ (λb y=>?_) ⟨_,g,λj x r h d l=>?_⟩ (jp ..)
 ·rw[y];exact⟨Heap.get?_none_of_le I.ok.above,I.free,I.cne,λp D=>(I.pin p D).2.2.1⟩
 ·by_cases hj:j=i
  ·subst hj;rw[hZ (by rw[I.len];exact (eq.mp hi).1)]at d;cases d
  ·rw[gH (Ne.symm hj)]at d;obtain⟨u,C,z⟩:=B j x r h d l;refine⟨u,C,?_⟩;rcases z with ⟨z1,z2⟩ | ⟨z1,c,z2,oc,z3,z4⟩
   ·refine .inl ⟨z1,?_⟩
    show (if x=n then v else m x)=some u
    rw[if_neg λe=>hj (by
     subst e;obtain⟨G,t⟩:=eq.mp h;obtain⟨F,k⟩:=eq.mp hi;exact (jd hN).mp (t.trans k.symm))]
    exact z2
   ·exact .inr ⟨z1,c,z2,oc,(a.2 c (I.cne x c z2)).trans z3,z4⟩
def PX (X:Cx) (e:Expr) (t:XK->TE):Prop:=∀ (pins:List (Addr×Obj)) (s:Shared) (σ:St) (H:Hp) (Q:VK) (E:XK),Inv X pins σ H s->t E σ H Q ->
 wpAny (model X.prog X.w) X.A (eval e X.env) (EP X pins σ Q) (λev s'=>∃ H1 s1,Inv X pins σ H1 s1/\CXx X.prog X.w X.stack H1 s1 E ev s') s
end
section
variable {X:Cx}{k:Nat}{f C D:Addr}{fd:j9}{ps:List Str}{sp:Sp}{x n:Str}{p pos np hpos tpos:Pos}{e ce:Expr}{es:List Expr}{t:TA}
theorem b5g (F:FnOk X.prog X.w X.K X.mg X.base (CXx X.prog X.w) k f fd ps sp) (hr:Room k X.A) (hg:Gl X x) (hm:X.mg x=some (.ref f)) (hk:PySem.W.keepIn X.K (.ref f)=true) (hb:Binds X.K fd ps [])
  (ha:PA X.nox (e::es) t) (hdb:(x==("__debug__":Str))=false:=by decide) (he:j0 (e::es) X.env=(false,eval e X.env)::j0 es X.env:=by rfl) (hpl:(backTo pos (j0 es X.env)).any (·.1)=false:=by rfl) :
  PX X (.Call (.Name x p) (e::es) [] pos) (λE=>b6Z sp [] E t):=by
 intro d s σ H Q E I h;refine lS (a4a I hg hm ?_ hdb);refine PySem.W.callWith_K I.ok.mod.kin hk (kg (ha pos d s σ H _ (I.wish _) h) (λc i ⟨j,g,a,r,q⟩=>⟨a.kIn,?_⟩) λ_ _ z=>ei z) he hpl;have a:=a.unwish;have q:sp _ g Q E:=q;rw[eL]at q;have l:c.length=ps.length:=by rw[<- r.length];exact F.len _ _ _ _ q
 refine lG (lb (F.run X.A X.stack i g ⟨c,[]⟩ c j Q E hr a.env0 (by simpa using hb i c a.kIn (by simp_all)) r q) λr m b=>?_);cases r with
 | error e=>exact⟨g,i,a,b⟩
 | ok fl=>
  cases fl with
  | ret u=>exact a.after b
  | next=>exact ei b
  | brk=>exact ei b
  | cont=>exact ei b
def tTry (PC:Addr->Prop) (i:Nat) (tc:XK->TE) (th:Addr->Addr->TS):TS:=λD σ H=>∃ E:XK,tc E σ H (λ_ H1=>D.nx σ H1)/\∀ c H',E c none H'->∃ C,c=.ref C/\PC C/\∀ e,H' e=none ->
 th C e { nx:=fun σ' H''=>D.nx (σ'.set i none) H'',rt:=D.rt,bk:=fun σ' H''=>D.bk (σ'.set i none) H'',ct:=fun σ' H''=>D.ct (σ'.set i none) H'' } (σ.set i (some (.ref e))) H'
theorem b7m {PC:Addr->Prop}(hst:X.stack=X.env::X.outer) (hex:X.ex=[]) (hfm:X.env.frame=some X.env.locals) (hb:PX X ce tc) (hg:Gl X x) (hm:X.mg x=some (.ref D)) (hD:∀ C,PC C->PySem.W.exmOne X.K (.ref C) (.ref D)=some true)
  (hN:X.N.Nodup) (hi:X.N[i]?=some n) (hl:X.env.scope.names.lookup n=some .local) (hh:∀ C e oe,PC C->oe.cls=.ref C->oe.dict=none->PySem.W.notCls oe=true->PSs (X.hnd e oe) (b₀::suite) (th C e))
  (hs:kM ce none pos.line X.env=pure false:=by rfl) (hd:(x==("__debug__":Str))=false:=by decide) :
  PS X (.Try [.Expr ce pos] [.ExceptHandler (some (.Name x np)) (some n) (b₀::suite) hpos] [] [] tpos) (tTry PC i tc th):=by
 intro a s σ H D' I ⟨E,hc,hE⟩;refine wpAny_Try_except (mH (wpAny_Expr_any (kg (hb a s σ H _ E I hc) (λv s1 ⟨y,H1,t,r1,q1⟩=>lD (lD ⟨σ,H1,t,q1⟩)) λev k q=>?_) I.quiet hs));obtain⟨H1,s1,t,e,C,H',rfl,os,U,un,hok,⟨⟨T,f,nT,fT⟩,ne,L⟩,q⟩:=q;obtain⟨C0,hC,M,hth⟩:=hE _ _ q;cases hC;have I2:Inv X a σ H' k:=t.call' (ch:=[]) os un hok U λ_ z=>nomatch z;have fr:X.A.frames=some (X.env::X.outer):=by rw[<- hst];exact I.ok.frames
 have V:k.heap.FunFrames X.base (X.env::X.outer):=by rw[<- hst];exact I2.stack
 have j:∀ b,s1.heap.get? b=none->H' b=none->X.s₀.heap.get? b=none/\H' b=none/\b≠X.env.locals/\(∀ x c,X.env.cells.lookup x=some c->c≠b)/\∀ p∈X.pn++a,p.1≠b:=λb r B=>by
  refine⟨?_,B,λz=>?_,λx c hx z=>?_,λp hp z=>?_⟩
  ·cases q0:X.s₀.heap.get? b with
   | none=>rfl
   | some o=>
    obtain⟨o',g⟩:=t.base.there b o q0 (by rw[hex];exact fw);rw[r]at g;cases g
  ·obtain⟨m,⟨o,_,_,g,_⟩,_⟩:=t.loc;rw[z,g]at r;cases r
  ·obtain⟨v,o,g,_⟩:=t.cell x c hx;rw[z,r]at g;cases g
  ·have g:=(t.pin p hp).1;rw[z,r]at g;cases g
 refine b1d fr V hfm f λr T1 k1 f1 z1=>b1c f1 λB k2 f2=>?_;have yT:∀ b,b=e\/b=T->X.s₀.heap.get? b=none/\H' b=none/\b≠X.env.locals/\(∀ x c,X.env.cells.lookup x=some c->c≠b)/\∀ p∈X.pn++a,p.1≠b:=λb hb=>by
  rcases hb with rfl | rfl
  ·exact j _ ne L
  ·exact j _ nT fT
 have tk:∀ b,b=T1->(b=e\/b=T)\/k.heap.objs.size≤b:=λb hb=>by
  rw[hb];rcases z1 with z | z
  ·exact .inl (.inr z)
  ·exact .inr z
 have Q:=k1.trans (k2 _) tk;have I3:=I2.lk0 (by rw[hst];exact Q) yT;have mk:∀ {h:Heap},FlyT e (.ref C) T1 .none h->Inv X a σ H' { k with heap:=h }->∃ d,d.cls=.ref C/\d.dict=none/\PySem.W.notCls d=true/\Inv (X.hnd e d) a σ H' { k with heap:=h }:=λ{h} f I=>by
  obtain⟨d,vs,_,_,g1,g2,S,_⟩:=f;refine⟨d,g2.1,g2.2,by unfold PySem.W.notCls;rw[S],I.hnd g1 L (j e ne L).2.2.1 (λz=>?_) (λv=>by rw[S];exact λz=>nomatch z)⟩;obtain⟨_,ob,hob,no⟩:=I.funs.mem z;have F:h.get? e=some ob:=hob;rw[g1]at F;cases F;exact no vs S
 obtain⟨d,R,c2,c3,J3⟩:=mk f2 I3;refine wpAny_handleBy_cons (codeAny_handlers_test (a4a J3 hg hm ?_ hd)) (by intro q;cases q);have LT:PySem.W.Looks (model X.prog X.w) B (typeOf (.ref e)) (.ref C):=by
  have he:=(J3.pin (e,d) (.head _)).1;exact R▸(PySem.W.Looks.ld he).andThen .now
 refine (PySem.W.exm_one I3.kIn LT (hD C M)).at ?_;refine codeAny_handlers_suite_as ?_;refine b1c f2 λh3 k3 f3=>?_;have I4:=I2.lk0 (by rw[hst];exact Q.trans (k3 _) tk) yT;obtain⟨d,R,c2,c3,J4⟩:=mk f3 I4;refine a4Z (X:=X.hnd e d) J4 hN hi (.inl hl) (v:=.ref e) rfl (λs5 J5=>?_) (.inr hl);refine kg (hh C e d M R c2 c3 a s5 _ H' _ J5 (hth e L)) (λV s6 G=>?_) λ_ _ z=>ei z;cases V with
 | next=>
  obtain⟨σ6,H6,J6,q⟩:=G;exact a3I (J6.unhnd I.ok) hN hi hl λY l=>⟨_,H6,l,q⟩
 | brk=>
  obtain⟨σ6,H6,J6,q⟩:=G;exact a3I (J6.unhnd I.ok) hN hi hl λY l=>⟨_,H6,l,q⟩
 | cont=>
  obtain⟨σ6,H6,J6,q⟩:=G;exact a3I (J6.unhnd I.ok) hN hi hl λY l=>⟨_,H6,l,q⟩
 | ret u=>
  obtain⟨v,σ6,H6,J6,r6,q⟩:=G;exact a3I (J6.unhnd I.ok) hN hi hl λY l=>⟨v,_,H6,l,r6,q⟩
end
end L2
namespace L3
open PySem PySem.Spec PyProof.Rows L2
inductive Z where
 | non | bl (b:Bool) | int (i:Int) | str (x:Str) | ref (a:Addr) | ty (n:String) | scr (a:Addr) (ns:List Int)
 | tup (ws:List Z)
mutual
def eqZ:Z->Z->Bool
 | .non,.non=>true
 | .bl a,.bl b=>a==b
 | .int a,.int b=>decide (a=b)
 | .str a,.str b=>decide (a=b)
 | .ref a,.ref b=>decide (a=b)
 | .ty a,.ty b=>decide (a=b)
 | .scr a ns,.scr b ms=>decide (a=b)&&decide (ns=ms)
 | .tup a,.tup b=>eqZs a b
 | _,_=>false
def eqZs:List Z->List Z->Bool
 | [],[]=>true
 | a::as,b::bs=>eqZ a b&&eqZs as bs
 | _,_=>false
end
mutual
theorem b1k:∀ x y:Z,eqZ x y=true↔x=y
 | .tup a,y=>by
  cases y with
  | tup b=>simp only[eqZ,Z.tup.injEq];exact a83 a b
  | _=>simp[eqZ]
 | .non,y=>by cases y<;>simp[eqZ]
 | .bl _,y=>by cases y<;>simp[eqZ]
 | .int _,y=>by cases y<;>simp[eqZ]
 | .str _,y=>by cases y<;>simp[eqZ]
 | .ref _,y=>by cases y<;>simp[eqZ]
 | .ty _,y=>by cases y<;>simp[eqZ]
 | .scr _ _,y=>by cases y<;>simp[eqZ]
theorem a83:∀ x y:List Z,eqZs x y=true↔x=y
 | [],y=>by cases y<;>simp[eqZs]
 | a::as,y=>by
  cases y with
  | nil=>simp[eqZs]
  | cons b bs=>simp only[eqZs,fM,fW.injEq,b1k a b,a83 as bs]
end
instance:DecidableEq Z:=λx y=>decidable_of_iff _ (b1k x y)
section
variable {K:Fg}{H H' H1 H2:Hp}{a p:Addr}{xs:List V}
def Fz (K:Fg) (H:Hp) (a:Addr) (xs:List V):Prop:=
 (∃ o,H a=some (.frz o (.lst xs)))\/∃ (o:Obj) (its:Array Value) (n:Nat),K.lookup a=some o/\o.cls=.type "list"/\o.dict=none/\o.data=.seq its n/\its.size≤jZ/\Vals xs its.toList
theorem Fz.sq (h:Fz K H a xs):SqL K H a xs:=by
 rcases h with ⟨o,h⟩ | h
 ·exact .inl (.inr ⟨o,h⟩)
 ·exact .inr h
theorem Fz.of (hO:Only H) (h:SqL K H a xs):Fz K H a xs:=by
 rcases h with (h | h) | h
 ·rcases hO a with z | ⟨o,ys,z⟩
  ·grind
  ·simp_all
 ·exact .inl h
 ·exact .inr h
structure TW (K:Fg) (H H':Hp):Prop where
 tup:∀ a xs,H a=some (.tup xs)->H' a=some (.tup xs)
 frz:∀ a xs,Fz K H a xs->Fz K H' a xs
structure TK (K:Fg) (H H':Hp):Prop where
 tup:∀ a xs,H a=some (.tup xs)->H' a=some (.tup xs)
 frz:∀ a xs,Fz K H a xs->Fz K H' a xs
 frd:∀ a o u,H a=some (.frz o u)->H' a=some (.frz o u)
theorem TK.refl (K:Fg) (H:Hp):TK K H H:=⟨λ_ _ h=>h,λ_ _ h=>h,λ_ _ _ h=>h⟩
theorem TK.trans (a:TK K H H1) (b:TK K H1 H2):TK K H H2:=⟨λc d h=>b.tup c d (a.tup c d h),λc d h=>b.frz c d (a.frz c d h),λc o u h=>b.frd c o u (a.frd c o u h)⟩
theorem TK.upd (h:∀ xs,H p≠some (.tup xs)) (h2:∀ o u,H p≠some (.frz o u)):TK K H (L2.upd H p o):=by
 refine⟨λc b e=>?_,λc b e=>?_,λc a u e=>by rw[a0r (by rintro rfl;exact h2 _ _ e)];exact e⟩
 ·rw[a0r (by rintro rfl;exact h _ e)];exact e
 ·rcases e with ⟨a,e⟩ | e
  ·exact .inl ⟨a,by rw[a0r (by rintro rfl;exact h2 _ _ e)];exact e⟩
  ·exact .inr e
theorem TK.new (h:H p=none):TK K H (L2.upd H p o):=.upd (λa e=>by rw[h]at e;cases e) (λo u e=>by rw[h]at e;cases e)
theorem TK.lst {o:HO}(h:H p=some (.lst xs)):TK K H (L2.upd H p o):=by simp_all[upd]
theorem TK.dK {o:HO}{kvs:List (Key×V)}(h:H p=some (.dK kvs)):TK K H (L2.upd H p o):=by simp_all[upd]
theorem TK.ins {o:HO}{C dx:Addr}{fs:List (Str×V)}(h:H p=some (.ins C dx fs)):TK K H (L2.upd H p o):=by simp_all[upd]
end
mutual
def Rep (K:Fg) (H:Hp):Z->V->Prop
 | .non,v=>v=.non
 | .bl b,v=>v=.bl b
 | .int i,v=>v=.int i
 | .str x,v=>v=.str x
 | .ref a,v=>v=.ref a
 | .ty n,v=>v=.ty n
 | .scr a ns,v=>v=.ref a/\Fz K H a (ns.map V.int)
 | .tup ws,v=>∃ a vs,v=.ref a/\H a=some (.tup vs)/\Reps K H ws vs
def Reps (K:Fg) (H:Hp):List Z->List V->Prop
 | [],vs=>vs=[]
 | w::ws,vs=>∃ v r,vs=v::r/\Rep K H w v/\Reps K H ws r
end
section
variable {K:Fg}{H H':Hp}
theorem a0U:Rep K H .non v=(v=.non):=by unfold Rep;rfl
theorem a0P:Rep K H (.bl b) v=(v=.bl b):=by unfold Rep;rfl
theorem a0x:Rep K H (.int i) v=(v=.int i):=by unfold Rep;rfl
theorem a0K:Rep K H (.str x) v=(v=.str x):=by unfold Rep;rfl
theorem a0H:Rep K H (.ref a) v=(v=.ref a):=by unfold Rep;rfl
theorem b1l:Rep K H (.ty n) v=(v=.ty n):=by unfold Rep;rfl
theorem a4e:Rep K H (.scr a ns) v=(v=.ref a/\Fz K H a (ns.map V.int)):=by unfold Rep;rfl
theorem a1P:Rep K H (.tup ws) v=(∃ a vs,v=.ref a/\H a=some (.tup vs)/\Reps K H ws vs):=by conv=>lhs;unfold Rep
theorem a0C:Reps K H [] vs=(vs=[]):=by unfold Reps;rfl
theorem a1C:Reps K H (w::ws) vs=(∃ v r,vs=v::r/\Rep K H w v/\Reps K H ws r):=by conv=>lhs;unfold Reps
mutual
theorem Rep.monoW (t:TW K H H'):∀ (w:Z) (v:V),Rep K H w v->Rep K H' w v
 | .tup ws,v,h=>by
  rw[a1P]at h ⊢;obtain⟨a,vs,e,h,r⟩:=h;exact⟨a,vs,e,t.tup _ _ h,Reps.monoW t ws vs r⟩
 | .scr a ns,v,h=>by
  rw[a4e]at h ⊢;exact⟨h.1,t.frz _ _ h.2⟩
 | .non,v,h=>by rw[a0U]at h ⊢;exact h
 | .bl _,v,h=>by rw[a0P]at h ⊢;exact h
 | .int _,v,h=>by rw[a0x]at h ⊢;exact h
 | .str _,v,h=>by rw[a0K]at h ⊢;exact h
 | .ref _,v,h=>by rw[a0H]at h ⊢;exact h
 | .ty _,v,h=>by rw[b1l]at h ⊢;exact h
theorem Reps.monoW (t:TW K H H'):∀ (ws:List Z) (vs:List V),Reps K H ws vs->Reps K H' ws vs
 | [],vs,h=>by rw[a0C]at h ⊢;exact h
 | w::ws,vs,h=>by
  rw[a1C]at h ⊢;obtain⟨v,r,e,h1,h2⟩:=h;exact⟨v,r,e,Rep.monoW t w v h1,Reps.monoW t ws r h2⟩
end
theorem Rep.mono (t:TK K H H') (w:Z) (v:V) (h:Rep K H w v):Rep K H' w v:=Rep.monoW ⟨t.tup,t.frz⟩ w v h
theorem Reps.mono (t:TK K H H') (ws:List Z) (vs:List V) (h:Reps K H ws vs):Reps K H' ws vs:=Reps.monoW ⟨t.tup,t.frz⟩ ws vs h
theorem Reps.cons {w:Z}{v:V}{ws:List Z}{vs:List V}(a:Rep K H w v) (b:Reps K H ws vs):Reps K H (w::ws) (v::vs):=by rw[a1C];exact⟨v,vs,rfl,a,b⟩
theorem Reps.nil:Reps K H [] []:=by rw[a0C]
theorem Reps.length:∀ {ws:List Z}{vs:List V},Reps K H ws vs->ws.length=vs.length
 | [],vs,h=>by rw[a0C]at h;rw[h];rfl
 | w::ws,vs,h=>by
  obtain⟨v,r,e,_,a⟩:=h;rw[e,eF,eF,Reps.length a]
theorem Reps.get:∀ {ws:List Z}{vs:List V}{i:Nat}{w:Z},Reps K H ws vs->ws[i]?=some w->∃ v,vs[i]?=some v/\Rep K H w v
 | [],_,_,_,_,e=>by simp at e
 | w::ws,vs,i,x,h,e=>by
  obtain⟨v,r,rfl,b,a⟩:=h;cases i with
  | zero=>simp at e;subst e;exact⟨v,rfl,b⟩
  | succ i=>simpa using Reps.get a (by simp_all)
theorem Reps.tog {i:Nat}(h:Reps K H ws vs) (e:vs[i]?=some v):∃ w,ws[i]?=some w/\Rep K H w v:=by
 have c:=h.length;have a:i<ws.length:=by grind
 obtain⟨d,b,r⟩:=h.get (et a);rw[e]at b;cases b;exact⟨_,et a,r⟩
theorem Reps.append:∀ {ws ws':List Z}{vs vs':List V},Reps K H ws vs->Reps K H ws' vs'->Reps K H (ws++ws') (vs++vs')
 | [],_,vs,_,h,h'=>by rw[a0C]at h;subst h;exact h'
 | w::ws,_,vs,_,h,h'=>by
  obtain⟨v,r,rfl,a,b⟩:=h;exact .cons a (Reps.append b h')
theorem Reps.drop:∀ {ws:List Z}{vs:List V}(n:Nat),Reps K H ws vs->Reps K H (ws.drop n) (vs.drop n)
 | [],vs,n,h=>by rw[a0C]at h;subst h;simpa using Reps.nil
 | w::ws,vs,0,h=>h
 | w::ws,vs,n+1,h=>by
  obtain⟨v,r,rfl,b,a⟩:=h;exact Reps.drop n a
theorem Reps.take:∀ {ws:List Z}{vs:List V}(n:Nat),Reps K H ws vs->Reps K H (ws.take n) (vs.take n)
 | [],vs,n,h=>by rw[a0C]at h;subst h;simpa using Reps.nil
 | w::ws,vs,0,h=>by simpa using Reps.nil
 | w::ws,vs,n+1,h=>by
  obtain⟨v,r,rfl,a,b⟩:=h;exact .cons a (Reps.take n b)
theorem Reps.set (r:Rep K H w v):∀ {ws:List Z}{vs:List V}(i:Nat),Reps K H ws vs->Reps K H (ws.set i w) (vs.set i v)
 | [],vs,i,h=>by rw[a0C]at h;subst h;simpa using Reps.nil
 | x::ws,vs,i,h=>by
  obtain⟨y,s,rfl,b,a⟩:=h;cases i with
  | zero=>exact .cons r a
  | succ i=>exact .cons b (Reps.set r i a)
theorem Reps.reverse:∀ {ws:List Z}{vs:List V},Reps K H ws vs->Reps K H ws.reverse vs.reverse
 | [],vs,h=>by rw[a0C]at h;subst h;exact Reps.nil
 | x::ws,vs,h=>by
  obtain⟨y,s,rfl,b,a⟩:=h;rw[gJ,gJ];exact (Reps.reverse a).append (.cons b .nil)
theorem a5g:∀ {ns:List Int}{vs:List V},Reps K H (ns.map Z.int) vs->vs=ns.map V.int
 | [],vs,h=>by rw[eT,a0C]at h;subst h;rfl
 | n::ns,vs,h=>by
  obtain⟨v,r,rfl,a,b⟩:=h;rw[a,a5g b];rfl
theorem a2j:∀ (ns:List Int),Reps K H (ns.map Z.int) (ns.map V.int)
 | []=>Reps.nil
 | n::ns=>.cons (by rw[a0x]) (a2j ns)
theorem Reps.one (h:Reps K H [w] vs):∃ v,vs=[v]/\Rep K H w v:=by
 obtain⟨v,r,rfl,b,a⟩:=h;exact⟨v,by rw[a],b⟩
theorem Reps.two (h:Reps K H [w,w'] vs):∃ v v',vs=[v,v']/\Rep K H w v/\Rep K H w' v':=by
 obtain⟨v,r,rfl,c,a⟩:=h;obtain⟨d,rfl,b⟩:=a.one;exact⟨v,d,rfl,c,b⟩
end
inductive O where
 | lst (ws:List Z)
 | dK (kvs:List (Key×Z))
 | ins (C dx:Addr) (fs:List (Str×Z))
 | dF (kvs:List (Key×Z))
abbrev Hq:=Addr->Option O
def put (G:Hq) (a:Addr) (o:O):Hq:=λb=>if b=a then some o else G b
theorem a0e:put G a o a=some o:=by unfold put;rw[if_pos rfl]
theorem a0A (h:b≠a):put G a o b=G b:=by unfold put;rw[if_neg h]
theorem a2R:put (put G a o) a u=put G a u:=by
 funext b;unfold put;split<;>rfl
theorem a0u {G:Hq}(h:G a=some o) (h':G b=none):a≠b:=by
 intro e;subst e;rw[h]at h';cases h'
theorem a0l (h:G b=some u) (n:G a=none):put G a o b=some u:=by rw[a0A (a0u h n)];exact h
def ROb (K:Fg) (H:Hp) (a:Addr):O->Prop
 | .lst ws=>∃ vs,H a=some (.lst vs)/\Reps K H ws vs
 | .dK kvs=>∃ us,H a=some (.dK us)/\us.map (·.1)=kvs.map (·.1)/\Reps K H (kvs.map (·.2)) (us.map (·.2))
 | .ins C dx fs=>∃ gs,H a=some (.ins C dx gs)/\gs.map (·.1)=fs.map (·.1)/\Reps K H (fs.map (·.2)) (gs.map (·.2))
 | .dF kvs=>∃ o us,H a=some (.frz o (.dK us))/\us.map (·.1)=kvs.map (·.1)/\Reps K H (kvs.map (·.2)) (us.map (·.2))
def RH (K:Fg) (G:Hq) (H:Hp):Prop:=∀ a o,G a=some o->ROb K H a o
section
variable {K:Fg}{H H':Hp}{G:Hq}{a p:Addr}{o:O}{u:HO}
theorem ROb.some (h:ROb K H a o):∃ u,H a=some u:=by
 cases o with
 | lst ws=>obtain⟨b,e,_⟩:=h;exact⟨_,e⟩
 | dK kvs=>obtain⟨b,e,_⟩:=h;exact⟨_,e⟩
 | ins C dx fs=>obtain⟨b,e,_⟩:=h;exact⟨_,e⟩
 | dF kvs=>obtain⟨c,b,e,_⟩:=h;exact⟨_,e⟩
theorem ROb.stay (t:TK K H H') (e:H' a=H a) (h:ROb K H a o):ROb K H' a o:=by
 cases o with
 | lst ws=>obtain⟨b,q,r⟩:=h;exact⟨b,e.trans q,r.mono t⟩
 | dK kvs=>obtain⟨b,q,n,r⟩:=h;exact⟨b,e.trans q,n,r.mono t⟩
 | ins C dx fs=>obtain⟨b,q,n,r⟩:=h;exact⟨b,e.trans q,n,r.mono t⟩
 | dF kvs=>obtain⟨c,b,q,n,r⟩:=h;exact⟨c,b,e.trans q,n,r.mono t⟩
theorem RH.out (h:RH K G H) (e:H a=none):G a=none:=by
 cases q:G a with
 | none=>rfl
 | some o=>obtain⟨u,z⟩:=(h a o q).some;rw[e]at z;cases z
theorem RH.hid (h:RH K G H) (e:H p=none):RH K G (upd H p u):=λb o q=>
 (h b o q).stay (.new e) (a0r (by rintro rfl;obtain⟨u,z⟩:=(h _ o q).some;rw[e]at z;cases z))
theorem RH.set (h:RH K G H) (t:TK K H (upd H p u)) (n:ROb K (upd H p u) p o):RH K (put G p o) (upd H p u):=λb a q=>by
 by_cases hb:b=p
 ·subst hb;rw[a0e]at q;cases q;exact n
 ·rw[a0A hb]at q;exact (h b a q).stay t (a0r hb)
end
abbrev S3:=List (Option Z)
abbrev K3:=Z->Hq->Prop
abbrev C3:=S3->Hq->Prop
abbrev E3:=S3->Hq->K3->Prop
abbrev T3:=S3->Hq->(Bool->Hq->Prop)->Prop
abbrev A3:=S3->Hq->(List Z->Hq->Prop)->Prop
abbrev X3:=C3->K3->C3->C3->S3->Hq->Prop
def ROp (K:Fg) (H:Hp) (ow:Option Z) (ov:Option V):Prop:=∀ w,ow=some w->∃ v,ov=some v/\Rep K H w v
def RSt (K:Fg) (H:Hp):S3->L2.St->Prop:=Paired (ROp K H)
section
variable {K:Fg}{H H':Hp}
theorem RSt.mono (t:TK K H H'):∀ {σ:S3}{τ:L2.St},RSt K H σ τ->RSt K H' σ τ
 | _,_,.nil=>.nil
 | _,_,.cons r s=>.cons (λw e=>let ⟨v,q,h⟩:=r w e;⟨v,q,h.mono t⟩) (RSt.mono t s)
theorem RSt.get:∀ {σ:S3}{τ:L2.St}{i:Nat}{w:Z},RSt K H σ τ->σ[i]?=some (some w)->∃ v,τ[i]?=some (some v)/\Rep K H w v
 | _,_,_,_,.nil,e=>by simp at e
 | _,_,0,w,.cons r _,e=>by
  obtain⟨v,q,h⟩:=r w (by simpa using e);exact⟨v,by rw[q];rfl,h⟩
 | _,_,i+1,w,.cons _ s,e=>by
  obtain⟨v,q,h⟩:=RSt.get s (by simpa using e);exact⟨v,by simpa using q,h⟩
theorem RSt.set (r:Rep K H w v):∀ {σ:S3}{τ:L2.St}(i:Nat),RSt K H σ τ->RSt K H (σ.set i (some w)) (τ.set i (some v))
 | _,_,_,.nil=>.nil
 | _,_,0,.cons _ s=>.cons (λ_ e=>by cases e;exact⟨v,rfl,r⟩) s
 | _,_,i+1,.cons q s=>.cons q (RSt.set r i s)
theorem RSt.length (h:RSt K H σ τ):σ.length=τ.length:=Paired.length h
theorem RSt.nones:∀ n:Nat,RSt K H (ib n none) (ib n none)
 | 0=>.nil
 | n+1=>.cons (λ_ e=>nomatch e) (RSt.nones n)
theorem RSt.app:∀ {σ σ':S3}{τ τ':L2.St},RSt K H σ τ->RSt K H σ' τ'->RSt K H (σ++σ') (τ++τ')
 | _,_,_,_,.nil,h=>h
 | _,_,_,_,.cons r s,h=>.cons r (RSt.app s h)
theorem RSt.ofVals:∀ {ws:List Z}{vs:List V},Reps K H ws vs->RSt K H (ws.map some) (vs.map some)
 | [],vs,h=>by rw[a0C]at h;subst h;exact .nil
 | w::ws,vs,h=>by
  obtain⟨v,r,rfl,b,a⟩:=h;exact .cons (λ_ e=>by cases e;exact⟨v,rfl,b⟩) (RSt.ofVals a)
end
def a4B (N:List Str) (ws:List Z):S3:=ws.map some++ib (N.length - ws.length) none
theorem RSt.start {K:Fg}(h:Reps K H ws vs):RSt K H (a4B N ws) (L2.start N vs):=by
 unfold a4B L2.start;rw[h.length];exact (RSt.ofVals h).app (RSt.nones _)
def UpV (K:Fg) (H:Hp) (R:K3) (Q:VK):Prop:=∀ w G v H',R w G->Rep K H' w v->RH K G H'->TK K H H'->Q v H'
def UpB (K:Fg) (H:Hp) (R:Bool->Hq->Prop) (Q:Bool->Hp->Prop):Prop:=∀ b G H',R b G->RH K G H'->TK K H H'->Q b H'
def UpA (K:Fg) (H:Hp) (R:List Z->Hq->Prop) (Q:List V->Hp->Prop):Prop:=∀ ws G vs H',R ws G->Reps K H' ws vs->RH K G H'->TK K H H'->Q vs H'
def UpS (K:Fg) (H:Hp) (R:C3) (Q:L2.St->Hp->Prop):Prop:=∀ σ G τ H',R σ G->RSt K H' σ τ->RH K G H'->TK K H H'->Q τ H'
section
variable {K:Fg}{H H':Hp}
theorem UpV.mono (h:UpV K H R Q) (t:TK K H H'):UpV K H' R Q:=λw G v b q r g a=>h w G v b q r g (t.trans a)
theorem UpB.mono (h:UpB K H R Q) (t:TK K H H'):UpB K H' R Q:=λw G b q g a=>h w G b q g (t.trans a)
theorem UpA.mono (h:UpA K H R Q) (t:TK K H H'):UpA K H' R Q:=λw G v b q r g a=>h w G v b q r g (t.trans a)
theorem UpS.mono (h:UpS K H R Q) (t:TK K H H'):UpS K H' R Q:=λw G v b q r g a=>h w G v b q r g (t.trans a)
end
def low (K:Fg) (t:E3):TE:=fun τ H Q=>∃ σ G R,RSt K H σ τ/\RH K G H/\t σ G R/\UpV K H R Q
theorem low.un {K:Fg}{C:Prop}(z:low K t τ H Q) (f:∀ σ G R,(RSt K H σ τ)->(RH K G H)->(t σ G R)->(UpV K H R Q)->C):C:=by obtain⟨σ,G,R,d,b,c,a⟩:=z;exact f _ _ _ d b c a
def lowT (K:Fg) (t:T3):TT:=fun τ H Q=>∃ σ G R,RSt K H σ τ/\RH K G H/\t σ G R/\UpB K H R Q
theorem lowT.un {K:Fg}{C:Prop}(z:lowT K t τ H Q) (f:∀ σ G R,(RSt K H σ τ)->(RH K G H)->(t σ G R)->(UpB K H R Q)->C):C:=by obtain⟨σ,G,R,b,a,d,c⟩:=z;exact f _ _ _ b a d c
def lowA (K:Fg) (t:A3):TA:=fun τ H Q=>∃ σ G R,RSt K H σ τ/\RH K G H/\t σ G R/\UpA K H R Q
theorem lowA.un {K:Fg}{C:Prop}(z:lowA K t τ H Q) (f:∀ σ G R,(RSt K H σ τ)->(RH K G H)->(t σ G R)->(UpA K H R Q)->C):C:=by obtain⟨σ,G,R,d,b,c,a⟩:=z;exact f _ _ _ d b c a
def lowS (K:Fg) (t:X3):TS:=λD τ H=>∃ σ G nx rt bk ct,RSt K H σ τ/\RH K G H/\t nx rt bk ct σ G/\UpS K H nx D.nx/\UpV K H rt D.rt/\UpS K H bk D.bk/\UpS K H ct D.ct
theorem lowS.un {K:Fg}{C:Prop}(z:lowS K t D τ H) (f:∀ σ G nx rt bk ct,(RSt K H σ τ)->(RH K G H)->(t nx rt bk ct σ G)->(UpS K H nx D.nx)->(UpV K H rt D.rt)->(UpS K H bk D.bk)->(UpS K H ct D.ct)->C):C:=by obtain⟨σ,G,k,j,l,i,h,a,g,b,c,d,e⟩:=z;exact f _ _ _ _ _ _ h a g b c d e
structure QE (X:Cx) (e:Expr) (t:E3):Prop where
 p:PE X e (low X.K t)
structure QT (X:Cx) (e:Expr) (t:T3):Prop where
 p:PT X e (lowT X.K t)
structure QW (X:Cx) (e:Expr) (t:T3):Prop where
 p:PW X e (lowT X.K t)
structure QA (X:Cx) (es:List Expr) (t:A3):Prop where
 p:PA X es (lowA X.K t)
structure QS (X:Cx) (st:Stmt) (t:X3):Prop where
 p:PS X st (lowS X.K t)
structure QSs (X:Cx) (st:List Stmt) (t:X3):Prop where
 p:PSs X st (lowS X.K t)
theorem QW.qt (h:QW X e t):QT X e t:=⟨PW.pt h.p⟩
section
variable {X:Cx}{e:Expr}{es:List Expr}{st:Stmt}{sts:List Stmt}
theorem a1m (h:PE X e t') (i:∀ σ H Q,t σ H Q->t' σ H Q):PE X e t:=λa s σ H Q I q=>h a s σ H Q I (i σ H Q q)
theorem b3h (h:PT X e t') (i:∀ σ H Q,t σ H Q->t' σ H Q):PT X e t:=λa s σ H Q I q=>h a s σ H Q I (i σ H Q q)
theorem b7n (h:PW X e t') (i:∀ σ H Q,t σ H Q->t' σ H Q):PW X e t:=λw a s σ H Q I q=>h w a s σ H Q I (i σ H Q q)
theorem b7o (h:PA X es t') (i:∀ σ H Q,t σ H Q->t' σ H Q):PA X es t:=λb a s σ H Q I q=>h b a s σ H Q I (i σ H Q q)
theorem a3J (h:PS X st t') (i:∀ D σ H,t D σ H->t' D σ H):PS X st t:=λa s σ H D I q=>h a s σ H D I (i D σ H q)
theorem b1m (h:PSs X sts t') (i:∀ D σ H,t D σ H->t' D σ H):PSs X sts t:=λa s σ H D I q=>h a s σ H D I (i D σ H q)
end
end L3
namespace L3
open PySem PySem.Spec PyProof.Rows L2
abbrev R3:=Z->Z->Hq->K3->Prop
def low2 (K:Fg) (r:R3):R2:=λx y H Q=>∃ a b G R,Rep K H a x/\Rep K H b y/\RH K G H/\r a b G R/\UpV K H R Q
theorem low2.un {K:Fg}{C:Prop}(z:low2 K r x y H Q) (f:∀ a b G R,(Rep K H a x)->(Rep K H b y)->(RH K G H)->(r a b G R)->(UpV K H R Q)->C):C:=by obtain⟨a,b,G,R,e,h,g,c,d⟩:=z;exact f _ _ _ _ e h g c d
def low1 (K:Fg) (r:Z->Hq->K3->Prop):V->Hp->VK->Prop:=λx H Q=>∃ a G R,Rep K H a x/\RH K G H/\r a G R/\UpV K H R Q
theorem low1.un {K:Fg}{C:Prop}(z:low1 K r x H Q) (f:∀ a G R,(Rep K H a x)->(RH K G H)->(r a G R)->(UpV K H R Q)->C):C:=by obtain⟨a,G,R,c,e,d,b⟩:=z;exact f _ _ _ c e d b
def lowC (K:Fg) (r:List Z->Hq->K3->Prop):List V->Hp->VK->Prop:=λxs H Q=>∃ ws G R,Reps K H ws xs/\RH K G H/\r ws G R/\UpV K H R Q
theorem lowC.un {K:Fg}{C:Prop}(z:lowC K r xs H Q) (f:∀ ws G R,(Reps K H ws xs)->(RH K G H)->(r ws G R)->(UpV K H R Q)->C):C:=by obtain⟨e,G,R,b,d,c,a⟩:=z;exact f _ _ _ b d c a
def lowM (K:Fg) (r:Z->List Z->Hq->K3->Prop):V->List V->Hp->VK->Prop:=λx xs H Q=>∃ w ws G R,Rep K H w x/\Reps K H ws xs/\RH K G H/\r w ws G R/\UpV K H R Q
theorem lowM.un {K:Fg}{C:Prop}(z:lowM K r x xs H Q) (f:∀ w ws G R,(Rep K H w x)->(Reps K H ws xs)->(RH K G H)->(r w ws G R)->(UpV K H R Q)->C):C:=by obtain⟨w,g,G,R,a,d,e,b,c⟩:=z;exact f _ _ _ _ a d e b c
def OpQ (X:Cx) (f:Value->Value->Sem Value) (r:R3):Prop:=OpR X f (low2 X.K r)
def UnQ (X:Cx) (f:Value->Sem Value) (r:Z->Hq->K3->Prop):Prop:=UnR X f (low1 X.K r)
def a2M (X:Cx) (f:Value) (r:List Z->Hq->K3->Prop):Prop:=CallR X f (lowC X.K r)
def IxQ (X:Cx) (r:R3):Prop:=IxR X (low2 X.K r)
def MtQ (X:Cx) (id:String) (r:Z->List Z->Hq->K3->Prop):Prop:=MtR X id (lowM X.K r)
theorem a7o (h:OpR X f r') (i:∀ x y H Q,r x y H Q->r' x y H Q):OpR X f r:=λa s σ H x y v u Q I c b q=>h a s σ H x y v u Q I c b (i x y H Q q)
theorem b9I (h:UnR X f r') (i:∀ x H Q,r x H Q->r' x H Q):UnR X f r:=λa s σ H x v Q I b q=>h a s σ H x v Q I b (i x H Q q)
theorem a1c (h:CallR X f r') (i:∀ xs H Q,r xs H Q->r' xs H Q):CallR X f r:=λa s σ H b d Q I c q=>h a s σ H b d Q I c (i b H Q q)
theorem b7p (h:IxR X r') (i:∀ x y H Q,r x y H Q->r' x y H Q):IxR X r:=λa b c s σ H x y v u Q I e d q=>h a b c s σ H x y v u Q I e d (i x y H Q q)
theorem a7p {id:String}(h:MtR X id r') (i:∀ x xs H Q,r x xs H Q->r' x xs H Q):MtR X id r:=λa s σ H x b v e Q I d c q=>h a s σ H x b v e Q I d c (i x b H Q q)
def uVar (i:Nat):E3:=fun σ G R=>∃ w,σ[i]?=some (some w)/\R w G
def uC (w:Z):E3:=λ_ G R=>R w G
section
variable {X:Cx}{e a b c:Expr}{pos:Pos}{ta tb tc:E3}
theorem a0c (h:PE X e (tVar i)):QE X e (uVar i):=⟨a1m h fun τ H Q ⟨σ,G,R,c,b,⟨w,e,q⟩,d⟩=>by
 obtain⟨v,a,r⟩:=c.get e;exact⟨v,a,d w G v H q r b (.refl _ _)⟩⟩
theorem a8o (h:PE X e (tC v)) (hr:∀ H,Rep X.K H w v):QE X e (uC w):=⟨a1m h fun τ H Q b=>b.un fun σ G R d a q c=>c w G v H q (hr H) a (.refl _ _)⟩
theorem a0g:QE X (.Constant (.int i) j pos) (uC (.int i)):=a8o b6w λ_=>by rw[a0x]
theorem q_bl {b j pos}:QE X (.Constant (.bool b) j pos) (uC (.bl b)):=a8o b9k λ_=>by rw[a0P]
theorem a1E:QE X (.Constant .none j pos) (uC .non):=a8o b6x λ_=>by rw[a0U]
theorem a4f:QE X (.Constant (.str x) j pos) (uC (.str x)):=a8o b6y λ_=>by rw[a0K]
theorem b4s (h:PE X e (tC (.int i))):QE X e (uC (.int i)):=a8o h λ_=>by rw[a0x]
theorem q_ty (h:PE X e (tC (.ty n))):QE X e (uC (.ty n)):=a8o h λ_=>by rw[b1l]
def uOp (r:R3) (ta tb:E3):E3:=fun σ G R=>ta σ G λx G1=>tb σ G1 λy G2=>r x y G2 R
def uUn (r:Z->Hq->K3->Prop) (ta:E3):E3:=fun σ G R=>ta σ G λx G1=>r x G1 R
theorem a84 {K:Fg}(h:low K (uOp r ta tb) τ H Q):tOp (low2 K r) (low K ta) (low K tb) τ H Q:=by
 obtain⟨σ,G,R,f,k,h,o⟩:=h;refine⟨σ,G,_,f,k,h,λw m v p l i b e=>?_⟩;refine⟨σ,m,_,f.mono e,b,l,λn g q s j d c a=>?_⟩;exact⟨w,n,g,R,i.mono a,d,c,j,o.mono (e.trans a)⟩
theorem b7q {K:Fg}(h:low K (uUn r ta) τ H Q):tUn (low1 K r) (low K ta) τ H Q:=by
 obtain⟨σ,G,R,d,f,h,c⟩:=h;exact⟨σ,G,_,d,f,h,λw e v j g b a i=>⟨w,e,R,b,a,g,c.mono i⟩⟩
theorem q_op (ho:OpQ X (kl op) r) (ha:QE X a ta) (hb:QE X b tb):QE X (.BinOp a op b pos) (uOp r ta tb):=⟨a1m (b9t ho ha.p hb.p) λ_ _ _=>a84⟩
theorem q_un (ho:UnQ X (me op) r) (ha:QE X a ta):QE X (.UnaryOp op a pos) (uUn r ta):=⟨a1m (b9u ho ha.p) λ_ _ _=>b7q⟩
theorem a7q (ho:OpQ X (ke op) r) (ha:QE X a ta) (hb:QE X b tb) (hm:lE op b=false):QE X (.Compare a [op] [b] pos) (uOp r ta tb):=⟨a1m (b42 ho ha.p hb.p hm) λ_ _ _=>a84⟩
def b3i (t:E3):T3:=fun σ G R=>t σ G λx G1=>∃ k,x=.bl k/\R k G1
theorem a85 {K:Fg}(h:lowT K (b3i ta) τ H Q):low K ta τ H λx H'=>∃ k,x=.bl k/\Q k H':=by
 obtain⟨σ,G,R,g,f,h,i⟩:=h;refine⟨σ,G,_,g,f,h,λw l v j ⟨k,e,c⟩ a b d=>?_⟩;subst e;exact⟨k,a,i _ _ _ c b d⟩
theorem a0v (ho:OpQ X (ke op) r) (ha:QE X a ta) (hb:QE X b tb) (hm:lE op b=false):QT X (.Compare a [op] [b] pos) (b3i (uOp r ta tb)):=⟨b3h (b43 ho ha.p hb.p hm) λ_ _ _ h=>a84 (a85 h)⟩
def b1n (r r':R3) (ta tb tc:E3):E3:=fun σ G R=>ta σ G λx G1=>tb σ G1 λy G2=>r x y G2 λz G3=>∃ k,z=.bl k/\(if k=true then tc σ G3 λw G4=>r' y w G4 R else R (.bl false) G3)
theorem b1o {K:Fg}(h:low K (b1n r r' ta tb tc) τ H Q):b4k (low2 K r) (low2 K r') (low K ta) (low K tb) (low K tc) τ H Q:=by
 obtain⟨σ,G,R,g,F,h,p⟩:=h;refine⟨σ,G,_,g,F,h,λw A v N q B l a=>?_⟩;refine⟨σ,A,_,g.mono a,l,q,λm y T L s e j b=>?_⟩;refine⟨w,m,y,_,B.mono b,e,j,s,λz x M S ⟨k,t,f⟩ o d c=>?_⟩;subst t;refine⟨k,o,?_⟩;cases k with
 | false=>exact p _ _ _ _ (by simpa using f) (by rw[a0P]) d ((a.trans b).trans c)
 | true=>
  refine⟨σ,x,_,g.mono ((a.trans b).trans c),d,f,λC E J I D u n i=>?_⟩;exact⟨m,C,E,R,e.mono (c.trans i),u,n,D,p.mono (((a.trans b).trans c).trans i)⟩
theorem b1p (ho:OpQ X (ke op) r) (ho':OpQ X (ke op') r') (ha:QE X a ta) (hb:QE X b tb) (hc:QE X c tc)
  (hm:lastMarks [op,op'] [b,c]=false:=by with_unfolding_all rfl):QE X (.Compare a [op,op'] [b,c] pos) (b1n r r' ta tb tc):=⟨a1m (b2R ho ho' ha.p hb.p hc.p hm) λ_ _ _=>b1o⟩
def uAnd (t u:T3):T3:=fun σ G R=>t σ G λc G1=>if c=true then u σ G1 R else R false G1
def uOr (t u:T3):T3:=fun σ G R=>t σ G λc G1=>if c=true then R true G1 else u σ G1 R
def uNot (t:T3):T3:=fun σ G R=>t σ G λc G1=>R (!c) G1
variable {t u:T3}{rest:List Expr}
theorem a4C (ha:QT X a t):QW X (.BoolOp .And [a] pos) t:=⟨b4V ha.p⟩
theorem a5h (ha:QT X a t):QW X (.BoolOp .Or [a] pos) t:=⟨b6A ha.p⟩
theorem a5O (ha:QT X a t) (hb:QW X (.BoolOp .And (b::rest) pos) u):QW X (.BoolOp .And (a::b::rest) pos) (uAnd t u):=⟨b7n (b6B ha.p hb.p) fun τ H Q l=>l.un fun σ G R f j h g=>by
 refine⟨σ,G,_,f,j,h,λk i m d c e=>?_⟩;cases k with
 | false=>exact g _ _ _ (by simp_all) c e
 | true=>rw[if_pos rfl]at d ⊢;exact⟨σ,i,R,f.mono e,c,d,g.mono e⟩⟩
theorem q_or (ha:QT X a t) (hb:QW X (.BoolOp .Or (b::rest) pos) u):QW X (.BoolOp .Or (a::b::rest) pos) (uOr t u):=⟨b7n (b9l ha.p hb.p) fun τ H Q l=>l.un fun σ G R f j h g=>by
 refine⟨σ,G,_,f,j,h,λk i m e c d=>?_⟩;cases k with
 | true=>exact g _ _ _ (by simp_all) c d
 | false=>rw[if_neg (by simp)]at e ⊢;exact⟨σ,i,R,f.mono d,c,e,g.mono d⟩⟩
theorem a2S (ha:QT X a t):QT X (.UnaryOp .Not a pos) (uNot t):=⟨b3h (b6C ha.p) fun τ H Q g=>g.un fun σ G R d f h i=>
 ⟨σ,G,_,d,f,h,λk j l e b c=>i _ _ _ e b c⟩⟩
def b7r (ta tb:E3):E3:=fun σ G R=>ta σ G λx G1=>∃ c,x=.bl c/\if c=true then tb σ G1 R else R (.bl false) G1
def uOrV (ta tb:E3):E3:=fun σ G R=>ta σ G λx G1=>∃ c,x=.bl c/\if c=true then R (.bl true) G1 else tb σ G1 R
def b7s (ta:E3):E3:=fun σ G R=>ta σ G λx G1=>∃ c,x=.bl c/\R (.bl (!c)) G1
theorem a97 (h:QE X a ta):QE X (.BoolOp op [a] pos) ta:=⟨b6D h.p⟩
theorem a7r (ha:QE X a ta) (hb:QE X (.BoolOp .And (b::rest) pos) tb):QE X (.BoolOp .And (a::b::rest) pos) (b7r ta tb):=⟨a1m (b6E ha.p hb.p) fun τ H Q l=>l.un fun σ G R g j h i=>by
 refine⟨σ,G,_,g,j,h,λx n v o ⟨k,m,e⟩ f c d=>?_⟩;subst m;refine⟨k,f,?_⟩;cases k with
 | false=>exact i _ _ _ _ (by simpa using e) (by rw[a0P]) c d
 | true=>rw[if_pos rfl]at e ⊢;exact⟨σ,n,R,g.mono d,c,e,i.mono d⟩⟩
theorem b9J (ha:QE X a ta) (hb:QE X (.BoolOp .Or (b::rest) pos) tb):QE X (.BoolOp .Or (a::b::rest) pos) (uOrV ta tb):=⟨a1m (b9o ha.p hb.p) fun τ H Q m=>m.un fun σ G R g n h i=>by
 refine⟨σ,G,_,g,n,h,λx j v o ⟨k,l,d⟩ f c e=>?_⟩;subst l;refine⟨k,f,?_⟩;cases k with
 | true=>exact i _ _ _ _ (by simpa using d) (by rw[a0P]) c e
 | false=>rw[if_neg (by simp)]at d ⊢;exact⟨σ,j,R,g.mono e,c,d,i.mono e⟩⟩
theorem b9K (ha:QE X a ta):QE X (.UnaryOp .Not a pos) (b7s ta):=⟨a1m (b6F ha.p) fun τ H Q f=>f.un fun σ G R g d h j=>by
 refine⟨σ,G,_,g,d,h,λx m v n ⟨k,e,i⟩ b c l=>?_⟩;subst e;exact⟨k,b,j _ _ _ _ i (by rw[a0P]) c l⟩⟩
def uIf (t:T3) (ta tb:E3):E3:=fun σ G R=>t σ G λc G1=>if c=true then ta σ G1 R else tb σ G1 R
theorem q_if (hc:QT X c t) (ha:QE X a ta) (hb:QE X b tb):QE X (.IfExp c a b pos) (uIf t ta tb):=⟨a1m (b2O hc.p ha.p hb.p) fun τ H Q l=>l.un fun σ G R g m h j=>by
 refine⟨σ,G,_,g,m,h,λk i n e f d=>?_⟩;cases k with
 | true=>rw[if_pos rfl]at e ⊢;exact⟨σ,i,R,g.mono d,f,e,j.mono d⟩
 | false=>rw[if_neg (by simp)]at e ⊢;exact⟨σ,i,R,g.mono d,f,e,j.mono d⟩⟩
def tru:Z->Hq->(Bool->Hq->Prop)->Prop
 | .non,G,R=>R false G
 | .bl b,G,R=>R b G
 | .int i,G,R=>R (i != 0) G
 | .str y,G,R=>y.length≤jZ/\R ((y.length:Int) != 0) G
 | .tup ws,G,R=>R (!ws.isEmpty) G
 | .scr _ ns,G,R=>R (!ns.isEmpty) G
 | .ref p,G,R=>(∃ ws,G p=some (.lst ws)/\R (!ws.isEmpty) G)\/∃ kvs,G p=some (.dK kvs)/\R (!kvs.isEmpty) G
 | .ty _,_,_=>False
def uTru (ta:E3):T3:=fun σ G R=>ta σ G λx G1=>tru x G1 R
theorem a2w {α β:Type}{a:List α}{b:List β}(h:a.length=b.length):a.isEmpty=b.isEmpty:=by
 cases a<;>cases b<;>simp_all
theorem b5h {K:Fg}(h:tru w G R) (r:Rep K H w v) (hg:RH K G H) (up:UpB K H R Q):∃ k,TruV K v H k/\Q k H:=by
 cases w with
 | non=>rw[a0U]at r;subst r;exact⟨_,rfl,up _ _ _ h hg (.refl _ _)⟩
 | bl b=>rw[a0P]at r;subst r;exact⟨_,rfl,up _ _ _ h hg (.refl _ _)⟩
 | int i=>rw[a0x]at r;subst r;exact⟨_,rfl,up _ _ _ h hg (.refl _ _)⟩
 | str y=>rw[a0K]at r;subst r;exact⟨_,⟨h.1,rfl⟩,up _ _ _ h.2 hg (.refl _ _)⟩
 | ty n=>exact ei h
 | scr a ns=>rw[a4e]at r;obtain⟨rfl,f⟩:=r;exact⟨!ns.isEmpty,.inl ⟨_,f.sq,by rw[a2w (dQ ..).symm]⟩,up _ _ _ h hg (.refl _ _)⟩
 | tup ws=>
  obtain⟨a,d,rfl,e,c⟩:=r;exact⟨!ws.isEmpty,.inr (.inl ⟨d,SqT.of e,by rw[a2w c.length]⟩),up _ _ _ h hg (.refl _ _)⟩
 | ref p=>
  subst r;rcases h with ⟨ws,e,h⟩ | ⟨kvs,e,h⟩
  ·obtain⟨d,g,c⟩:=hg p _ e;exact⟨_,.inl ⟨d,SqL.of g,by rw[<- a2w c.length]⟩,up _ _ _ h hg (.refl _ _)⟩
  ·obtain⟨j,g,l,c⟩:=hg p _ e;exact⟨_,.inr (.inr ⟨j,g,by rw[a2w (show kvs.length=j.length by rw[<- dQ,c.length,dQ])]⟩),up _ _ _ h hg (.refl _ _)⟩
theorem b7t (ha:QE X a ta) (he:∀ whole,isTrue a X.env whole=(do let v <- whole;kQ a.pos;kB [v] (truthy v))):QT X a (uTru ta):=⟨b3h (b2S ha.p he) fun τ H Q i=>i.un fun σ G R d f h j=>
 ⟨σ,G,_,d,f,h,λw k v l e g b c=>b5h e g b (j.mono c)⟩⟩
theorem a3b (ha:QE X a ta) (he:∀ whole,isTrue a X.env whole=(do let v <- whole;kQ a.pos;kB [v] (truthy v)):=by intro _;rfl):QT X a (b3i ta):=⟨b3h (b6z ha.p he) λ_ _ _ h=>a85 h⟩
end
section
variable {env:Env}{es:List Expr}{pos:Pos}
theorem a0f:j0 (.Constant c k p::es) env=(false,eval (.Constant c k p) env)::j0 es env:=rfl
theorem a0a:j0 (.Name x p::es) env=(false,eval (.Name x p) env)::j0 es env:=rfl
theorem a0q:j0 (.BinOp a o b p::es) env=(false,eval (.BinOp a o b p) env)::j0 es env:=rfl
theorem a98:j0 (.UnaryOp o a p::es) env=(false,eval (.UnaryOp o a p) env)::j0 es env:=rfl
theorem a6a:j0 (.Compare a o b p::es) env=(false,eval (.Compare a o b p) env)::j0 es env:=rfl
theorem a04:j0 (.List a p::es) env=(false,eval (.List a p) env)::j0 es env:=rfl
theorem a22:j0 (.Tuple a k p::es) env=(false,eval (.Tuple a k p) env)::j0 es env:=rfl
theorem a0d:j0 (.Subscript a b p::es) env=(false,eval (.Subscript a b p) env)::j0 es env:=rfl
theorem a2T:j0 (.Attribute a b p::es) env=(false,eval (.Attribute a b p) env)::j0 es env:=rfl
theorem a0L:j0 (.Call a b c p::es) env=(false,eval (.Call a b c p) env)::j0 es env:=rfl
theorem a05:j0 (.ListComp a b c p::es) env=(false,eval (.ListComp a b c p) env)::j0 es env:=rfl
theorem a0k:(backTo pos (j0 [] env)).any (·.1)=false:=rfl
theorem a0j (h:j0 (e::es) env=(false,eval e env)::j0 es env) (r:(backTo pos (j0 es env)).any (·.1)=false):(backTo pos (j0 (e::es) env)).any (·.1)=false:=by
 rw[h]
 show (false||(backTo pos _).any _)=false
 rw[r];rfl
end
section
variable {X:Cx}{e a b:Expr}{es:List Expr}{pos p2:Pos}{te ta tb:E3}{t:A3}
theorem q_ix (hr:IxQ X r) (ha:QE X a ta) (hb:QE X b tb) (hs:b05 b):QE X (.Subscript a b pos) (uOp r ta tb):=⟨a1m (b9D hr ha.p hb.p hs) λ_ _ _=>a84⟩
abbrev O3:=S3->Hq->(Option Int->Hq->Prop)->Prop
def b1q:O3:=λ_ G R=>R none G
def b7u (t:E3):O3:=fun σ G R=>t σ G λx G1=>∃ i,x=.int i/\R (some i) G1
def lowO (K:Fg) (t:O3):TO:=fun τ H Q=>∃ σ G R,RSt K H σ τ/\RH K G H/\t σ G R/\∀ o G' H',R o G'->RH K G' H'->TK K H H'->Q o H'
theorem lowO.un {K:Fg}{t:O3}{C:Prop}(z:lowO K t τ H Q) (f:∀ σ G R,(RSt K H σ τ)->(RH K G H)->(t σ G R)->(∀ o G' H',R o G'->RH K G' H'->TK K H H'->Q o H')->C):C:=by obtain⟨σ,G,R,d,b,c,a⟩:=z;exact f _ _ _ d b c a
def QO (X:Cx) (e:Option Expr) (t:O3):Prop:=PO X e (lowO X.K t)
theorem a1K:QO X none b1q:=λa s τ H Q I ⟨σ,G,R,d,c,h,b⟩=>b49 a s τ H Q I (b _ _ _ h c (.refl _ _))
theorem a2k (h:QE X e te):QO X (some e) (b7u te):=λa s τ H Q I ⟨σ,G,R,f,k,q,l⟩=>b5a h.p a s τ H Q I ⟨σ,G,_,f,k,q,λw n v m ⟨i,g,d⟩ b c j=>by
 subst g;exact⟨i,b,l _ _ _ d c j⟩⟩
abbrev L3r:=Z->Option Int->Option Int->Hq->K3->Prop
def lowL (K:Fg) (r:L3r):V->Option Int->Option Int->Hp->VK->Prop:=λx lo hi H Q=>∃ w G R,Rep K H w x/\RH K G H/\r w lo hi G R/\UpV K H R Q
theorem lowL.un {K:Fg}{lo hi:Option Int}{C:Prop}(z:lowL K r x lo hi H Q) (f:∀ w G R,(Rep K H w x)->(RH K G H)->(r w lo hi G R)->(UpV K H R Q)->C):C:=by obtain⟨w,G,R,a,d,b,c⟩:=z;exact f _ _ _ a d b c
def SlQ (X:Cx) (r:L3r):Prop:=SlR X (lowL X.K r)
theorem b9L (h:SlR X r') (i:∀ x lo hi H Q,r x lo hi H Q->r' x lo hi H Q):SlR X r:=λa s σ H x v l b j f d Q I c e g k q=>h a s σ H x v l b j f d Q I c e g k (i _ _ _ _ _ q)
def uSl (r:L3r) (te:E3) (tl th:O3):E3:=fun σ G R=>te σ G λx G1=>tl σ G1 λl G2=>th σ G2 λu G3=>r x l u G3 R
theorem a1Q {lo hi:Option Expr}(hr:SlQ X r) (he:QE X e te) (hl:QO X lo tl) (hu:QO X hi th):QE X (.Subscript e (.Slice lo hi none p2) pos) (uSl r te tl th):=⟨a1m (b2Z hr he.p hl hu) fun τ H Q q=>q.un fun σ G R c k h y=>
 ⟨σ,G,_,c,k,h,λw m v z j t f b=>⟨σ,m,_,c.mono b,f,j,λl o A s d a=>⟨σ,o,_,c.mono (b.trans a),d,s,λu x B n i g=>
  ⟨w,x,R,t.mono (a.trans g),i,n,y.mono ((b.trans a).trans g)⟩⟩⟩⟩⟩
def uNil:A3:=λ_ G R=>R [] G
def b7v (ta:E3) (tr:A3):A3:=fun σ G R=>ta σ G λx G1=>tr σ G1 λxs G2=>R (x::xs) G2
theorem a0h:QA X [] uNil:=⟨b7o b4l fun τ H Q b=>b.un fun σ G R d a h c=>c _ _ _ _ h .nil a (.refl _ _)⟩
theorem a0b (ha:QE X e te) (hr:QA X es t) (hs:j0 (e::es) X.env=(false,eval e X.env)::j0 es X.env:=by rfl):QA X (e::es) (b7v te t):=⟨b7o (b0Z ha.p hr.p hs) fun τ H Q i=>i.un fun σ G R hs l h o=>
 ⟨σ,G,_,hs,l,h,λw j v H1 g m f d=>⟨σ,j,_,hs.mono d,f,g,λws G2 vs H2 n k c b=>o _ _ _ _ n (.cons (m.mono b) k) c (d.trans b)⟩⟩⟩
def uTup (t:A3):E3:=fun σ G R=>t σ G λxs G1=>xs.length≤jZ/\R (.tup xs) G1
def uLst (t:A3):E3:=fun σ G R=>t σ G λxs G1=>xs.length≤jZ/\∀ p,G1 p=none->R (.ref p) (put G1 p (.lst xs))
theorem a2l (h:QA X es t):QE X (.Tuple es x1 pos) (uTup t):=⟨a1m (b6X h.p) fun τ H Q k=>k.un fun σ G R f j h d=>
 ⟨σ,G,_,f,j,h,λo m l n ⟨i,g⟩ b c e=>⟨by rw[<- b.length];exact i,λp a=>d _ _ _ _ g (by rw[a1P];exact⟨p,l,rfl,a0y,b.mono (.new a)⟩) (c.hid a) (e.trans (.new a))⟩⟩⟩
theorem a06 {K:Fg}(r:Reps K H ws vs) (t:TK K H (upd H p (.lst vs))):ROb K (upd H p (.lst vs)) p (.lst ws):=⟨vs,a0y,r.mono t⟩
theorem a1d (h:QA X es t):QE X (.List es pos) (uLst t):=⟨a1m (b6Y h.p) fun τ H Q g=>g.un fun σ G R d k h i=>
 ⟨σ,G,_,d,k,h,λm l o n ⟨f,e⟩ c b j=>⟨by rw[<- c.length];exact f,λp a=>i _ _ _ _ (e p (b.out a)) (by rw[a0H]) (b.set (.new a) (a06 c (.new a))) (j.trans (.new a))⟩⟩⟩
def uCB (r:List Z->Hq->K3->Prop) (t:A3):E3:=fun σ G R=>t σ G λws G1=>r ws G1 R
theorem b4t {K:Fg}(h:low K (uCB r t) τ H Q):tCB (lowC K r) (lowA K t) τ H Q:=by
 obtain⟨σ,G,R,e,j,h,i⟩:=h;exact⟨σ,G,_,e,j,h,λc g k l f b a d=>⟨c,g,R,b,a,f,i.mono d⟩⟩
variable {x:Str}{p:Pos}{id T:String}{r:List Z->Hq->K3->Prop}
theorem a0B (hc:a2M X (.builtin id) r) (hg:Gl X x) (hm:X.mg x=none) (hv:kH x=some (.builtin id)) (ha:QA X (e::es) t) (hn:x≠"__name__":=by decide) (hdb:(x==("__debug__":Str))=false:=by decide)
  (he:j0 (e::es) X.env=(false,eval e X.env)::j0 es X.env:=by rfl) (hpl:(backTo pos (j0 es X.env)).any (·.1)=false:=by rfl):QE X (.Call (.Name x p) (e::es) [] pos) (uCB r t):=⟨a1m (a8Z hc hg hm hv ha.p hn hdb he hpl) λ_ _ _=>b4t⟩
theorem a86 (hc:a2M X (.type T) r) (hg:Gl X x) (hm:X.mg x=none) (hv:kH x=some (.type T)) (ha:QA X (e::es) t) (hn:x≠"__name__":=by decide) (hdb:(x==("__debug__":Str))=false:=by decide)
  (he:j0 (e::es) X.env=(false,eval e X.env)::j0 es X.env:=by rfl) (hpl:(backTo pos (j0 es X.env)).any (·.1)=false:=by rfl):QE X (.Call (.Name x p) (e::es) [] pos) (uCB r t):=⟨a1m (a7g hc hg hm hv ha.p hn hdb he hpl) λ_ _ _=>b4t⟩
def tyZ (T:String) (x:Z) (G:Hq):Prop:=match x with
 | .str _=>T="str"
 | .int _=>T="int"
 | .ref p=>(T="list"/\∃ ws,G p=some (.lst ws))\/(T="dict"/\∃ kvs,G p=some (.dK kvs)\/G p=some (.dF kvs))
 | .scr _ _=>T="list"
 | _=>False
theorem b1r {K:Fg}(h:tyZ T w G) (r:Rep K H w v) (hg:RH K G H):tyV K T v H:=by
 cases w with
 | str y=>rw[a0K]at r;subst r;exact h
 | int y=>rw[a0x]at r;subst r;exact h
 | ref q=>
  subst r;rcases h with ⟨e,ws,g⟩ | ⟨e,kvs,g⟩
  ·obtain⟨b,a,_⟩:=hg q _ g;exact .inl ⟨e,b,SqL.of a⟩
  ·rcases g with g | g
   ·obtain⟨b,a,_⟩:=hg q _ g;exact .inr (.inr (.inl ⟨e,.inl ⟨b,a⟩⟩))
   ·obtain⟨c,b,a,_⟩:=hg q _ g;exact .inr (.inr (.inl ⟨e,.inr (.inr ⟨c,b,a⟩)⟩))
 | scr q ns=>rw[a4e]at r;obtain⟨rfl,f⟩:=r;exact .inl ⟨h,_,f.sq⟩
 | _=>exact ei h
def uBM0 (T:String) (r:Z->List Z->Hq->K3->Prop) (to:E3):E3:=fun σ G R=>to σ G λx G1=>tyZ T x G1/\r x [] G1 R
def uBM (T:String) (r:Z->List Z->Hq->K3->Prop) (to:E3) (t:A3):E3:=fun σ G R=>to σ G λx G1=>tyZ T x G1/\t σ G1 λxs G2=>r x xs G2 R
variable {o:Expr}{to:E3}{name:Str}{apos cpos:Pos}{rm:Z->List Z->Hq->K3->Prop}
theorem b7w (pa:mi T) (slot:Slot T name id) (hty:typeOf (.builtin id)=pure (.type "method_descriptor")) (hm:MtQ X id rm) (ho:QE X o to)
  (hbase:lp o name X.env (eval o X.env)=eval o X.env:=by rfl) (hline:(apos.endLine==cpos.line)=true:=by rfl):QE X (.Call (.Attribute o name apos) [] [] cpos) (uBM0 T rm to):=⟨a1m (b64 pa slot hty hm ho.p hbase hline) fun τ H Q j=>j.un fun σ G R g e h k=>⟨σ,G,_,g,e,h,λw f v l ⟨i,c⟩ b a d=>⟨b1r i b a,w,[],f,R,b,.nil,a,c,k.mono d⟩⟩⟩
theorem q_bm (pa:mi T) (slot:Slot T name id) (hty:typeOf (.builtin id)=pure (.type "method_descriptor")) (hm:MtQ X id rm) (ho:QE X o to) (ha:QA X (e::es) t)
  (hbase:lp o name X.env (eval o X.env)=eval o X.env:=by rfl)
  (hfew:((backTo cpos (j0 (e::es) X.env)).all (λx=>!x.1)&&(lV cpos (lW [] X.env)).all (λx=>x.1.isSome)
   && decide ((e::es).length+([]:List lX).length+(if ([]:List lX).isEmpty then 0 else 1)<30))=true:=by rfl)
  (hline:(apos.endLine==cpos.line)=true:=by rfl) (hs:j0 (e::es) X.env=(false,eval e X.env)::j0 es X.env:=by rfl) (hplain:(backTo cpos (j0 es X.env)).any (·.1)=false:=by rfl) :
  QE X (.Call (.Attribute o name apos) (e::es) [] cpos) (uBM T rm to t):=⟨a1m (b9F pa slot hty hm ho.p ha.p hbase hfew hline hs hplain) fun τ H Q q=>q.un fun σ G R hs r h u=>
  ⟨σ,G,_,hs,r,h,λw j v H1 ⟨m,n⟩ d a g=>⟨b1r m d a,σ,j,_,hs.mono g,a,n,λs i vs H2 k l f c=>⟨w,s,i,R,d.mono c,l,f,k,u.mono (g.trans c)⟩⟩⟩⟩
abbrev P3:=List Z->Hq->K3->Prop
def lowP (K:Fg) (sp:P3):Sp:=λvs H Q _=>lowC K sp vs H Q
def b7x (sp:P3) (t:A3):E3:=fun σ G R=>t σ G λws G1=>sp ws G1 R
variable {k:Nat}{f:Addr}{fd:j9}{ps:List Str}{sp:P3}
theorem a0s (F:FnOk X.prog X.w X.K X.mg X.base CX0 k f fd ps (lowP X.K sp)) (hr:Room k X.A) (hg:Gl X x) (hm:X.mg x=some (.ref f)) (hk:PySem.W.keepIn X.K (.ref f)=true) (hb:Binds X.K fd ps []) (ha:QA X (e::es) t)
  (hdb:(x==("__debug__":Str))=false:=by decide) (he:j0 (e::es) X.env=(false,eval e X.env)::j0 es X.env:=by rfl) (hpl:(backTo pos (j0 es X.env)).any (·.1)=false:=by rfl) :
  QE X (.Call (.Name x p) (e::es) [] pos) (b7x sp t):=⟨a1m (b00 F hr hg hm hk hb .nil b5d ha.p hdb he hpl) fun τ H Q d=>d.un fun σ G R i hg h m=>⟨σ,G,_,i,hg,h,λc j vs H1 l g b n=>⟨c,j,R,by rw[eL];exact g,b,l,m.mono n⟩⟩⟩
end
end L3
namespace L3
open PySem PySem.Spec PyProof.Rows L2
section
variable {X:Cx}{e c tg:Expr}{st:Stmt}{rest sa sb:List Stmt}{pos:Pos}{te:E3}{t u:X3}{tc:T3}
def b7y:X3:=λnx _ _ _ σ G=>nx σ G
def uSeq (t u:X3):X3:=λnx rt bk ct σ G=>t (u nx rt bk ct) rt bk ct σ G
theorem a0V:QSs X [] b7y:=⟨b1m b4W λD τ H a=>a.un fun σ G g e k f d b h c i j l=>c _ _ _ _ h d b (.refl _ _)⟩
theorem a0m (h1:QS X st t) (h2:QSs X rest u):QSs X (st::rest) (uSeq t u):=⟨b1m (a8X h1.p h2.p) λD τ H q=>q.un fun σ G k j c e l o h n d b g=>
 ⟨σ,G,_,j,c,e,l,o,h,fun σ' r τ' s m f i a=>⟨σ',r,k,j,c,e,f,i,m,n.mono a,d.mono a,b.mono a,g.mono a⟩,d,b,g⟩⟩
theorem a0n (h1:QS X st t):QSs X [st] t:=⟨b4X h1.p⟩
def uCut (t u:X3):X3:=λnx rt bk ct σ G=>∃ M:C3,t M rt bk ct σ G/\∀ σ' G',M σ' G'->u nx rt bk ct σ' G'
theorem a6F (h1:QS X st t) (h2:QSs X rest u):QSs X (st::rest) (uCut t u):=⟨b1m (a8X h1.p h2.p) λD τ H v=>v.un fun σ G n d j b q m l s g e i=>by
 obtain⟨M,h,k⟩:=l;exact⟨σ,G,M,d,j,b,q,m,h,fun σ' o τ' w r f c a=>⟨σ',o,n,d,j,b,f,c,k _ _ r,s.mono a,g.mono a,e.mono a,i.mono a⟩,g,e,i⟩⟩
def b7z (te:E3):X3:=λnx _ _ _ σ G=>te σ G λ_ G1=>nx σ G1
theorem a01 (he:QE X e te) (hs:kM e none pos.line X.env=pure false:=by rfl):QS X (.Expr e pos) (b7z te):=⟨a3J (b4Y he.p hs) λD τ H i=>i.un fun σ G nx rt bk ct hs g h f u2 u3 u4=>
 ⟨σ,G,_,hs,g,h,λw G1 v H1 d rv c b=>f _ _ _ _ d (hs.mono b) c b⟩⟩
def uRet (te:E3):X3:=λ_ rt _ _ σ G=>te σ G rt
theorem a0I (he:QE X e te):QS X (.Return (some e) pos) (uRet te):=⟨a3J (b6G he.p) λD τ H c=>c.un fun σ G f j k m a b h g d l i=>⟨σ,G,_,a,b,h,d⟩⟩
def uIfS (c:T3) (t u:X3):X3:=λnx rt bk ct σ G=>c σ G λb G1=>if b=true then t nx rt bk ct σ G1 else u nx rt bk ct σ G1
theorem z_if (hc:QT X c tc) (ha:QSs X sa t) (hb:QSs X sb u):QS X (.If c sa sb pos) (uIfS tc t u):=⟨a3J (b9r hc.p ha.p hb.p) λD τ H s=>s.un fun σ G l g k m f r h n q j i=>by
 refine⟨σ,G,_,f,r,h,λb o v d e a=>?_⟩;cases b with
 | true=>rw[if_pos rfl]at d ⊢;exact⟨σ,o,l,g,k,m,f.mono a,e,d,n.mono a,q.mono a,j.mono a,i.mono a⟩
 | false=>rw[if_neg (by simp)]at d ⊢;exact⟨σ,o,l,g,k,m,f.mono a,e,d,n.mono a,q.mono a,j.mono a,i.mono a⟩⟩
def b7A (c:T3) (tb:X3):X3:=λnx rt _ _ σ G=>∃ I:Nat->S3->Hq->Prop,(∃ m,I m σ G)/\∀ m σ G,I m σ G ->
 c σ G λb G1=>if b=true then tb (fun σ' G'=>∃ m',m'<m/\I m' σ' G') rt nx (fun σ' G'=>∃ m',m'<m/\I m' σ' G') σ G1 else nx σ G1
theorem b5i (hp:kj (model X.prog X.w) X.A X.env X.xe) (hc:QT X c tc) (hb:QSs X sb t):QS X (.While c sb [] pos) (b7A tc t):=⟨a3J (b2P hp hc.p hb.p) λD τ H L=>L.un fun σ G C R Y T F J B v Q W V=>by
 obtain⟨I,⟨y,E⟩,l⟩:=B;refine⟨λm τ' i=>∃ σ' G',RSt X.K i σ' τ'/\RH X.K G' i/\TK X.K H i/\I m σ' G',⟨y,σ,G,F,J,.refl _ _,E⟩,?_⟩;rintro m τ' S ⟨σ1,u,g,x,f,M⟩;refine⟨σ1,u,_,g,x,l m σ1 u M,λb z U j k a=>?_⟩;cases b with
 | false=>rw[if_neg (by simp)]at j ⊢;exact v _ _ _ _ j (g.mono a) k (f.trans a)
 | true=>
  refine⟨_,fun σ' i h=>h,σ1,z,_,R,C,_,g.mono a,k,j,?_,Q.mono (f.trans a),v.mono (f.trans a),?_⟩
  ·rintro σ3 s τ3 N ⟨o,n,r⟩ d e q;exact⟨o,n,σ3,s,d,e,(f.trans a).trans q,r⟩
  ·rintro σ3 s τ3 N ⟨o,n,r⟩ d e q;exact⟨o,n,σ3,s,d,e,(f.trans a).trans q,r⟩⟩
inductive Pt where
 | nm (i:Nat)
 | tp (is:List Nat)
def gsOf:List Nat->TGs
 | []=>gNil
 | i::is=>b6H (b0K i) (gsOf is)
def gP (K:Fg):Pt->TG
 | .nm i=>b0K i
 | .tp is=>gTup K is.length (gsOf is)
noncomputable def sets:List Nat->List Z->S3->S3
 | i::is,w::ws,σ=>sets is ws (σ.set i (some w))
 | _,_,σ=>σ
noncomputable def a5P:Pt->Z->S3->Option S3
 | .nm i,w,σ=>some (σ.set i (some w))
 | .tp is,.tup ws,σ=>if ws.length=is.length then some (sets is ws σ) else none
 | _,_,_=>none
def Pt.slots:Pt->List Nat
 | .nm i=>[i]
 | .tp is=>is
noncomputable def a4K:List Nat->List V->L2.St->L2.St
 | i::is,w::ws,σ=>a4K is ws (σ.set i (some w))
 | _,_,σ=>σ
theorem b1s:∀ {is:List Nat}{vs:List V}{τ:L2.St},vs.length=is.length->Q (a4K is vs τ) H->gsOf is vs τ H Q
 | [],[],_,_,q=>⟨rfl,q⟩
 | i::is,v::vs,τ,h,q=>⟨v,vs,rfl,b1s (by simpa using h) q⟩
 | [],_::_,_,h,_=>by simp at h
 | _::_,[],_,h,_=>by simp at h
theorem a7s {K:Fg}:∀ {is:List Nat}{ws:List Z}{vs:List V}{σ:S3}{τ:L2.St},Reps K H ws vs->RSt K H σ τ->RSt K H (sets is ws σ) (a4K is vs τ)
 | [],ws,vs,σ,τ,_,h=>by unfold sets a4K;exact h
 | i::is,[],vs,σ,τ,r,h=>by rw[a0C]at r;subst r;exact h
 | i::is,w::ws,vs,σ,τ,r,h=>by
  obtain⟨v,c,rfl,a,b⟩:=r;exact a7s (is:=is) b (h.set a i)
theorem a6b:∀ {is:List Nat}{vs:List V}{τ:L2.St}{j:Nat},j∉is->(a4K is vs τ)[j]?=τ[j]?
 | [],_,_,_,_=>by unfold a4K;rfl
 | i::is,[],_,_,_=>by unfold a4K;rfl
 | i::is,v::vs,τ,j,h=>by
  have b:j≠i:=λz=>h (by rw[z];exact ft ..);have a:=λz=>h (fi _ z)
  show (a4K is vs _)[j]?=τ[j]?
  rw[a6b a,gH (Ne.symm b)]
theorem a4D:∀ {is:List Nat}{vs:List V}{τ:L2.St},(a4K is vs τ).length=τ.length
 | [],_,_=>by unfold a4K;rfl
 | i::is,[],_=>by unfold a4K;rfl
 | i::is,v::vs,τ=>by
  show (a4K is vs _).length=τ.length
  rw[a4D,jp]
theorem b5j {K:Fg}(r:Rep K H w v) (hs:RSt K H σ τ) (hb:a5P pt w σ=some σ')
  (q:∀ τ',RSt K H σ' τ'->τ'.length=τ.length->(∀ j,j∉pt.slots->τ'[j]?=τ[j]?)->Q τ' H):gP K pt v τ H Q:=by
 cases pt with
 | nm i=>
  cases hb;exact q _ (hs.set r i) (by simp) λj d=>by rw[gH];intro z;exact d (by rw[z];exact ft ..)
 | tp is=>
  cases w with
  | tup ws=>
   obtain⟨a,f,rfl,e,c⟩:=r;have b:(if ws.length=is.length then some _ else none)=some σ':=hb
   by_cases hl:ws.length=is.length
   ·rw[if_pos hl]at b;cases b;exact⟨a,f,rfl,SqT.of e,by rw[<- c.length];exact hl,b1s (by rw[<- c.length];exact hl) (q _ (a7s c hs) a4D λj d=>a6b d)⟩
   ·simp_all
  | _=>cases hb
def QP (X:Cx) (tg:Expr) (pt:Pt):Prop:=PG X tg (gP X.K pt)
def uAsg (te:E3) (pt:Pt):X3:=λnx _ _ _ σ G=>te σ G λx G1=>∃ σ',a5P pt x σ=some σ'/\nx σ' G1
theorem a8p {K:Fg}(h:lowS K (uAsg te pt) D τ H):tAsg (low K te) (gP K pt) D τ H:=by
 obtain⟨σ,G,p,s,k,l,b,e,h,j,r,m,n⟩:=h;exact⟨σ,G,_,b,e,h,λw o v q ⟨σ',g,i⟩ f c d=>b5j f (b.mono d) g fun τ' a _ _=>j _ _ _ _ i a c d⟩
theorem z_set (hN:X.N.Nodup) (hi:X.N[i]?=some x) (hx:Loc X.env.scope x) (he:QE X e te) (hs:kM e (some (.Name x pos')) pos.line X.env=pure false:=by rfl) (hf:X.fn x=true\/X.env.scope.names.lookup x=some .local:=by first | exact .inl rfl | exact .inr rfl | assumption) :
  QS X (.Assign [.Name x pos'] e pos) (uAsg te (.nm i)):=⟨a3J (b6J hN hi hx he.p hs hf) λ_ _ _=>a8p⟩
theorem b7B (he:QE X e te) (hg:QP X tg pt) (hs:mJ [tg] e pos.line X.env=pure false:=by rfl) (hw:mK [tg] e X.env=pure none:=by rfl)
  (h1:(kZ [tg] X.env).map (·.2)=[assign tg X.env]:=by rfl):QS X (.Assign [tg] e pos) (uAsg te pt):=⟨a3J (b4j he.p hg hs hw h1) λ_ _ _=>a8p⟩
abbrev Z3:=Z->Z->Z->Hq->(Hq->Prop)->Prop
def lowZ (K:Fg) (r:Z3):TSet:=λo i v H Q=>∃ a b w G R,Rep K H a o/\Rep K H b i/\Rep K H w v/\RH K G H/\r a b w G R/\∀ G' H',R G'->RH K G' H'->TK K H H'->Q H'
theorem lowZ.un {K:Fg}{C:Prop}(z:lowZ K r o i v H Q) (f:∀ a b w G R,(Rep K H a o)->(Rep K H b i)->(Rep K H w v)->(RH K G H)->(r a b w G R)->(∀ G' H',R G'->RH K G' H'->TK K H H'->Q H')->C):C:=by obtain⟨a,b,w,G,R,d,j,e,g,c,h⟩:=z;exact f _ _ _ _ _ d j e g c h
def SetQ (X:Cx) (r:Z3):Prop:=PSet X (lowZ X.K r)
theorem b7C (h:PSet X r') (i:∀ o j v H Q,r o j v H Q->r' o j v H Q):PSet X r:=λa s σ H o j v c f u Q I b d e q=>h a s σ H o j v c f u Q I b d e (i _ _ _ _ _ q)
def uPut (te to ti:E3) (r:Z3):X3:=λnx _ _ _ σ G=>te σ G λw G1=>to σ G1 λo G2=>ti σ G2 λi G3=>r o i w G3 λG4=>nx σ G4
theorem b9M (h:PS X st (tAsg (low X.K te) (gSub (low X.K to) (low X.K ti) (lowZ X.K r)))):QS X st (uPut te to ti r):=⟨a3J h λD τ H z=>z.un fun σ G Q I J N a s h B T V C=>
 ⟨σ,G,_,a,s,h,λw m v U o t e d=>⟨σ,m,_,a.mono d,e,o,λx u R S n i l c=>⟨σ,u,_,a.mono (d.trans c),l,n,λy A M F q g k b=>
  ⟨x,y,w,A,_,i.mono b,g,t.mono (c.trans b),k,q,λE L p j f=>B _ _ _ _ p (a.mono (((d.trans c).trans b).trans f)) j (((d.trans c).trans b).trans f)⟩⟩⟩⟩⟩
theorem b7D (he:QE X e te) (ho:QE X o to) (hi:QE X i ti) (hr:SetQ X r) (hs:mJ [.Subscript o i p'] e pos.line X.env=pure false:=by rfl) (hw:mK [.Subscript o i p'] e X.env=pure none:=by rfl)
  (h1:(kZ [.Subscript o i p'] X.env).map (·.2)=[assign (.Subscript o i p') X.env]:=by rfl) (ha:∀ v,assign (.Subscript o i p') X.env v=(do
   let ov <- kB [v] (eval o X.env)
   let iv <- kB [v,ov] (eval i X.env)
   kQ p'
   kB [v,ov,iv] (setItem ov iv v)
   release [v,ov,iv] []):=by intro _;rfl):QS X (.Assign [.Subscript o i p'] e pos) (uPut te to ti r):=b9M (b4j he.p (b6I ho.p hi.p hr ha) hs hw h1)
def uAug (i:Nat) (te:E3) (r:R3):X3:=λnx _ _ _ σ G=>∃ x,σ[i]?=some (some x)/\te σ G λy G1=>r x y G1 λz G2=>nx (σ.set i (some z)) G2
theorem b9N (h:PS X st (tAug i (low X.K te) (low2 X.K r))):QS X st (uAug i te r):=⟨a3J h λD τ H q=>q.un fun σ G y L C u a s k t A B M=>by
 obtain⟨x,p,h⟩:=k;obtain⟨v,n,o⟩:=a.get p;exact⟨v,n,σ,G,_,a,s,h,λw m N z j c g b=>⟨x,w,m,_,o.mono b,c,g,j,λF I J E l d e f=>t _ _ _ _ l ((a.mono (b.trans f)).set d i) e (b.trans f)⟩⟩⟩
theorem b7E (hN:X.N.Nodup) (hi:X.N[i]?=some x) (hx:Loc X.env.scope x) (he:QE X e te) (ho:OpQ X (lh op) r) (hf:X.fn x=true\/X.env.scope.names.lookup x=some .local:=by first | exact .inl rfl | exact .inr rfl | assumption) :
  QS X (.AugAssign (.Name x pos') op e pos) (uAug i te r):=b9N (b6K hN hi hx he.p ho hf)
end
abbrev I3:=S3->Hq->(List Z->(Hq->Prop)->Hq->Prop)->Prop
def a5Q (K:Fg) (ws:List Z) (ok:Hq->Prop) (J:It) (H0:Hp):Prop:=∀ i G H,RH K G H->TK K H0 H->ok G->i≤ws.length ->
 (i=ws.length->J.stop i H)/\∀ w,ws[i]?=some w->J.go i H/\∀ x H',J.yld i H x H'->Rep K H' w x/\RH K G H'/\TK K H H'
def lowI (K:Fg) (wi:I3):TI:=fun τ H R2=>∃ σ G R,RSt K H σ τ/\RH K G H/\wi σ G R/\∀ ws ok G' J H',R ws ok G'->a5Q K ws ok J H'->RH K G' H'->TK K H H'->R2 J H'
theorem lowI.un {K:Fg}{R2:It->Hp->Prop}{C:Prop}(z:lowI K wi τ H R2) (f:∀ σ G R,(RSt K H σ τ)->(RH K G H)->(wi σ G R)->(∀ ws ok G' J H',R ws ok G'->a5Q K ws ok J H'->RH K G' H'->TK K H H'->R2 J H')->C):C:=by obtain⟨σ,G,R,d,b,c,a⟩:=z;exact f _ _ _ d b c a
def QI (X:Cx) (tg iter:Expr) (wi:I3):Prop:=PI X tg iter (lowI X.K wi)
theorem a8q (h:PI X tg iter wi') (i:∀ σ H R,wi σ H R->wi' σ H R):PI X tg iter wi:=λa s σ H R I q=>h a s σ H R I (i σ H R q)
def FORB (ws:List Z) (ok:Hq->Prop) (pt:Pt) (tb:X3) (nx:C3) (rt:K3) (σ:S3) (G1:Hq):Prop:=∃ I:Nat->S3->Hq->Prop,I 0 σ G1/\(∀ i σ G,i≤ws.length->I i σ G->ok G) /\
 (∀ i x σ G,ws[i]?=some x->I i σ G->∃ σ',a5P pt x σ=some σ'/\tb (I (i+1)) rt nx (I (i+1)) σ' G)/\∀ σ G,I ws.length σ G->nx σ G
def uFor (wi:I3) (pt:Pt) (tb:X3):X3:=λnx rt _ _ σ G=>wi σ G λws ok G1=>FORB ws ok pt tb nx rt σ G1
theorem a1D (I:Nat->S3->Hq->Prop) (h0:I 0 σ G) (hok:∀ i σ G,i≤ws.length->I i σ G->ok G)
  (step:∀ i x σ G,ws[i]?=some x->I i σ G->∃ σ',a5P pt x σ=some σ'/\tb (I (i+1)) rt nx (I (i+1)) σ' G) (fin:∀ σ G,I ws.length σ G->nx σ G):FORB ws ok pt tb nx rt σ G:=⟨I,h0,hok,step,fin⟩
theorem a3q (hp:kj (model X.prog X.w) X.A X.env X.xe) (hc:X.calm=true) (hi:QI X tg iter wi) (hg:QP X tg pt) (hb:QSs X sb t)
  (hs:∀ x,k7 iter X.env x=pure x:=by intro _;rfl):QS X (.For tg iter sb [] pos) (uFor wi pt t):=⟨a3J (b6O hp hc hi hg hb.p hs) λD τ H U=>U.un fun σ G nx rt bk ct hs hg h R u2 u3 u4=>by
 refine⟨σ,G,_,hs,hg,h,?_⟩;rintro b ok G1 J L ⟨I,i0,S,u,E⟩ hJ M k;refine⟨λi m τ' a=>m=b.length - i/\i≤b.length/\∃ σ' G',RSt X.K a σ' τ'/\RH X.K G' a/\TK X.K L a/\I i σ' G',⟨b.length,by simp,eP _,σ,G1,hs.mono k,M,.refl _ _,i0⟩,?_⟩;rintro i m τ2 H2 ⟨rfl,n,σ2,j,o,r,c,z⟩;have l:=hJ i j H2 r c (S i σ2 j n z) n
 by_cases hlt:i<b.length
 ·obtain⟨Y,T⟩:=l.2 _ (et hlt);refine .inr ⟨Y,fun τ' a=>i+1≤b.length/\∃ σ' G',RSt X.K a σ' τ'/\RH X.K G' a/\TK X.K L a/\I _ σ' G',fun σ' a q=>⟨b.length - _,by omega,rfl,q.1,q.2⟩,λx H3 V=>?_⟩;obtain⟨rx,N,g⟩:=T x H3 V;obtain⟨σ',F,h3⟩:=u i _ σ2 j (et hlt) z;refine b5j rx (o.mono g) F fun τ' C _ _=>⟨σ',j,_,rt,nx,_,C,N,h3,?_,u2.mono ((k.trans c).trans g),R.mono ((k.trans c).trans g),?_⟩
  ·exact fun σ4 v τ4 W s d f y=>⟨hlt,σ4,v,d,f,(c.trans g).trans y,s⟩
  ·exact fun σ4 v τ4 W s d f y=>⟨hlt,σ4,v,d,f,(c.trans g).trans y,s⟩
 ·have e:i=b.length:=by omega
  subst e;exact .inl ⟨l.1 rfl,R _ _ _ _ (E σ2 j z) o r (k.trans c)⟩⟩
section
variable {X:Cx}{tg l:Expr}{tl:E3}
def wkL (x:Z) (G:Hq) (R:List Z->(Hq->Prop)->Hq->Prop):Prop:=match x with
 | .ref a=>∃ ws,G a=some (.lst ws)/\R ws (λG=>G a=some (.lst ws)) G
 | .scr _ ns=>R (ns.map Z.int) (λ_=>True) G
 | _=>False
def iL (tl:E3):I3:=fun σ G R=>tl σ G λx G1=>wkL x G1 R
theorem a99 {K:Fg}:a5Q K ws (λG=>G a=some (.lst ws)) (Itl K a) H:=λi G H c t g m=>by
 obtain⟨b,e,f⟩:=c a _ g;refine⟨λh=>⟨b,SqL.of e,by rw[<- f.length,h];exact dS _⟩,λw j=>?_⟩;obtain⟨v,d,k⟩:=f.get j;refine⟨⟨b,v,SqL.of e,d⟩,?_⟩;rintro x l ⟨rfl,y⟩
 have:=y b (SqL.of e)
 rw[d]at this;cases this;exact⟨k,c,.refl _ _⟩
theorem b1t {K:Fg}{ns:List Int}(f:Fz K H0 a (ns.map V.int)):a5Q K (ns.map Z.int) (λ_=>True) (Itl K a) H0:=λi G H g t m l=>by
 have b:=(t.frz _ _ f).sq;have c:Reps K H _ _:=a2j ns;refine⟨λh=>⟨_,b,by rw[<- c.length,h];exact dS _⟩,λw j=>?_⟩;obtain⟨v,d,e⟩:=c.get j;refine⟨⟨_,v,b,d⟩,?_⟩;rintro x k ⟨rfl,y⟩
 have:=y _ b
 rw[d]at this;cases this;exact⟨e,g,.refl _ _⟩
theorem a02 (hl:QE X l tl):QI X tg l (iL tl):=a8q (b4Z hl.p) fun τ H s k=>k.un fun σ G R i j h f=>by
 refine⟨σ,G,_,i,j,h,λw q v o c b d g=>?_⟩;cases w with
 | ref a=>
  obtain⟨r,e,c⟩:=c;obtain⟨m,n,_⟩:=d a _ e;exact⟨a,b,⟨m,SqL.of n⟩,f _ _ _ _ _ c a99 d g⟩
 | scr a ns=>
  exact⟨a,b.1,⟨_,b.2.sq⟩,f _ _ _ _ _ c (b1t b.2) d g⟩
 | _=>exact ei c
def wkT (x:Z) (G:Hq) (R:List Z->(Hq->Prop)->Hq->Prop):Prop:=match x with
 | .tup ws=>R ws (λ_=>True) G
 | _=>False
def iT (tl:E3):I3:=fun σ G R=>tl σ G λx G1=>wkT x G1 R
theorem b1u {K:Fg}(e:H0 a=some (.tup vs)) (rs:Reps K H0 ws vs):a5Q K ws (λ_=>True) (Itt K a) H0:=λi G H f t ok hi=>by
 have e:=t.tup _ _ e;have rs:=rs.mono t;refine⟨λh=>⟨vs,SqT.of e,by rw[<- rs.length,h];exact dS _⟩,λw g=>?_⟩;obtain⟨v,c,d⟩:=rs.get g;refine⟨⟨vs,v,SqT.of e,c⟩,?_⟩;rintro x H' ⟨rfl,y⟩
 have:=y vs (SqT.of e)
 rw[c]at this;cases this;exact⟨d,f,.refl _ _⟩
theorem b7F (hl:QE X l tl):QI X tg l (iT tl):=a8q (b6M hl.p) fun τ H o j=>j.un fun σ G R m i h n=>by
 refine⟨σ,G,_,m,i,h,λw r v q d c b k=>?_⟩;cases w with
 | tup ws=>
  obtain⟨a,g,rfl,e,f⟩:=c;exact⟨a,rfl,⟨g,SqT.of e⟩,n _ _ _ _ _ d (b1u e f) b k⟩
 | _=>exact ei d
noncomputable def rng (lo:Int):Nat->List Z
 | 0=>[]
 | n+1=>.int lo::rng (lo+1) n
theorem a2m:∀ (lo:Int) (n:Nat),(rng lo n).length=n
 | _,0=>rfl
 | lo,n+1=>by rw[rng,eF,a2m]
theorem a4g:∀ {lo:Int}{n i:Nat}{w:Z},(rng lo n)[i]?=some w->i<n/\w=.int (lo+i)
 | _,0,_,_,h=>by simp[rng]at h
 | lo,n+1,0,w,h=>by simp[rng]at h;exact⟨by omega,by rw[<- h];simp⟩
 | lo,n+1,i+1,w,h=>by
  have:=a4g (by simpa[rng]using h)
  refine⟨by omega,?_⟩;rw[this.2]
  congr 1
  omega
theorem b1v {K:Fg}{lo:Int}:a5Q K (rng lo n) (λ_=>True) (Itr lo n) H0:=λi G H b t e g=>by
 rw[a2m];refine⟨λh=>by rw[h];exact dS _,λw d=>?_⟩;obtain⟨a,c⟩:=a4g d;refine⟨a,?_⟩;rintro x f ⟨rfl,rfl⟩;exact⟨by rw[c,a0x],b,.refl _ _⟩
variable {t:A3}
def iR1 (t:A3):I3:=fun σ G R=>t σ G λws G1=>∃ j:Int,ws=[.int j]/\-(2 ^ 62)≤j/\j<2 ^ 62/\R (rng 0 j.toNat) (λ_=>True) G1
theorem b1w (h:PI X tg wi (b6N (lowA X.K t))):QI X tg wi (iR1 t):=a8q h fun τ H p g=>g.un fun σ G R i d h l=>by
 refine⟨σ,G,_,i,d,h,λq o n s ⟨j,e,a,b,k⟩ f c m=>?_⟩;subst e;obtain⟨v,rfl,r⟩:=f.one;subst r;exact⟨j,rfl,a,b,l _ _ _ _ _ k b1v c m⟩
end
section
variable {X:Cx}{tg a b:Expr}{p pos:Pos}{t:A3}
theorem a23 (hg:Gl X "range") (hm:X.mg "range"=none) (ha:QA X [a] t) (hs:j0 [a] X.env=[(false,eval a X.env)]:=by rfl):QI X tg (.Call (.Name "range" p) [a] [] pos) (iR1 t):=b1w (b0M hg hm ha.p hs)
end
noncomputable def cap3 (cap:List (Option Nat)) (σ:S3):S3:=cap.map λo=>o.bind λj=>(σ[j]?).join
theorem a8r {K:Fg}(h:RSt K H σ τ):∀ cap:List (Option Nat),RSt K H (cap3 cap σ) (a4b cap τ)
 | []=>.nil
 | none::cap=>.cons (λ_ e=>nomatch e) (a8r h cap)
 | some j::cap=>.cons (λw e=>by
   have a:(σ[j]?).join=some w:=e;have b:σ[j]?=some (some w):=by
    cases q:σ[j]? with
    | none=>rw[q]at a;cases a
    | some o=>rw[q]at a;cases o with
     | none=>cases a
     | some z=>cases a;rfl
   obtain⟨v,c,r⟩:=h.get b;exact⟨v,by show (τ[j]?).join=some v;rw[c];rfl,r⟩) (a8r h cap)
theorem a4h:∀ {a b:L2.St},b.length=a.length->(∀ (i:Nat) v,a[i]?=some (some v)->b[i]?=some (some v))->a2v a b
 | [],[],_,_=>True.intro
 | none::a,_::b,h,k=>a4h (b:=b) (by simpa using h) λi v e=>by simpa using k (i+1) v (by simpa using e)
 | some x::a,y::b,h,k=>⟨by simpa using k 0 x rfl,a4h (b:=b) (by simpa using h) λi v e=>by simpa using k (i+1) v (by simpa using e)⟩
 | [],_::_,h,_=>by simp at h
 | _::_,[],h,_=>by simp at h
def LCB (ws:List Z) (ok:Hq->Prop) (cap:List (Option Nat)) (pt:Pt) (tt:T3) (te:E3) (σ:S3) (R:K3) (D:Addr) (G1:Hq):Prop:=∃ I:Nat->List Z->Hq->Prop,I 0 [] (put G1 D (.lst []))/\(∀ i ys G,i≤ws.length->I i ys G->ok G) /\
 (∀ i x ys G,ws[i]?=some x->I i ys G->∃ σ',a5P pt x (cap3 cap σ)=some σ'/\tt σ' G λb G4=>if b=true then te σ' G4 λy G5=>G5 D=some (.lst ys)/\ys.length<jZ/\I (i+1) (ys++[y]) (put G5 D (.lst (ys++[y]))) else I (i+1) ys G4) /\
 ∀ ys G,I ws.length ys G->R (.ref D) G
def uLC (wi:I3) (cap:List (Option Nat)) (pt:Pt) (tt:T3) (te:E3):E3:=fun σ G R=>wi σ G λws ok G1=>∀ D,G1 D=none->LCB ws ok cap pt tt te σ R D G1
theorem b1x (I:Nat->List Z->Hq->Prop) (h0:I 0 [] (put G1 D (.lst []))) (hok:∀ i ys G,i≤ws.length->I i ys G->ok G)
  (step:∀ i x ys G,ws[i]?=some x->I i ys G->∃ σ',a5P pt x (cap3 cap σ)=some σ'/\tt σ' G λb G4=>if b=true then te σ' G4 λy G5=>G5 D=some (.lst ys)/\ys.length<jZ/\I (i+1) (ys++[y]) (put G5 D (.lst (ys++[y]))) else I (i+1) ys G4)
  (fin:∀ ys G,I ws.length ys G->R (.ref D) G):LCB ws ok cap pt tt te σ R D G1:=⟨I,h0,hok,step,fin⟩
theorem a16 {α β:Type}{f:α->Option β}{ws:List α}{x:α}(h:ws[i]?=some x):(ws.take (i+1)).filterMap f=(ws.take i).filterMap f++(f x).toList:=by
 rw[fH,List.filterMap_append,h];cases e:f x<;>simp[e]
theorem b5k (f:Z->Option Z) (hok:∀ ys,ok (put G1 D (.lst ys))) (hz:ws.length≤1000)
  (turn:∀ x,x∈ws->∀ (ys:List Z) (K1:K3) (K2:Hq->Prop),(∀ y,f x=some y->K1 y (put G1 D (.lst ys)))->(f x=none->K2 (put G1 D (.lst ys)))->∃ σ',a5P pt x (cap3 cap σ)=some σ'/\tt σ' (put G1 D (.lst ys)) λb G4=>if b=true then te σ' G4 K1 else K2 G4)
  (fin:R (.ref D) (put G1 D (.lst (ws.filterMap f)))):LCB ws ok cap pt tt te σ R D G1:=by
 refine⟨λi a G=>a=(ws.take i).filterMap f/\G=put G1 D (.lst a),⟨by simp,rfl⟩,?_,?_,?_⟩
 ·simp_all
 ·rintro i x a G c ⟨e,rfl⟩;refine turn x (eI c) a _ _ (λy g=>⟨a0e,?_,?_,?_⟩) λd=>⟨?_,rfl⟩
  ·rw[e];exact ie (eD (gB _ _) (by rw[eG];omega)) (a0t (dS 1000))
  ·rw[a16 c,g,e];rfl
  ·rw[a2R]
  ·rw[a16 c,d,e];simp
 ·simp_all
def QIfs (X:Cx) (ifs:List Expr) (t:T3):Prop:=PIfs X ifs (lowT X.K t)
def uTT:T3:=λ_ G R=>R true G
theorem a4i:QIfs X [] uTT:=λa s τ H Q I ⟨σ,G,R,d,b,h,c⟩=>b29 a s τ H Q I (c _ _ _ h b (.refl _ _))
theorem a6G (h:QT X c t):QIfs X [c] t:=b3a h.p
theorem b5l {pt:Pt}(hc:(pt.slots.all λj=>decide (cap[j]?=some none))=true) (h:(a4b cap τ)[i]?=some (some v)):i∉pt.slots:=λa=>by
 have q:=of_decide_eq_true ((fV.mp hc) i a);unfold a4b at h;rw[er,q]at h;cases h
theorem b1y {K:Fg}(hc:(pt.slots.all λj=>decide (cap[j]?=some none))=true) (h:low K (uLC wi cap pt tt te) τ H Q) :
  tLC (lowI K wi) cap (gP K pt) (lowT K tt) (low K te) τ H Q:=by
 obtain⟨σ,G,R,hs,hg,h,up⟩:=h;refine⟨σ,G,_,hs,hg,h,λc ok G1 J H1 h1 hJ t U D B=>?_⟩;obtain⟨I,i0,S,C,N⟩:=h1 D (t.out B);refine⟨λi m _ d=>m=c.length - i/\i≤c.length/\∃ a G',RH K G' d/\TK K H1 d/\I i a G',⟨c.length,by simp,eP _,[],_,t.set (o:=.lst []) (.new B) ⟨[],a0y,.nil⟩,.new B,i0⟩,?_⟩;rintro i m vs H2 ⟨rfl,w,a,f,p,g,E⟩;have n:=hJ i f H2 p g (S i a f w E) w
 by_cases hlt:i<c.length
 ·obtain⟨go,yl⟩:=n.2 _ (et hlt);refine .inr ⟨go,λ_ d=>i+1≤c.length/\∃ a G',RH K G' d/\TK K H1 d/\I _ a G',λvs' d q=>⟨c.length - _,by omega,rfl,q.1,q.2⟩,λx H3 y3=>?_⟩;obtain⟨rx,aa,F⟩:=yl x H3 y3;obtain⟨σ',Y,h3⟩:=C i _ a f (et hlt) E;refine b5j rx (a8r (hs.mono ((U.trans g).trans F)) cap) Y fun τ' z M hk'=>⟨a4h M λj v T=>by rw[hk' j (b5l hc T)];exact T,?_⟩;refine⟨σ',f,_,z,aa,h3,λb G4 H4 l u A=>?_⟩;cases b with
  | false=>
   exact⟨hlt,a,G4,u,(g.trans F).trans A,l⟩
  | true=>
   refine⟨σ',G4,_,z.mono A,u,l,λy G5 v5 H5 ⟨L,V,h5⟩ r5 r t5=>?_⟩;obtain⟨X,k,s⟩:=r D _ L;refine⟨X,k,by rw[<- s.length];exact V,hlt,_,_,r.set (.lst k) (a06 (s.append (.cons r5 .nil)) (.lst k)),?_,h5⟩;exact (((g.trans F).trans A).trans t5).trans (.lst k)
 ·have e:i=c.length:=by omega
  subst e;exact .inl ⟨n.1 rfl,up _ _ _ _ (N a f E) (by rw[a0H]) p (U.trans g)⟩
section
variable {X:Cx}{N':List Str}{sc:Scope}{cap:List (Option Nat)}{tg iter elt:Expr}{ifs:List Expr}{wi:I3}{pt:Pt}{tt:T3}{te:E3}{pos:Pos}
theorem q_lc (hc:X.calm=true) (hNN:X.N=N₀) (hso:X.env.scope=so) (ck:capB N₀ so sc N' cap=true) (hp:(pt.slots.all λj=>decide (cap[j]?=some none))=true) (hi:QI X tg iter wi)
  (hg:∀ C s H fp,QP (cxC X E0 N' sc C s H fp) tg pt) (ht:∀ C s H fp,QIfs (cxC X E0 N' sc C s H fp) ifs tt) (he:∀ C s H fp,QE (cxC X E0 N' sc C s H fp) elt te)
  (hs:∀ x,k7 iter X.env x=pure x:=by intro _;rfl):QE X (.ListComp elt [⟨tg,iter,ifs,0⟩] sc pos) (uLC wi cap pt tt te):=⟨a1m (b7g (g:=gP X.K pt) (tt:=lowT X.K tt) hc a82 hNN hso ck hi hg ht (λC s H a=>(he C s H a).p) hs) λ_ _ _=>b1y hp⟩
theorem a8s (hN:X.N.Nodup) (hx:X.N[i]?=some x) (hl:X.env.scope.names.lookup x=some .local) (hc:X.calm=true) (hNN:X.N=N₀) (hso:X.env.scope=so) (ck:capB N₀ so sc N' cap=true)
  (hp:(pt.slots.all λj=>decide (cap[j]?=some none))=true) (hi:QI X tg iter wi)
  (hg:∀ C s H fp,QP (cxC X E0 N' sc C s H fp) tg pt) (ht:∀ C s H fp,QIfs (cxC X E0 N' sc C s H fp) ifs tt) (he:∀ C s H fp,QE (cxC X E0 N' sc C s H fp) elt te)
  (hsw:kM (.ListComp elt [⟨tg,iter,ifs,0⟩] sc pos) (some (.Name x pos')) spos.line X.env=pure true:=by rfl)
  (hs:∀ x,k7 iter X.env x=pure x:=by intro _;rfl):QS X (.Assign [.Name x pos'] (.ListComp elt [⟨tg,iter,ifs,0⟩] sc pos) spos) (uAsg (uLC wi cap pt tt te) (.nm i)):=⟨a3J (b3c (g:=gP X.K pt) (tt:=lowT X.K tt) hN hx hl hc a82 hNN hso ck hi hg ht (λC s H a=>(he C s H a).p) hsw hs) λD τ H h=>b1y hp (a8p h)⟩
end
section
variable {P:j7}{w:World}{K:Fg}{mg:Str->Option Value}{base:Heap}
theorem fn3 {st:Stmt}(F:Fun K x qual st f fd) (S:FnScope N ps (a0i st)) (len:∀ ws G R,sp ws G R->ws.length=ps.length)
  (hbody:∀ (cdv:Value) (A:Around) (outer:List Env) (s:Shared) (H:Hp) (E:XK) (ws:List Z) (G:Hq) (R:K3),Room k (A.deeper (envOfC qual (a0i st) s.heap.objs.size f cdv))->sp ws G R ->
   ∃ t,QSs (cxOf CX0 P w K mg base N qual (a0i st) f cdv A outer s H E).nox (a2e st) t/\t (λ_ G'=>R .non G') R (λ_ _=>False) (λ_ _=>False) (a4B N ws) G):FnOk P w K mg base CX0 (k+1) f fd ps (lowP K sp):=by
 refine F.ok S (λn H Q E ⟨d,G,R,c,e,h,b⟩=>by rw[<- c.length];exact len _ _ _ h) ?_;rintro g A a s H n Q E j ⟨d,G,R,c,e,h,b⟩;obtain⟨t,l,q⟩:=hbody g A a s H E d G R j h;exact⟨_,l.p,a4B N d,G,_,R,_,_,.start c,e,q,fun σ' v τ' u m r i o=>b _ _ _ _ m (by rw[a0U]) i o,b,λ_ _ _ _ h _ _ _=>h.elim,λ_ _ _ _ h _ _ _=>h.elim⟩
end
end L3
namespace L3
open PySem PySem.Spec PyProof.Rows L2
section
variable {X:Cx}
def zAdd:R3:=λx y G R=>match x,y with
 | .int i,.int j=>R (.int (i+j)) G
 | .str a,.str b=>a.length+b.length≤jZ/\R (.str (a++b)) G
 | .tup xs,.tup ys=>xs≠[]/\xs.length+ys.length≤jZ/\R (.tup (xs++ys)) G
 | .ref p,.ref q=>∃ xs ys,G p=some (.lst xs)/\G q=some (.lst ys)/\xs.length+ys.length≤jZ/\∀ t,G t=none->R (.ref t) (put G t (.lst (xs++ys)))
 | _,_=>False
theorem a0N:OpQ X (kl .Add) zAdd:=a7o (op_add.or (op_add_str.or (op_catT.or b67))) λx y H Q D=>D.un λa b G R c d f h m=>by
 cases a with
 | int i=>
  cases b with
  | int j=>rw[a0x]at c d;exact .inl ⟨_,_,c,d,m _ _ _ _ h (by rw[a0x]) f (.refl _ _)⟩
  | _=>exact ei h
 | str i=>
  cases b with
  | str j=>rw[a0K]at c d;exact .inr (.inl ⟨_,_,c,d,h.1,m _ _ _ _ h.2 (by rw[a0K]) f (.refl _ _)⟩)
  | _=>exact ei h
 | tup w=>
  cases b with
  | tup ws=>
   obtain⟨p,n,rfl,o,k⟩:=c;obtain⟨q,r,rfl,u,l⟩:=d;obtain⟨B,s,h⟩:=h;refine .inr (.inr (.inl ⟨p,q,n,r,rfl,rfl,SqT.of o,SqT.of u,λz=>?_,by rw[<- k.length,<- l.length];exact s,λz=>?_,λz t g=>?_⟩))
   ·subst z;exact B (fN.mp k.length)
   ·subst z;have e:=fN.mp l.length;subst e;rw[eL]at h;exact m _ _ _ _ h (by rw[a1P];exact⟨p,n,rfl,o,k⟩) f (.refl _ _)
   ·exact m _ _ _ _ h (by rw[a1P];exact⟨t,n++r,rfl,a0y,Reps.mono (.new g) _ _ (k.append l)⟩) (f.hid g) (.new g)
  | _=>exact ei h
 | ref p=>
  cases b with
  | ref q=>
   subst c d;obtain⟨n,r,o,u,s,h⟩:=h;obtain⟨C,A,k⟩:=f _ _ o;obtain⟨w,v,l⟩:=f _ _ u;exact .inr (.inr (.inr ⟨_,_,C,w,rfl,rfl,A,v,by rw[<- k.length,<- l.length];exact s,λt g=>m _ _ _ _ (h t (f.out g)) (by rw[a0H]) (f.set (.new g) (a06 (k.append l) (.new g))) (.new g)⟩))
  | _=>exact ei h
 | _=>exact ei h
def zI (C:Int->Int->Prop) (g:Int->Int->Z):R3:=λx y G R=>match x,y with
 | .int i,.int j=>C i j/\R (g i j) G
 | _,_=>False
def zI0 (g:Int->Int->Z):R3:=λx y G R=>match x,y with
 | .int i,.int j=>R (g i j) G
 | _,_=>False
theorem oI {g:Int->Int->Int}(h:OpR X f (rI C λi j=>.int (g i j))):OpQ X f (zI C λi j=>.int (g i j)):=a7o h λx y H Q l=>l.un λa b G R d c k h e=>by
 cases a<;>cases b<;>first
  | exact ei h
  | (rw[a0x]at d c;exact⟨_,_,d,c,h.1,e _ _ _ _ h.2 (by rw[a0x]) k (.refl _ _)⟩)
theorem oI0 {g:Int->Int->Int}(h:OpR X f (rI0 λi j=>.int (g i j))):OpQ X f (zI0 λi j=>.int (g i j)):=a7o h λx y H Q l=>l.un λa b G R d c k h e=>by
 cases a<;>cases b<;>first
  | exact ei h
  | (rw[a0x]at d c;exact⟨_,_,d,c,e _ _ _ _ h (by rw[a0x]) k (.refl _ _)⟩)
theorem a8t:OpQ X (kl .Sub) (zI0 λi j=>.int (i - j)):=oI0 b6P
theorem a7t:OpQ X (kl .Mult) (zI CMul λi j=>.int (i*j)):=oI b6Q
theorem a5i:OpQ X (kl .FloorDiv) (zI b7j λi j=>.int (i / j)):=oI b3d
theorem a0T:OpQ X (kl .Mod) (zI (λ_ j=>0<j) λi j=>.int (i % j)):=oI b6R
theorem a4L:OpQ X (kl .Pow) (zI CPow λi j=>.int (i ^ j.toNat)):=oI b6S
theorem b4u:OpQ X (lh .Add) (zI0 λi j=>.int (i+j)):=oI0 b40
def zNeg:Z->Hq->K3->Prop:=λx G R=>match x with
 | .int i=>R (.int (-i)) G
 | _=>False
theorem a2n:UnQ X (me .USub) zNeg:=b9I b6T λx H Q c=>c.un λa G R b d h e=>by
 cases a<;>first
  | exact ei h
  | (rw[a0x]at b;exact⟨_,b,e _ _ _ _ h (by rw[a0x]) d (.refl _ _)⟩)
theorem b1z:OpR X (ke .LtE) (λx y H Q=>∃ i j,x=.str i/\y=.str j/\Q (.bl (!decide (j.cps.toList<i.cps.toList))) H):=by
 intro b s σ H x y v u Q I a c h;obtain⟨i,j,rfl,rfl,q⟩:=h;obtain⟨t,rfl⟩:=a;obtain⟨d,rfl⟩:=c;exact PySem.P.le_str (a0E I q rfl)
theorem b1A:OpR X (ke .Gt) (λx y H Q=>∃ i j,x=.str i/\y=.str j/\Q (.bl (decide (j.cps.toList<i.cps.toList))) H):=by
 intro b s σ H x y v u Q I a c h;obtain⟨i,j,rfl,rfl,q⟩:=h;obtain⟨t,rfl⟩:=a;obtain⟨d,rfl⟩:=c;exact PySem.P.gt_str (a0E I q rfl)
def zC (f:Int->Int->Bool) (g:Str->Str->Bool):R3:=λx y G R=>match x,y with
 | .int i,.int j=>R (.bl (f i j)) G
 | .str i,.str j=>R (.bl (g i j)) G
 | _,_=>False
theorem oC (h:OpR X (ke op) (rI0 λi j=>.bl (f i j))) (h':OpR X (ke op) (λx y H Q=>∃ i j,x=.str i/\y=.str j/\Q (.bl (g i j)) H)) :
  OpQ X (ke op) (zC f g):=a7o (h.or h') λx y H Q l=>l.un λa b G R c d e h k=>by
 cases a<;>cases b<;>first
  | exact ei h
  | (rw[a0x]at c d;exact .inl ⟨_,_,c,d,k _ _ _ _ h (by rw[a0P]) e (.refl _ _)⟩)
  | (rw[a0K]at c d;exact .inr ⟨_,_,c,d,k _ _ _ _ h (by rw[a0P]) e (.refl _ _)⟩)
abbrev ltS (x y:Str):Bool:=decide (x.cps.toList<y.cps.toList)
theorem o_lt:OpQ X (ke .Lt) (zC (λi j=>decide (i<j)) λx y=>ltS x y):=oC b9v b0S
theorem o_le:OpQ X (ke .LtE) (zC (λi j=>decide (i≤j)) λx y=>!ltS y x):=oC b9w b1z
theorem o_gt:OpQ X (ke .Gt) (zC (λi j=>decide (j<i)) λx y=>ltS y x):=oC b9x b1A
def zIs (neg:Bool):R3:=λx y G R=>match y with
 | .non=>R (.bl (if neg then !decide (x=.non) else decide (x=.non))) G
 | .bl b=>match x with
  | .bl a=>neg=false/\R (.bl (a==b)) G
  | _=>False
 | _=>False
theorem a6c {K:Fg}(r:Rep K H w v):decide (v=.non)=decide (w=.non):=by
 cases w with
 | non=>rw[a0U]at r;subst r;rfl
 | bl _=>rw[a0P]at r;subst r;simp
 | int _=>rw[a0x]at r;subst r;simp
 | str _=>rw[a0K]at r;subst r;simp
 | ref _=>rw[a0H]at r;subst r;simp
 | ty _=>rw[b1l]at r;subst r;simp
 | scr _ _=>rw[a4e]at r;obtain⟨rfl,_⟩:=r;simp
 | tup _=>rw[a1P]at r;obtain⟨_,_,rfl,_⟩:=r;simp
end
mutual
def dZ:Z->PyData
 | .bl b=>.bool b
 | .int i=>.int i
 | .str x=>.str x
 | .tup ws=>.tuple (dZs ws)
 | _=>.none
def dZs:List Z->List PyData
 | []=>[]
 | w::ws=>dZ w::dZs ws
end
noncomputable def flat:Nat->Z->Bool
 | _,.non=>true
 | _,.int _=>true
 | _,.str x=>PyData.strOk x
 | n+1,.tup ws=>ws.all (flat n)
 | _,_=>false
theorem b4v:∀ (n:Nat) (d:Z),flat n d=true->(dZ d).canLay0=true/\(dZ d).depth≤n:=by
 have f:∀ n,(∀ d,flat n d=true->(dZ d).canLay0=true/\(dZ d).depth≤n)->∀ a:List Z,(∀ d∈a,flat n d=true)->PyData.canLayAll0 (dZs a)=true/\PyData.depthAll (dZs a)≤n:=by
  intro n b a
  induction a with
  | nil=>intro _;simp[dZs,PyData.canLayAll0,PyData.depthAll]
  | cons d a hi=>
   intro h;have g:=b d (h d (.head _));have c:=hi λe j=>h e (.tail _ j);simp only[dZs,PyData.canLayAll0,PyData.depthAll,g.1,c.1,Bool.and_self,true_and];omega
 intro n
 induction n with
 | zero=>
  intro d h;cases d<;>simp_all[flat,dZ,PyData.canLay0,PyData.depth]
 | succ n b=>
  intro d h;cases d with
  | non=>simp[dZ,PyData.canLay0,PyData.depth]
  | int i=>simp[dZ,PyData.canLay0,PyData.depth]
  | str x=>simp[flat]at h;simp[dZ,PyData.canLay0,PyData.depth,h]
  | tup a=>
   have q:=f n b a (by simpa[flat]using h);simp only[dZ,PyData.canLay0,PyData.depth,q.1,true_and];omega
  | _=>simp[flat]at h
theorem b5m (n:Nat) (ds:List Z) (h:ds.all (flat n)=true):PyData.canLayAll0 (dZs ds)=true/\PyData.depthAll (dZs ds)≤n:=by
 have q:=b4v (n+1) (.tup ds) (by simpa[flat]using h);simp only[dZ,PyData.depth]at q;exact⟨q.1,by omega⟩
theorem b4w:∀ (n:Nat) (d e:Z) (k:Nat),flat n d=true->flat k e=true->(PyData.eqv (dZ d) (dZ e)=true↔d=e):=by
 have all:∀ (n:Nat),(∀ d e k,flat n d=true->flat k e=true->(PyData.eqv (dZ d) (dZ e)=true↔d=e))->∀ (k:Nat) (ds es:List Z),(∀ d∈ds,flat n d=true)->(∀ d∈es,flat k d=true) ->
   (PyData.eqvAll (dZs ds) (dZs es)=true↔ds=es):=by
  intro n ih k ds
  induction ds with
  | nil=>intro es _ _;cases es<;>simp[dZs,PyData.eqvAll]
  | cons d ds hi=>
   intro es h1 h2;cases es with
   | nil=>simp[dZs,PyData.eqvAll]
   | cons e es=>
    have q1:=ih d e k (h1 d (.head _)) (h2 e (.head _));have q2:=hi es (λx hx=>h1 x (.tail _ hx)) λx hx=>h2 x (.tail _ hx);simp only[dZs,PyData.eqvAll,fM,q1,q2,fW.injEq]
 intro n
 induction n with
 | zero=>
  intro d e k h1 h2;cases d<;>cases e<;>simp_all[flat,dZ,PyData.eqv]
 | succ n ih=>
  intro d e k h1 h2;cases d with
  | tup ds=>
   cases e with
   | tup es=>
    cases k with
    | zero=>simp[flat]at h2
    | succ k=>
     simp only[dZ,PyData.eqv,Z.tup.injEq];exact all n ih k ds es (by simpa[flat]using h1) (by simpa[flat]using h2)
   | _=>simp_all[flat,dZ,PyData.eqv]
  | _=>cases e<;>simp_all[flat,dZ,PyData.eqv]
theorem b5n (n k:Nat) (ds es:List Z) (h:ds.all (flat n)=true) (h':es.all (flat k)=true):PyData.eqvAll (dZs ds) (dZs es)=true↔ds=es:=by
 have q:=b4w (n+1) (.tup ds) (.tup es) (k+1) (by simpa[flat]using h) (by simpa[flat]using h');simpa only [dZ,PyData.eqv,Z.tup.injEq]using q
section
variable {K:Fg}{H:Hp}
theorem b5o:∀ (n:Nat) (w:Z) (v:V),flat n w=true->Rep K H w v->DV H (dZ w) v:=by
 have g:∀ n,(∀ w v,flat n w=true->Rep K H w v->DV H (dZ w) v)->∀ b c,(∀ d∈b,flat n d=true)->Reps K H b c->DVs H (dZs b) c:=by
  intro n f b
  induction b with
  | nil=>intro c _ r;exact r
  | cons w b hi=>
   intro c h r;obtain⟨v,j,e,o,l⟩:=r;exact⟨v,j,e,f w v (h w (.head _)) o,hi j (λd k=>h d (.tail _ k)) l⟩
 intro n
 induction n with
 | zero=>
  intro w v h r;cases w with
  | non=>rw[a0U]at r;exact r
  | int i=>rw[a0x]at r;exact r
  | str x=>rw[a0K]at r;exact r
  | _=>simp[flat]at h
 | succ n f=>
  intro w v h r;cases w with
  | non=>rw[a0U]at r;exact r
  | int i=>rw[a0x]at r;exact r
  | str x=>rw[a0K]at r;exact r
  | tup b=>
   obtain⟨a,c,e,p,m⟩:=r;exact⟨a,c,e,p,g n f b c (by simpa[flat]using h) m⟩
  | _=>simp[flat]at h
theorem b1B (n:Nat):∀ (ws:List Z) (vs:List V),ws.all (flat n)=true->Reps K H ws vs->DVs H (dZs ws) vs
 | [],vs,_,r=>by rw[a0C]at r;simp only[dZs];unfold DVs;exact r
 | w::ws,vs,h,r=>by
  obtain⟨v,a,e,b,c⟩:=r;rw[eU,fM]at h;exact⟨v,a,e,b5o n w v h.1 b,b1B n ws a h.2 c⟩
end
theorem a5j (h:flat n w=true) (hn:n≤64):SeqAt.shaped (dZ w)=true:=by
 have q:=b4v n w h;unfold SeqAt.shaped;rw[q.1,fk];exact decide_eq_true (by omega)
theorem a5k (h:ws.all (flat n)=true) (hn:n≤63):SeqAt.shaped (.list (dZs ws))=true:=by
 have q:=b5m n ws h;unfold SeqAt.shaped;simp only[PyData.canLay0,PyData.depth,q.1];exact decide_eq_true (by omega)
theorem b1C {p:Prop}[Decidable p] (h:a=true↔p):a=decide p:=by
 cases a with
 | true=>exact (decide_eq_true (h.mp rfl)).symm
 | false=>exact (decide_eq_false λq=>by cases h.mpr q).symm
theorem a0W {p q:Prop}[Decidable p] [Decidable q] (h:p=q):decide p=decide q:=by grind
def zEq (f:Bool->Bool):R3:=λx y G R=>match x,y with
 | .bl a,.bl b=>R (.bl (f (a==b))) G
 | .int a,.int b=>R (.bl (f (decide (a=b)))) G
 | .str a,.str b=>R (.bl (f (decide (a=b)))) G
 | .ref p,.ref q=>∃ xs ys,G p=some (.lst xs)/\G q=some (.lst ys)/\xs.all (flat 8)=true/\ys.all (flat 8)=true/\R (.bl (f (decide (xs=ys)))) G
 | x,y=>flat 8 x=true/\flat 8 y=true/\R (.bl (f (decide (x=y)))) G
section
variable {X:Cx}
theorem b4x {K:Fg}(h:low2 K (zEq f) x y H Q) :
    (scal x y=true/\Q (.bl (f (decide (x=y)))) H)\/∃ d e,DV H d x/\DV H e y/\SeqAt.shaped d=true/\SeqAt.shaped e=true/\Q (.bl (f (PyData.eqv d e))) H:=by
  obtain⟨a,b,G,R,g,c,i,h,j⟩:=h;have p:flat 8 a=true/\flat 8 b=true/\R (.bl (f (decide (a=b)))) G->∃ d e,DV H d x/\DV H e y/\SeqAt.shaped d=true/\SeqAt.shaped e=true/\Q (.bl (f (PyData.eqv d e))) H:=λ⟨n,m,w⟩=>by
    refine⟨dZ a,dZ b,b5o 8 _ _ n g,b5o 8 _ _ m c,a5j n (by simp),a5j m (by simp),?_⟩;rw[b1C (b4w 8 a b 8 n m)];exact j _ _ _ _ w (by rw[a0P]) i (.refl _ _)
  cases a<;>cases b<;>first
    | exact .inr (p h)
    | (rw[a0P]at g c;subst g c;exact .inl ⟨rfl,by rw[b0P];exact j _ _ _ _ h (by rw[a0P]) i (.refl _ _)⟩)
    | (rw[a0x]at g c;subst g c;exact .inl ⟨rfl,by rw[a0W (V.int.injEq _ _)];exact j _ _ _ _ h (by rw[a0P]) i (.refl _ _)⟩)
    | (rw[a0K]at g c;subst g c;exact .inl ⟨rfl,by rw[a0W (V.str.injEq _ _)];exact j _ _ _ _ h (by rw[a0P]) i (.refl _ _)⟩)
    | (rw[a0H]at g c
       subst g c;obtain⟨r,s,t,z,k,l,h⟩:=h;obtain⟨u,q,v⟩:=i _ _ t;obtain⟨B,o,A⟩:=i _ _ z;refine .inr ⟨.list _,.list _,?_,?_,a5k k (by simp),a5k l (by simp),?_⟩;exact⟨_,u,rfl,q,b1B 8 _ _ k v⟩;exact⟨_,B,rfl,o,b1B 8 _ _ l A⟩
       · simp only[PyData.eqv]
         rw[b1C (b5n 8 8 r s k l)];exact j _ _ _ _ h (by rw[a0P]) i (.refl _ _))
theorem o_eq (hu:X.A.units+66<cLine):OpQ X (ke .Eq) (zEq id):=a7o (op_eq.or (b7h hu)) λx y H Q h=>b4x h
theorem o_ne (hu:X.A.units+66<cLine):OpQ X (ke .NotEq) (zEq not):=a7o (op_ne.or (b7i hu)) λx y H Q h=>b4x h
end
end L3
namespace L2
open PySem PySem.Spec PyProof.Rows
def Its (x:Str):It:=⟨λi _=>i<x.cps.size,λi H v H'=>H'=H/\∃ c,x.cps[i]?=some c/\v=.str ⟨#[c]⟩,λi _=>i=x.cps.size⟩
theorem a87 {P:j7}{w:World}{K:Fg}{tg:Expr}{it:Addr}{ty:String}{x:Str}{t:Tok}
  (hty:["enumerate","zip","dict_itemiterator","dict_reverseitemiterator","odict_iterator","itertools.zip_longest","itertools.pairwise"].contains ty=false)
  (W:∀ A':Around,A'.handled=none->Walks P w A' it [it] [it] x.cps.size (SignAt x) (λi h=>h.IsStrIter it ty x t i))
  (hself:∀ (A:Around) (i:Nat) (s:Shared) (Q:Value->Shared->Prop) (E:Value->Shared->Prop),s.heap.IsStrIter it ty x t i->Q (.ref it) s->wpAny (model P w) A (pyIter (.ref it)) Q E s) :
  Turn P w K tg (Its x) [it] it (λi h=>h.IsStrIter it ty x t i) where
 mem:=by simp
 obj:=λi h st b hb=>by
  have e:b=it:=by simpa using hb
  subst e;obtain⟨o,e,c,d⟩:=st;exact⟨o,e,λv z=>by rw[d]at z;cases z⟩
 keep:=λi h h' st k=>let ⟨o,e,r⟩:=st;⟨o,k it (by simp) o e,r⟩
 item:=by
  intro X hP hw hK hc i pins s σ H E I hf st hg;subst hP hw hK;obtain⟨f0,f1,f2,f3,f4,f5⟩:=hf it (by simp);refine (W X.A (I.ok.hd hc)).item i s _ _ hg st λv h' tk ⟨c,u,hx,e⟩ st' k=>?_;subst e;have I1:Inv X pins σ H { s with heap:=h',toks:=tk }:=I.turned (t':=tk) (λb o hb e=>k b o (by simpa using hb) e) f0 f1 f3 f4 f5;obtain⟨o,e,cl,d⟩:=id st';exact⟨_,rfl,a9W (s:={ s with heap:=h',toks:=tk }) e cl d hty ⟨.str ⟨#[c]⟩,H,I1,⟨_,rfl⟩,⟨rfl,c,hx,rfl⟩,st',λb hb=>(hf b hb).1⟩⟩
 done:=by
  intro X hP hw hK hc i pins s σ H E I hf st hg;subst hP hw hK;obtain⟨f0,f1,f2,f3,f4,f5⟩:=hf it (by simp);have hg':i=x.cps.size:=hg;subst hg';exact (W X.A (I.ok.hd hc)).done s _ _ st λh' tk k=>⟨rfl,I.turned (t':=tk) (λb o hb e=>k b o (by simpa using hb) e) f0 f1 f3 f4 f5⟩
 self:=hself
def iStr (tl:TE):TI:=fun σ H R=>tl σ H λv H1=>∃ x,v=.str x/\R (Its x) H1
theorem b7G (hl:PE X l tl):PI X tg l (iStr tl):=by
 intro c s σ H R I h;refine thn (hl c s σ H _ I h) λv a ⟨x,f,d,p,m⟩=>?_;obtain⟨y,e,q⟩:=m;subst e;obtain⟨t,rfl⟩:=p;have j:∀ (o:Obj),∀ b∈[a.heap.objs.size],FpOk X c f b:=λo b k=>by
  have e:b=a.heap.objs.size:=by simpa using k
  subst e;exact d.fpOk (dS _) (d.hok.fresh (dS _))
 cases ha:y.cps.all _
 ·refine wpAny_pyIter_wide ha ?_;exact⟨a.heap.objs.size,[a.heap.objs.size],_,_,f,rfl,d.kept (λb o e=>Heap.get?_push_of_some _ e),a87 (by decide) (λn i=>Walks.strWide i _ y t) (λ_ _ _ _ _ g h=>wpAny_pyIter_striter_wide g h),
   ⟨_,Heap.get?_push_size _ rfl,rfl,rfl⟩,j default,q⟩
 ·refine wpAny_pyIter_ascii ha ?_;exact⟨a.heap.objs.size,[a.heap.objs.size],_,_,f,rfl,d.kept (λb o e=>Heap.get?_push_of_some _ e),a87 (by decide) (λn i=>Walks.strAscii i _ y t) (λ_ _ _ _ _ g h=>wpAny_pyIter_striter_ascii g h),
   ⟨_,Heap.get?_push_size _ rfl,rfl,rfl⟩,j default,q⟩
theorem Vals.tog:∀ {xs:List V}{us:List Value}{i:Nat}{u:Value},Vals xs us->us[i]?=some u->∃ x,xs[i]?=some x/\RelV x u
 | _,_,_,_,.nil,e=>by simp at e
 | _,_,0,_,.cons r _,e=>by simp at e;subst e;exact⟨_,rfl,r⟩
 | _,_,i+1,u,.cons _ t,e=>by
  obtain⟨x,a,b⟩:=Vals.tog t (by simpa using e);exact⟨x,by simpa using a,b⟩
theorem a6d:∀ {ys:List Str}{us:List Value},Vals (ys.map V.str) us->lJ us ys
 | [],us,r=>by rw[eT]at r;cases r;exact .nil
 | y::ys,us,r=>by
  cases r with
  | cons r1 r2=>
   obtain⟨t,e⟩:=r1;subst e;exact .cons y t (a6d r2)
theorem b1D (bs:List Bool):(ff bs.length).all (λi=>bs.getD i false)=bs.all id:=by
 rw[gh];simp only[fV,iA,id]
 constructor
 ·intro h b c;obtain⟨i,a,e⟩:=List.getElem_of_mem c
  have:=h i a
  rw[gM,et a]at this;rw[<- e];exact this
 ·intro h i a;rw[gM,et a];exact h _ (fm a)
section
variable {X:Cx}
theorem b1E (hc:X.calm=true):CallR X (.builtin "all") (λxs H Q=>∃ (p:Addr) (bs:List Bool),xs=[.ref p]/\SqL X.K H p (bs.map V.bl)/\Q (.bl (bs.all id)) H):=by
 intro n s σ H M R Q I r h;obtain⟨p,a,rfl,E,q⟩:=h;obtain⟨u,rfl,y⟩:=a2P r;cases y;obtain⟨d,l,g,_⟩:=I.list E;have B:p<s.heap.objs.size:=by obtain⟨o,_,e,_⟩:=g;exact Heap.lt_size e
 refine call_all_walk (lQ g.isList ?_);have D:X.A.in1.handled=none:=I.ok.hd hc;have t:(s.heap.push { cls:=.type "list_iterator",data:=.fields #[.ref p,rawInt 0] }).IsList p d.toArray:=by
  obtain⟨o,e,c⟩:=g.isList;exact⟨o,Heap.get?_push_of_some _ e,c⟩
 refine⟨_,_,_,_,_,_,λi=>a.getD i false,rfl,Walks.list D s.heap.objs.size p (eu B) d.toArray,⟨⟨_,Heap.get?_push_size _ rfl,rfl,rfl⟩,t⟩,?_,?_⟩
 ·intro i v N L J C j;obtain⟨x,f,w⟩:=Vals.tog l (by simpa using C);rw[er]at f;cases hb:a[i]? with
  | none=>rw[hb]at f;cases f
  | some b=>
   rw[hb]at f;cases f;cases w;refine kW ?_
   have:a.getD i false=b:=by simp_all
   dsimp only at j;rw[this]at j;exact j
 ·intro G F k;have e:(ff d.toArray.size).all (λi=>a.getD i false)=a.all id:=by
   have z:d.toArray.size=a.length:=by rw[e8,<- l.length,dQ]
   rw[z];exact b1D a
  rw[e];exact⟨.bl _,H,I.kept (λb o m=>k b o (by simpa using eu (Heap.lt_size m)) (Heap.get?_push_of_some _ m)),rfl,q⟩
theorem b7H:OpR X (ke .Is) (λx y H Q=>∃ a b,x=.bl a/\y=.bl b/\Q (.bl (a==b)) H):=by
 intro d s σ H x y v u Q I c e h;obtain⟨a,b,rfl,rfl,q⟩:=h;cases c;cases e;exact wpAny_is_plain rfl (a0E I q (by cases a<;>cases b<;>rfl))
theorem b5p:MtR X "str.join" (λx vs H Q=>∃ (z:Str) (p:Addr) (ys:List Str),x=.str z/\vs=[.ref p]/\SqL X.K H p (ys.map V.str)/\(ys.map (·.length)).sum+ys.length*z.length≤16777216/\Q (.str (Txt.join z ys)) H):=by
 intro c s σ H x m v n Q I a g h;obtain⟨z,p,o,rfl,rfl,d,i,q⟩:=h;obtain⟨t,rfl⟩:=a;obtain⟨u,rfl,f⟩:=a2P g;cases f;obtain⟨j,b,e,_⟩:=I.list d;exact join_list e.isList (by simpa using a6d b) i λl k=>⟨.str _,H,I.tok k,⟨_,rfl⟩,q⟩
def rSlS:V->Option Int->Option Int->Hp->VK->Prop:=λx lo hi H Q=>∃ z,x=.str z/\z.length≤jZ/\Q (.str (Txt.slice z lo hi)) H
theorem b7I:SlR X rSlS:=by
 intro g s σ H x v A B f b C Q I w p y m h;obtain⟨z,rfl,r,q⟩:=h;obtain⟨t,rfl⟩:=w;obtain⟨o,e,c,d⟩:=p;have a:∀ f b,Q _ H->(Txt.slice z f b).length≤jZ/\∀ n k,EP X g σ Q (.str (Txt.slice z f b) n) { s with toks:=k }:=λf b q=>
  ⟨eD (Txt.slice_le z _ _) r,λn k=>⟨.str _,H,I.tok k,⟨_,rfl⟩,q⟩⟩
 cases y with
 | none=>
  cases m with
  | none=>exact⟨"str",_,F.slot_str_getitem.lookup,lq _ _ _,ml (l:=none) (u:=none) (st:=none) ⟨o,e,c,d⟩ rfl (mm (a _ _ q))⟩
  | int j u=>exact⟨"str",_,F.slot_str_getitem.lookup,lq _ _ _,ml (l:=none) (u:=some (j,u)) (st:=none) ⟨o,e,c,d⟩ rfl (mm (a _ _ q))⟩
 | int i v=>
  cases m with
  | none=>exact⟨"str",_,F.slot_str_getitem.lookup,lq _ _ _,ml (l:=some (i,v)) (u:=none) (st:=none) ⟨o,e,c,d⟩ rfl (mm (a _ _ q))⟩
  | int j u=>exact⟨"str",_,F.slot_str_getitem.lookup,lq _ _ _,ml (l:=some (i,v)) (u:=some (j,u)) (st:=none) ⟨o,e,c,d⟩ rfl (mm (a _ _ q))⟩
end
end L2
namespace L3
open PySem PySem.Spec PyProof.Rows L2
section
variable {X:Cx}
theorem o_is:OpQ X (ke .Is) (zIs false):=a7o (op_isN.or b7H) λx y H Q g=>g.un λa b G R d c e h f=>by
 cases b with
 | non=>rw[a0U]at c;exact .inl ⟨c,by rw[a6c d];exact f _ _ _ _ h (by rw[a0P];rfl) e (.refl _ _)⟩
 | bl b=>
  cases a with
  | bl a=>rw[a0P]at d c;exact .inr ⟨_,_,d,c,f _ _ _ _ h.2 (by rw[a0P]) e (.refl _ _)⟩
  | _=>exact ei h
 | _=>exact ei h
theorem a1R:OpQ X (ke .IsNot) (zIs true):=a7o b41 λx y H Q d=>d.un λa b G R g c e h f=>by
 cases b with
 | non=>rw[a0U]at c;exact⟨c,by rw[a6c g];exact f _ _ _ _ h (by rw[a0P];rfl) e (.refl _ _)⟩
 | bl b=>
  cases a with
  | bl a=>exact nomatch h.1
  | _=>exact ei h
 | _=>exact ei h
def zIx:R3:=λx y G R=>match x,y with
 | .ref p,.int i=>∃ ws w,G p=some (.lst ws)/\atI ws i=some w/\R w G
 | .scr _ ns,.int i=>∃ n,atI ns i=some n/\R (.int n) G
 | .tup ws,.int i=>∃ w,atI ws i=some w/\R w G
 | .str z,.int i=>∃ c,z.length≤jZ/\atI z.cps.toList i=some c/\R (.str ⟨#[c]⟩) G
 | _,_=>False
theorem b1F {K:Fg}(r:Reps K H ws vs) (h:atI ws i=some w):∃ v,atI vs i=some v/\Rep K H w v:=by
 unfold atI at h ⊢;rw[<- r.length];cases e:ixN ws.length i with
 | none=>rw[e]at h;cases h
 | some j=>
  rw[e]at h;exact r.get h
theorem b5q {α β:Type}{f:α->β}{xs:List α}{x:α}(h:atI xs i=some x):atI (xs.map f) i=some (f x):=by
 unfold atI at h ⊢;rw[dQ];cases e:ixN xs.length i with
 | none=>rw[e]at h;cases h
 | some j=>
  rw[e]at h;have a:xs[j]?=some x:=h
  show _[j]?=some _
  rw[er,a];rfl
theorem x_ix:IxQ X zIx:=b7p b63 λx y H Q s=>s.un λa b G R d f g h i=>by
  cases a<;>cases b<;>first
    | exact ei h
    | (rw[a0H]at d
       obtain⟨z,w,e,m,h⟩:=h;obtain⟨q,k,j⟩:=g _ _ e;obtain⟨v,o,l⟩:=b1F j m;exact .inl ⟨_,_,_,v,d,f,SqL.of k,o,i _ _ _ _ h l g (.refl _ _)⟩)
    | (rw[a4e]at d
       obtain⟨n,u,h⟩:=h;exact .inl ⟨_,_,_,_,d.1,f,d.2.sq,b5q u,i _ _ _ _ h (by rw[a0x]) g (.refl _ _)⟩)
    | (rw[a1P]at d
       obtain⟨p,q,e,k,j⟩:=d;obtain⟨w,m,h⟩:=h;obtain⟨v,o,l⟩:=b1F j m;exact .inr (.inl ⟨p,q,_,v,e,f,SqT.of k,o,i _ _ _ _ h l g (.refl _ _)⟩))
    | (rw[a0K]at d
       obtain⟨c,r,t,h⟩:=h;exact .inr (.inr ⟨_,_,c,d,f,r,t,i _ _ _ _ h (by rw[a0K]) g (.refl _ _)⟩))
def cutZ {α:Type}(xs:List α) (lo hi:Option Int):List α:=(xs.drop (HT.sIx xs.length 0 lo)).take (HT.sIx xs.length xs.length hi - HT.sIx xs.length 0 lo)
theorem b5r (xs:List V) (lo hi:Option Int):cutV xs lo hi=cutZ xs lo hi:=rfl
theorem a8u {α:Type}(xs:List α) (lo hi:Option Int):(cutZ xs lo hi).length≤xs.length:=by
 unfold cutZ;rw[eG,eS];omega
theorem Reps.cut {K:Fg}(r:Reps K H ws vs) (lo hi:Option Int):Reps K H (cutZ ws lo hi) (cutV vs lo hi):=by
 unfold cutZ cutV;rw[<- r.length];exact (r.drop _).take _
theorem b3j {α β:Type}(f:α->β) (xs:List α) (lo hi:Option Int):cutZ (xs.map f) lo hi=(cutZ xs lo hi).map f:=by
 unfold cutZ;rw[dQ,iC,List.map_drop]
def zSl:L3r:=λx lo hi G R=>match x with
 | .ref p=>∃ ws,G p=some (.lst ws)/\∀ t,G t=none->R (.ref t) (put G t (.lst (cutZ ws lo hi)))
 | .scr _ ns=>∀ t,G t=none->R (.ref t) (put G t (.lst ((cutZ ns lo hi).map Z.int)))
 | .tup ws=>¬ (HT.sIx ws.length 0 lo=0/\HT.sIx ws.length ws.length hi=ws.length)/\R (.tup (cutZ ws lo hi)) G
 | .str z=>z.length≤jZ/\R (.str (Txt.slice z lo hi)) G
 | _=>False
theorem x_sl:SlQ X zSl:=b9L (sl_list.or (sl_tup.or b7I)) λx l k H Q m=>m.un λa G R c d h g=>by
 cases a with
 | ref p=>
  obtain⟨n,e,h⟩:=h;obtain⟨j,i,f⟩:=d _ _ e;exact .inl ⟨p,j,c,SqL.of i,λt b=>g _ _ _ _ (h t (d.out b)) (by rw[a0H]) (d.set (.new b) (a06 (f.cut l k) (.new b))) (.new b)⟩
 | scr p ns=>
  refine .inl ⟨p,_,c.1,c.2.sq,λt b=>?_⟩;rw[b5r,b3j];exact g _ _ _ _ (h t (d.out b)) (by rw[a0H]) (d.set (.new b) (a06 (a2j _) (.new b))) (.new b)
 | tup n=>
  obtain⟨p,j,e,i,f⟩:=c;exact .inr (.inl ⟨p,j,e,SqT.of i,by rw[<- f.length];exact h.1,λt b=>g _ _ _ _ h.2 (by rw[a1P];exact⟨t,_,rfl,a0y,(f.cut l k).mono (.new b)⟩) (d.hid b) (.new b)⟩)
 | str z=>
  exact .inr (.inr ⟨z,c,h.1,g _ _ _ _ h.2 (by rw[a0K]) d (.refl _ _)⟩)
 | _=>exact ei h
def zSet:Z3:=λo i v G R=>match o,i with
 | .ref p,.int k=>∃ ws j,G p=some (.lst ws)/\ixN ws.length k=some j/\R (put G p (.lst (ws.set j v)))
 | _,_=>False
theorem b9O:SetQ X zSet:=b7C b20 λo i v H Q p=>p.un λa b w G R f g l k h q=>by
  cases a<;>cases b<;>first
    | exact ei h
    | (rw[a0H]at f
       obtain⟨r,j,e,m,h⟩:=h;obtain⟨n,c,d⟩:=k _ _ e;exact⟨_,n,_,j,f,g,c,by rw[<- d.length];exact m,q _ _ h (k.set (.lst c) (a06 (d.set l j) (.lst c))) (.lst c)⟩)
def zLen:List Z->Hq->K3->Prop:=λxs G R=>match xs with
 | [.str z]=>z.length≤jZ/\R (.int z.length) G
 | [.ref p]=>∃ ws,G p=some (.lst ws)/\R (.int ws.length) G
 | [.tup ws]=>R (.int ws.length) G
 | [.scr _ ns]=>R (.int ns.length) G
 | _=>False
theorem b_len:a2M X (.builtin "len") zLen:=a1c b2T λl H Q k=>k.un λj G R c a h d=>by
 match j,h with
 | [.str z],h=>
  obtain⟨v,rfl,r⟩:=c.one;exact⟨v,z.length,rfl,by rw[r];exact⟨h.1,rfl⟩,d _ _ _ _ h.2 (by rw[a0x]) a (.refl _ _)⟩
 | [.ref p],h=>
  obtain⟨v,rfl,r⟩:=c.one;obtain⟨i,e,h⟩:=h;obtain⟨g,f,b⟩:=a _ _ e;exact⟨v,i.length,rfl,by rw[r];exact .inl ⟨g,SqL.of f,b.length⟩,d _ _ _ _ h (by rw[a0x]) a (.refl _ _)⟩
 | [.tup i],h=>
  obtain⟨v,rfl,r⟩:=c.one;obtain⟨p,g,e,f,b⟩:=r;exact⟨v,i.length,rfl,by rw[e];exact .inr ⟨g,SqT.of f,b.length⟩,d _ _ _ _ h (by rw[a0x]) a (.refl _ _)⟩
 | [.scr p ns],h=>
  obtain⟨v,rfl,r⟩:=c.one;exact⟨v,ns.length,rfl,by rw[r.1];exact .inl ⟨_,r.2.sq,(dQ ..).symm⟩,d _ _ _ _ h (by rw[a0x]) a (.refl _ _)⟩
def zMM (f:Int->Int->Int):List Z->Hq->K3->Prop:=λxs G R=>match xs with
 | [.int i,.int j]=>R (.int (f i j)) G
 | _=>False
theorem bMM {id:String}(hf:CallR X (.builtin id) (λxs H Q=>∃ i j,xs=[.int i,.int j]/\Q (.int (f i j)) H)):a2M X (.builtin id) (zMM f):=a1c hf λl H Q d=>d.un λc G R e b h g=>by
 match c,h with
 | [.int i,.int j],h=>
  obtain⟨v,k,rfl,r,a⟩:=e.two;exact⟨i,j,by rw[r,a],g _ _ _ _ h (by rw[a0x]) b (.refl _ _)⟩
theorem b_max (hc:X.calm=true):a2M X (.builtin "max") (zMM λi j=>if j > i then j else i):=bMM (b0T hc)
theorem b_min (hc:X.calm=true):a2M X (.builtin "min") (zMM λi j=>if j<i then j else i):=bMM (b0U hc)
def zAll:List Z->Hq->K3->Prop:=λxs G R=>match xs with
 | [.ref p]=>∃ bs:List Bool,G p=some (.lst (bs.map Z.bl))/\R (.bl (bs.all id)) G
 | _=>False
theorem a88 {K:Fg}:∀ {bs:List Bool}{vs:List V},Reps K H (bs.map Z.bl) vs->vs=bs.map V.bl
 | [],vs,h=>by rw[eT,a0C]at h;subst h;rfl
 | n::ns,vs,h=>by
  obtain⟨v,r,rfl,a,b⟩:=h;rw[a,a88 b];rfl
theorem a7u {K:Fg}:∀ {bs:List Str}{vs:List V},Reps K H (bs.map Z.str) vs->vs=bs.map V.str
 | [],vs,h=>by rw[eT,a0C]at h;subst h;rfl
 | n::ns,vs,h=>by
  obtain⟨v,r,rfl,a,b⟩:=h;rw[a,a7u b];rfl
theorem b_all (hc:X.calm=true):a2M X (.builtin "all") zAll:=a1c (b1E hc) λl H Q f=>f.un λd G R c a h j=>by
 match d,h with
 | [.ref p],h=>
  obtain⟨v,rfl,r⟩:=c.one;obtain⟨g,e,h⟩:=h;obtain⟨k,i,b⟩:=a _ _ e
  have:=a88 b
  subst this;exact⟨p,g,by rw[r],SqL.of i,j _ _ _ _ h (by rw[a0P]) a (.refl _ _)⟩
def b9P:List Z->Hq->K3->Prop:=λxs G R=>match xs with
 | [.ref p]=>∃ ws,G p=some (.lst ws)/\∀ t,G t=none->R (.ref t) (put G t (.lst ws))
 | [.tup ws]=>∀ t,G t=none->R (.ref t) (put G t (.lst ws))
 | [.scr _ ns]=>∀ t,G t=none->R (.ref t) (put G t (.lst (ns.map Z.int)))
 | _=>False
theorem b_list:a2M X (.type "list") b9P:=a1c a7i λm H Q j=>j.un λl G R i b h f=>by
 match l,h with
 | [.ref p],h=>
  obtain⟨v,rfl,r⟩:=i.one;obtain⟨k,e,h⟩:=h;obtain⟨d,g,c⟩:=b _ _ e;exact⟨p,d,by rw[r],.inl (SqL.of g),λt a=>f _ _ _ _ (h t (b.out a)) (by rw[a0H]) (b.set (.new a) (a06 c (.new a))) (.new a)⟩
 | [.tup k],h=>
  obtain⟨v,rfl,r⟩:=i.one;obtain⟨p,d,e,g,c⟩:=r;exact⟨p,d,by rw[e],.inr (SqT.of g),λt a=>f _ _ _ _ (h t (b.out a)) (by rw[a0H]) (b.set (.new a) (a06 c (.new a))) (.new a)⟩
 | [.scr p ns],h=>
  obtain⟨v,rfl,r⟩:=i.one;exact⟨p,_,by rw[r.1],.inl r.2.sq,λt a=>f _ _ _ _ (h t (b.out a)) (by rw[a0H]) (b.set (.new a) (a06 (a2j _) (.new a))) (.new a)⟩
noncomputable def kit0 (n T:String):Option Bool:=if (Value.type n==Value.type T)=true then some true else if PySem.W.kitMeta T=true then (PySem.fastBuiltinMro n).map (·.contains (.type T)) else none
theorem b7J {K:Fg}:PySem.W.kitOne K (.type n) (.type T)=kit0 n T:=rfl
noncomputable def tyN (G:Hq):Z->Option String
 | .non=>some "NoneType"
 | .bl _=>some "bool"
 | .int _=>some "int"
 | .str _=>some "str"
 | .tup _=>some "tuple"
 | .ref p=>match G p with
  | some (.lst _)=>some "list"
  | some (.dK _)=>some "dict"
  | _=>none
 | _=>none
def zIsT:List Z->Hq->K3->Prop:=λxs G R=>match xs with
 | [x,.ty T]=>∃ n b,tyN G x=some n/\kit0 n T=some b/\R (.bl b) G
 | _=>False
theorem b3k {K:Fg}(h:tyN G x=some n) (r:Rep K H x v) (hg:RH K G H):TyOf K H v (.type n):=by
 cases x with
 | non=>rw[a0U]at r;subst r;cases h;exact .non
 | bl _=>rw[a0P]at r;subst r;cases h;exact .bl _
 | int _=>rw[a0x]at r;subst r;cases h;exact .int _
 | str _=>rw[a0K]at r;subst r;cases h;exact .str _
 | tup ws=>rw[a1P]at r;obtain⟨a,c,rfl,e,_⟩:=r;cases h;exact .tup e
 | ref p=>
  subst r;cases e:G p with
  | none=>simp[tyN,e]at h
  | some o=>
   cases o with
   | lst ws=>simp[tyN,e]at h;subst h;obtain⟨c,b,_⟩:=hg _ _ e;exact .lst b
   | dK kvs=>simp[tyN,e]at h;subst h;obtain⟨c,b,_⟩:=hg _ _ e;exact .dK b
   | ins C dx fs=>simp[tyN,e]at h
   | dF kvs=>simp[tyN,e]at h
 | ty _=>cases h
 | scr _ _=>cases h
theorem a8v:a2M X (.builtin "isinstance") zIsT:=a1c b3e λl H Q g=>g.un λf G R d a h i=>by
 match f,h with
 | [x,.ty T],h=>
  obtain⟨v,j,rfl,r,c⟩:=d.two;obtain⟨n,b,e,k,h⟩:=h;exact⟨v,T,.type n,b,by rw[c],b3k e r a,by rw[b7J];exact k,i _ _ _ _ h (by rw[a0P]) a (.refl _ _)⟩
def a6H:Z->List Z->Hq->K3->Prop:=λx xs G R=>match x,xs with
 | .ref p,[y]=>∃ ws,G p=some (.lst ws)/\ws.length<jZ/\R .non (put G p (.lst (ws++[y])))
 | _,_=>False
theorem a1e:MtQ X "list.append" a6H:=a7p a7j λx n H Q j=>j.un λw k G R c f d h l=>by
 match w,k,h with
 | .ref p,[y],h=>
  obtain⟨v,rfl,r⟩:=f.one;obtain⟨m,e,g,h⟩:=h;obtain⟨i,a,b⟩:=d _ _ e;exact⟨p,i,v,c,rfl,a,by rw[<- b.length];exact g,l _ _ _ _ h (by rw[a0U]) (d.set (.lst a) (a06 (b.append (.cons r .nil)) (.lst a))) (.lst a)⟩
def b1G:Z->List Z->Hq->K3->Prop:=λx xs G R=>match x,xs with
 | .ref p,[.ref q]=>∃ ws ys,G p=some (.lst ws)/\G q=some (.lst ys)/\ws.length+ys.length≤jZ/\R .non (put G p (.lst (ws++ys)))
 | _,_=>False
theorem b3l:MtQ X "list.extend" b1G:=a7p b06 λx u H Q m=>m.un λw n G R d i f h s=>by
 match w,n,h with
 | .ref p,[.ref q],h=>
  obtain⟨v,rfl,r⟩:=i.one;obtain⟨t,y,e,k,j,h⟩:=h;obtain⟨l,a,c⟩:=f _ _ e;obtain⟨o,g,b⟩:=f _ _ k;exact⟨p,q,l,o,d,by rw[r],a,g,by rw[<- c.length,<- b.length];exact j,s _ _ _ _ h (by rw[a0U]) (f.set (.lst a) (a06 (c.append b) (.lst a))) (.lst a)⟩
def b7K:Z->List Z->Hq->K3->Prop:=λx xs G R=>match x,xs with
 | .ref p,[]=>∃ ws,G p=some (.lst ws)/\R .non (put G p (.lst []))
 | _,_=>False
theorem b5s:MtQ X "list.clear" b7K:=a7p b22 λx m H Q i=>i.un λw f G R b c d h j=>by
 match w,f,h with
 | .ref p,[],h=>
  obtain⟨l,e,h⟩:=h;obtain⟨g,a,k⟩:=d _ _ e;exact⟨p,g,b,c,a,j _ _ _ _ h (by rw[a0U]) (d.set (.lst a) (a06 .nil (.lst a))) (.lst a)⟩
def b7L:Z->List Z->Hq->K3->Prop:=λx xs G R=>match x,xs with
 | .str z,[.ref p]=>∃ ys:List Str,G p=some (.lst (ys.map Z.str))/\(ys.map (·.length)).sum+ys.length*z.length≤16777216/\R (.str (Txt.join z ys)) G
 | _,_=>False
theorem b7M:MtQ X "str.join" b7L:=a7p b5p λx n H Q i=>i.un λw f G R a j b h l=>by
 match w,f,h with
 | .str z,[.ref p],h=>
  obtain⟨v,rfl,r⟩:=j.one;obtain⟨g,e,k,h⟩:=h;obtain⟨m,d,c⟩:=b _ _ e
  have:=a7u c
  subst this;exact⟨z,p,g,a,by rw[r],SqL.of d,k,l _ _ _ _ h (by rw[a0K]) b (.refl _ _)⟩
def b7N:E3:=λ_ G R=>∀ p,G p=none->R (.ref p) (put G p (.dK []))
theorem b7O:QE X (.Dict [] [] pos) b7N:=⟨a1m b25 fun τ H Q ⟨σ,G,R,d,b,h,c⟩ p a=>c _ _ _ _ (h p (b.out a)) (by rw[a0H]) (b.set (.new a) ⟨[],a0y,rfl,.nil⟩) (.new a)⟩
def a4M (x:Str):List Z:=x.cps.toList.map λc=>.str ⟨#[c]⟩
def wkS (x:Z) (G:Hq) (R:List Z->(Hq->Prop)->Hq->Prop):Prop:=match x with
 | .str z=>R (a4M z) (λ_=>True) G
 | _=>False
def iS (tl:E3):I3:=fun σ G R=>tl σ G λx G1=>wkS x G1 R
theorem b1H {K:Fg}:a5Q K (a4M x) (λ_=>True) (Its x) H0:=λi G H f t j k=>by
 have e:(a4M x).length=x.cps.size:=by unfold a4M;rw[dQ,fj]
 refine⟨λh=>by rw[h,e];rfl,λw a=>?_⟩;unfold a4M at a;rw[er]at a;cases hc:x.cps.toList[i]? with
 | none=>rw[hc]at a;cases a
 | some c=>
  rw[hc]at a;cases a;have b:x.cps[i]?=some c:=by simp_all
  refine⟨(ii.mp b).1,?_⟩;rintro v l ⟨rfl,g,d,rfl⟩;rw[b]at d;cases d;exact⟨by rw[a0K],f,.refl _ _⟩
theorem b7P (hl:QE X l tl):QI X tg l (iS tl):=a8q (b7G hl.p) fun τ H j g=>g.un fun σ G R f e h i=>by
 refine⟨σ,G,_,f,e,h,λw m v k a c b d=>?_⟩;cases w with
 | str x=>
  exact⟨x,c,i _ _ _ _ _ a b1H b d⟩
 | _=>exact ei a
end
end L3
namespace L3
open PySem PySem.Spec PyProof.Rows L2
section
variable {σ:S3}{G:Hq}{R:K3}{Rb:Bool->Hq->Prop}{Ra:List Z->Hq->Prop}{nx bk ct:C3}{rt:K3}{t u:X3}{te ta tb tc to ti:E3}{c d:T3}{al:A3}{r r':R3}{w x y:Z}{i:Nat}
theorem b9Q (e:σ[i]?=some (some w)) (h:R w G):uVar i σ G R:=⟨w,e,h⟩
theorem i_c (h:R w G):uC w σ G R:=h
theorem i_op (h:ta σ G λx G1=>tb σ G1 λy G2=>r x y G2 R):uOp r ta tb σ G R:=h
theorem i_un {r:Z->Hq->K3->Prop}(h:ta σ G λx G1=>r x G1 R):uUn r ta σ G R:=h
theorem b7Q (h:ta σ G λx G1=>∃ k,x=.bl k/\Rb k G1):b3i ta σ G Rb:=h
theorem b5t (h:ta σ G λx G1=>tb σ G1 λy G2=>r x y G2 λz G3=>∃ k,z=.bl k/\(if k=true then tc σ G3 λw G4=>r' y w G4 R else R (.bl false) G3)):b1n r r' ta tb tc σ G R:=h
theorem b9R (h:c σ G λk G1=>if k=true then d σ G1 Rb else Rb false G1):uAnd c d σ G Rb:=h
theorem i_or (h:c σ G λk G1=>if k=true then Rb true G1 else d σ G1 Rb):uOr c d σ G Rb:=h
theorem b9S (h:c σ G λk G1=>Rb (!k) G1):uNot c σ G Rb:=h
theorem b7R (h:ta σ G λx G1=>∃ c,x=.bl c/\if c=true then tb σ G1 R else R (.bl false) G1):b7r ta tb σ G R:=h
theorem b9T (h:ta σ G λx G1=>∃ c,x=.bl c/\if c=true then R (.bl true) G1 else tb σ G1 R):uOrV ta tb σ G R:=h
theorem b7S (h:ta σ G λx G1=>∃ c,x=.bl c/\R (.bl (!c)) G1):b7s ta σ G R:=h
theorem i_if (h:c σ G λk G1=>if k=true then ta σ G1 R else tb σ G1 R):uIf c ta tb σ G R:=h
theorem b9U (h:ta σ G λx G1=>tru x G1 Rb):uTru ta σ G Rb:=h
theorem b4y (e:G p=some (.lst ws)) (h:Rb (!ws.isEmpty) G):tru (.ref p) G Rb:=.inl ⟨ws,e,h⟩
theorem i_sl {r:L3r}(h:te σ G λx G1=>tl σ G1 λl G2=>th σ G2 λu G3=>r x l u G3 R):uSl r te tl th σ G R:=h
theorem b3m (h:Ro none G):b1q σ G Ro:=h
theorem b7T (h:te σ G λx G1=>∃ i,x=.int i/\Ro (some i) G1):b7u te σ G Ro:=h
theorem b9V (h:Ra [] G):uNil σ G Ra:=h
theorem b7U (h:ta σ G λx G1=>al σ G1 λxs G2=>Ra (x::xs) G2):b7v ta al σ G Ra:=h
theorem b9W (h:al σ G λxs G1=>xs.length≤jZ/\R (.tup xs) G1):uTup al σ G R:=h
theorem b9X (h:al σ G λxs G1=>xs.length≤jZ/\∀ p,G1 p=none->R (.ref p) (put G1 p (.lst xs))):uLst al σ G R:=h
theorem i_cb {r:List Z->Hq->K3->Prop}(h:al σ G λws G1=>r ws G1 R):uCB r al σ G R:=h
theorem b9Y {r:Z->List Z->Hq->K3->Prop}(h:to σ G λx G1=>tyZ T x G1/\r x [] G1 R):uBM0 T r to σ G R:=h
theorem i_bm {r:Z->List Z->Hq->K3->Prop}(h:to σ G λx G1=>tyZ T x G1/\al σ G1 λxs G2=>r x xs G2 R):uBM T r to al σ G R:=h
theorem b7V (h:al σ G λws G1=>sp ws G1 R):b7x sp al σ G R:=h
theorem b7W (h:nx σ G):b7y nx rt bk ct σ G:=h
theorem b9Z (h:t (u nx rt bk ct) rt bk ct σ G):uSeq t u nx rt bk ct σ G:=h
theorem b7X (h:te σ G λ_ G1=>nx σ G1):b7z te nx rt bk ct σ G:=h
theorem b90 (h:te σ G rt):uRet te nx rt bk ct σ G:=h
theorem b91 (h:c σ G λb G1=>if b=true then t nx rt bk ct σ G1 else u nx rt bk ct σ G1):uIfS c t u nx rt bk ct σ G:=h
theorem b92 (h:te σ G λx G1=>∃ σ',a5P pt x σ=some σ'/\nx σ' G1):uAsg te pt nx rt bk ct σ G:=h
theorem b93 {r:Z3}(h:te σ G λw G1=>to σ G1 λo G2=>ti σ G2 λi G3=>r o i w G3 λG4=>nx σ G4):uPut te to ti r nx rt bk ct σ G:=h
theorem b94 (e:σ[i]?=some (some x)) (h:te σ G λy G1=>r x y G1 λz G2=>nx (σ.set i (some z)) G2):uAug i te r nx rt bk ct σ G:=⟨x,e,h⟩
theorem a6I (M:C3) (h:t M rt bk ct σ G) (h':∀ σ' G',M σ' G'->u nx rt bk ct σ' G'):uCut t u nx rt bk ct σ G:=⟨M,h,h'⟩
theorem b7Y (h:R (.int (a+b)) G):zAdd (.int a) (.int b) G R:=h
theorem a89 (z:a.length+b.length≤jZ) (h:R (.str (a++b)) G):zAdd (.str a) (.str b) G R:=⟨z,h⟩
theorem b7Z (e:xs≠[]) (z:xs.length+ys.length≤jZ) (h:R (.tup (xs++ys)) G):zAdd (.tup xs) (.tup ys) G R:=⟨e,z,h⟩
theorem a7v (e:G p=some (.lst xs)) (e':G q=some (.lst ys)) (z:xs.length+ys.length≤jZ) (h:∀ t,G t=none->R (.ref t) (put G t (.lst (xs++ys)))):zAdd (.ref p) (.ref q) G R:=⟨xs,ys,e,e',z,h⟩
theorem i_I (k:C a b) (h:R (g a b) G):zI C g (.int a) (.int b) G R:=⟨k,h⟩
theorem i_I0 (h:R (g a b) G):zI0 g (.int a) (.int b) G R:=h
theorem b95 (h:R (.int (-a)) G):zNeg (.int a) G R:=h
theorem i_CI (h:R (.bl (f a b)) G):zC f g (.int a) (.int b) G R:=h
theorem i_CS (h:R (.bl (g a b)) G):zC f g (.str a) (.str b) G R:=h
theorem b96 (h:R (.bl (decide (x=.non))) G):zIs false x .non G R:=h
theorem b70 (h:R (.bl (!decide (x=.non))) G):zIs true x .non G R:=h
theorem b71 (h:R (.bl (f (decide (a=b)))) G):zEq f (.int a) (.int b) G R:=h
theorem b97 (h:R (.bl (f (decide (a=b)))) G):zEq f (.str a) (.str b) G R:=h
theorem b5u (e:G p=some (.lst xs)) (e':G q=some (.lst ys)) (f1:xs.all (flat 8)=true) (f2:ys.all (flat 8)=true) (h:R (.bl (f (decide (xs=ys)))) G):zEq f (.ref p) (.ref q) G R:=⟨xs,ys,e,e',f1,f2,h⟩
theorem a1f (e:G p=some (.lst ws)) (a:atI ws k=some w) (h:R w G):zIx (.ref p) (.int k) G R:=⟨ws,w,e,a,h⟩
theorem b98 (a:atI ns k=some n) (h:R (.int n) G):zIx (.scr p ns) (.int k) G R:=⟨n,a,h⟩
theorem a1S (a:atI ws k=some w) (h:R w G):zIx (.tup ws) (.int k) G R:=⟨w,a,h⟩
theorem b1I (l:z.length≤jZ) (a:atI z.cps.toList k=some ch) (h:R (.str ⟨#[ch]⟩) G):zIx (.str z) (.int k) G R:=⟨ch,l,a,h⟩
theorem b72 {lo hi:Option Int}(l:z.length≤jZ) (h:R (.str (Txt.slice z lo hi)) G):zSl (.str z) lo hi G R:=⟨l,h⟩
theorem b5v {lo hi:Option Int}(e:G p=some (.lst ws)) (h:∀ t,G t=none->R (.ref t) (put G t (.lst (cutZ ws lo hi)))):zSl (.ref p) lo hi G R:=⟨ws,e,h⟩
theorem b99 {lo hi:Option Int}(h:∀ t,G t=none->R (.ref t) (put G t (.lst ((cutZ ns lo hi).map Z.int)))):zSl (.scr p ns) lo hi G R:=h
theorem b5w {lo hi:Option Int}(n:¬ (HT.sIx ws.length 0 lo=0/\HT.sIx ws.length ws.length hi=ws.length)) (h:R (.tup (cutZ ws lo hi)) G):zSl (.tup ws) lo hi G R:=⟨n,h⟩
theorem c0a (e:G p=some (.lst ws)) (a:ixN ws.length k=some j) (h:Rg (put G p (.lst (ws.set j w)))):zSet (.ref p) (.int k) w G Rg:=⟨ws,j,e,a,h⟩
theorem b73 (h:∀ p,G p=none->R (.ref p) (put G p (.dK []))):b7N σ G R:=h
theorem b1J (l:z.length≤jZ) (h:R (.int z.length) G):zLen [.str z] G R:=⟨l,h⟩
theorem a7w (e:G p=some (.lst ws)) (h:R (.int ws.length) G):zLen [.ref p] G R:=⟨ws,e,h⟩
theorem b74 (h:R (.int ns.length) G):zLen [.scr p ns] G R:=h
theorem i_mm (h:R (.int (f a b)) G):zMM f [.int a,.int b] G R:=h
theorem c0b {bs:List Bool}(e:G p=some (.lst (bs.map Z.bl))) (h:R (.bl (bs.all id)) G):zAll [.ref p] G R:=⟨bs,e,h⟩
theorem b1K (e:tyN G x=some n) (k:kit0 n T=some b) (h:R (.bl b) G):zIsT [x,.ty T] G R:=⟨n,b,e,k,h⟩
theorem a00 (e:G p=some (.lst ws)) (z:ws.length<jZ) (h:R .non (put G p (.lst (ws++[y])))):a6H (.ref p) [y] G R:=⟨ws,e,z,h⟩
theorem b3n (e:G p=some (.lst ws)) (e':G q=some (.lst ys)) (z:ws.length+ys.length≤jZ) (h:R .non (put G p (.lst (ws++ys)))):b1G (.ref p) [.ref q] G R:=⟨ws,ys,e,e',z,h⟩
theorem b75 (e:G p=some (.lst (ys.map Z.str))) (l:(ys.map (·.length)).sum+ys.length*z.length≤16777216) (h:R (.str (Txt.join z ys)) G):b7L (.str z) [.ref p] G R:=⟨ys,e,l,h⟩
theorem c0c {P:Prop}(h:P):tyZ "str" (.str z) G/\P:=⟨rfl,h⟩
theorem a2o {P:Prop}(e:G p=some (.lst ws)) (h:P):tyZ "list" (.ref p) G/\P:=⟨.inl ⟨rfl,ws,e⟩,h⟩
theorem i_nm (h:nx (σ.set j (some w)) G):∃ σ',a5P (.nm j) w σ=some σ'/\nx σ' G:=⟨_,rfl,h⟩
theorem b76 {tb:X3}(h:wi σ G λws ok G1=>FORB ws ok pt tb nx rt σ G1):uFor wi pt tb nx rt bk ct σ G:=h
theorem c0d (h:wi σ G λws ok G1=>∀ D,G1 D=none->LCB ws ok cap pt tt te σ R D G1):uLC wi cap pt tt te σ G R:=h
variable {Ri:List Z->(Hq->Prop)->Hq->Prop}
theorem i_iL (h:te σ G λx G1=>wkL x G1 Ri):iL te σ G Ri:=h
theorem i_iT (h:te σ G λx G1=>wkT x G1 Ri):iT te σ G Ri:=h
theorem i_iS (h:te σ G λx G1=>wkS x G1 Ri):iS te σ G Ri:=h
theorem c0e (h:al σ G λws G1=>∃ j:Int,ws=[.int j]/\-(2 ^ 62)≤j/\j<2 ^ 62/\Ri (rng 0 j.toNat) (λ_=>True) G1):iR1 al σ G Ri:=h
theorem a3c (e:G p=some (.lst ws)) (h:Ri ws (λG=>G p=some (.lst ws)) G):wkL (.ref p) G Ri:=⟨ws,e,h⟩
theorem c0f (h:Ri ws (λ_=>True) G):wkT (.tup ws) G Ri:=h
theorem c0g (h:Ri (a4M z) (λ_=>True) G):wkS (.str z) G Ri:=h
theorem i_tt (h:Rb true G):uTT σ G Rb:=h
end
theorem ifD {p A B:Prop}[Decidable p] (h1:p->A) (h2:¬ p->B):if decide p=true then A else B:=by simp_all
theorem ifN {p A B:Prop}[Decidable p] (h1:¬ p->A) (h2:p->B):if (!decide p)=true then A else B:=by simp_all
theorem ifB {A B:Prop}(h1:b=true->A) (h2:b=false->B):if b=true then A else B:=by simp_all
theorem ifNB {A B:Prop}(h1:b=false->A) (h2:b=true->B):if (!b)=true then A else B:=by grind
theorem ifT {A B:Prop}(h:A):if true=true then A else B:=by rw[if_pos rfl];exact h
theorem ifF {A B:Prop}(h:B):if false=true then A else B:=by rw[if_neg (by decide)];exact h
theorem ifNN {A B:Prop}(h:A):if decide (Z.non=Z.non)=true then A else B:=by simp_all
theorem ifNI {A B:Prop}(h:B):if decide (Z.int i=Z.non)=true then A else B:=by rw[if_neg (by simp)];exact h
theorem ifMN {A B:Prop}(h:B):if (!decide (Z.non=Z.non))=true then A else B:=by rw[if_neg (by simp)];exact h
theorem ifMI {A B:Prop}(h:A):if (!decide (Z.int i=Z.non))=true then A else B:=by rw[if_pos (by simp)];exact h
theorem at0 {α:Type}{a:α}{r:List α}:atI (a::r) 0=some a:=a1O (j:=0) rfl
theorem at1 {α:Type}{a b:α}{r:List α}:atI (a::b::r) 1=some b:=a1O (j:=1) rfl
theorem at2 {α:Type}{a b c:α}{r:List α}:atI (a::b::c::r) 2=some c:=a1O (j:=2) rfl
def Sm (G G':Hq):Prop:=∀ b o,G b=some o->G' b=some o
theorem Sm.refl (G:Hq):Sm G G:=λ_ _ h=>h
theorem Sm.trans (a:Sm G G1) (b:Sm G1 G2):Sm G G2:=λc o h=>b c o (a c o h)
theorem Sm.get (s:Sm G G') (h:G b=some o):G' b=some o:=s b o h
theorem Sm.new (h:G p=none):Sm G (put G p o):=λ_ _ e=>a0l e h
theorem Sm.free (s:Sm G G') (h:G' p=none):G p=none:=by
 cases e:G p with
 | none=>rfl
 | some o=>rw[s p o e]at h;cases h
def Kq (r:Addr) (G G':Hq):Prop:=∀ b o,G b=some o->b≠r->G' b=some o
theorem Kq.refl (r:Addr) (G:Hq):Kq r G G:=λ_ _ h _=>h
theorem Kq.trans (a:Kq r G G1) (b:Kq r G1 G2):Kq r G G2:=λc o h n=>b c o (a c o h n) n
theorem Kq.new (h:G p=none):Kq r G (put G p o):=λ_ _ e _=>a0l e h
theorem Kq.at:Kq r G (put G r o):=λ_ _ e n=>by rw[a0A n];exact e
theorem Sm.kq (s:Sm G G'):Kq r G G':=λb o e _=>s b o e
theorem Sm.put (s:Sm G G') (h:G p=none):Sm G (put G' p o):=λb u e=>by rw[a0A (a0u e h)];exact s b u e
end L3
set_option maxHeartbeats 4000000
namespace Tim
open PySem PyProof.Rows
abbrev KF:=Keyed->Int
def Kk (κ:KF) (xs:Array Keyed) (i:Nat):Int:=match xs[i]? with
 | some p=>κ p
 | none=>0
section
variable {κ:KF}{xs ys:Array Keyed}{i j:Nat}{p:Keyed}
theorem a8w (h:xs[i]?=some p):Kk κ xs i=κ p:=by unfold Kk;rw[h]
theorem a5l (h:xs[i]?=ys[j]?):Kk κ xs i=Kk κ ys j:=by unfold Kk;rw[h]
end
def LtOk (M:Model) (A:Around) (E:Value->Shared->Prop) (s:Shared) (κ:KF) (k0:kF) (a₀:Array Keyed):Prop:=
 ∀ x y,x∈a₀.toList->y∈a₀.toList->∀ (st:SortSt) (Q:Option Bool->SortSt->Prop),kindOf st=k0->Q (some (decide (κ x<κ y))) st->wpS M A E s (lt' x y) Q st
structure TB (k0:kF) (a₀:Array Keyed) (st:SortSt):Prop where
 pm:(arrOf st).Perm a₀
 kd:kindOf st=k0
 fl:kz st=none
theorem TB.sz {st:SortSt}(h:TB k0 a₀ st):(arrOf st).size=a₀.size:=h.pm.size_eq
theorem TB.mem {st:SortSt}(h:TB k0 a₀ st) {i:Nat}(e:(arrOf st)[i]?=some p):p∈a₀.toList:=by
 have a:p∈(arrOf st).toList:=by rw[jf];exact Array.mem_of_getElem? e
 exact (iE.mp h.pm).mem_iff.mp a
theorem TB.arr {st:SortSt}(h:TB k0 a₀ st) (hp:xs.Perm (arrOf st)):TB k0 a₀ (setArr st xs):=⟨hp.trans h.pm,h.kd,h.fl⟩
section
variable {M:Model}{A:Around}{E:Value->Shared->Prop}{s:Shared}{κ:KF}{k0:kF}{a₀:Array Keyed}{st:SortSt}
theorem a0X (e:arr[i]?=some p) (h:Q p st):wpS M A E s (elem' arr i) Q st:=by
 rw[elem'_eq,e];exact j3 h
theorem a7x (L:LtOk M A E s κ k0 a₀) (B:TB k0 a₀ st) (hi:i<a₀.size) (hj:j<a₀.size)
  (h:Q (some (decide (Kk κ (arrOf st) i<Kk κ (arrOf st) j))) st):wpS M A E s (ltAt' i j) Q st:=by
 have b:_[i]?=some ((arrOf st)[i]'(by rw[B.sz];exact hi)):=getElem?_pos ..;have a:(arrOf st)[j]?=some ((arrOf st)[j]'(by rw[B.sz];exact hj)):=getElem?_pos ..;refine j1 (kG ?_);refine j1 (a0X b (j1 (a0X a ?_)));refine L _ _ (B.mem b) (B.mem a) st Q B.kd ?_;rw[a8w b,a8w a]at h;exact h
end
def a2g:Bool->Keyed->Array Keyed->Nat->Nat->Nat->StateT SortSt Sem (Option Nat):=sortPriv% PySem.Builtin.gallop
noncomputable def bey (lft:Bool) (ky:Keyed) (ar:Array Keyed) (bs:Nat) (q:Nat):StateT SortSt Sem (Option Bool):=do
  let z <- elem' ar (bs+q)
  if lft then lt' z ky else return (<- lt' ky z).map (!·)
theorem b0a (lft:Bool) (ky:Keyed) (ar:Array Keyed) (bs n hnt:Nat):a2g lft ky ar bs n hnt=(do
 let mut lst:=0
 let mut oo:=1
 let mut l:=0
 let mut h:=0
 let some rgt <- bey lft ky ar bs hnt | return none
 if rgt then
  let mx:=n - hnt
  for _ in [0:n] do
   if oo≥mx then break
   let some mo <- bey lft ky ar bs (hnt+oo) | return none
   if !mo then break
   lst:=oo
   oo:=2*oo+1
  l:=hnt+lst+1
  h:=hnt+min oo mx
 else
  let mx:=hnt+1
  for _ in [0:n] do
   if oo≥mx then break
   let some fo <- bey lft ky ar bs (hnt - oo) | return none
   if fo then break
   lst:=oo
   oo:=2*oo+1
  l:=hnt+1 - min oo mx
  h:=hnt - lst
 for _ in [0:n] do
  if l≥h then break
  let m:=l+(h - l) / 2
  let some mo <- bey lft ky ar bs m | return none
  if mo then l:=m+1 else h:=m
 return some h):=rfl
def bq (lft:Bool) (k x:Int):Bool:=if lft then decide (x<k) else !decide (k<x)
section
variable {M:Model}{A:Around}{E:Value->Shared->Prop}{s:Shared}{κ:KF}{k0:kF}{a₀:Array Keyed}{st:SortSt}
theorem b1L (L:LtOk M A E s κ k0 a₀) (hk:kindOf st=k0) (hm:ky∈a₀.toList) (ha:∀ p∈ar.toList,p∈a₀.toList) (hq:bs+q<ar.size)
  (h:Q (some (bq lft (κ ky) (Kk κ ar (bs+q)))) st):wpS M A E s (bey lft ky ar bs q) Q st:=by
 have b:ar[bs+q]?=some (ar[bs+q]'hq):=getElem?_pos ..;have a:ar[bs+q]∈a₀.toList:=ha _ (by simp);refine j1 (a0X b ?_);rw[a8w b]at h;cases lft with
 | true=>
  exact L _ _ a hm st Q hk h
 | false=>
  exact j1 (L _ _ hm a st _ hk (j3 h))
theorem a24 (L:LtOk M A E s κ k0 a₀) (hk:kindOf st=k0) (hm:ky∈a₀.toList) (ha:∀ p∈ar.toList,p∈a₀.toList)
  (hn:bs+n≤ar.size) (hh:hnt<n) (mono:∀ i j,i≤j->j<n->Kk κ ar (bs+i)≤Kk κ ar (bs+j))
  (h:∀ h,h≤n->(∀ i,i<h->bq lft (κ ky) (Kk κ ar (bs+i))=true)->(∀ i,h≤i->i<n->bq lft (κ ky) (Kk κ ar (bs+i))=false)->Q (some h) st):wpS M A E s (a2g lft ky ar bs n hnt) Q st:=by
 have t:∀ i j,i≤j->j<n->bq lft (κ ky) (Kk κ ar (bs+j))=true->bq lft (κ ky) (Kk κ ar (bs+i))=true:=λi j C F H=>by
  have:=mono i j C F
  unfold bq at *;cases lft<;>simp at *<;>omega
 have D:∀ i j,i≤j->j<n->bq lft (κ ky) (Kk κ ar (bs+i))=false->bq lft (κ ky) (Kk κ ar (bs+j))=false:=λi j C F H=>by grind
 rw[b0a];refine j1 (b1L L hk hm ha (by omega) ?_);dsimp only;cases e0:bq lft (κ ky) (Kk κ ar (bs+hnt)) with
 | true=>
  rw[if_pos rfl];refine j1 (kt (ko (I:=λx c d=>d=st/\∃ a b,c=(none,a,b)/\a<b/\x+1≤b/\hnt+a<n/\bq lft (κ ky) (Kk κ ar (bs+(hnt+a)))=true)
   (Q:=λc d=>d=st/\∃ a b,c=(none,a,b)/\a<b/\hnt+a<n/\bq lft (κ ky) (Kk κ ar (bs+(hnt+a)))=true/\(n - hnt≤b\/(hnt+b<n/\bq lft (κ ky) (Kk κ ar (bs+(hnt+b)))=false))) ?step ?fin ?init) ?post)
  case init=>exact⟨rfl,0,1,rfl,by omega,by omega,by omega,e0⟩
  case fin=>
   rintro c d ⟨rfl,a,b,rfl,m,k,o,f⟩;exact⟨rfl,a,b,rfl,m,o,f,.inl (by omega)⟩
  case step=>
   rintro x c d _ G ⟨rfl,a,b,rfl,m,k,o,f⟩;dsimp only
   by_cases hge:b≥n - hnt
   ·rw[if_pos hge];exact j3 ⟨rfl,a,b,rfl,m,o,f,.inl hge⟩
   ·rw[if_neg hge];refine j1 (b1L L hk hm ha (by omega) ?_);cases e:bq lft (κ ky) (Kk κ ar (bs+(hnt+b))) with
    | true=>
     dsimp only;rw[if_neg (by decide)];exact j3 ⟨rfl,b,2*b+1,rfl,by omega,by omega,by omega,e⟩
    | false=>
     dsimp only;rw[if_pos (show (!false)=true from rfl)];exact j3 ⟨rfl,a,b,rfl,m,o,f,.inr ⟨by omega,e⟩⟩
  case post=>
   rintro c d ⟨y,a,b,rfl,m,o,f,g⟩;have y:=y.symm;subst y;dsimp only;have q:hnt+a+1≤hnt+min b (n - hnt):=by omega
   have w:hnt+min b (n - hnt)≤n:=by omega
   have v:∀ i,i<hnt+a+1->bq lft (κ ky) (Kk κ ar (bs+i))=true:=λi J=>t i _ (by omega) (by omega) f;have u:∀ i,hnt+min b (n - hnt)≤i->i<n->bq lft (κ ky) (Kk κ ar (bs+i))=false:=λi B z=>by grind
   generalize hnt+a+1=l0 at q v ⊢;generalize hnt+min b (n - hnt)=h0 at q w u ⊢;refine j1 (kt (ko (I:=λx c d=>d=st/\∃ l r,c=(none,l,r)/\l≤r/\r≤n/\r - l≤n - x/\(∀ i,i<l->bq lft (κ ky) (Kk κ ar (bs+i))=true)/\(∀ i,r≤i->i<n->bq lft (κ ky) (Kk κ ar (bs+i))=false))
    (Q:=λc d=>d=st/\∃ l,c=(none,l,l)/\l≤n/\(∀ i,i<l->bq lft (κ ky) (Kk κ ar (bs+i))=true)/\(∀ i,l≤i->i<n->bq lft (κ ky) (Kk κ ar (bs+i))=false)) ?st2 ?fi2 ?in2) ?po2)
   case in2=>exact⟨rfl,l0,h0,rfl,q,w,by omega,v,u⟩
   case fi2=>
    rintro c d ⟨rfl,l,r,rfl,m,k,o,f,g⟩
    have:l=r:=by omega
    subst this;exact⟨rfl,l,rfl,k,f,g⟩
   case st2=>
    rintro x c d _ G ⟨rfl,l,r,rfl,m,k,o,f,g⟩;dsimp only
    by_cases hge:l≥r
    ·rw[if_pos hge]
     have:l=r:=by omega
     subst this;exact j3 ⟨rfl,l,rfl,k,f,g⟩
    ·rw[if_neg hge];refine j1 (b1L L hk hm ha (by omega) ?_);cases e:bq lft (κ ky) (Kk κ ar (bs+(l+(r - l) / 2))) with
     | true=>
      dsimp only;rw[if_pos rfl];exact j3 ⟨rfl,_,r,rfl,by omega,k,by omega,λi J=>t i _ (by omega) (by omega) e,g⟩
     | false=>
      dsimp only;rw[if_neg (by decide)];exact j3 ⟨rfl,l,_,rfl,by omega,by omega,by omega,f,λi B z=>D _ i B z e⟩
   case po2=>
    rintro c d ⟨rfl,l,rfl,k,f,g⟩;exact j3 (h l k f g)
 | false=>
  rw[if_neg (by decide)];refine j1 (kt (ko (I:=λx c d=>d=st/\∃ a b,c=(none,a,b)/\a<b/\x+1≤b/\a≤hnt/\bq lft (κ ky) (Kk κ ar (bs+(hnt - a)))=false)
   (Q:=λc d=>d=st/\∃ a b,c=(none,a,b)/\a<b/\a≤hnt/\bq lft (κ ky) (Kk κ ar (bs+(hnt - a)))=false/\(hnt+1≤b\/(b≤hnt/\bq lft (κ ky) (Kk κ ar (bs+(hnt - b)))=true))) ?step ?fin ?init) ?post)
  case init=>exact⟨rfl,0,1,rfl,by omega,by omega,by omega,e0⟩
  case fin=>
   rintro c d ⟨rfl,a,b,rfl,m,k,o,f⟩;exact⟨rfl,a,b,rfl,m,o,f,.inl (by omega)⟩
  case step=>
   rintro x c d _ G ⟨rfl,a,b,rfl,m,k,o,f⟩;dsimp only
   by_cases hge:b≥hnt+1
   ·rw[if_pos hge];exact j3 ⟨rfl,a,b,rfl,m,o,f,.inl hge⟩
   ·rw[if_neg hge];refine j1 (b1L L hk hm ha (by omega) ?_);cases e:bq lft (κ ky) (Kk κ ar (bs+(hnt - b))) with
    | true=>
     dsimp only;rw[if_pos rfl];exact j3 ⟨rfl,a,b,rfl,m,o,f,.inr ⟨by omega,e⟩⟩
    | false=>
     dsimp only;rw[if_neg (by decide)];exact j3 ⟨rfl,b,2*b+1,rfl,by omega,by omega,by omega,e⟩
  case post=>
   rintro c d ⟨y,a,b,rfl,m,o,f,g⟩;have y:=y.symm;subst y;dsimp only;have q:hnt+1 - min b (hnt+1)≤hnt - a:=by omega
   have w:hnt - a≤n:=by omega
   have v:∀ i,i<hnt+1 - min b (hnt+1)->bq lft (κ ky) (Kk κ ar (bs+i))=true:=λi J=>by grind
   have u:=λi B z=>D _ i B z f;generalize hnt+1 - min b (hnt+1)=l0 at q v ⊢;generalize hnt - a=h0 at q w u ⊢;refine j1 (kt (ko (I:=λx c d=>d=st/\∃ l r,c=(none,l,r)/\l≤r/\r≤n/\r - l≤n - x/\(∀ i,i<l->bq lft (κ ky) (Kk κ ar (bs+i))=true)/\(∀ i,r≤i->i<n->bq lft (κ ky) (Kk κ ar (bs+i))=false))
    (Q:=λc d=>d=st/\∃ l,c=(none,l,l)/\l≤n/\(∀ i,i<l->bq lft (κ ky) (Kk κ ar (bs+i))=true)/\(∀ i,l≤i->i<n->bq lft (κ ky) (Kk κ ar (bs+i))=false)) ?st2 ?fi2 ?in2) ?po2)
   case in2=>exact⟨rfl,l0,h0,rfl,q,w,by omega,v,u⟩
   case fi2=>
    rintro c d ⟨rfl,l,r,rfl,m,k,o,f,g⟩
    have:l=r:=by omega
    subst this;exact⟨rfl,l,rfl,k,f,g⟩
   case st2=>
    rintro x c d _ G ⟨rfl,l,r,rfl,m,k,o,f,g⟩;dsimp only
    by_cases hge:l≥r
    ·rw[if_pos hge]
     have:l=r:=by omega
     subst this;exact j3 ⟨rfl,l,rfl,k,f,g⟩
    ·rw[if_neg hge];refine j1 (b1L L hk hm ha (by omega) ?_);cases e:bq lft (κ ky) (Kk κ ar (bs+(l+(r - l) / 2))) with
     | true=>
      dsimp only;rw[if_pos rfl];exact j3 ⟨rfl,_,r,rfl,by omega,k,by omega,λi J=>t i _ (by omega) (by omega) e,g⟩
     | false=>
      dsimp only;rw[if_neg (by decide)];exact j3 ⟨rfl,l,_,rfl,by omega,by omega,by omega,f,λi B z=>D _ i B z e⟩
   case po2=>
    rintro c d ⟨rfl,l,rfl,k,f,g⟩;exact j3 (h l k f g)
end
end Tim
namespace Tim
open PySem PyProof.Rows
def a8x:Nat->StateT SortSt Sem Unit:=sortPriv% PySem.Builtin.setMinGallop
theorem a6J (g:Nat):a8x g=modify λs=>SortSt.mk' (kindOf s) (arrOf s) (kb s) g (kz s):=rfl
def a41:Array Keyed->Array Keyed->StateT SortSt Sem (Array Keyed):=sortPriv% PySem.Builtin.mergeLo
abbrev dnA (a b o:Array Keyed) (i j:Nat):Array Keyed:=o++a.extract i a.size++b.extract j b.size
abbrev dnB (a b o:Array Keyed) (i j:Nat):Array Keyed:=o++b.extract j b.size++a.extract i a.size
theorem a8y (a b:Array Keyed):a41 a b=(do
 rule "list.sort.merge-lo"
 let tot:=a.size+b.size
 let mut o:Array Keyed:=#[<- elem' b 0]
 let mut i:=0
 let mut j:=1
 if j==b.size then return dnA a b o i j
 if i+1==a.size then return dnB a b o i j
 let mut g:=mW (<- get)
 for _ in [0:tot] do
  let mut ac:=0
  let mut bc:=0
  for _ in [0:tot] do
   let some bw <- lt' (<- elem' b j) (<- elem' a i) | return dnA a b o i j
   if bw then
    o:=o.push (<- elem' b j);j:=j+1;bc:=bc+1;ac:=0
    if j==b.size then return dnA a b o i j
    if bc≥g then break
   else
    o:=o.push (<- elem' a i);i:=i+1;ac:=ac+1;bc:=0
    if i+1==a.size then return dnB a b o i j
    if ac≥g then break
  rule "list.sort.gallop"
  g:=g+1
  for _ in [0:tot] do
   if g > 1 then g:=g - 1
   a8x g
   let some k <- a2g false (<- elem' b j) a i (a.size - i) 0 | return dnA a b o i j
   ac:=k
   if k > 0 then
    o:=o++a.extract i (i+k);i:=i+k
    if i+1==a.size then return dnB a b o i j
    if i==a.size then return dnA a b o i j
   o:=o.push (<- elem' b j);j:=j+1
   if j==b.size then return dnA a b o i j
   let some k <- a2g true (<- elem' a i) b j (b.size - j) 0 | return dnA a b o i j
   bc:=k
   if k > 0 then
    o:=o++b.extract j (j+k);j:=j+k
    if j==b.size then return dnA a b o i j
   o:=o.push (<- elem' a i);i:=i+1
   if i+1==a.size then return dnB a b o i j
   if ac<7&&bc<7 then break
  g:=g+1
  a8x g
 (mn "internal:list.sort.merge-bound")):=rfl
section
variable {κ:KF}{A B o:List Keyed}{i j:Nat}{p:Keyed}
abbrev Srt (κ:KF) (l:List Keyed):Prop:=l.Pairwise λx y=>κ x≤κ y
structure MW (κ:KF) (A B o:List Keyed) (i j:Nat):Prop where
 ia:i≤A.length
 jb:j≤B.length
 pm:(o++(A.drop i++B.drop j)).Perm (A++B)
 so:Srt κ o
 ba:∀ x∈o,∀ y∈A.drop i,κ x≤κ y
 bb:∀ x∈o,∀ y∈B.drop j,κ x≤κ y
theorem MW.size (W:MW κ A B o i j):o.length=i+j:=by
 have:=W.pm.length_eq
 have b:=W.ia;have a:=W.jb;simp at this;omega
theorem drop_get {l:List Keyed}(h:l[n]?=some p):l.drop n=p::l.drop (n+1):=by
 obtain⟨a,e⟩:=eq.mp h;rw[gN a,e]
theorem a9a (h:Srt κ l) (hb:∀ x∈l,κ x≤κ p):Srt κ (l++[p]):=by
 refine eM.mpr ⟨h,iF _ _,λx b y a=>?_⟩;rw[dX.mp a];exact hb x b
theorem a1L (h:Srt κ l) (n:Nat):Srt κ (l.drop n):=gi.sublist (iG n l) h
theorem MW.pushA (W:MW κ A B o i j) (sa:Srt κ A) (hp:A[i]?=some p) (hb:∀ y∈B.drop j,κ p≤κ y):MW κ A B (o++[p]) (i+1) j:=by
 have c:=drop_get hp;have d:=(eq.mp hp).1;have e:=c▸a1L sa i;refine⟨d,W.jb,?_,a9a W.so λx b=>W.ba x b p (by simp_all),λx b y a=>?_,λx b y a=>?_⟩
 ·have:=W.pm
  rw[c]at this;simpa using this
 ·rcases dU.mp b with h | h
  ·exact W.ba x h y (by simp_all)
  ·rw[dX.mp h];exact (eH.mp e).1 y a
 ·rcases dU.mp b with h | h
  ·exact W.bb x h y a
  ·rw[dX.mp h];exact hb y a
theorem MW.pushB (W:MW κ A B o i j) (sb:Srt κ B) (hp:B[j]?=some p) (hb:∀ y∈A.drop i,κ p≤κ y):MW κ A B (o++[p]) i (j+1):=by
 have c:=drop_get hp;have d:=(eq.mp hp).1;have e:=c▸a1L sb j;refine⟨W.ia,d,?_,a9a W.so λx b=>W.bb x b p (by simp_all),λx b y a=>?_,λx b y a=>?_⟩
 ·have:=W.pm
  rw[c]at this;refine eN.trans ?_ this;rw[eO];exact eN.append_left o (show (p::(A.drop i++B.drop _)).Perm _ from jq.symm)
 ·rcases dU.mp b with h | h
  ·exact W.ba x h y a
  ·rw[dX.mp h];exact hb y a
 ·rcases dU.mp b with h | h
  ·exact W.bb x h y (by simp_all)
  ·rw[dX.mp h];exact (eH.mp e).1 y a
theorem take_snoc {l:List Keyed}(h:l[n+k]?=some p):(l.drop n).take (k+1)=(l.drop n).take k++[p]:=by
 rw[fH,gC,h];rfl
theorem MW.runA (W:MW κ A B o i j) (sa:Srt κ A):∀ k,i+k≤A.length->(∀ q z,i≤q->q<i+k->A[q]?=some z->∀ y∈B.drop j,κ z≤κ y)->MW κ A B (o++(A.drop i).take k) (i+k) j
 | 0,_,_=>by simpa using W
 | k+1,hk,hz=>by
  have b:=MW.runA W sa k (by omega) λq z a c=>hz q z a (by omega);have e:A[i+k]?=some A[i+k]:=et (by omega);rw[take_snoc e,<- eO];exact b.pushA sa e (hz _ _ (by omega) (by omega) e)
theorem MW.runB (W:MW κ A B o i j) (sb:Srt κ B):∀ k,j+k≤B.length->(∀ q z,j≤q->q<j+k->B[q]?=some z->∀ y∈A.drop i,κ z≤κ y)->MW κ A B (o++(B.drop j).take k) i (j+k)
 | 0,_,_=>by simpa using W
 | k+1,hk,hz=>by
  have b:=MW.runB W sb k (by omega) λq z a c=>hz q z a (by omega);have e:B[j+k]?=some B[j+k]:=et (by omega);rw[take_snoc e,<- eO];exact b.pushB sb e (hz _ _ (by omega) (by omega) e)
def Mgd (κ:KF) (A B r:List Keyed):Prop:=r.Perm (A++B)/\Srt κ r
theorem MW.doneA (W:MW κ A B o i j) (sa:Srt κ A) (sb:Srt κ B) (h:i=A.length\/j=B.length):Mgd κ A B (o++A.drop i++B.drop j):=by
 refine⟨by rw[eO];exact W.pm,?_⟩;rw[eO];refine eM.mpr ⟨W.so,eM.mpr ⟨a1L sa i,a1L sb j,λx a y b=>?_⟩,λx a y b=>?_⟩
 ·rcases h with rfl | rfl
  ·simp_all
  ·simp_all
 ·rcases dU.mp b with h | h
  ·exact W.ba x a y h
  ·exact W.bb x a y h
theorem MW.doneB (W:MW κ A B o i j) (sa:Srt κ A) (sb:Srt κ B) (h:i+1=A.length) (hl:∀ z,A[A.length - 1]?=some z->∀ y∈B,κ y≤κ z):Mgd κ A B (o++B.drop j++A.drop i):=by
 refine⟨?_,?_⟩
 ·rw[eO];exact eN.trans (eN.append_left o jr) W.pm
 ·rw[eO];have e:A[i]?=some A[i]:=et (by omega);have c:A.drop i=[A[i]]:=by rw[drop_get e,gO (by omega)]
  refine eM.mpr ⟨W.so,eM.mpr ⟨a1L sb j,a1L sa i,λx b y a=>?_⟩,λx b y a=>?_⟩
  ·rw[c]at a;rw[dX.mp a];exact hl _ (by rw[show A.length - 1=i by omega];exact e) x (ik b)
  ·rcases dU.mp a with h | h
   ·exact W.bb x b y h
   ·exact W.ba x b y h
theorem a2x (h:Srt κ l) (hp:l[n]?=some p):∀ y∈l.drop n,κ p≤κ y:=λy a=>by
 have b:=a1L h n;rw[drop_get hp]at b a;rcases dY.mp a with rfl | a
 ·exact fz _
 ·exact (eH.mp b).1 y a
end
end Tim
namespace Tim
open PySem PyProof.Rows
abbrev SM:=StateT SortSt Sem
abbrev T1:=Option (Array Keyed)×Array Keyed×Nat×Nat×Nat×Nat
abbrev T2:=Option (Array Keyed)×Array Keyed×Nat×Nat×Nat×Nat×Nat
noncomputable def lo1 (a b:Array Keyed) (g:Nat) (o:Array Keyed) (i j ac bc:Nat):SM (ForInStep T1):=do
 let y <- elem' b j
 let x <- elem' a i
 let r <- lt' y x
 match r with
 | some bw=>
  if bw=true then do
   let y <- elem' b j
   if (j+1==b.size)=true then pure (.done (some (dnA a b (o.push y) i (j+1)),o.push y,i,j+1,0,bc+1))
   else if bc+1≥g then pure (.done (none,o.push y,i,j+1,0,bc+1)) else pure (.yield (none,o.push y,i,j+1,0,bc+1))
  else do
   let x <- elem' a i
   if (i+1+1==a.size)=true then pure (.done (some (dnB a b (o.push x) (i+1) j),o.push x,i+1,j,ac+1,0))
   else if ac+1≥g then pure (.done (none,o.push x,i+1,j,ac+1,0)) else pure (.yield (none,o.push x,i+1,j,ac+1,0))
 | _=>pure (.done (some (dnA a b o i j),o,i,j,ac,bc))
noncomputable def lo5 (a b:Array Keyed) (o:Array Keyed) (i j g ac bc:Nat):SM (ForInStep T2):=do
 let x <- elem' a i
 if (i+1+1==a.size)=true then pure (.done (some (dnB a b (o.push x) (i+1) j),o.push x,i+1,j,g,ac,bc))
 else if (decide (ac<7)&&decide (bc<7))=true then pure (.done (none,o.push x,i+1,j,g,ac,bc)) else pure (.yield (none,o.push x,i+1,j,g,ac,bc))
noncomputable def lo4 (a b:Array Keyed) (o:Array Keyed) (i j g ac bc:Nat):SM (ForInStep T2):=do
 let y <- elem' b j
 if (j+1==b.size)=true then pure (.done (some (dnA a b (o.push y) i (j+1)),o.push y,i,j+1,g,ac,bc))
 else do
  let x <- elem' a i
  let r <- a2g true x b (j+1) (b.size - (j+1)) 0
  match r with
  | some k=>
   if k > 0 then
    if (j+1+k==b.size)=true then pure (.done (some (dnA a b (o.push y++b.extract (j+1) (j+1+k)) i (j+1+k)),o.push y++b.extract (j+1) (j+1+k),i,j+1+k,g,ac,k))
    else lo5 a b (o.push y++b.extract (j+1) (j+1+k)) i (j+1+k) g ac k
   else lo5 a b (o.push y) i (j+1) g ac k
  | _=>pure (.done (some (dnA a b (o.push y) i (j+1)),o.push y,i,j+1,g,ac,bc))
noncomputable def lo3 (a b:Array Keyed) (o:Array Keyed) (i j g ac bc:Nat):SM (ForInStep T2):=do
 a8x g
 let y <- elem' b j
 let r <- a2g false y a i (a.size - i) 0
 match r with
 | some k=>
  if k > 0 then
   if (i+k+1==a.size)=true then pure (.done (some (dnB a b (o++a.extract i (i+k)) (i+k) j),o++a.extract i (i+k),i+k,j,g,k,bc))
   else if (i+k==a.size)=true then pure (.done (some (dnA a b (o++a.extract i (i+k)) (i+k) j),o++a.extract i (i+k),i+k,j,g,k,bc))
   else lo4 a b (o++a.extract i (i+k)) (i+k) j g k bc
  else lo4 a b o i j g k bc
 | _=>pure (.done (some (dnA a b o i j),o,i,j,g,ac,bc))
def lo2 (a b:Array Keyed) (o:Array Keyed) (i j g ac bc:Nat):SM (ForInStep T2):=
 if g > 1 then lo3 a b o i j (g - 1) ac bc else lo3 a b o i j g ac bc
theorem bd2 {α β:Type}{x y:SM α}{f g:α->SM β}(h:x=y) (h2:∀ a,f a=g a):x >>= f=y >>= g:=by rw[h,funext h2]
theorem a7y (a b:Array Keyed):a41 a b=(do
  liftM (rule "list.sort.merge-lo")
  let y <- elem' b 0
  if (1==b.size)=true then pure (dnA a b #[y] 0 1)
  else if (0+1==a.size)=true then pure (dnB a b #[y] 0 1)
  else do
   let st <- get
   let c <- forIn [0:a.size+b.size] ((none,#[y],0,1,mW st):Option (Array Keyed)×Array Keyed×Nat×Nat×Nat) λ_ c=>do
    let c1 <- forIn [0:a.size+b.size] ((none,c.2.1,c.2.2.1,c.2.2.2.1,0,0):T1) λ_ c1=>lo1 a b c.2.2.2.2 c1.2.1 c1.2.2.1 c1.2.2.2.1 c1.2.2.2.2.1 c1.2.2.2.2.2
    match c1.1 with
    | some r=>pure (ForInStep.done (some r,c1.2.1,c1.2.2.1,c1.2.2.2.1,c.2.2.2.2))
    | none=>do
     liftM (rule "list.sort.gallop")
     let c2 <- forIn [0:a.size+b.size] ((none,c1.2.1,c1.2.2.1,c1.2.2.2.1,c.2.2.2.2+1,c1.2.2.2.2.1,c1.2.2.2.2.2):T2) λ_ c2=>lo2 a b c2.2.1 c2.2.2.1 c2.2.2.2.1 c2.2.2.2.2.1 c2.2.2.2.2.2.1 c2.2.2.2.2.2.2
     match c2.1 with
     | some r=>pure (ForInStep.done (some r,c2.2.1,c2.2.2.1,c2.2.2.2.1,c2.2.2.2.2.1))
     | none=>do
      a8x (c2.2.2.2.2.1+1)
      pure (ForInStep.yield (none,c2.2.1,c2.2.2.1,c2.2.2.2.1,c2.2.2.2.2.1+1))
   match c.1 with
   | some r=>pure r
   | none=>mn "internal:list.sort.merge-bound"):=by
 rw[a8y];refine bind_congr λ_=>bind_congr λy=>?_;dsimp only
 congr 1
 congr 1
 refine bind_congr λk=>?_;refine bd2 ?_ λc=>?_
 ·congr 1
  funext x c
  obtain⟨r,o,i,j,g⟩:=c;dsimp only;refine bd2 ?_ λe=>?_
  ·congr 1
  ·obtain⟨r,o,i,j,d,f⟩:=e;cases r with
   | some r=>rfl
   | none=>
    refine bind_congr λ_=>?_;refine bd2 ?_ λh=>?_
    ·congr 1
    ·obtain⟨r,o,i,j,g,d,f⟩:=h;cases r<;>rfl
 ·obtain⟨r,o,i,j,g⟩:=c;cases r<;>rfl
end Tim
namespace Tim
open PySem PyProof.Rows
structure SG (st st':SortSt):Prop where
 kd:kindOf st'=kindOf st
 ar:arrOf st'=arrOf st
 pe:kb st'=kb st
 fl:kz st'=kz st
theorem SG.refl (st:SortSt):SG st st:=⟨rfl,rfl,rfl,rfl⟩
theorem SG.trans (p:SG x y) (q:SG y z):SG x z:=⟨q.kd.trans p.kd,q.ar.trans p.ar,q.pe.trans p.pe,q.fl.trans p.fl⟩
section
variable {κ:KF}{a b o:Array Keyed}{i j:Nat}
theorem a3K:(dnA a b o i j).toList=o.toList++a.toList.drop i++b.toList.drop j:=by
 simp[fD]
theorem a42:(dnB a b o i j).toList=o.toList++b.toList.drop j++a.toList.drop i:=by
 simp[fD]
theorem a9b:(o++a.extract i (i+k)).toList=o.toList++(a.toList.drop i).take k:=by
 simp[im]
theorem a1g (h:i<a.size):a.toList[i]?=some a[i]:=by simp[h]
theorem a1s (h:i<a.size):Kk κ a i=κ a[i]:=a8w (getElem?_pos ..)
theorem a3L (h:Srt κ a.toList) (hn:i+n≤a.size):∀ p q,p≤q->q<n->Kk κ a (i+p)≤Kk κ a (i+q):=λp q b c=>by
 rw[a1s (show i+p<a.size by omega),a1s (show i+q<a.size by omega)]
 by_cases e:p=q
 ·simp_all
 ·have:=gE.mp h (i+p) (i+q) (by simp;omega) (by simp;omega) (by omega)
  simpa using this
end
structure MC (M:Model) (A:Around) (E:Value->Shared->Prop) (s:Shared) (κ:KF) (k0:kF) (a₀ a b:Array Keyed):Prop where
 L:LtOk M A E s κ k0 a₀
 ha:∀ p∈a.toList,p∈a₀.toList
 hb:∀ p∈b.toList,p∈a₀.toList
 sa:Srt κ a.toList
 sb:Srt κ b.toList
 h0:0<a.size
 h1:0<b.size
 hf:∀ y∈a.toList,Kk κ b 0≤κ y
 hl:∀ z,a.toList[a.toList.length - 1]?=some z->∀ y∈b.toList,κ y≤κ z
structure Rdy (κ:KF) (a b o:Array Keyed) (i j:Nat):Prop where
 w:MW κ a.toList b.toList o.toList i j
 hi:i+1<a.size
 hj:j<b.size
section
variable {M:Model}{A:Around}{E:Value->Shared->Prop}{s:Shared}{κ:KF}{k0:kF}{a₀ a b o:Array Keyed}{st:SortSt}{i j g ac bc:Nat}
theorem a6e {α:Type}{f:Unit->SM α}{Q:α->SortSt->Prop}(h:wpS M A E s (f ()) Q st):wpS M A E s ((liftM (rule w):SM Unit) >>= f) Q st:=
 j1 (wpS_lift (kP ⟨rfl,h⟩))
theorem a1F (a:Array Keyed):a.toList.length=a.size:=by simp
theorem c0h (C:MC M A E s κ k0 a₀ a b) (hk:kindOf st=k0) (R:Rdy κ a b o i j)
  (dn:∀ r c,Mgd κ a.toList b.toList r.toList->Q (.done (some r,c)) st)
  (br:∀ o' i' j' x y,Rdy κ a b o' i' j'->i'+j'=i+j+1->Q (.done (none,o',i',j',x,y)) st)
  (go:∀ o' i' j' x y,Rdy κ a b o' i' j'->i'+j'=i+j+1->Q (.yield (none,o',i',j',x,y)) st):wpS M A E s (lo1 a b g o i j ac bc) Q st:=by
 have q:=R.hi;have n:=R.hj;have p:b[j]?=some b[j]:=getElem?_pos ..;have m:a[i]?=some a[i]:=getElem?_pos ..;have h:=a1g n;have l:=a1g (a:=a) (i:=i) (by omega);unfold lo1;refine j1 (a0X p (j1 (a0X m (j1 ?_))));refine C.L _ _ (C.hb _ (eI h)) (C.ha _ (eI l)) st _ hk ?_;dsimp only
 by_cases c:κ b[j]<κ a[i]
 ·rw[if_pos (decide_eq_true c)];refine j1 (a0X p ?_);have d:=R.w.pushB C.sb h λy k=>eX (fA c) (a2x C.sa l y k);rw[<- fb]at d
  by_cases e:j+1=b.size
  ·rw[if_pos (by simpa using e)];exact j3 (dn _ _ (by rw[a3K];exact d.doneA C.sa C.sb (.inr (by rw[a1F];exact e))))
  ·rw[if_neg (by simpa using e)];have f:Rdy κ a b (o.push b[j]) i (j+1):=⟨d,q,by omega⟩
   split
   ·exact j3 (br _ _ _ _ _ f (by omega))
   ·exact j3 (go _ _ _ _ _ f (by omega))
 ·rw[if_neg (by simpa using c)];refine j1 (a0X m ?_);have d:=R.w.pushA C.sa l λy k=>eX (io.mp c) (a2x C.sb h y k);rw[<- fb]at d
  by_cases e:i+1+1=a.size
  ·rw[if_pos (by simpa using e)];exact j3 (dn _ _ (by rw[a42];exact d.doneB C.sa C.sb (by rw[a1F];exact e) C.hl))
  ·rw[if_neg (by simpa using e)];have f:Rdy κ a b (o.push a[i]) (i+1) j:=⟨d,by omega,n⟩
   split
   ·exact j3 (br _ _ _ _ _ f (by omega))
   ·exact j3 (go _ _ _ _ _ f (by omega))
structure G2 (st:SortSt) (κ:KF) (a b:Array Keyed) (n:Nat) (Q:ForInStep T2->SortSt->Prop):Prop where
 dn:∀ r c st',SG st st'->Mgd κ a.toList b.toList r.toList->Q (.done (some r,c)) st'
 br:∀ o' i' j' x y z st',SG st st'->Rdy κ a b o' i' j'->n<i'+j'->Q (.done (none,o',i',j',x,y,z)) st'
 go:∀ o' i' j' x y z st',SG st st'->Rdy κ a b o' i' j'->n<i'+j'->Q (.yield (none,o',i',j',x,y,z)) st'
theorem b77 (C:MC M A E s κ k0 a₀ a b) (R:Rdy κ a b o i j) (hle:∀ y∈b.toList.drop j,Kk κ a i≤κ y) (H:G2 st κ a b n Q) (hn:n≤i+j):wpS M A E s (lo5 a b o i j g ac bc) Q st:=by
 have l:=R.hi;have k:=R.hj;have h:a[i]?=some a[i]:=getElem?_pos ..;have f:=a1g (a:=a) (i:=i) (by omega);rw[a1s (show i<a.size by omega)]at hle;unfold lo5;refine j1 (a0X h ?_);have c:=R.w.pushA C.sa f hle;rw[<- fb]at c
 by_cases e:i+1+1=a.size
 ·rw[if_pos (by simpa using e)];exact j3 (H.dn _ _ _ (SG.refl _) (by rw[a42];exact c.doneB C.sa C.sb (by rw[a1F];exact e) C.hl))
 ·rw[if_neg (by simpa using e)];have d:Rdy κ a b (o.push a[i]) (i+1) j:=⟨c,by omega,k⟩
  split
  ·exact j3 (H.br _ _ _ _ _ _ _ (SG.refl _) d (by omega))
  ·exact j3 (H.go _ _ _ _ _ _ _ (SG.refl _) d (by omega))
theorem a3r {l:List Keyed}(h:y∈l.drop n):∃ q,n≤q/\q<l.length/\l[q]?=some y:=by
 obtain⟨m,a⟩:=fq h;rw[gC]at a;exact⟨n+m,by omega,(eq.mp a).1,a⟩
theorem a5m (h:a.toList[q]?=some z):Kk κ a q=κ z:=a8w (by simp_all)
theorem b78 (C:MC M A E s κ k0 a₀ a b) (hk:kindOf st=k0) (R:Rdy κ a b o i j) (hle:∀ y∈a.toList.drop i,Kk κ b j≤κ y) (H:G2 st κ a b n Q) (hn:n≤i+j):wpS M A E s (lo4 a b o i j g ac bc) Q st:=by
 have m:=R.hi;have t:=R.hj;have x:b[j]?=some b[j]:=getElem?_pos ..;have D:=a1g t;have F:a[i]?=some a[i]:=getElem?_pos ..;have p:=a1g (a:=a) (i:=i) (by omega);rw[a1s t]at hle;unfold lo4;refine j1 (a0X x ?_);have d:=R.w.pushB C.sb D hle;rw[<- fb]at d
 by_cases e:j+1=b.size
 ·rw[if_pos (by simpa using e)];exact j3 (H.dn _ _ _ (SG.refl _) (by rw[a3K];exact d.doneA C.sa C.sb (.inr (by rw[a1F];exact e))))
 ·rw[if_neg (by simpa using e)];refine j1 (a0X F (j1 ?_));refine a24 C.L hk (C.ha _ (eI p)) C.hb (by omega) (by omega) (a3L C.sb (by omega)) λk G v r=>?_;dsimp only;have c:∀ y∈b.toList.drop (j+1+k),Kk κ a i≤κ y:=λy h=>by
   obtain⟨q,B,u,l⟩:=a3r h;rw[a1F]at u
   have:=r (q - (j+1)) (by omega) (by omega)
   rw[show j+1+(q - (j+1))=q by omega,a5m l]at this;simp[bq]at this;rw[a1s (show i<a.size by omega)];omega
  split
  ·have f:=d.runB C.sb k (by rw[a1F];omega) λq z B u l y h=>by
    have:=v (q - (j+1)) (by omega)
    rw[show j+1+(q - (j+1))=q by omega,a5m l]at this;simp[bq]at this;exact eX (fA this) (a2x C.sa p y h)
   rw[<- a9b]at f
   by_cases e2:j+1+k=b.size
   ·rw[if_pos (by simpa using e2)];exact j3 (H.dn _ _ _ (SG.refl _) (by rw[a3K];exact f.doneA C.sa C.sb (.inr (by rw[a1F];exact e2))))
   ·rw[if_neg (by simpa using e2)];exact b77 C ⟨f,m,by omega⟩ c H (by omega)
  ·have:k=0:=by omega
   subst this;exact b77 C ⟨d,m,by omega⟩ c H (by omega)
theorem c0i (C:MC M A E s κ k0 a₀ a b) (hk:kindOf st=k0) (R:Rdy κ a b o i j) (H:G2 st κ a b n Q) (hn:n≤i+j):wpS M A E s (lo3 a b o i j g ac bc) Q st:=by
 have I:=R.hi;have h:=R.hj;have G:b[j]?=some b[j]:=getElem?_pos ..;have B:=a1g h;unfold lo3;rw[a6J];refine j1 (kE ?_);have m:SG st (SortSt.mk' _ (arrOf st) _ g _):=⟨rfl,rfl,rfl,rfl⟩;have e:kindOf (SortSt.mk' _ (arrOf st) (kb st) g (kz st))=k0:=hk;generalize SortSt.mk' (kindOf st) (arrOf st) (kb st) g (kz st)=st1 at m e;have l:G2 st1 κ a b n Q:=⟨λr c d g=>H.dn r c d (m.trans g),λ_ _ _ _ _ _ d g=>H.br _ _ _ _ _ _ d (m.trans g),λ_ _ _ _ _ _ d g=>H.go _ _ _ _ _ _ d (m.trans g)⟩;refine j1 (a0X G (j1 ?_));refine a24 C.L e (C.hb _ (eI B)) C.ha (by omega) (by omega) (a3L C.sa (by omega)) λk J D x=>?_;dsimp only;have f:∀ y∈a.toList.drop (i+k),Kk κ b j≤κ y:=λy t=>by
  obtain⟨q,F,v,u⟩:=a3r t;rw[a1F]at v
  have:=x (q - i) (by omega) (by omega)
  rw[show i+(q - i)=q by omega,a5m u]at this;simp[bq]at this;rw[a1s h];omega
 split
 ·have p:=R.w.runA C.sa k (by rw[a1F];omega) λq z F v u y t=>by
   have:=D (q - i) (by omega)
   rw[show i+(q - i)=q by omega,a5m u]at this;simp[bq]at this;exact eX this (a2x C.sb B y t)
  rw[<- a9b]at p
  by_cases e1:i+k+1=a.size
  ·rw[if_pos (by simpa using e1)];exact j3 (l.dn _ _ _ (SG.refl _) (by rw[a42];exact p.doneB C.sa C.sb (by rw[a1F];exact e1) C.hl))
  ·rw[if_neg (by simpa using e1)]
   by_cases e2:i+k=a.size
   ·rw[if_pos (by simpa using e2)];exact j3 (l.dn _ _ _ (SG.refl _) (by rw[a3K];exact p.doneA C.sa C.sb (.inl (by rw[a1F];exact e2))))
   ·rw[if_neg (by simpa using e2)];exact b78 C e ⟨p,by omega,h⟩ f l (by omega)
 ·have:k=0:=by omega
  subst this;exact b78 C e ⟨R.w,I,h⟩ f l (by omega)
theorem c0j (C:MC M A E s κ k0 a₀ a b) (hk:kindOf st=k0) (R:Rdy κ a b o i j) (H:G2 st κ a b n Q) (hn:n≤i+j):wpS M A E s (lo2 a b o i j g ac bc) Q st:=by
 unfold lo2
 split<;>exact c0i C hk R H hn
theorem b3o (C:MC M A E s κ k0 a₀ a b):MW κ a.toList b.toList [b[0]'C.h1] 0 1:=by
 have c:=a1g C.h1;have e:MW κ a.toList b.toList [] 0 0:=⟨eP _,eP _,by simp,.nil,λx h=>by simp at h,λx h=>by simp at h⟩;exact e.pushB C.sb c λy d=>by rw[<- a1s (κ:=κ) C.h1];exact C.hf y (by simp_all)
theorem b1M (C:MC M A E s κ k0 a₀ a b) (hk:kindOf st=k0)
  (h:∀ r st',SG st st'->Mgd κ a.toList b.toList r.toList->Q r st'):wpS M A E s (a41 a b) Q st:=by
 have h0:=C.h0;have h1:=C.h1;rw[a7y];refine a6e ?_;refine j1 (a0X (getElem?_pos b 0 C.h1) ?_);have w0:=b3o C
 by_cases e1:1=b.size
 ·rw[if_pos (by simpa using e1)];exact j3 (h _ _ (SG.refl _) (by rw[a3K];exact w0.doneA C.sa C.sb (.inr (by grind))))
 rw[if_neg (by simpa using e1)]
 by_cases e2:0+1=a.size
 ·rw[if_pos (by simpa using e2)];exact j3 (h _ _ (SG.refl _) (by rw[a42];exact w0.doneB C.sa C.sb (by rw[a1F];exact e2) C.hl))
 rw[if_neg (by simpa using e2)];refine j1 (kG ?_);have R0:Rdy κ a b #[b[0]] 0 1:=⟨w0,by omega,by omega⟩;refine j1 (kt (ko (I:=λx c e=>∃ o i j g,c=(none,o,i,j,g)/\SG st e/\Rdy κ a b o i j/\x<i+j)
  (Q:=λc e=>∃ r F,c=(some r,F)/\SG st e/\Mgd κ a.toList b.toList r.toList) ?step ?fin ⟨_,_,_,_,rfl,SG.refl _,R0,by omega⟩) ?post)
 case post=>
  rintro c e ⟨r,F,rfl,H,m⟩;exact j3 (h r e H m)
 case fin=>
  rintro c e ⟨o,i,j,g,rfl,H,R,hx⟩
  have:=R.hi
  have:=R.hj
  omega
 case step=>
  rintro x c e _ hx ⟨o,i,j,g,rfl,H,R,hxi⟩;dsimp only;have hk1:=H.kd.trans hk;refine j1 (kt (ko (I:=λy c f=>∃ D l k J T,c=(none,D,l,k,J,T)/\f=e/\Rdy κ a b D l k/\i+j+y≤l+k)
   (Q:=λc f=>f=e/\((∃ r F,c=(some r,F)/\Mgd κ a.toList b.toList r.toList)\/∃ D l k J T,c=(none,D,l,k,J,T)/\Rdy κ a b D l k/\i+j≤l+k)) ?st1 ?fi1 ⟨_,_,_,_,_,rfl,rfl,R,by omega⟩) ?po1)
  case fi1=>
   rintro c f ⟨D,l,k,J,T,rfl,rfl,L,hy⟩
   have:=L.hi
   have:=L.hj
   omega
  case st1=>
   rintro y c f _ hy ⟨D,l,k,J,T,rfl,rfl,L,hyi⟩;dsimp only;refine c0h C hk1 L (λr c m=>⟨rfl,.inl ⟨r,c,rfl,m⟩⟩) (λo2 i2 j2 u v X V=>⟨rfl,.inr ⟨_,_,_,_,_,rfl,X,by omega⟩⟩) λo2 i2 j2 u v X V=>⟨_,_,_,_,_,rfl,rfl,X,by omega⟩
  case po1=>
   rintro c f ⟨rfl,⟨r,F,rfl,m⟩ | ⟨D,l,k,J,T,rfl,L,hij⟩⟩
   ·exact j3 ⟨r,_,rfl,H,m⟩
   ·dsimp only;refine a6e ?_;refine j1 (kt (ko (I:=λy c B=>∃ G q p S z t,c=(none,G,q,p,S,z,t)/\SG st B/\Rdy κ a b G q p/\l+k+y≤q+p)
     (Q:=λc B=>SG st B/\((∃ r F,c=(some r,F)/\Mgd κ a.toList b.toList r.toList)\/∃ G q p S z t,c=(none,G,q,p,S,z,t)/\Rdy κ a b G q p/\l+k<q+p)) ?f ?fi2 ⟨_,_,_,_,_,_,rfl,H,L,by omega⟩) ?po2)
    case fi2=>
     rintro c B ⟨G,q,p,S,z,t,rfl,d,N,hy⟩
     have:=N.hi
     have:=N.hj
     omega
    case f=>
     rintro y c B _ hy ⟨G,q,p,S,z,t,rfl,d,N,hyi⟩;dsimp only;refine c0j C (d.kd.trans hk) N ⟨λr c W U m=>⟨d.trans U,.inl ⟨r,c,rfl,m⟩⟩,λo4 i4 j4 u v w W U Y V=>⟨d.trans U,.inr ⟨_,_,_,_,_,_,rfl,Y,by omega⟩⟩,λo4 i4 j4 u v w W U Y V=>⟨_,_,_,_,_,_,rfl,d.trans U,Y,by omega⟩⟩ (dS _)
    case po2=>
     rintro c B ⟨d,⟨r,F,rfl,m⟩ | ⟨G,q,p,S,z,t,rfl,N,V⟩⟩
     ·exact j3 ⟨r,_,rfl,d,m⟩
     ·dsimp only;refine j1 (kE (j3 ?_));exact⟨_,_,_,_,rfl,⟨d.kd,d.ar,d.pe,d.fl⟩,N,by omega⟩
end
end Tim
namespace Tim
open PySem PyProof.Rows
def a6K:Array Keyed->Array Keyed->SM (Array Keyed):=sortPriv% PySem.Builtin.mergeHi
abbrev hnA (a b o:Array Keyed) (u v:Nat):Array Keyed:=a.extract 0 u++b.extract 0 v++o.reverse
abbrev hnB (a b o:Array Keyed) (u v:Nat):Array Keyed:=b.extract 0 v++a.extract 0 u++o.reverse
abbrev H1:=Option (Array Keyed)×Nat×Nat×Array Keyed×Nat×Nat
abbrev H2:=Option (Array Keyed)×Nat×Nat×Array Keyed×Nat×Nat×Nat
noncomputable def hi1 (a b:Array Keyed) (g u v:Nat) (o:Array Keyed) (ac bc:Nat):SM (ForInStep H1):=do
 let y <- elem' b (v - 1)
 let x <- elem' a (u - 1)
 let r <- lt' y x
 match r with
 | some aw=>
  if aw=true then do
   let x <- elem' a (u - 1)
   if (u - 1==0)=true then pure (.done (some (hnA a b (o.push x) (u - 1) v),u - 1,v,o.push x,ac+1,0))
   else if ac+1≥g then pure (.done (none,u - 1,v,o.push x,ac+1,0)) else pure (.yield (none,u - 1,v,o.push x,ac+1,0))
  else do
   let y <- elem' b (v - 1)
   if (v - 1==1)=true then pure (.done (some (hnB a b (o.push y) u (v - 1)),u,v - 1,o.push y,0,bc+1))
   else if bc+1≥g then pure (.done (none,u,v - 1,o.push y,0,bc+1)) else pure (.yield (none,u,v - 1,o.push y,0,bc+1))
 | _=>pure (.done (some (hnA a b o u v),u,v,o,ac,bc))
noncomputable def hi5 (a b:Array Keyed) (u v:Nat) (o:Array Keyed) (g ac bc:Nat):SM (ForInStep H2):=do
 let x <- elem' a (u - 1)
 if (u - 1==0)=true then pure (.done (some (hnA a b (o.push x) (u - 1) v),u - 1,v,o.push x,g,ac,bc))
 else if (decide (ac<7)&&decide (bc<7))=true then pure (.done (none,u - 1,v,o.push x,g,ac,bc)) else pure (.yield (none,u - 1,v,o.push x,g,ac,bc))
noncomputable def hi4 (a b:Array Keyed) (u v:Nat) (o:Array Keyed) (g ac bc:Nat):SM (ForInStep H2):=do
 let y <- elem' b (v - 1)
 if (v - 1==1)=true then pure (.done (some (hnB a b (o.push y) u (v - 1)),u,v - 1,o.push y,g,ac,bc))
 else do
  let x <- elem' a (u - 1)
  let r <- a2g true x b 0 (v - 1) (v - 1 - 1)
  match r with
  | some p=>
   if v - 1 - p > 0 then
    if (p==1)=true then pure (.done (some (hnB a b (o.push y++(b.extract p (v - 1)).reverse) u p),u,p,o.push y++(b.extract p (v - 1)).reverse,g,ac,v - 1 - p))
    else if (p==0)=true then pure (.done (some (hnA a b (o.push y++(b.extract p (v - 1)).reverse) u p),u,p,o.push y++(b.extract p (v - 1)).reverse,g,ac,v - 1 - p))
    else hi5 a b u p (o.push y++(b.extract p (v - 1)).reverse) g ac (v - 1 - p)
   else hi5 a b u (v - 1) (o.push y) g ac (v - 1 - p)
  | _=>pure (.done (some (hnA a b (o.push y) u (v - 1)),u,v - 1,o.push y,g,ac,bc))
noncomputable def hi3 (a b:Array Keyed) (u v:Nat) (o:Array Keyed) (g ac bc:Nat):SM (ForInStep H2):=do
 a8x g
 let y <- elem' b (v - 1)
 let r <- a2g false y a 0 u (u - 1)
 match r with
 | some p=>
  if u - p > 0 then
   if (p==0)=true then pure (.done (some (hnA a b (o++(a.extract p u).reverse) p v),p,v,o++(a.extract p u).reverse,g,u - p,bc))
   else hi4 a b p v (o++(a.extract p u).reverse) g (u - p) bc
  else hi4 a b u v o g (u - p) bc
 | _=>pure (.done (some (hnA a b o u v),u,v,o,g,ac,bc))
def hi2 (a b:Array Keyed) (u v:Nat) (o:Array Keyed) (g ac bc:Nat):SM (ForInStep H2):=
 if g > 1 then hi3 a b u v o (g - 1) ac bc else hi3 a b u v o g ac bc
theorem a7z (a b:Array Keyed):a6K a b=(do
  liftM (rule "list.sort.merge-hi")
  let x <- elem' a (a.size - 1)
  if (a.size - 1==0)=true then pure (hnA a b #[x] (a.size - 1) b.size)
  else if (b.size==1)=true then pure (hnB a b #[x] (a.size - 1) b.size)
  else do
   let st <- get
   let c <- forIn [0:a.size+b.size] ((none,a.size - 1,b.size,#[x],mW st):Option (Array Keyed)×Nat×Nat×Array Keyed×Nat) λ_ c=>do
    let c1 <- forIn [0:a.size+b.size] ((none,c.2.1,c.2.2.1,c.2.2.2.1,0,0):H1) λ_ c1=>hi1 a b c.2.2.2.2 c1.2.1 c1.2.2.1 c1.2.2.2.1 c1.2.2.2.2.1 c1.2.2.2.2.2
    match c1.1 with
    | some r=>pure (ForInStep.done (some r,c1.2.1,c1.2.2.1,c1.2.2.2.1,c.2.2.2.2))
    | none=>do
     liftM (rule "list.sort.gallop")
     let c2 <- forIn [0:a.size+b.size] ((none,c1.2.1,c1.2.2.1,c1.2.2.2.1,c.2.2.2.2+1,c1.2.2.2.2.1,c1.2.2.2.2.2):H2) λ_ c2=>hi2 a b c2.2.1 c2.2.2.1 c2.2.2.2.1 c2.2.2.2.2.1 c2.2.2.2.2.2.1 c2.2.2.2.2.2.2
     match c2.1 with
     | some r=>pure (ForInStep.done (some r,c2.2.1,c2.2.2.1,c2.2.2.2.1,c2.2.2.2.2.1))
     | none=>do
      a8x (c2.2.2.2.2.1+1)
      pure (ForInStep.yield (none,c2.2.1,c2.2.2.1,c2.2.2.2.1,c2.2.2.2.2.1+1))
   match c.1 with
   | some r=>pure r
   | none=>mn "internal:list.sort.merge-bound"):=by
 refine bind_congr λ_=>bind_congr λy=>?_;dsimp only
 congr 1
 congr 1
 refine bind_congr λi=>?_;refine bd2 ?_ λc=>?_
 ·congr 1
  funext x c
  obtain⟨r,u,v,o,g⟩:=c;dsimp only;refine bd2 ?_ λd=>?_
  ·congr 1
  ·obtain⟨r,u,v,o,h,f⟩:=d;cases r with
   | some r=>rfl
   | none=>
    refine bind_congr λ_=>?_;refine bd2 ?_ λe=>?_
    ·congr 1
    ·obtain⟨r,u,v,o,g,h,f⟩:=e;cases r<;>rfl
 ·obtain⟨r,u,v,o,g⟩:=c;cases r<;>rfl
end Tim
namespace Tim
open PySem PyProof.Rows
section
variable {κ:KF}{A B o:List Keyed}{u v:Nat}{p:Keyed}
structure MH (κ:KF) (A B o:List Keyed) (u v:Nat):Prop where
 ia:u≤A.length
 jb:v≤B.length
 pm:(A.take u++B.take v++o.reverse).Perm (A++B)
 so:Srt κ o.reverse
 ba:∀ x∈o,∀ y∈A.take u,κ y≤κ x
 bb:∀ x∈o,∀ y∈B.take v,κ y≤κ x
theorem a8z {l:List Keyed}(h:l[n]?=some p):l.take (n+1)=l.take n++[p]:=by
 rw[fH,h];rfl
theorem a2y (h:Srt κ l) (n:Nat):Srt κ (l.take n):=gi.sublist (gI n l) h
theorem a25 (h:Srt κ l) (e:l[n]?=some p):∀ y∈l.take (n+1),κ y≤κ p:=λy a=>by
 have b:=a2y h (n+1);rw[a8z e]at b a;rcases dU.mp a with a | a
 ·exact (eM.mp b).2.2 y a p (by simp)
 ·simp_all
theorem MH.pushA (W:MH κ A B o (u+1) v) (sa:Srt κ A) (hp:A[u]?=some p) (hb:∀ y∈B.take v,κ y≤κ p):MH κ A B (o++[p]) u v:=by
 have c:=a8z hp;have d:=(eq.mp hp).1;refine⟨by omega,W.jb,?_,?_,λx b y a=>?_,λx b y a=>?_⟩
 ·have:=W.pm
  rw[c]at this;refine eN.trans ?_ this;rw[fX,gF];simp;refine eN.append_left _ ?_;exact jq
 ·rw[fX,gF,iH];refine eH.mpr ⟨λx b=>?_,W.so⟩;exact W.ba x (by simpa using b) p (by rw[c];simp)
 ·rcases dU.mp b with h | h
  ·exact W.ba x h y (by simp_all)
  ·rw[dX.mp h];exact a25 sa hp y (by simp_all)
 ·rcases dU.mp b with h | h
  ·exact W.bb x h y a
  ·simp_all
theorem MH.pushB (W:MH κ A B o u (v+1)) (sb:Srt κ B) (hp:B[v]?=some p) (hb:∀ y∈A.take u,κ y≤κ p):MH κ A B (o++[p]) u v:=by
 have c:=a8z hp;have d:=(eq.mp hp).1;refine⟨W.ia,by omega,?_,?_,λx b y a=>?_,λx b y a=>?_⟩
 ·have:=W.pm
  rw[c]at this;refine eN.trans ?_ this;rw[fX,gF];simp only[eO];exact eN.refl _
 ·rw[fX,gF,iH];refine eH.mpr ⟨λx b=>?_,W.so⟩;exact W.bb x (by simp_all) p (by simp_all)
 ·rcases dU.mp b with h | h
  ·exact W.ba x h y a
  ·rw[dX.mp h];exact hb y a
 ·rcases dU.mp b with h | h
  ·exact W.bb x h y (by simp_all)
  ·rw[dX.mp h];exact a25 sb hp y (by simp_all)
theorem MH.runA (sa:Srt κ A):∀ (k:Nat) {o:List Keyed},MH κ A B o (u+k) v->(∀ q z,u≤q->q<u+k->A[q]?=some z->∀ y∈B.take v,κ y≤κ z)->MH κ A B (o++((A.drop u).take k).reverse) u v
 | 0,o,W,_=>by simpa using W
 | k+1,o,W,hz=>by
  have a:u+k<A.length:=by have:=W.ia;omega
  have e:=et a;have b:=MH.pushA W sa e (hz _ _ (by simp) (by simp) e);have d:=MH.runA sa k b λq z c f=>hz q z c (by omega);rw[take_snoc e,fX,gF,<- eO];exact d
theorem MH.runB (sb:Srt κ B):∀ (k:Nat) {o:List Keyed},MH κ A B o u (v+k)->(∀ q z,v≤q->q<v+k->B[q]?=some z->∀ y∈A.take u,κ y≤κ z)->MH κ A B (o++((B.drop v).take k).reverse) u v
 | 0,o,W,_=>by simpa using W
 | k+1,o,W,hz=>by
  have a:v+k<B.length:=by have:=W.jb;omega
  have e:=et a;have b:=MH.pushB W sb e (hz _ _ (by simp) (by simp) e);have d:=MH.runB sb k b λq z c f=>hz q z c (by omega);rw[take_snoc e,fX,gF,<- eO];exact d
theorem MH.doneA (W:MH κ A B o u v) (sa:Srt κ A) (sb:Srt κ B) (h:u=0\/v=0):Mgd κ A B (A.take u++B.take v++o.reverse):=by
 refine⟨W.pm,?_⟩;refine eM.mpr ⟨eM.mpr ⟨a2y sa u,a2y sb v,λx b y c=>?_⟩,W.so,λx b y c=>?_⟩
 ·rcases h with rfl | rfl
  ·simp_all
  ·simp_all
 ·have a:y∈o:=by simpa using c
  rcases dU.mp b with h | h
  ·exact W.ba y a x h
  ·exact W.bb y a x h
theorem MH.doneB (W:MH κ A B o u 1) (sa:Srt κ A) (sb:Srt κ B) (hf:∀ z,B[0]?=some z->∀ y∈A,κ z≤κ y):Mgd κ A B (B.take 1++A.take u++o.reverse):=by
 refine⟨?_,?_⟩
 ·refine eN.trans ?_ W.pm;exact eN.append_right _ jr
 ·refine eM.mpr ⟨eM.mpr ⟨a2y sb 1,a2y sa u,λx a y c=>?_⟩,W.so,λx a y c=>?_⟩
  ·cases B with
   | nil=>simp at a
   | cons z B=>
    have:x=z:=by simpa using a
    subst this;exact hf x rfl y (fB c)
  ·have b:y∈o:=by simpa using c
   rcases dU.mp a with h | h
   ·exact W.bb y b x h
   ·exact W.ba y b x h
end
section
variable {κ:KF}{a b o:Array Keyed}{u v:Nat}
theorem a3M:(hnA a b o u v).toList=a.toList.take u++b.toList.take v++o.toList.reverse:=by
 simp
theorem a43:(hnB a b o u v).toList=b.toList.take v++a.toList.take u++o.toList.reverse:=by
 simp
theorem a9c:(o++(a.extract p u).reverse).toList=o.toList++((a.toList.drop p).take (u - p)).reverse:=by
 simp[im]
end
structure RdH (κ:KF) (a b o:Array Keyed) (u v:Nat):Prop where
 w:MH κ a.toList b.toList o.toList u v
 hu:1≤u
 hv:2≤v
section
variable {M:Model}{A:Around}{E:Value->Shared->Prop}{s:Shared}{κ:KF}{k0:kF}{a₀ a b o:Array Keyed}{st:SortSt}{u v g ac bc:Nat}
theorem RdH.ua (R:RdH κ a b o u v):u≤a.size:=by have:=R.w.ia;rwa [a1F]at this
theorem RdH.vb (R:RdH κ a b o u v):v≤b.size:=by have:=R.w.jb;rwa [a1F]at this
theorem MC.first (C:MC M A E s κ k0 a₀ a b):∀ z,b.toList[0]?=some z->∀ y∈a.toList,κ z≤κ y:=λz c y d=>by
 have:=C.hf y d
 rwa [a5m c]at this
theorem c0k (C:MC M A E s κ k0 a₀ a b) (hk:kindOf st=k0) (R:RdH κ a b o (u+1) (v+1))
  (dn:∀ r c,Mgd κ a.toList b.toList r.toList->Q (.done (some r,c)) st)
  (br:∀ o' u' v' x y,RdH κ a b o' u' v'->u'+v'=u+v+1->Q (.done (none,u',v',o',x,y)) st)
  (go:∀ o' u' v' x y,RdH κ a b o' u' v'->u'+v'=u+v+1->Q (.yield (none,u',v',o',x,y)) st):wpS M A E s (hi1 a b g (u+1) (v+1) o ac bc) Q st:=by
 have q:=R.ua;have t:=R.vb;have m:=R.hu;have p:=R.hv;have l:b[v]?=some b[v]:=getElem?_pos ..;have n:a[u]?=some a[u]:=getElem?_pos ..;have j:=a1g (a:=b) (i:=v) (by omega);have k:=a1g (a:=a) (i:=u) (by omega);unfold hi1;simp only[iI];refine j1 (a0X l (j1 (a0X n (j1 ?_))));refine C.L _ _ (C.hb _ (eI j)) (C.ha _ (eI k)) st _ hk ?_;dsimp only
 by_cases c:κ b[v]<κ a[u]
 ·rw[if_pos (decide_eq_true c)];refine j1 (a0X n ?_);have d:=R.w.pushA C.sa k λy h=>eX (a25 C.sb j y h) (fA c);rw[<- fb]at d
  by_cases e:u=0
  ·rw[if_pos (by simpa using e)];exact j3 (dn _ _ (by rw[a3M];exact d.doneA C.sa C.sb (.inl e)))
  ·rw[if_neg (by simpa using e)];have f:RdH κ a b (o.push a[u]) u (v+1):=⟨d,by omega,p⟩
   split
   ·exact j3 (br _ _ _ _ _ f (by omega))
   ·exact j3 (go _ _ _ _ _ f (by omega))
 ·rw[if_neg (by simpa using c)];refine j1 (a0X l ?_);have d:=R.w.pushB C.sb j λy h=>eX (a25 C.sa k y h) (io.mp c);rw[<- fb]at d
  by_cases e:v=1
  ·rw[if_pos (by simpa using e)];subst e;exact j3 (dn _ _ (by rw[a43];exact d.doneB C.sa C.sb C.first))
  ·rw[if_neg (by simpa using e)];have f:RdH κ a b (o.push b[v]) (u+1) v:=⟨d,m,by omega⟩
   split
   ·exact j3 (br _ _ _ _ _ f (by omega))
   ·exact j3 (go _ _ _ _ _ f (by omega))
structure HG (st:SortSt) (κ:KF) (a b:Array Keyed) (n:Nat) (Q:ForInStep H2->SortSt->Prop):Prop where
 dn:∀ r c st',SG st st'->Mgd κ a.toList b.toList r.toList->Q (.done (some r,c)) st'
 br:∀ o' u' v' x y z st',SG st st'->RdH κ a b o' u' v'->u'+v'<n->Q (.done (none,u',v',o',x,y,z)) st'
 go:∀ o' u' v' x y z st',SG st st'->RdH κ a b o' u' v'->u'+v'<n->Q (.yield (none,u',v',o',x,y,z)) st'
theorem b79 (C:MC M A E s κ k0 a₀ a b) (R:RdH κ a b o (u+1) v) (hle:∀ y∈b.toList.take v,κ y≤Kk κ a u) (H:HG st κ a b n Q) (hn:u+v<n):wpS M A E s (hi5 a b (u+1) v o g ac bc) Q st:=by
 have k:=R.ua;have f:=R.hv;have j:a[u]?=some a[u]:=getElem?_pos ..;have h:=a1g (a:=a) (i:=u) (by omega);rw[a1s (show u<a.size by omega)]at hle;unfold hi5;simp only[iI];refine j1 (a0X j ?_);have c:=R.w.pushA C.sa h hle;rw[<- fb]at c
 by_cases e:u=0
 ·rw[if_pos (by simpa using e)];exact j3 (H.dn _ _ _ (SG.refl _) (by rw[a3M];exact c.doneA C.sa C.sb (.inl e)))
 ·rw[if_neg (by simpa using e)];have d:RdH κ a b _ u v:=⟨c,by omega,f⟩
  split
  ·exact j3 (H.br _ _ _ _ _ _ _ (SG.refl _) d (by omega))
  ·exact j3 (H.go _ _ _ _ _ _ _ (SG.refl _) d (by omega))
theorem a3s {l:List Keyed}(h:y∈l.take n):∃ q,q<n/\l[q]?=some y:=by
 obtain⟨m,a⟩:=fq h;have b:=(eq.mp a).1;rw[ip]at a
 split at a
 ·exact⟨m,by omega,a⟩
 ·grind
theorem b8a (C:MC M A E s κ k0 a₀ a b) (hk:kindOf st=k0) (R:RdH κ a b o (u+1) (v+1)) (hle:∀ y∈a.toList.take (u+1),κ y≤Kk κ b v) (H:HG st κ a b n Q) (hn:u+v<n):wpS M A E s (hi4 a b (u+1) (v+1) o g ac bc) Q st:=by
 have I:=R.ua;have G:=R.vb;have F:=R.hv;have B:b[v]?=some b[v]:=getElem?_pos ..;have x:=a1g (a:=b) (i:=v) (by omega);have t:a[u]?=some a[u]:=getElem?_pos ..;have r:=a1g (a:=a) (i:=u) (by omega);rw[a1s (show v<b.size by omega)]at hle;unfold hi4;simp only[iI];refine j1 (a0X B ?_);have d:=R.w.pushB C.sb x hle;rw[<- fb]at d
 by_cases e:v=1
 ·rw[if_pos (by simpa using e)];subst e;exact j3 (H.dn _ _ _ (SG.refl _) (by rw[a43];exact d.doneB C.sa C.sb C.first))
 ·rw[if_neg (by simpa using e)];refine j1 (a0X t (j1 ?_));refine a24 C.L hk (C.ha _ (eI r)) C.hb (by omega) (by omega) (a3L C.sb (by omega)) λp D j h=>?_;dsimp only;simp only[iq]at j h;have c:∀ y∈b.toList.take p,κ y≤Kk κ a u:=λy k=>by
   obtain⟨q,m,l⟩:=a3s k
   have:=j q m
   rw[a5m l]at this;simp[bq]at this;rw[a1s (show u<a.size by omega)];omega
  split
  ·have f:=MH.runB C.sb (v - p) (by rw[show p+(v - p)=v by omega];exact d) λq z m J l y k=>by
    have:=h q m (by omega)
    rw[a5m l]at this;simp[bq]at this;exact eX (a25 C.sa r y k) this
   rw[<- a9c]at f
   by_cases e1:p=1
   ·rw[if_pos (by simpa using e1)];subst e1;exact j3 (H.dn _ _ _ (SG.refl _) (by rw[a43];exact f.doneB C.sa C.sb C.first))
   ·rw[if_neg (by simpa using e1)]
    by_cases e2:p=0
    ·rw[if_pos (by simpa using e2)];exact j3 (H.dn _ _ _ (SG.refl _) (by rw[a3M];exact f.doneA C.sa C.sb (.inr e2)))
    ·rw[if_neg (by simpa using e2)];exact b79 C ⟨f,by omega,by omega⟩ c H (by omega)
  ·have:p=v:=by omega
   subst this;exact b79 C ⟨d,by omega,by omega⟩ c H (by omega)
theorem c0l (C:MC M A E s κ k0 a₀ a b) (hk:kindOf st=k0) (R:RdH κ a b o (u+1) (v+1)) (H:HG st κ a b n Q) (hn:u+v<n):wpS M A E s (hi3 a b (u+1) (v+1) o g ac bc) Q st:=by
 have S:=R.ua;have N:=R.vb;have F:=R.hv;have I:b[v]?=some b[v]:=getElem?_pos ..;have D:=a1g (a:=b) (i:=v) (by omega);unfold hi3;rw[a6J];refine j1 (kE ?_);have h:SG st (SortSt.mk' _ _ _ g _):=⟨rfl,rfl,rfl,rfl⟩;have e:kindOf (SortSt.mk' _ (arrOf st) (kb st) g (kz st))=k0:=hk;generalize SortSt.mk' _ (arrOf st) (kb st) g (kz st)=st1 at h e;have l:HG st1 κ a b n Q:=⟨λr c d g=>H.dn r c d (h.trans g),λ_ _ _ _ _ _ d g=>H.br _ _ _ _ _ _ d (h.trans g),λ_ _ _ _ _ _ d g=>H.go _ _ _ _ _ _ d (h.trans g)⟩;refine j1 (a0X I (j1 ?_));refine a24 C.L e (C.hb _ (eI D)) C.ha (by omega) (by omega) (a3L C.sa (by omega)) λp J k j=>?_;dsimp only;simp at k j;have f:∀ y∈a.toList.take p,κ y≤Kk κ b v:=λy m=>by
  obtain⟨q,B,x⟩:=a3s m
  have:=k q B
  rw[a5m x]at this;simp[bq]at this;rw[a1s _];omega
 split
 ·have t:=MH.runA C.sa _ (by rw[show p+(u+1 - p)=u+1 by omega];exact R.w) λq z B T x y m=>by
   have:=j q B (by omega)
   rw[a5m x]at this;simp[bq]at this;exact eX (a25 C.sb D y m) (fA this)
  rw[<- a9c]at t
  by_cases e1:p=0
  ·rw[if_pos (by simpa using e1)];exact j3 (l.dn _ _ _ (SG.refl _) (by rw[a3M];exact t.doneA C.sa C.sb (.inl e1)))
  ·rw[if_neg (by simpa using e1)];obtain⟨G,rfl⟩:∃ G,p=G+1:=⟨p - 1,by omega⟩;exact b8a C e ⟨t,by omega,F⟩ f l (by omega)
 ·have:p=u+1:=by omega
  subst this;exact b8a C e R f l (by omega)
theorem c0m (C:MC M A E s κ k0 a₀ a b) (hk:kindOf st=k0) (R:RdH κ a b o (u+1) (v+1)) (H:HG st κ a b n Q) (hn:u+v<n):wpS M A E s (hi2 a b (u+1) (v+1) o g ac bc) Q st:=by
 unfold hi2
 split<;>exact c0l C hk R H hn
theorem b3p (C:MC M A E s κ k0 a₀ a b):MH κ a.toList b.toList [a[a.size - 1]'(by have:=C.h0;omega)] (a.size - 1) b.size:=by
 have f:=C.h0;have c:=a1g (a:=a) (i:=a.size - 1) (by omega);have d:MH κ a.toList b.toList [] (a.size - 1+1) b.size:=⟨by rw[a1F];omega,by rw[a1F];omega,by rw[fD (by rw[a1F];omega),fD (by rw[a1F];omega)];simp,.nil,λx h=>by simp at h,λx h=>by simp at h⟩;exact d.pushA C.sa c λy e=>C.hl _ (by simp) y (fB e)
theorem b1N (C:MC M A E s κ k0 a₀ a b) (hk:kindOf st=k0)
  (h:∀ r st',SG st st'->Mgd κ a.toList b.toList r.toList->Q r st'):wpS M A E s (a6K a b) Q st:=by
 have h0:=C.h0;have h1:=C.h1;rw[a7z];refine a6e ?_;refine j1 (a0X (getElem?_pos a (a.size - 1) (by omega)) ?_);have V:=b3p C
 by_cases e1:a.size - 1=0
 ·rw[if_pos (by simpa using e1)];exact j3 (h _ _ (SG.refl _) (by rw[a3M];exact V.doneA C.sa C.sb (.inl e1)))
 rw[if_neg (by simpa using e1)]
 by_cases e2:b.size=1
 ·rw[if_pos (by simpa using e2)];refine j3 (h _ _ (SG.refl _) ?_);rw[e2]at V;rw[a43,e2];exact V.doneB C.sa C.sb C.first
 rw[if_neg (by simpa using e2)];refine j1 (kG ?_);have R0:RdH κ a b #[a[a.size - 1]] (a.size - 1) b.size:=⟨V,by omega,by omega⟩;refine j1 (kt (ko (I:=λx c e=>∃ o u v g,c=(none,u,v,o,g)/\SG st e/\RdH κ a b o u v/\x+(u+v)<a.size+b.size)
  (Q:=λc e=>∃ r G,c=(some r,G)/\SG st e/\Mgd κ a.toList b.toList r.toList) ?step ?fin ⟨_,_,_,_,rfl,SG.refl _,R0,by omega⟩) ?post)
 case post=>
  rintro c e ⟨r,G,rfl,L,m⟩;exact j3 (h r e L m)
 case fin=>
  rintro c e ⟨o,u,v,g,rfl,L,R,hx⟩;omega
 case step=>
  rintro x c e _ hx ⟨o,u,v,g,rfl,L,R,hxi⟩;dsimp only;have hk1:kindOf e=k0:=L.kd.trans hk;refine j1 (kt (ko (I:=λy c l=>∃ D f i S J,c=(none,f,i,D,S,J)/\l=e/\RdH κ a b D f i/\f+i+y≤u+v)
   (Q:=λc l=>l=e/\((∃ r G,c=(some r,G)/\Mgd κ a.toList b.toList r.toList)\/∃ D f i S J,c=(none,f,i,D,S,J)/\RdH κ a b D f i/\f+i≤u+v)) ?st1 ?fi1 ⟨_,_,_,_,_,rfl,rfl,R,by omega⟩) ?po1)
  case fi1=>
   rintro c l ⟨D,f,i,S,J,rfl,rfl,H,Y⟩;exact⟨rfl,.inr ⟨_,_,_,_,_,rfl,H,by omega⟩⟩
  case st1=>
   rintro y c l _ Y ⟨D,f,i,S,J,rfl,rfl,H,hyi⟩;dsimp only;have hu1:=H.hu;have hv1:=H.hv;obtain⟨f,rfl⟩:∃ z,f=z+1:=⟨f - 1,by omega⟩;obtain⟨i,rfl⟩:∃ z,i=z+1:=⟨i - 1,by omega⟩;refine c0k C hk1 H (λr c m=>⟨rfl,.inl ⟨r,c,rfl,m⟩⟩) (λo2 i2 j2 u v R2 U=>⟨rfl,.inr ⟨_,_,_,_,_,rfl,R2,by omega⟩⟩) λo2 i2 j2 u v R2 U=>⟨_,_,_,_,_,rfl,rfl,R2,by omega⟩
  case po1=>
   rintro c l ⟨rfl,⟨r,G,rfl,m⟩ | ⟨D,f,i,S,J,rfl,H,hij⟩⟩
   ·exact j3 ⟨r,_,rfl,L,m⟩
   ·dsimp only;refine a6e ?_;refine j1 (kt (ko (I:=λy c p=>∃ B k j N q t,c=(none,k,j,B,N,q,t)/\SG st p/\RdH κ a b B k j/\k+j+y≤f+i)
     (Q:=λc p=>SG st p/\((∃ r G,c=(some r,G)/\Mgd κ a.toList b.toList r.toList)\/∃ B k j N q t,c=(none,k,j,B,N,q,t)/\RdH κ a b B k j/\k+j<f+i)) ?l ?fi2 ⟨_,_,_,_,_,_,rfl,L,H,by omega⟩) ?po2)
    case fi2=>
     rintro c p ⟨B,k,j,N,q,t,rfl,d,F,Y⟩;exact⟨d,.inr ⟨_,_,_,_,_,_,rfl,F,by have:=F.hu;omega⟩⟩
    case l=>
     rintro y c p _ Y ⟨B,k,j,N,q,t,rfl,d,F,hyi⟩;dsimp only;have hu1:=F.hu;have hv1:=F.hv;obtain⟨k,rfl⟩:∃ z,k=z+1:=⟨k - 1,by omega⟩;obtain⟨j,rfl⟩:∃ z,j=z+1:=⟨j - 1,by omega⟩;refine c0m (n:=k+1+(j+1)) C (d.kd.trans hk) F ⟨λr c W T m=>⟨d.trans T,.inl ⟨r,c,rfl,m⟩⟩,λo4 i4 j4 u v w W T X U=>⟨d.trans T,.inr ⟨_,_,_,_,_,_,rfl,X,by omega⟩⟩,λo4 i4 j4 u v w W T X U=>⟨_,_,_,_,_,_,rfl,d.trans T,X,by omega⟩⟩ (by omega)
    case po2=>
     rintro c p ⟨d,⟨r,G,rfl,m⟩ | ⟨B,k,j,N,q,t,rfl,F,U⟩⟩
     ·exact j3 ⟨r,_,rfl,d,m⟩
     ·dsimp only;rw[a6J];refine j1 (kE (j3 ?_));exact⟨_,_,_,_,rfl,⟨d.kd,d.ar,d.pe,d.fl⟩,F,by omega⟩
end
end Tim
namespace Tim
open PySem PyProof.Rows
def SR (κ:KF) (xs:Array Keyed) (lo n:Nat):Prop:=∀ i j,i≤j->j<n->Kk κ xs (lo+i)≤Kk κ xs (lo+j)
def NR (κ:KF) (xs:Array Keyed) (lo n:Nat):Prop:=∀ i j,i≤j->j<n->Kk κ xs (lo+j)≤Kk κ xs (lo+i)
structure Ar (st st':SortSt) (lo:Nat):Prop where
 pm:(arrOf st').Perm (arrOf st)
 pre:∀ i,i<lo->(arrOf st')[i]?=(arrOf st)[i]?
 kd:kindOf st'=kindOf st
 pe:kb st'=kb st
 fl:kz st'=kz st
section
variable {M:Model}{A:Around}{E:Value->Shared->Prop}{s:Shared}{κ:KF}{k0:kF}{a₀:Array Keyed}{st st':SortSt}{lo:Nat}
theorem Ar.refl (st:SortSt) (lo:Nat):Ar st st lo:=⟨iJ.refl _,λ_ _=>rfl,rfl,rfl,rfl⟩
theorem Ar.trans (p:Ar x y lo) (q:Ar y z lo):Ar x z lo:=⟨q.pm.trans p.pm,λi h=>(q.pre i h).trans (p.pre i h),q.kd.trans p.kd,q.pe.trans p.pe,q.fl.trans p.fl⟩
theorem Ar.tb (q:Ar st st' lo) (B:TB k0 a₀ st):TB k0 a₀ st':=⟨q.pm.trans B.pm,q.kd.trans B.kd,q.fl.trans B.fl⟩
theorem b4z (hs:src<xs.size) (hd:d≤src) (k:Nat) :
  Kk κ (bubble xs src d) k=if k=src - d then Kk κ xs src else if src - d<k/\k≤src then Kk κ xs (k - 1) else Kk κ xs k:=by
 have q:=getElem?_bubble hs d hd k
 by_cases h1:k=src - d
 ·rw[if_pos h1]at q ⊢;exact a5l q
 ·rw[if_neg h1]at q ⊢
  by_cases h2:src - d<k/\k≤src
  ·rw[if_pos h2]at q ⊢;exact a5l q
  ·rw[if_neg h2]at q ⊢;exact a5l q
theorem Ar.bub (hs:src<(arrOf st).size) (hd:d≤src) (h:lo≤src - d):Ar st (setArr st (bubble (arrOf st) src d)) lo:=
 ⟨bubble_perm _ _ _,λi a=>by
  rw[getElem?_bubble hs d hd,if_neg (by omega),if_neg (by omega)],rfl,rfl,rfl⟩
theorem b1O (hj:j≤xs.size) (k:Nat):Kk κ (mirror xs i j ((j - i) / 2)) k=if i≤k/\k<j then Kk κ xs (i+j - 1 - k) else Kk κ xs k:=by
 have q:=getElem?_mirror_all (i:=i) hj k
 by_cases h1:i≤k/\k<j
 ·rw[if_pos h1]at q ⊢;exact a5l q
 ·rw[if_neg h1]at q ⊢;exact a5l q
theorem a5n (hj:j≤xs.size) (hq:∀ k,i≤k->k<j->Kk κ xs k=Kk κ xs (j - 1)) (k:Nat):Kk κ (mirror xs i j ((j - i) / 2)) k=Kk κ xs k:=by
 rw[b1O hj]
 split
 ·grind
 ·rfl
theorem Ar.mir (hj:j≤(arrOf st).size) (h:lo≤i):Ar st (setArr st (mirror (arrOf st) i j ((j - i) / 2))) lo:=
 ⟨mirror_perm _ _ _ _,λk a=>by
  rw[getElem?_mirror_all hj,if_neg (by omega)],rfl,rfl,rfl⟩
theorem b3q (L:LtOk M A E s κ k0 a₀) (B:TB k0 a₀ st) (hn:lo+n≤a₀.size) (hok:ok≤n) (hs:SR κ (arrOf st) lo ok)
  (h:∀ st',Ar st st' lo->SR κ (arrOf st') lo n->Q true st'):wpS M A E s (binarySort' lo n ok) Q st:=by
 rw[binarySort'_eq];refine j1 (kt (ko (I:=λk c z=>c=(none,())/\Ar st z lo/\SR κ (arrOf z) lo (min k n)) (Q:=λc z=>c=(none,())/\Ar st z lo/\SR κ (arrOf z) lo n) ?step ?fin ?init) ?post)
 case post=>
  rintro c z ⟨rfl,r1,r2⟩;exact j3 (h z r1 r2)
 case init=>
  refine⟨rfl,Ar.refl _ _,λi j hij hj=>?_⟩
  by_cases h1:ok=0
  ·have:i=j:=by omega
   rw[this];exact fz _
  ·exact hs i j hij (by omega)
 case fin=>
  rintro c z ⟨hc,r1,r2⟩;refine⟨hc,r1,?_⟩
  rwa [show min (max (max ok 1) n) n=n by omega]at r2
 case step=>
  rintro k c z hak hkn ⟨rfl,r1,r2⟩;rw[show min k n=k by omega]at r2;have B1:=r1.tb B;refine j1 (kt (ko (I:=λx c y=>y=z/\∃ p q,c=(none,p,q)/\p≤q/\q≤k/\q - p≤k - x/\(∀ i,i<p->Kk κ (arrOf z) (lo+i)≤Kk κ (arrOf z) (lo+k))/\(∀ i,q≤i->i<k->Kk κ (arrOf z) (lo+k)<Kk κ (arrOf z) (lo+i)))
   (Q:=λc y=>y=z/\∃ p q,c=(none,p,q)/\p≤k/\(∀ i,i<p->Kk κ (arrOf z) (lo+i)≤Kk κ (arrOf z) (lo+k))/\(∀ i,p≤i->i<k->Kk κ (arrOf z) (lo+k)<Kk κ (arrOf z) (lo+i))) ?istep ?ifin ?iinit) ?ipost)
  case iinit=>exact⟨rfl,0,k,rfl,by omega,by omega,by omega,λi hi=>by omega,λi h1 h2=>by omega⟩
  case ifin=>
   rintro c y ⟨rfl,p,q,rfl,u1,u2,u3,u4,u5⟩
   have:p=q:=by omega
   subst this;exact⟨rfl,p,p,rfl,u2,u4,u5⟩
  case istep=>
   rintro x c y _ hxk ⟨rfl,p,q,rfl,u1,u2,u3,u4,u5⟩;dsimp only
   by_cases hge:p≥q
   ·rw[if_pos hge]
    have:p=q:=by omega
    subst this;exact j3 ⟨rfl,p,p,rfl,u2,u4,u5⟩
   ·rw[if_neg hge];refine j1 (a7x L B1 (by omega) (by omega) ?_)
    by_cases hless:Kk κ (arrOf y) (lo+k)<Kk κ (arrOf y) (lo+(p+q) / 2)
    ·simp only[hless,decide_true,if_true];refine j3 ⟨rfl,p,(p+q) / 2,rfl,by omega,by omega,by omega,u4,λi h1 h2=>?_⟩;exact Int.lt_of_lt_of_le hless (r2 _ _ h1 h2)
    ·simp only[hless,decide_false,gR,if_false];refine j3 ⟨rfl,(p+q) / 2+1,q,rfl,by omega,by omega,by omega,λi h1=>?_,u5⟩;exact eX (r2 i ((p+q) / 2) (by omega) (by omega)) (io.mp hless)
  case ipost=>
   rintro c y ⟨rfl,p,q,rfl,u2,u4,u5⟩
   show wpS _ _ _ _ (do moveDown' (lo+k) (lo+p);pure (ForInStep.yield (none,()))) _ _
   rw[moveDown'_eq];have hks:lo+k<(arrOf y).size:=by rw[B1.sz];omega
   refine j1 (kE (j3 ⟨rfl,r1.trans (Ar.bub hks (by omega) (by omega)),?_⟩));rw[show min (k+1) n=k+1 by omega];intro i j hij hj
   show Kk κ (bubble (arrOf y) (lo+k) (lo+k - (lo+p))) (lo+i)≤Kk κ (bubble (arrOf y) (lo+k) (lo+k - (lo+p))) (lo+j)
   rw[b4z hks (by omega),b4z hks (by omega),show lo+k - (lo+k - (lo+p))=lo+p by omega];have ek:∀ t,1≤t->lo+t - 1=lo+(t - 1):=λt ht=>by omega
   repeat' split
   all_goals first
    | (exfalso;omega)
    | exact fz _
    | exact u4 _ (by omega)
    | (rw[ek _ (by omega)];exact u4 _ (by omega))
    | exact fA (u5 _ (by omega) (by omega))
    | (rw[ek _ (by omega)];exact fA (u5 _ (by omega) (by omega)))
    | exact r2 _ _ (by omega) (by omega)
    | (rw[ek j (by omega)];exact r2 _ _ (by omega) (by omega))
    | (rw[ek i (by omega)];exact r2 _ _ (by omega) (by omega))
    | (rw[ek i (by omega),ek j (by omega)];exact r2 _ _ (by omega) (by omega))
end
end Tim
namespace Tim
open PySem PyProof.Rows
abbrev U1:=Option (Option Nat)×Nat
abbrev U2:=Option (Option Nat)×Nat×Nat
def rise (lo p nr:Nat):SM U1:=forIn [p:nr] ((none,p):U1) λ_ c=>do
 let x <- ltAt' (lo+c.2) (lo+c.2 - 1)
 match x with
 | some sm=>if sm=true then pure (.done (none,c.2)) else pure (.yield (none,c.2+1))
 | _=>pure (.done (some none,c.2))
noncomputable def fin3 (lo n nr:Nat):SM (Option Nat):=do
 lK lo (lo+n)
 let c <- rise lo n nr
 match c.1 with
 | some r=>pure r
 | none=>pure (some c.2)
noncomputable def fall (lo n nr:Nat):SM U2:=forIn [n:nr] ((none,n,0):U2) λ_ c=>do
 let x <- ltAt' (lo+c.2.1) (lo+c.2.1 - 1)
 match x with
 | some sm=>
  if sm=true then
   if c.2.2 > 0 then do
    lK (lo+c.2.1 - (c.2.2+1)) (lo+c.2.1)
    pure (.yield (none,c.2.1+1,0))
   else pure (.yield (none,c.2.1+1,0))
  else do
   let x <- ltAt' (lo+c.2.1 - 1) (lo+c.2.1)
   match x with
   | some lg=>if lg=true then pure (.done (none,c.2.1,c.2.2)) else pure (.yield (none,c.2.1+1,c.2.2+1))
   | _=>pure (.done (some none,c.2.1,c.2.2))
 | _=>pure (.done (some none,c.2.1,c.2.2))
noncomputable def part (lo n nr:Nat):SM (Option Nat):=do
 liftM (rule "list.sort.descending-run")
 let c <- fall lo (n+1) nr
 match c.1 with
 | some r=>pure r
 | none=>
  if c.2.2 > 0 then do
   lK (lo+c.2.1 - (c.2.2+1)) (lo+c.2.1)
   fin3 lo c.2.1 nr
  else fin3 lo c.2.1 nr
theorem a6L (lo nr:Nat):countRun' lo nr=(do
  let c <- rise lo 1 nr
  match c.1 with
  | some r=>pure r
  | none=>
   if (c.2==nr)=true then pure (some c.2)
   else if c.2 > 1 then do
    let x <- ltAt' lo (lo+c.2 - 1)
    match x with
    | some up=>if up=true then pure (some c.2) else do
      lK lo (lo+c.2)
      part lo c.2 nr
    | _=>pure none
   else part lo c.2 nr):=by
 have a:∀ n,(do
   lK lo (lo+n)
   let c <- rise lo n nr
   match c.1 with
   | some r=>pure r
   | none=>pure (some c.2))=fin3 lo n nr:=λn=>rfl
 rw[countRun'_eq];refine bd2 rfl λc=>?_;obtain⟨r,n⟩:=c;have b:∀ n,part lo n nr=part lo n nr:=λn=>rfl;cases r with
 | some r=>rfl
 | none=>
  dsimp only
  split
  ·rfl
  ·split
   ·refine bind_congr λx=>?_;cases x with
    | none=>rfl
    | some up=>
     dsimp only
     split
     ·rfl
     ·refine bind_congr λ_=>bind_congr λ_=>bd2 rfl λc=>?_;obtain⟨r,n,q⟩:=c;cases r with
      | some r=>rfl
      | none=>
       dsimp only
       split
       ·refine bind_congr λ_=>bind_congr λ_=>bd2 rfl λc=>?_;obtain⟨r,n⟩:=c;cases r<;>rfl
       ·refine bind_congr λ_=>bd2 rfl λc=>?_;obtain⟨r,n⟩:=c;cases r<;>rfl
   ·refine bind_congr λ_=>bd2 rfl λc=>?_;obtain⟨r,n,q⟩:=c;cases r with
    | some r=>rfl
    | none=>
     dsimp only
     split
     ·refine bind_congr λ_=>bind_congr λ_=>bd2 rfl λc=>?_;obtain⟨r,n⟩:=c;cases r<;>rfl
     ·refine bind_congr λ_=>bd2 rfl λc=>?_;obtain⟨r,n⟩:=c;cases r<;>rfl
section
variable {M:Model}{A:Around}{E:Value->Shared->Prop}{s:Shared}{κ:KF}{k0:kF}{a₀:Array Keyed}{st:SortSt}{lo nr:Nat}
theorem b3r {α:Type}{f:Unit->SM α}{Q:α->SortSt->Prop}(h:wpS M A E s (f ()) Q (setArr st (mirror (arrOf st) i j ((j - i) / 2)))):wpS M A E s (lK i j >>= f) Q st:=j1 (kE h)
theorem SR.one:SR κ xs lo 1:=by grind [SR]
theorem SR.snoc (h:SR κ xs lo n) (h1:1≤n) (c:Kk κ xs (lo+n - 1)≤Kk κ xs (lo+n)):SR κ xs lo (n+1):=λi j a b=>by
 by_cases hjn:j<n
 ·exact h i j a hjn
 ·have e:j=n:=by omega
  subst e
  by_cases e2:i=j
  ·rw[e2];exact fz _
  ·refine eX (h i (j - 1) (by omega) (by omega)) ?_;rw[show lo+(j - 1)=lo+j - 1 by omega];exact c
theorem NR.snoc (h:NR κ xs lo n) (h1:1≤n) (c:Kk κ xs (lo+n)≤Kk κ xs (lo+n - 1)):NR κ xs lo (n+1):=λi j a b=>by
 by_cases hjn:j<n
 ·exact h i j a hjn
 ·have e:j=n:=by omega
  subst e
  by_cases e2:i=j
  ·simp_all
  ·refine eX ?_ (h i (j - 1) (by omega) (by omega));rw[show lo+(j - 1)=lo+j - 1 by omega];exact c
theorem NR.congr (h:NR κ xs lo n) (e:∀ k,Kk κ ys k=Kk κ xs k):NR κ ys lo n:=λi j b a=>by rw[e,e];exact h i j b a
theorem b4A (L:LtOk M A E s κ k0 a₀) (B:TB k0 a₀ st) (hn:lo+nr≤a₀.size) (hp:1≤p) (hpn:p≤nr) (hs:SR κ (arrOf st) lo p)
  (h:∀ n,p≤n->n≤nr->SR κ (arrOf st) lo n->(n=nr\/Kk κ (arrOf st) (lo+n)<Kk κ (arrOf st) (lo+n - 1))->Q (none,n) st):wpS M A E s (rise lo p nr) Q st:=by
 refine ko (I:=λx c z=>z=st/\c=(none,x)/\SR κ _ lo x) ?step ?fin ⟨rfl,rfl,hs⟩
 case fin=>
  rintro c z ⟨rfl,rfl,a⟩;rw[show max p nr=nr by omega]at a ⊢;exact h nr hpn (dS _) a (.inl rfl)
 case step=>
  rintro x c z b d ⟨rfl,rfl,a⟩;refine j1 (a7x L B (by omega) (by omega) ?_)
  by_cases q:Kk κ (arrOf z) (lo+x)<Kk κ (arrOf z) (lo+x - 1)
  ·simp only[q];exact j3 (h x b (by omega) a (.inr q))
  ·simp only[q];exact j3 ⟨rfl,rfl,a.snoc (by omega) (io.mp q)⟩
theorem b4B (L:LtOk M A E s κ k0 a₀) (B:TB k0 a₀ st) (hn:lo+nr≤a₀.size) (h1:1≤n) (hnn:n≤nr) (hs:NR κ (arrOf st) lo n)
  (h:∀ m z,Ar st z lo->1≤m->m≤nr->SR κ (arrOf z) lo m->Q (some m) z):wpS M A E s (fin3 lo n nr) Q st:=by
 have a:lo+n≤(arrOf st).size:=by rw[B.sz];omega
 refine b3r ?_;have b:Ar st _ lo:=Ar.mir a (dS _);refine j1 (b4A L (b.tb B) hn h1 hnn ?_ λm g d c _=>j3 (h m _ b (by omega) d c));intro i j e f;rw[b1O a,b1O a,if_pos (by omega),if_pos (by omega),show lo+_ - 1 - _=lo+(n - 1 - i) by omega,show lo+_ - 1 - _=lo+(n - 1 - j) by omega];exact hs _ _ (by omega) (by omega)
theorem b8b (L:LtOk M A E s κ k0 a₀) (B:TB k0 a₀ st) (hn:lo+nr≤a₀.size) (h1:1≤n) (hnn:n≤nr) (hs:NR κ (arrOf st) lo n)
  (h:∀ m e z,Ar st z lo->n≤m->m≤nr->NR κ (arrOf z) lo m->e+1≤m->(∀ i,lo+m - (e+1)≤i->i<lo+m->Kk κ (arrOf z) i=Kk κ (arrOf z) (lo+m - 1))->Q (none,m,e) z):wpS M A E s (fall lo n nr) Q st:=by
 unfold fall;refine ko (I:=λx c z=>∃ e,c=(none,x,e)/\Ar st z lo/\NR κ (arrOf z) lo x/\e+1≤x/\(∀ i,lo+x - (e+1)≤i->i<lo+x->Kk κ (arrOf z) i=Kk κ (arrOf z) (lo+x - 1))) ?step ?fin ⟨0,rfl,Ar.refl _ _,hs,by omega,λi l a=>by congr 1;omega⟩
 case fin=>
  rintro c z ⟨e,rfl,b,a,f,d⟩;rw[show max n nr=nr by omega]at a f d ⊢;exact h nr e z b hnn (dS _) a f d
 case step=>
  rintro x c z p r ⟨e,rfl,b,a,f,d⟩;dsimp only;have k:=b.tb B;have j:lo+x≤(arrOf z).size:=by rw[k.sz];omega
  refine j1 (a7x L k (by omega) (by omega) ?_)
  by_cases q:Kk κ (arrOf z) (lo+x)<Kk κ (arrOf z) (lo+x - 1)
  ·simp only[q,decide_true,if_true];have o:=a.snoc (by omega) (fA q)
   by_cases g:e > 0
   ·rw[if_pos g];exact b3r (j3 ⟨0,rfl,b.trans (Ar.mir j (by omega)),o.congr (a5n j d),by omega,λi l a=>by congr 1;omega⟩)
   ·rw[if_neg g];exact j3 ⟨0,rfl,b,o,by omega,λi l a=>by congr 1;omega⟩
  ·simp only[q,decide_false,if_false];refine j1 (a7x L k (by omega) (by omega) ?_)
   by_cases q2:Kk κ (arrOf z) (lo+x - 1)<Kk κ (arrOf z) (lo+x)
   ·simp only[q2,decide_true,if_true];exact j3 (h x e z b p (by omega) a f d)
   ·simp only[q2,decide_false,if_false];have g:Kk κ (arrOf z) (lo+x)=Kk κ (arrOf z) (lo+x - 1):=by omega
    refine j3 ⟨e+1,rfl,b,a.snoc (by omega) (by omega),by omega,λi l a=>?_⟩;rw[show lo+(x+1) - 1=lo+x by omega]
    by_cases hix:i=lo+x
    ·rw[hix]
    ·grind
theorem b4C (L:LtOk M A E s κ k0 a₀) (B:TB k0 a₀ st) (hn:lo+nr≤a₀.size) (hnn:n+1≤nr) (hs:NR κ (arrOf st) lo (n+1))
  (h:∀ m z,Ar st z lo->1≤m->m≤nr->SR κ (arrOf z) lo m->Q (some m) z):wpS M A E s (part lo n nr) Q st:=by
 refine a6e ?_;refine j1 (b8b L B hn (by simp) hnn hs λm e z c l i g o j=>?_);dsimp only;have f:=c.tb B;have a:lo+m≤(arrOf z).size:=by rw[f.sz];omega
 by_cases he:e > 0
 ·rw[if_pos he];have d:Ar st (setArr z (mirror (arrOf z) (lo+m - (e+1)) _ _)) lo:=c.trans (Ar.mir a (by omega));exact b3r (b4B L (d.tb B) hn (by omega) i (g.congr (a5n a j)) λk w b=>h k w (d.trans b))
 ·rw[if_neg he];exact b4B L f hn (by omega) i g λk w b=>h k w (c.trans b)
theorem b5x (L:LtOk M A E s κ k0 a₀) (B:TB k0 a₀ st) (hn:lo+nr≤a₀.size) (h1:1≤nr)
  (h:∀ m z,Ar st z lo->1≤m->m≤nr->SR κ (arrOf z) lo m->Q (some m) z):wpS M A E s (countRun' lo nr) Q st:=by
 rw[a6L];refine j1 (b4A L B hn (dS 1) h1 SR.one λn e l b t=>?_);dsimp only
 by_cases hnn:n=nr
 ·rw[if_pos (by simpa using hnn)];exact j3 (h n st (Ar.refl _ _) e l b)
 ·rw[if_neg (by simpa using hnn)];have d:=t.resolve_left hnn;have c:lo+n≤(arrOf st).size:=by rw[B.sz];omega
  by_cases hgt:n > 1
  ·rw[if_pos hgt];refine j1 (a7x L B (by omega) (by omega) ?_)
   by_cases q:Kk κ (arrOf st) lo<Kk κ (arrOf st) (lo+n - 1)
   ·simp only[q,decide_true,if_true];exact j3 (h n st (Ar.refl _ _) e l b)
   ·simp only[q,if_false];have a:∀ k,lo≤k->k<lo+n->Kk κ (arrOf st) k=Kk κ (arrOf st) (lo+n - 1):=λk y x=>by
     have g:=b 0 (k - lo) (by omega) (by omega);have f:=b (k - lo) (n - 1) (by omega) (by omega);rw[show lo+(k - lo)=k by omega]at g f;rw[show lo+(n - 1)=lo+n - 1 by omega]at f;rw[iK]at g;omega
    have o:Ar st _ lo:=Ar.mir c (dS _);have u:NR κ (arrOf st) lo (n+1):=by
     refine NR.snoc (λi j p r=>?_) (by omega) (fA d);rw[a (lo+i) (by omega) (by omega),a (lo+j) (by omega) (by omega)];exact fz _
    exact b3r (b4C L (o.tb B) hn (by omega) (u.congr (a5n c a)) λk w v=>h k w (o.trans v))
  ·rw[if_neg hgt]
   have:n=1:=by omega
   subst this;refine b4C L B hn (by omega) ?_ h;refine NR.snoc (λi j p r=>?_) (by omega) (fA d)
   have:i=j:=by omega
   rw[this];exact fz _
end
end Tim
namespace Tim
open PySem PyProof.Rows
theorem a8A (i:Nat):mX i=(do
 let z <- get
 let (some (p,n,w),some (q,m,_)):=((kb z)[i]?,(kb z)[i+1]?) | mn "internal:list.sort.pending"
 set (l5 z (((kb z).setIfInBounds i (p,n+m,w)).eraseIdxIfInBounds (i+1)))
 let some k <- a2g false (<- elem' (arrOf z) q) (arrOf z) p n 0 | return false
 let (p,n):=(p+k,n - k)
 if n==0 then return true
 let some m <- a2g true (<- elem' (arrOf z) (p+n - 1)) (arrOf z) q m (m - 1) | return false
 if m==0 then return true
 let x:=(arrOf z).extract p q
 let y:=(arrOf z).extract q (q+m)
 let mg <- if n≤m then a41 x y else a6K x y
 modify λz=>setArr z (mg.toList.zipIdx.foldl (λa (v,j)=>a.setIfInBounds (p+j) v) (arrOf z))
 return (kz (<- get)).isNone):=rfl
theorem a9d (bs:Nat):∀ (l:List Keyed) (k:Nat) (xs:Array Keyed),bs+k+l.length≤xs.size ->
  ((l.zipIdx k).foldl (λa (pj:Keyed×Nat)=>a.setIfInBounds (bs+pj.2) pj.1) xs).toList=xs.toList.take (bs+k)++(l++xs.toList.drop (bs+k+l.length))
 | [],k,xs,_=>by simp
 | x::l,k,xs,h=>by
  rw[eF]at h;rw[js,List.foldl_cons,a9d bs l _ _ (by grind)];have e:(xs.setIfInBounds (bs+k) x).toList=xs.toList.set (bs+k) x:=by simp
  rw[e,show bs+_=bs+k+1 by omega,List.drop_set_of_lt (by omega),eF,show bs+k+1+l.length=bs+k+(l.length+1) by omega]
  have:(xs.toList.set (bs+k) x).take (bs+k+1)=xs.toList.take (bs+k)++[x]:=by
   rw[fH,List.take_set_of_le (dS _),hZ (by grind)]
   rfl
  rw[this];simp
section
variable {M:Model}{A:Around}{E:Value->Shared->Prop}{s:Shared}{κ:KF}{k0:kF}{a₀:Array Keyed}{st:SortSt}
theorem c0n (h:Q ⟨⟩ z):wpS M A E s (set z:SM PUnit) Q st:=jY ⟨rfl,h⟩
theorem b4D (e:xs.toList=P++(X++R)) (hi:i<X.length):Kk κ xs (P.length+i)=κ X[i]:=by
 refine a5m ?_;rw[e,fQ (by simp),fR (by omega),show P.length+i - P.length=i by omega];exact et hi
theorem a3N (h:Srt κ X) (hij:i≤j) (hj:j<X.length):κ (X[i]'(by omega))≤κ X[j]:=by
 by_cases e:i=j
 ·subst e;exact fz _
 ·exact gE.mp h i j (by omega) hj (by omega)
theorem a9e {X:List Keyed}(h:x∈X):∃ i,∃ (hi:i<X.length),X[i]=x:=jt.mp h
theorem a7A {X:List Keyed}(h:x∈X.take k):∃ i,∃ (hi:i<X.length),i<k/\X[i]=x:=by
 obtain⟨q,a,d⟩:=a3s h;obtain⟨b,c⟩:=eq.mp d;exact⟨q,b,a,c⟩
theorem a9f {X:List Keyed}(h:x∈X.drop k):∃ i,∃ (hi:i<X.length),k≤i/\X[i]=x:=by
 obtain⟨q,b,e,d⟩:=a3r h;obtain⟨c,a⟩:=eq.mp d;exact⟨q,c,b,a⟩
theorem b1P (L:LtOk M A E s κ k0 a₀) (B:TB k0 a₀ st) (e1:(kb st)[i]?=some (sa,na,pw)) (e2:(kb st)[i+1]?=some (sb,nb,pw2))
  (ea:(arrOf st).toList=P++(X++(Y++S))) (hP:P.length=sa) (hX:X.length=na) (hsb:sb=sa+na) (hY:Y.length=nb) (sX:Srt κ X) (sY:Srt κ Y) (h1:0<na) (h2:0<nb)
  (h:∀ st' Z,TB k0 a₀ st'->(arrOf st').toList=P++(Z++S)->Z.length=na+nb->Srt κ Z->kb st'=((kb st).setIfInBounds i (sa,na+nb,pw)).eraseIdxIfInBounds (i+1)->Q true st'):wpS M A E s (mX i) Q st:=by
 have hsz:(arrOf st).size=sa+na+nb+S.length:=by
  rw[<- a1F,ea];simp;omega
 have hmem:∀ p∈(arrOf st).toList,p∈a₀.toList:=λp hp=>(iE.mp B.pm).mem_iff.mp hp;have eb:(arrOf st).toList=(P++X)++(Y++S):=by rw[ea,eO]
 have kX:∀ i,(hi:i<X.length)->Kk κ (arrOf st) (sa+i)=κ X[i]:=λi hi=>by rw[<- hP];exact b4D ea hi
 have kY:∀ i,(hi:i<Y.length)->Kk κ (arrOf st) (sb+i)=κ Y[i]:=λi hi=>by
  rw[hsb,<- hP,<- hX,<- dW];exact b4D eb hi
 rw[a8A];refine j1 (kG ?_);rw[e1,e2];dsimp only;refine j1 (c0n ?_);have B1:TB k0 a₀ (l5 st (((kb st).setIfInBounds i (sa,na+nb,pw)).eraseIdxIfInBounds (i+1))):=⟨B.pm,B.kd,B.fl⟩;have hs1:arrOf (l5 st (((kb st).setIfInBounds i (sa,na+nb,pw)).eraseIdxIfInBounds (i+1)))=arrOf st:=rfl;have hp1:kb (l5 st (((kb st).setIfInBounds i (sa,na+nb,pw)).eraseIdxIfInBounds (i+1)))=((kb st).setIfInBounds i (sa,na+nb,pw)).eraseIdxIfInBounds (i+1):=rfl;generalize l5 st (((kb st).setIfInBounds i (sa,na+nb,pw)).eraseIdxIfInBounds (i+1))=st1 at B1 hs1 hp1;have hy0:sb<(arrOf st).size:=by omega
 have ey:(arrOf st)[sb]?=some (arrOf st)[sb]:=getElem?_pos ..;have hky:κ (arrOf st)[sb]=κ Y[0]:=by
  have:=kY 0 (by omega)
  rw[iK,a8w ey]at this;exact this
 have hmy:(arrOf st)[sb]∈a₀.toList:=hmem _ (by simp);refine j1 (a0X ey (j1 ?_));refine a24 L B1.kd hmy hmem (by omega) (by omega) (λp q hp hq=>by rw[kX p (by omega),kX q (by omega)];exact a3N sX hp (by omega)) λk hkn hlt hge=>?_;dsimp only;have lo:∀ q,(hq:q<X.length)->q<k->κ X[q]≤κ Y[0]:=λq hq hqk=>by
  have:=hlt q hqk
  rw[kX q hq,hky]at this;simpa[bq]using this
 have up:∀ q,(hq:q<X.length)->k≤q->κ Y[0]<κ X[q]:=λq hq hqk=>by
  have:=hge q hqk (by omega)
  rw[kX q hq,hky]at this;simpa[bq]using this
 have whole:(∀ x∈X,∀ y∈Y,κ x≤κ y)->Q true st1:=λhxy=>by
  refine h st1 (X++Y) B1 (by rw[hs1,ea,eO]) (by rw[dW,hX,hY]) ?_ hp1;exact eM.mpr ⟨sX,sY,hxy⟩
 by_cases c1:na - k=0
 ·rw[if_pos (by simpa using c1)];refine j3 (whole λx hx y hy=>?_);obtain⟨q,hq,rfl⟩:=a9e hx;obtain⟨r,hr,rfl⟩:=a9e hy;exact eX (lo q hq (by omega)) (a3N sY (eP _) hr)
 rw[if_neg (by simpa using c1)];have hl:sa+k+(na - k) - 1<(arrOf st).size:=by omega
 have ex:(arrOf st)[sa+k+(na - k) - 1]?=some (arrOf st)[sa+k+(na - k) - 1]:=getElem?_pos ..;have hkx:κ (arrOf st)[sa+k+(na - k) - 1]=κ X[na - 1]:=by
  have:=kX (na - 1) (by omega)
  rw[show sa+(na - 1)=sa+k+(na - k) - 1 by omega,a8w ex]at this;exact this
 have hmx:(arrOf st)[sa+k+(na - k) - 1]∈a₀.toList:=hmem _ (by simp);refine j1 (a0X ex (j1 ?_));refine a24 L B1.kd hmx hmem (by omega) (by omega) (λp q hp hq=>by rw[kY p (by omega),kY q (by omega)];exact a3N sY hp (by omega)) λm hmn hlt2 hge2=>?_;dsimp only;have lo2:∀ q,(hq:q<Y.length)->q<m->κ Y[q]<κ X[na - 1]:=λq hq hqk=>by
  have:=hlt2 q hqk
  rw[kY q hq,hkx]at this;simpa[bq]using this
 have up2:∀ q,(hq:q<Y.length)->m≤q->κ X[na - 1]≤κ Y[q]:=λq hq hqk=>by
  have:=hge2 q hqk (by omega)
  rw[kY q hq,hkx]at this;simpa[bq]using this
 by_cases c2:m=0
 ·rw[if_pos (by simpa using c2)];refine j3 (whole λx hx y hy=>?_);obtain⟨q,hq,rfl⟩:=a9e hx;obtain⟨r,hr,rfl⟩:=a9e hy;exact eX (a3N sX (by omega) (by omega)) (up2 r hr (by omega))
 rw[if_neg (by simpa using c2)];have lx:((arrOf st).extract (sa+k) sb).toList=X.drop k:=by
  rw[ju,im,ea,iM,<- hP,gO (by omega),gT,show P.length+k - P.length=k by omega,jv (by omega),ir (by rw[eS];omega),fD (by rw[eS];omega)]
 have ly:((arrOf st).extract sb (sb+m)).toList=Y.take m:=by
  rw[ju,im,eb,iM,gO (by rw[dW];omega),gT,show sb - (P++X).length=0 by rw[dW];omega,List.drop_zero,ir (by omega),show sb+m - sb=m by omega]
 have C:MC M A E s κ k0 a₀ ((arrOf st).extract (sa+k) sb) ((arrOf st).extract sb (sb+m)):=by
  refine⟨L,λp hp=>?_,λp hp=>?_,?_,?_,?_,?_,λy hy=>?_,λz hz y hy=>?_⟩
  ·rw[lx]at hp;exact hmem p (by rw[ea];simp[ik hp])
  ·rw[ly]at hp;exact hmem p (by rw[ea];simp[fB hp])
  ·rw[lx];exact a1L sX k
  ·rw[ly];exact a2y sY m
  ·rw[<- a1F,lx,eS];omega
  ·rw[<- a1F,ly,eG];omega
  ·rw[lx]at hy;obtain⟨q,hq,hk,rfl⟩:=a9f hy;rw[a5m (z:=Y[0]) (by rw[ly,ip,if_pos (by omega)];exact et _)];exact fA (up q hq hk)
  ·rw[ly]at hy;rw[lx,eS,gC,show k+(X.length - k - 1)=na - 1 by omega,et (show na - 1<X.length by omega)]at hz;cases hz;obtain⟨q,hq,hk,rfl⟩:=a7A hy;exact fA (lo2 q hq hk)
 have fin:∀ (r:Array Keyed) (st2:SortSt),SG st1 st2->Mgd κ ((arrOf st).extract (sa+k) sb).toList ((arrOf st).extract sb (sb+m)).toList r.toList ->
   wpS M A E s (do
    modify λz=>setArr z (r.toList.zipIdx.foldl (λa (pj:Keyed×Nat)=>a.setIfInBounds (sa+k+pj.2) pj.1) (arrOf z))
    return (kz (<- get)).isNone) Q st2:=by
  intro r st2 g2 mg;rw[lx,ly]at mg;have hrl:r.toList.length=na - k+m:=by rw[mg.1.length_eq,dW,eS,eG];omega
  refine j1 (kE (j1 (kG (j3 ?_))));have ha2:arrOf st2=arrOf st:=g2.ar.trans hs1;have ef:=a9d (sa+k) r.toList 0 (arrOf st2) (by rw[ha2];omega);have el:(r.toList.zipIdx.foldl (λa (pj:Keyed×Nat)=>a.setIfInBounds (sa+k+pj.2) pj.1) (arrOf st2)).toList=P++((X.take k++r.toList++Y.drop m)++S):=by
   rw[ef,ha2,iK,hrl];have t1:(arrOf st).toList.take (sa+k)=P++X.take k:=by
    rw[ea,List.take_append,fD (by omega),<- hP,show P.length+k - P.length=k by omega,ir (by omega)]
   have t2:(arrOf st).toList.drop (sa+k+(na - k+m))=Y.drop m++S:=by
    rw[eb,iM,gO (by rw[dW];omega),gT,show sa+k+(na - k+m) - (P++X).length=m by rw[dW];omega,jv (by omega)]
   rw[t1,t2];simp
  generalize hgz:r.toList.zipIdx.foldl (λa (pj:Keyed×Nat)=>a.setIfInBounds (sa+k+pj.2) pj.1) (arrOf st2)=ar at el;have hperm:(X.take k++r.toList++Y.drop m).Perm (X++Y):=by
   have:(X.take k++r.toList++Y.drop m).Perm (X.take k++(X.drop k++Y.take m)++Y.drop m):=(eN.append_left _ mg.1).append_right _
   refine this.trans ?_;have e:X.take k++(X.drop k++Y.take m)++Y.drop m=X++Y:=by
    rw[<- eO,gU,eO,gU]
   rw[e]
  have pm:ar.Perm (arrOf st):=by
   rw[iE,el,ea];refine eN.append_left _ ?_;rw[<- eO (as:=X)];exact hperm.append_right _
  have hfl:kz (setArr st2 ar)=none:=g2.fl.trans B1.fl;have B2:TB k0 a₀ (setArr st2 ar):=⟨pm.trans B.pm,g2.kd.trans B1.kd,hfl⟩;rw[hfl];refine h _ _ B2 el (by rw[hperm.length_eq,dW,hX,hY]) ?_ (g2.pe.trans hp1);have hr:∀ w∈r.toList,w∈X.drop k\/w∈Y.take m:=λw hw=>dU.mp (mg.1.mem_iff.mp hw);refine eM.mpr ⟨eM.mpr ⟨a2y sX k,mg.2,λx hx w hw=>?_⟩,a1L sY m,λx hx y hy=>?_⟩
  ·obtain⟨q,hq,hk,rfl⟩:=a7A hx;rcases hr w hw with hw | hw
   ·obtain⟨p,hp,hk2,rfl⟩:=a9f hw;exact a3N sX (by omega) hp
   ·obtain⟨p,hp,hk2,rfl⟩:=a7A hw;exact eX (lo q hq hk) (a3N sY (eP _) hp)
  ·obtain⟨p,hp,hk2,rfl⟩:=a9f hy;rcases dU.mp hx with hx | hx
   ·obtain⟨q,hq,hk,rfl⟩:=a7A hx;exact eX (lo q hq hk) (a3N sY (eP _) hp)
   ·rcases hr x hx with hx | hx
    ·obtain⟨q,hq,hk,rfl⟩:=a9f hx;exact eX (a3N sX (by omega) (by omega)) (up2 p hp hk2)
    ·obtain⟨q,hq,hk,rfl⟩:=a7A hx;exact a3N sY (by omega) hp
 split
 ·exact j1 (b1M C B1.kd λr st2 g2 mg=>fin r st2 g2 mg)
 ·exact j1 (b1N C B1.kd λr st2 g2 mg=>fin r st2 g2 mg)
end
end Tim
namespace Tim
open PySem PyProof.Rows
def pr (p:Nat×Nat×Nat):Nat×Nat:=(p.1,p.2.1)
noncomputable def offs:Nat->List (List Keyed)->List (Nat×Nat)
 | _,[]=>[]
 | o,R::Rs=>(o,R.length)::offs (o+R.length) Rs
theorem a2z:∀ (o:Nat) (U V:List (List Keyed)),offs o (U++V)=offs o U++offs (o+U.flatten.length) V
 | o,[],V=>by simp[offs]
 | o,R::U,V=>by
  rw[gY,offs,offs,a2z,gY,jx,dW,iN]
theorem a1T:∀ (o:Nat) (U:List (List Keyed)),(offs o U).length=U.length
 | _,[]=>rfl
 | o,R::U=>by rw[offs,eF,eF,a1T]
theorem a7B {α:Type}{q p1 p2:α}{pv:List α}:∀ pu:List α,((pu++p1::p2::pv).set pu.length q).eraseIdx (pu.length+1)=pu++q::pv
 | []=>rfl
 | x::pu=>by rw[gY,eF,List.set_cons_succ,iO,a7B pu,gY]
theorem a7C {α β:Type}{f:α->β}:∀ (l:List α) (k:Nat),(l.map f).eraseIdx k=(l.eraseIdx k).map f
 | [],_=>by simp
 | x::l,0=>by simp
 | x::l,k+1=>by rw[eE,iO,iO,eE,a7C l k]
theorem a9g:∀ {Rs:List (List Keyed)},(∀ R∈Rs,R≠[])->Rs.length≤Rs.flatten.length
 | [],_=>by simp
 | R::Rs,h=>by
  have:=a9g λR a=>h R (.tail _ a)
  have b:=gG.mpr (h R (.head _));rw[jx,dW,eF];omega
def Runs (κ:KF) (st:SortSt) (lo:Nat) (rest:List Keyed):Prop:=∃ Rs:List (List Keyed),(arrOf st).toList=Rs.flatten++rest/\(∀ R∈Rs,Srt κ R/\R≠[])/\Rs.flatten.length=lo/\(kb st).toList.map pr=offs 0 Rs
section
variable {M:Model}{A:Around}{E:Value->Shared->Prop}{s:Shared}{κ:KF}{k0:kF}{a₀:Array Keyed}{st:SortSt}
theorem a3t {i lo:Nat}(L:LtOk M A E s κ k0 a₀) (B:TB k0 a₀ st) (R:Runs κ st lo rest) (hi:i+1<(kb st).size)
  (h:∀ st',TB k0 a₀ st'->Runs κ st' lo rest->(kb st').size+1=(kb st).size->Q true st'):wpS M A E s (mX i) Q st:=by
 obtain⟨Rs,t,f,r,b⟩:=R;have m:(kb st).size=Rs.length:=by
  have:=congrArg eQ b
  rw[dQ,a1T]at this;simpa using this
 obtain⟨U,X,Y,V,rfl,D⟩:∃ U X Y V,Rs=U++X::Y::V/\U.length=i:=by
  refine⟨Rs.take i,Rs[i]'(by omega),Rs[i+1]'(by omega),Rs.drop (i+2),?_,by rw[eG];omega⟩;rw[<- gN,<- gN,gU]
 have n:=f X (by simp);have q:=f Y (by simp);rw[a2z]at b;simp only[offs,iq]at b;have k:∀ (j:Nat) (x:Nat×Nat),(offs 0 U++_::_::offs _ V)[j]?=some x->∃ w,(kb st)[j]?=some (x.1,x.2,w):=λj x d=>by
  rw[<- b,er]at d;rw[<- fE];cases e:(kb st).toList[j]? with
  | none=>rw[e]at d;cases d
  | some p=>
   rw[e]at d;cases d;exact⟨p.2.2,rfl⟩
 have c:(offs 0 U).length=i:=by rw[a1T,D]
 obtain⟨J,G⟩:=k i _ (by rw[fQ (by omega),c,Nat.sub_self];rfl);obtain⟨I,y⟩:=k (i+1) (U.flatten.length+X.length,Y.length) (by simp_all);have C:(arrOf st).toList=U.flatten++(X++(Y++(V.flatten++rest))):=by rw[t];simp
 refine b1P L B G y C rfl rfl rfl rfl n.1 q.1 (gG.mpr n.2) (gG.mpr q.2) λl Z H F o v u=>?_;have g:(kb l).toList.map pr=offs 0 (U++Z::V):=by
  rw[u,Array.toList_eraseIdxIfInBounds,Array.toList_setIfInBounds,<- a7C,List.map_set,b,<- c,a7B,a2z];simp only[offs,iq,pr];rw[o,iN]
 refine h l H ⟨U++Z::V,by rw[F];simp,λR a=>?_,?_,g⟩ ?_
 ·rcases dU.mp a with a | a
  ·exact f R (by simp[a])
  ·rcases dY.mp a with rfl | a
   ·exact⟨v,λz=>by rw[z]at o;have:=gG.mpr n.2;simp at o;omega⟩
   ·exact f R (by simp[a])
 ·rw[<- r];simp;omega
 ·grind
theorem Runs.ar {lo n:Nat}(R:Runs κ st lo rest) (q:Ar st st' lo) (hs:SR κ (arrOf st') lo n) (hn:lo+n≤(arrOf st').size) (h1:1≤n):∃ X rest',Srt κ X/\X.length=n/\Runs κ st' lo (X++rest'):=by
 obtain⟨Rs,g,f,c,e⟩:=R;have b:(arrOf st').toList.take lo=Rs.flatten:=by
  refine iP λi=>?_
  by_cases a:i<lo
  ·rw[ip,if_pos a,fE,q.pre i a,<- fE,g,fR (by omega)]
  ·grind
 refine⟨((arrOf st').toList.drop lo).take n,((arrOf st').toList.drop lo).drop n,?_,by rw[eG,eS,a1F];omega,Rs,?_,f,c,by rw[q.pe];exact e⟩
 ·refine gE.mpr λi j a d k=>?_;rw[eG,eS,a1F]at a d
  have:=hs i j (by omega) (by omega)
  rw[a1s _,a1s _]at this;simpa using this
 ·rw[gU,<- b,gU]
theorem Runs.push {lo n:Nat}(R:Runs κ st lo (X++rest)) (sX:Srt κ X) (hX:X.length=n) (h1:1≤n) (ha:arrOf st'=arrOf st) (hp:(kb st').toList.map pr=(kb st).toList.map pr++[(lo,n)]):Runs κ st' (lo+n) rest:=by
 obtain⟨Rs,e,d,b,c⟩:=R;refine⟨Rs++[X],by rw[ha,e];simp,λR a=>?_,by simp[b,hX],?_⟩
 ·rcases dU.mp a with a | a
  ·exact d R a
  ·rw[dX.mp a];exact⟨sX,λz=>by rw[z]at hX;simp at hX;omega⟩
 ·rw[hp,c,a2z,iq,b];simp[offs,hX]
theorem b0b (L:LtOk M A E s κ k0 a₀) (B:TB k0 a₀ st) (hp:kb st=#[])
  (h:∀ st',TB k0 a₀ st'->Srt κ (arrOf st').toList->Q () st'):wpS M A E s sortRuns' Q st:=by
 rw[sortRuns'_eq];refine j1 (kG ?_);dsimp only;rw[B.sz];generalize minRun' a₀.size a₀.size 0=mr;refine j1 (kt (ko (I:=λx c z=>∃ d e,c=(none,d)/\TB k0 a₀ z/\Runs κ z d e/\x≤d)
  (Q:=λc z=>∃ d e,c=(none,d)/\TB k0 a₀ z/\Runs κ z d e/\a₀.size≤d) ?step ?fin ⟨0,(arrOf st).toList,rfl,B,⟨[],by simp,λR h=>by simp at h,rfl,by rw[hp];rfl⟩,dS _⟩) ?post)
 case fin=>
  rintro c z ⟨d,e,rfl,t,u,hx⟩;exact⟨d,e,rfl,t,u,by omega⟩
 case step=>
  rintro x c z _ hx ⟨d,e,rfl,t,u,hxl⟩;dsimp only
  by_cases c1:d≥a₀.size
  ·rw[if_pos c1];exact j3 ⟨d,e,rfl,t,u,c1⟩
  rw[if_neg c1];refine j1 (b5x L t (by omega) (by omega) λm z2 Y m1 m2 m3=>?_);dsimp only
  by_cases c2:m<mr
  ·rw[if_pos c2];refine a6e ?_;refine j1 (b3q L (Y.tb t) (by omega) (by omega) m3 λS C D=>?_);rw[if_neg (by decide)];have C:=Y.trans C;have v:1≤min (a₀.size - d) mr:=by omega
   have V:d+min (a₀.size - d) mr≤a₀.size:=by omega
   generalize min (a₀.size - d) mr=n at v V D ⊢;have r:=C.tb t;obtain⟨X,f,J,G,R3⟩:=u.ar C D (by rw[r.sz];omega) v;refine j1 (kG ?_);cases hb:(kb S).back? with
   | none=>
    dsimp only;refine j1 (kE (j3 ?_));exact⟨d+n,f,rfl,⟨r.pm,r.kd,r.fl⟩,R3.push J G v rfl (by show (((kb S).push (d,n,0)).toList).map pr=_;rw[fb,eA];rfl),by omega⟩
   | some p=>
    obtain⟨w,o,w1⟩:=p;dsimp only;generalize power' a₀.size (2*w+o) (2*w+o+o+n) a₀.size=pw;refine j1 (kt (ko (I:=λ_ c y=>c=(none,())/\TB k0 a₀ y/\Runs κ y d (X++f)) ?w (λ_ _ hh=>hh) ⟨rfl,r,R3⟩) ?p1)
    case w=>
     rintro x c y _ _ ⟨rfl,g,j⟩;refine j1 (kG ?_)
     by_cases hgt:(kb y).size > 1
     ·rw[if_pos hgt];have eo:(kb y)[(kb y).size - 2]?=some (kb y)[(kb y).size - 2]:=getElem?_pos ..;rw[eo];dsimp only
      split
      ·exact j3 ⟨rfl,g,j⟩
      ·refine j1 (a3t L g j (by omega) λy2 N H _=>?_);rw[if_neg (by decide)];exact j3 ⟨rfl,N,H⟩
     ·rw[if_neg hgt];exact j3 ⟨rfl,g,j⟩
    case p1=>
     rintro c y ⟨rfl,g,j⟩;dsimp only;refine j1 (kE (j1 (kE (j3 ?_))));refine⟨d+n,f,rfl,⟨g.pm,g.kd,g.fl⟩,j.push J G v rfl ?_,by omega⟩;have em:∀ (q:Array (Nat×Nat×Nat)) (k:Nat),(q.modify k λ(a,b,_)=>(a,b,pw)).toList.map pr=q.toList.map pr:=λq k=>by
      refine iP λi=>?_;rw[er,er,fE,fE,jy]
      split
      ·cases q[i]? with
       | none=>rfl
       | some p=>rfl
      ·rfl
     rw[fb,eA,em]
     rfl
  ·rw[if_neg c2];have V:d+m≤a₀.size:=by omega
   have v:=m1;have D:=m3;have C:=Y;generalize m=n at v V D ⊢;generalize z2=S at C D ⊢;have r:=C.tb t;obtain⟨X,f,J,G,R3⟩:=u.ar C D (by rw[r.sz];omega) v;refine j1 (kG ?_);cases hb:(kb S).back? with
   | none=>
    dsimp only;refine j1 (kE (j3 ?_));exact⟨d+n,f,rfl,⟨r.pm,r.kd,r.fl⟩,R3.push J G v rfl (by show (((kb S).push (d,n,0)).toList).map pr=_;rw[fb,eA];rfl),by omega⟩
   | some p=>
    obtain⟨w,o,w1⟩:=p;dsimp only;generalize power' a₀.size (2*w+o) (2*w+o+o+n) a₀.size=pw;refine j1 (kt (ko (I:=λ_ c y=>c=(none,())/\TB k0 a₀ y/\Runs κ y d (X++f)) ?w (λ_ _ hh=>hh) ⟨rfl,r,R3⟩) ?p1)
    case w=>
     rintro x c y _ _ ⟨rfl,g,j⟩;refine j1 (kG ?_)
     by_cases hgt:(kb y).size > 1
     ·rw[if_pos hgt];have eo:(kb y)[(kb y).size - 2]?=some (kb y)[(kb y).size - 2]:=getElem?_pos ..;rw[eo];dsimp only
      split
      ·exact j3 ⟨rfl,g,j⟩
      ·refine j1 (a3t L g j (by omega) λy2 N H _=>?_);rw[if_neg (by decide)];exact j3 ⟨rfl,N,H⟩
     ·rw[if_neg hgt];exact j3 ⟨rfl,g,j⟩
    case p1=>
     rintro c y ⟨rfl,g,j⟩;dsimp only;refine j1 (kE (j1 (kE (j3 ?_))));refine⟨d+n,f,rfl,⟨g.pm,g.kd,g.fl⟩,j.push J G v rfl ?_,by omega⟩;have em:∀ (q:Array (Nat×Nat×Nat)) (k:Nat),(q.modify k λ(a,b,_)=>(a,b,pw)).toList.map pr=q.toList.map pr:=λq k=>by
      refine iP λi=>?_;rw[er,er,fE,fE,jy]
      split
      ·cases q[i]? with
       | none=>rfl
       | some p=>rfl
      ·rfl
     rw[fb,eA,em]
     rfl
 case post=>
  rintro c z ⟨d,e,rfl,t,u,hlo⟩;dsimp only;have hsz:∀ y,Runs κ y d e->(kb y).size≤d:=λy ⟨Rs,T,F,e3,U⟩=>by
   have l:=congrArg eQ U;rw[dQ,a1T]at l;have h2:=a9g λR hR=>(F R hR).2;simp at l;omega
  have W:d=a₀.size:=by
   obtain⟨Rs,T,F,e3,U⟩:=u
   have:=congrArg eQ T
   rw[a1F,t.sz,dW]at this;omega
  subst W;refine j1 (kt (ko (I:=λx c y=>c=(none,())/\TB k0 a₀ y/\Runs κ y a₀.size e/\((kb y).size≤1\/(kb y).size+x≤a₀.size)) (Q:=λc y=>c=(none,())/\TB k0 a₀ y/\Runs κ y a₀.size e/\(kb y).size≤1) ?s2 ?f2 ⟨rfl,t,u,.inr (hsz z u)⟩) ?p2)
  case f2=>
   rintro c y ⟨rfl,g,j,hc⟩;exact⟨rfl,g,j,by omega⟩
  case s2=>
   rintro x c y _ hx ⟨rfl,g,j,hc⟩;refine j1 (kG ?_)
   by_cases l:(kb y).size≤1
   ·rw[if_pos l];exact j3 ⟨rfl,g,j,l⟩
   ·rw[if_neg l];refine j1 (a3t L g j ?_ λy2 N H hy2=>?_)
    ·repeat' split
     all_goals omega
    ·rw[if_neg (by decide)];exact j3 ⟨rfl,N,H,.inr (by omega)⟩
  case p2=>
   rintro c y ⟨rfl,g,j,hc⟩;obtain⟨Rs,T,F,e3,U⟩:=j;have l:=congrArg eQ U;rw[dQ,a1T]at l;have h2:=congrArg eQ T;rw[a1F,g.sz,dW,e3]at h2;have hr:e=[]:=fN.mp (by omega);refine j3 (h y g ?_);rw[T,hr,eL]
   match Rs,F,l with
   | [],_,_=>exact .nil
   | [R],F,_=>simpa using (F R (by simp)).1
   | _::_::_,_,l=>simp at l;omega
end
end Tim
namespace Tim
open PySem PyProof.Rows
abbrev kN:KF:=λp=>numOf p.1
theorem b8c (xs:Array Keyed) (i:Nat):K xs i=Kk kN xs i:=rfl
theorem b8d (h:Srt kN xs.toList) (hn:n=xs.size):SortedTo xs n:=λi j a b=>by
 rw[b8c,b8c]
 have:=a3L (i:=0) h (n:=xs.size) (by simp) i j a (by omega)
 simpa using this
section
variable {prog:j7}{w:World}{A:Around}{E:Value->Shared->Prop}{s:Shared}{a₀:Array Keyed}
theorem b5y (h0:IntKeys a₀):LtOk (model prog w) A E s kN oneType' a₀:=λx y c d g Q e h=>by
 obtain⟨n,t,b⟩:=h0 x c;obtain⟨m,u,a⟩:=h0 y d;have f:Q (some (decide (n<m))) g:=by
  have:kN x<kN y↔n<m:=by show numOf x.1<numOf y.1↔n<m;rw[b,a];rfl
  rw[decide_eq_decide.mpr this]at h;exact h
 rw[lt'_eq];refine j1 (kG ?_);rw[e,keyLt'_oneType,b,a];exact j1 (wpS_lift (kR (oneLt_int ⟨rfl,j3 f⟩)))
theorem sort_any (ho:s.heap.get? a=some (seqObj "list" vs.toArray n)) (hI:kh vs ns) (hz:vs.length≤1000)
  (h:∀ (out:Array Value) (ms:List Int),kh out.toList ms->ms.Perm ns->ms.Pairwise (·≤·)->P (.done (.ret .none)) { s with heap:=sortedHeap s.heap a vs out }):wpAny (model prog w) A (j8.«list.sort» ⟨[.ref a],[]⟩) P E s:=by
 have l:vs.length≤sizeLine:=by rw[ki];omega
 have o:vs.toArray.size≤sizeLine:=by simpa using l
 have t:=Heap.lt_size ho;rw[list_sort_plain];refine jX (listItems_at ho rfl (jX (mY ho rfl ?_ o (by simp))));obtain⟨u,x⟩:∃ u,(s.heap.update a (Obj.mapSeq λ_=>#[])).get? a=some (seqObj "list" #[] u):=⟨_,get?_update_seq ho λ_=>#[]⟩;refine jX (mZ x rfl (jX (l6 ?_ (by simpa using l))));refine jX (ng (kr ?_));have k:(((s.heap.update a (Obj.mapSeq λ_=>#[])).push (seqObj "tuple" vs.toArray 0)).push (seqObj "list" #[] 0)).get? a=some (seqObj "list" #[] u):=by
  rw[Heap.get?_push_ne,Heap.get?_push_ne]
  ·exact x
  ·rw[Heap.size_update];exact eu t
  ·rw[size_push',Heap.size_update];exact eu (gz t)
 dsimp only;have g:∀ y:SortSt,(arrOf y).Perm (l7 vs)->Srt kN (arrOf y).toList->P (.done (.ret .none)) { s with heap:=sortedHeap s.heap a vs ((arrOf y).map (·.2)) }:=λy p q=>by
  obtain⟨D,C,B,z⟩:=sorted_out hI p (b8d q p.size_eq.symm);exact h _ D C B z
 have i:∀ y:SortSt,(arrOf y).Perm (l7 vs)->((arrOf y).map (·.2)).size≤jZ+1:=λy p=>by
  rw[Array.size_map,p.size_eq,pairsOf_size];omega
 by_cases c:vs.toArray.size<2
 ·rw[if_pos c,if_pos c];refine jX (jY ?_);rw[StateT.run_pure];refine jX (jY ?_);dsimp only;have r:(arrOf (SortSt.mk' general' (vs.toArray.zip vs.toArray) #[] 7 none)).Perm (l7 vs):=iJ.refl _;refine jX (mZ k rfl (jX (mY k rfl ?_ (by simp) (i _ r))));simp only[bne_self_eq_false,gR,if_false];refine jY (g _ r ?_)
  show Srt kN (l7 vs).toList
  rw[pairsOf_toList]
  have:vs.length<2:=by simpa using c
  match vs,this with
  | [],_=>exact .nil
  | [v],_=>exact iF _ _
 ·rw[if_neg c,if_neg c];obtain⟨f,d,b,rfl⟩:∃ f d b,vs=f::d::b:=by
   have:¬ vs.length<2:=by simpa using c
   match vs,this with
   | [],q=>exact absurd (by simp) q
   | [_],q=>exact absurd (by simp) q
   | f::d::b,_=>exact⟨f,d,b,rfl⟩
  rw[keyKind_ints hI];refine jX (jY (jX (kg (b0b
   (Q:=λ_ y=>(arrOf y).Perm (l7 (f::d::b))/\kz y=none/\Srt kN (arrOf y).toList) (b5y hI.intKeys) ⟨iJ.refl _,rfl,rfl⟩ rfl λy j m=>⟨j.pm,j.fl,m⟩) ?_ λ_ _ e=>e)))
  rintro⟨⟨⟩,y⟩ s' ⟨rfl,j,m,q3⟩;dsimp only;refine jX (mZ k rfl (jX (mY k rfl ?_ (by simp) (i y j))));rw[m];simp only[bne_self_eq_false,gR,if_false];exact jY (g y j q3)
end
end Tim
namespace Tim
open PySem PyProof.Rows
section
variable {prog:j7}{w:World}{A:Around}{E:Value->Shared->Prop}{s:Shared}{κ:KF}{k0:kF}
end
end Tim
namespace Tim
open PySem PyProof.Rows PySem.W
abbrev Pz:=Sum (Option Int) Str
def PtIs:Pz->Value->Prop
 | .inl none,v=>v=.none
 | .inl (some i),v=>∃ t,v=.int i t
 | .inr s,v=>∃ t,v=.str s t
def PtsAre:List Pz->List Value->Prop
 | [],[]=>True
 | x::xs,v::vs=>PtIs x v/\PtsAre xs vs
 | _,_=>False
noncomputable def lt1:Pz->Pz->Bool
 | .inl (some i),.inl (some j)=>decide (i<j)
 | .inr a,.inr b=>decide (a.cps.toList<b.cps.toList)
 | _,_=>false
def ltT:List Pz->List Pz->Bool
 | x::xs,y::ys=>if x=y then ltT xs ys else lt1 x y
 | _,_=>false
def rk (rows:List (List Pz)) (x:List Pz):Nat:=rows.countP λq=>ltT q x
def RowIn (h:Heap) (v:Value) (xs:List Pz):Prop:=∃ a o its n,v=.ref a/\h.get? a=some o/\o.cls=.type "tuple"/\o.data=.seq its n/\PtsAre xs its.toList
theorem PtIs.uniq:∀ {x y:Pz}{v:Value},PtIs x v->PtIs y v->x=y
 | .inl none,.inl none,_,_,_=>rfl
 | .inl none,.inl (some _),_,h1,⟨_,h2⟩=>by rw[h1]at h2;cases h2
 | .inl none,.inr _,_,h1,⟨_,h2⟩=>by rw[h1]at h2;cases h2
 | .inl (some _),.inl none,_,⟨_,h1⟩,h2=>by rw[h2]at h1;cases h1
 | .inl (some _),.inl (some _),_,⟨_,h1⟩,⟨_,h2⟩=>by rw[h1]at h2;cases h2;rfl
 | .inl (some _),.inr _,_,⟨_,h1⟩,⟨_,h2⟩=>by rw[h1]at h2;cases h2
 | .inr _,.inl none,_,⟨_,h1⟩,h2=>by rw[h2]at h1;cases h1
 | .inr _,.inl (some _),_,⟨_,h1⟩,⟨_,h2⟩=>by rw[h1]at h2;cases h2
 | .inr _,.inr _,_,⟨_,h1⟩,⟨_,h2⟩=>by rw[h1]at h2;cases h2;rfl
theorem PtsAre.uniq:∀ {xs ys:List Pz}{vs:List Value},PtsAre xs vs->PtsAre ys vs->xs=ys
 | [],[],[],_,_=>rfl
 | x::xs,y::ys,v::vs,⟨a,b⟩,⟨c,d⟩=>by rw[a.uniq c,PtsAre.uniq b d]
 | [],_::_,[],_,h=>h.elim
 | [],_,_::_,h,_=>h.elim
 | _::_,_,[],h,_=>h.elim
 | _::_,[],_::_,_,h=>h.elim
theorem RowIn.uniq (r:RowIn h v xs) (q:RowIn h v ys):xs=ys:=by
 obtain⟨a,o,k,n,rfl,j,_,g,d⟩:=r;obtain⟨p,m,f,l,e,b,_,c,i⟩:=q;cases e;rw[j]at b;cases b;rw[g]at c;cases c;exact d.uniq i
open Classical in
noncomputable def b3s (h:Heap) (v:Value):List Pz:=if e:∃ xs,RowIn h v xs then e.choose else []
theorem b3t (r:RowIn h v xs):b3s h v=xs:=by
 unfold b3s;have e:∃ xs,RowIn h v xs:=⟨xs,r⟩;rw[dif_pos e];exact e.choose_spec.uniq r
noncomputable def kT (h:Heap) (rows:List (List Pz)):KF:=λp=>(rk rows (b3s h p.1):Int)
section
variable {prog:j7}{w:World}{A:Around}{E:Value->Shared->Prop}{s:Shared}{a₀:Array Keyed}{b:Bool}{Q:Bool->Shared->Prop}
end
end Tim
namespace Tim
open PySem PyProof.Rows PySem.W
def RowsIn (h:Heap):List Value->List (List Pz)->Prop
 | [],[]=>True
 | v::vs,x::xs=>RowIn h v x/\RowsIn h vs xs
 | _,_=>False
theorem RowsIn.len:∀ {vs:List Value}{rows:List (List Pz)},RowsIn h vs rows->vs.length=rows.length
 | [],[],_=>rfl
 | _::_,_::_,⟨_,r⟩=>by rw[eF,eF,RowsIn.len r]
 | [],_::_,r=>r.elim
 | _::_,[],r=>r.elim
theorem RowsIn.mem:∀ {vs:List Value}{rows:List (List Pz)},RowsIn h vs rows->∀ v∈vs,∃ x∈rows,RowIn h v x
 | v::vs,x::xs,⟨r,q⟩,u,hu=>by
  rcases dY.mp hu with rfl | hu
  ·exact⟨x,.head _,r⟩
  ·obtain⟨y,b,a⟩:=q.mem u hu;exact⟨y,.tail _ b,a⟩
 | [],[],_,u,hu=>by simp at hu
 | [],_::_,r,_,_=>r.elim
 | _::_,[],r,_,_=>r.elim
theorem RowsIn.map:∀ {vs:List Value}{rows:List (List Pz)},RowsIn h vs rows->vs.map (b3s h)=rows
 | [],[],_=>rfl
 | v::vs,x::xs,⟨r,q⟩=>by rw[eE,b3t r,q.map]
 | [],_::_,r=>r.elim
 | _::_,[],r=>r.elim
section
variable {prog:j7}{w:World}{A:Around}{E:Value->Shared->Prop}{s:Shared}
end
end Tim
namespace SetW
open PySem
def Up (xs:Array Nat):Prop:=xs.toList.Pairwise (·<·)
structure TOk (led:Bool) (t:j6):Prop where
 up:Up t.place
 dm:t.dummies=#[]
 ld:t.led=led
theorem b3u (h:Up xs) (hij:i<j) (hj:j<xs.size):xs[i]'(by omega)<xs[j]:=by
 have:=gE.mp h i j (by simp;omega) (by omega) hij
 simpa using this
theorem a6M (h:Up xs) (j:Nat):∀ (fuel lo hi:Nat),hi - lo≤fuel->lo≤hi->hi≤xs.size->(∀ i,(hi':i<xs.size)->i<lo->xs[i]<j)->(∀ i,(hi':i<xs.size)->hi≤i->j≤xs[i]) ->
  j6.below.go xs j fuel lo hi≤xs.size/\(∀ i,(hi':i<xs.size)->i<j6.below.go xs j fuel lo hi->xs[i]<j)/\(∀ i,(hi':i<xs.size)->j6.below.go xs j fuel lo hi≤i->j≤xs[i])
 | 0,lo,hi,hf,h1,h2,h3,h4=>by
  have:lo=hi:=by omega
  subst this;unfold j6.below.go;exact⟨h2,h3,h4⟩
 | fuel+1,lo,hi,hf,h1,h2,h3,h4=>by
  unfold j6.below.go
  split
  ·next hlt=>
   have b:(lo+hi) / 2<xs.size:=by omega
   have f:xs.getD ((lo+hi) / 2) j=xs[(lo+hi) / 2]:=by simp[Array.getD,b]
   dsimp only;rw[f]
   split
   ·next c=>
    refine a6M h j fuel _ _ (by omega) (by omega) h2 (λi a d=>?_) h4
    by_cases e:i=(lo+hi) / 2
    ·subst e;exact c
    ·exact gq (b3u h (by omega) b) c
   ·next c=>
    refine a6M h j fuel _ _ (by omega) (by omega) (by omega) h3 λi a d=>?_
    by_cases e:i=(lo+hi) / 2
    ·subst e;omega
    ·have:=b3u h (show (lo+hi) / 2<i by omega) a;omega
  ·next hlt=>
   have:lo=hi:=by omega
   subst this;exact⟨h2,h3,h4⟩
theorem a9h (h:Up xs) (j:Nat):j6.below xs j≤xs.size/\(∀ i,(hi':i<xs.size)->i<j6.below xs j->xs[i]<j)/\(∀ i,(hi':i<xs.size)->j6.below xs j≤i->j≤xs[i]):=
 a6M h j xs.size 0 xs.size (by simp) (by simp) (dS _) (λi _ a=>by omega) λi b a=>by omega
theorem a8B {α:Type}{xs:Array α}{x:α}:(j6.insertAt xs p x).toList=xs.toList.take p++x::xs.toList.drop p:=by
 unfold j6.insertAt;simp[fD]
theorem b8e (h:Up xs) (hn:xs[j6.below xs j]?≠some j):Up (j6.insertAt xs (j6.below xs j) j):=by
 obtain⟨w,s,i⟩:=a9h h j;unfold Up at h ⊢;rw[a8B];refine eM.mpr ⟨gi.sublist (gI _ _) h,eH.mpr ⟨λy d=>?_,gi.sublist (iG _ _) h⟩,λx r y d=>?_⟩
 ·obtain⟨m,a⟩:=fq d;rw[gC]at a;obtain⟨l,e⟩:=eq.mp a;have b:j6.below xs j+m<xs.size:=by simpa using l
  have f:=i _ b (by omega);have o:xs[j6.below xs j+m]=y:=by simpa using e
  by_cases c:y=j
  ·subst c;exfalso
   by_cases hm0:m=0
   ·simp_all
   ·have t:=b3u h (show j6.below xs y<j6.below xs y+m by omega) b;have z:=i _ (by omega) (dS _);omega
  ·omega
 ·obtain⟨m,a⟩:=fq r;have g:=(eq.mp a).1;rw[eG]at g;rw[ip,if_pos (by omega)]at a;obtain⟨l,e⟩:=eq.mp a;have b:m<xs.size:=by simpa using l
  have f:=s m b (by omega);have o:xs[m]=x:=by simpa using e
  rw[o]at f;rcases dY.mp d with rfl | d
  ·exact f
  ·obtain⟨k,q⟩:=fq d;rw[gC]at q;obtain⟨p,u⟩:=eq.mp q;have n:j6.below xs j+k<xs.size:=by simpa using p
   have t:=i _ n (by omega);have v:xs[j6.below xs j+k]=y:=by simpa using u
   omega
theorem b1Q (j:Nat):j6.has #[] j=false:=by unfold j6.has;simp
theorem a9i (hd:t.dummies=#[]):∀ (fuel:Nat) (p:j6.Probe) (j:Nat) (d:Option Nat),p.dummy=none->j6.probe.go t ha h fuel p=some (.empty j d)->d=none/\t.slot j=.empty
 | 0,p,j,d,_,e=>by unfold j6.probe.go at e;cases e
 | fuel+1,p,j,d,a,e=>by
  have b:∀ p:j6.Probe,p.dummy=none->(t.advance p).dummy=none:=λp a=>by
   unfold j6.advance
   split
   ·omega
   ·omega
  unfold j6.probe.go at e;cases hs:t.slot p.j with
  | empty=>
   rw[hs]at e;simp at e;obtain⟨rfl,rfl⟩:=e;exact⟨a,hs⟩
  | dummy=>
   unfold j6.slot at hs;dsimp only at hs;rw[hd,b1Q]at hs
   split at hs
   ·cases hs
   ·simp_all
  | live i=>
   rw[hs]at e;dsimp only at e
   split at e
   ·grind
   ·exact a9i hd fuel _ j d (b p a) e
theorem b0c {t:j6}(h:t.slot j=.empty):t.place[j6.below t.place j]?≠some j:=λe=>by
 unfold j6.slot at h;dsimp only at h;rw[e]at h;simp at h
theorem b5z {t:j6}(hd:t.dummies=#[]) (e:t.freeSlot h=some (j,b)):b=false/\t.place[j6.below t.place j]?≠some j:=by
 unfold j6.freeSlot at e
 split at e
 ·next j' d hp=>
  obtain⟨rfl,a⟩:=a9i hd _ _ j' d rfl hp;simp at e;obtain⟨rfl,rfl⟩:=e;exact⟨rfl,b0c a⟩
 ·cases e
theorem TOk.standIn (h:TOk led t) (n:Nat):TOk led (t.standIn n):=by
 refine⟨?_,rfl,h.ld⟩
 show Up (Array.range n)
 unfold Up;rw[Array.toList_range];exact jz
theorem TOk.orStandIn (h:TOk led t) (n:Nat):TOk led (t.orStandIn n):=by
 unfold j6.orStandIn
 split
 ·omega
 ·exact h.standIn n
theorem TOk.layNew (h:TOk led t) (es:Array (Int×Value)) (hh:Int) (x:Value):TOk led (layNew t es hh x).2.1:=by
 unfold PySem.layNew;cases e:t.freeSlot hh with
 | none=>exact h.standIn _
 | some p=>
  obtain⟨j,b⟩:=p;obtain⟨_,a⟩:=b5z h.dm e
  have:TOk led (t.put j).1:=by
   unfold j6.put;refine⟨b8e h.up a,?_,h.ld⟩;rw[h.dm,b1Q];rfl
  exact this.orStandIn _
theorem b5A (f:Nat->Option Nat):(((ff n).filterMap λj=>(f j).map (j,·)).map (·.1)).Pairwise (·<·):=by
 have e:∀ l:List Nat,l.Pairwise (·<·)->((l.filterMap λj=>(f j).map (j,·)).map (·.1)).Pairwise (·<·)/\∀ x∈(l.filterMap λj=>(f j).map (j,·)).map (·.1),x∈l:=by
  intro l
  induction l with
  | nil=>intro _;exact⟨.nil,λx c=>by simp at c⟩
  | cons a l ih=>
   intro m;obtain⟨i,h⟩:=eH.mp m;obtain⟨g,d⟩:=ih h;rw[fJ];cases f a with
   | none=>exact⟨g,λx c=>.tail _ (d x c)⟩
   | some b=>
    exact⟨eH.mpr ⟨λy k=>i y (d y k),g⟩,λx c=>by
     rcases dY.mp c with rfl | c
     ·exact .head _
     ·exact .tail _ (d x c)⟩
 exact (e _ jz).1
theorem TOk.relay (h:TOk led t) (es:Array (Int×Value)) (n:Nat):TOk led (lM t es n).2.1:=by
 unfold lM;cases e:t.relaid _ n with
 | none=>exact h.standIn _
 | some p=>
  dsimp only
  split
  ·unfold j6.relaid j6.laid at e;cases ho:j6.layClean _ _ with
   | none=>rw[ho]at e;cases e
   | some owner=>
    rw[ho]at e;obtain⟨rfl,_⟩:=e;refine⟨?_,rfl,h.ld⟩;exact b5A _
  ·exact h.standIn _
end SetW
namespace SetW
open PySem PyProof.Rows
def byT (w:World):Bool:=w.params.followText "set-order"
structure SO (prog:j7) (w:World) (h:Heap) (a:Addr) (es:Array (Int×Value)) (ep:Nat) (t:j6) (ms:List Int):Prop where
 at_:∃ o,h.get? a=some o/\o.ExactSet/\o.data=.set es ep t
 el:ElemsOf (ku prog w) es.toList
 nums:kh (es.toList.map (·.2)) ms
 sc:es.size<kS
 fit:t.fits es.size=true
 ok:TOk (!byT w) t
def SI (prog:j7) (w:World) (h:Heap) (a:Addr) (ms:List Int):Prop:=∃ es ep t,SO prog w h a es ep t ms
theorem a17 (h:kh vs ns) (p:vs'.Perm vs):∃ ns',kh vs' ns'/\ns'.Perm ns:=by
 refine⟨vs'.map numOf,intsAre_map _ λv a=>h.all v (p.mem_iff.mp a),?_⟩
 have:=p.map numOf
 rwa [h.nums]at this
theorem b1R (h:kh vs ns):kh (vs++[.int k u]) (ns++[k]):=by
 induction h with
 | nil=>exact .cons k u .nil
 | cons n t _ ih=>exact .cons n t ih
section
variable {prog:j7}{w:World}{A:Around}{E:Value->Shared->Prop}{s:Shared}{a:Addr}{es:Array (Int×Value)}{ep:Nat}{t:j6}{ms:List Int}{k:Int}{u:Tok}
theorem SO.mem (S:SO prog w s.heap a es ep t ms):(∃ e∈es.toList,(ku prog w).is k e.2=true)↔k∈ms:=by
 have h:=S.nums.nums
 constructor
 ·rintro⟨e,b,c⟩;rw[<- h];obtain⟨n,i,d⟩:=S.nums.all e.2 (eY b);rw[d]at c
  have:k=n:=by
   have:=c
   simp[ku,Value.isInt]at this;exact this.symm
  exact eK.mpr ⟨e.2,eY b,by rw[d,this];rfl⟩
 ·intro c;rw[<- h,gZ]at c;obtain⟨e,b,g⟩:=eK.mp c;obtain⟨n,i,d⟩:=S.nums.all e.2 (eY b);refine⟨e,b,?_⟩;simp at g;rw[d]at g ⊢
  have:n=k:=g
  rw[this];exact nh _ _ _ _
theorem SO.stored {h:Heap}(ho:h.get? a=some o) (hx:o.ExactSet) (hd:o.data=.set es ep t) (hel:ElemsOf (ku prog w) es'.toList) (hi:kh (es'.toList.map (·.2)) ms') (hs:es'.size<kS) (hf:t'.fits es'.size=true) (hk:TOk (!byT w) t') :
  (h.update a (Obj.putSet es' t')).get? a=some { o with data:=.set es' (ep+1) t' }/\SO prog w (h.update a (Obj.putSet es' t')) a es' (ep+1) t' ms':=by
 have b:(h.update a (Obj.putSet es' t')).get? a=some { o with data:=.set es' (ep+1) t' }:=by
  have q:=Heap.get?_update_self (Obj.putSet es' t') ho (by rw[putSet_of es' t' hd];rfl);rw[putSet_of es' t' hd]at q;exact q
 exact⟨b,⟨⟨_,b,hx,rfl⟩,hel,hi,hs,hf,hk⟩⟩
theorem TOk.plain (h:TOk led t):TOk led ({ t with plain:=b }:j6):=⟨h.up,h.dm,h.ld⟩
theorem b5B (S:SO prog w s.heap a es ep t ms) (hr:ms.length+1<kS)
  (h:∀ h' ms' b,Heap.SameBut a s.heap h'->SI prog w h' a ms'->ms'.Perm (if k∈ms then ms else ms++[k])->Q b { s with heap:=h' }) :
  wpAny (model prog w) A (setAddHashed a (.int k u) ((ku prog w).hash k)) Q E s:=by
 obtain⟨⟨o,D,Y,F⟩,l,v,hsc,y,hok⟩:=id S;have m:(ku prog w).is k (.int k u)=true:=nh _ _ _ _;have T:es.size=ms.length:=by
  have q:=congrArg eQ v.nums;simpa using q
 refine kr (jX (lN D F y ?_));dsimp only;rw[byScan_of rfl hsc l];simp;unfold setAddByScan;refine jX (jX (kP (jX (wpAny_setScan_of m D F y l ?_))));cases hf:List.findIdx? _ es.toList with
 | some j=>
  dsimp only;obtain⟨hj,R,_⟩:=List.findIdx?_eq_some_iff_getElem.mp hf;have g:=S.mem.mp ⟨_,fm hj,R⟩;refine jY (jY ?_);have q:=h s.heap ms false (Heap.SameBut.refl a s.heap) ⟨es,ep,t,S⟩ (by rw[if_pos g]);exact q
 | none=>
  dsimp only;have g:k∉ms:=λz=>by
   obtain⟨e,he,R⟩:=S.mem.mpr z;have q:=List.findIdx?_eq_none_iff.mp hf e he;rw[R]at q;cases q
  have i:=layNew_perm t es ((ku prog w).hash k) (.int k u);have C:=layNew_fits t es ((ku prog w).hash k) (.int k u);have B:=hok.layNew es ((ku prog w).hash k) (.int k u);generalize layNew t es ((ku prog w).hash k) (.int k u)=L at i C B ⊢;obtain⟨c,t1,wd,X⟩:=L;dsimp only at i C B ⊢;rw[fb]at i;have M:=(l.push m rfl).perm i;have sz1:c.size=ms.length+1:=by rw[<- fj,i.length_eq,dW,fj,T];rfl
  obtain⟨ms1,I,G⟩:=a17 (vs':=c.toList.map (·.2)) (b1R v) (by
   have q:=i.map (·.2);rw[eA]at q;exact q)
  have J:c.size<scanBound:=by omega
  have H:∀ d,d.fits c.size=true->TOk (!byT w) d->wpAny (model prog w) A (do
    ni a c d
    if (!wd&&d.tooFull)=true then do
     (match (lM d c (j6.grown c.size)).2.2 with | true=>rule "set.scan.the-table-gave-way" | false=>pure ())
     ni a (lM d c (j6.grown c.size)).1 (lM d c (j6.grown c.size)).2.1
     pure (some true)
    else pure (some true)) (λr V=>wpAny (model prog w) A (match r with | some added=>pure added | none=>setAddHashedIn a (.int k u) ((ku prog w).hash k) 99999) Q E V) E s:=by
   intro d f2 k2;refine jX (wpAny_storeSet_of D F ?_ (fits_of_scanBound J));obtain⟨g1,S1⟩:=SO.stored D Y F M I J f2 k2;have b1:=Heap.SameBut.update s.heap a (Obj.putSet c d)
   split
   ·have n:=relayAll_perm d c (j6.grown c.size);have N:=relayAll_fits d c (j6.grown c.size);have U:=k2.relay c (j6.grown c.size);generalize lM d c (j6.grown c.size)=W at n N U ⊢;obtain⟨x,t3,g3⟩:=W;dsimp only at n N U ⊢;have sz2:x.size=c.size:=by rw[<- fj,n.length_eq,fj]
    obtain⟨ms2,im2,aa⟩:=a17 I (n.map (·.2));refine jX ?_;have p:wpAny (model prog w) A (ni a x t3 >>= λ_=>pure (some true)) (λr V=>wpAny (model prog w) A (match r with | some added=>pure added | none=>setAddHashedIn a (.int k u) ((ku prog w).hash k) 99999) Q E V) E { s with heap:=s.heap.update a (Obj.putSet c d) }:=by
     refine jX (wpAny_storeSet_of g1 rfl ?_ (fits_of_scanBound (by omega)));obtain⟨_,S2⟩:=SO.stored g1 Y rfl (M.perm n) im2 (by omega) N U;refine jY (jY ?_);exact h _ ms2 true (b1.trans (Heap.SameBut.update _ a _)) ⟨x,_,t3,S2⟩ (by rw[if_neg g];exact aa.trans G)
    cases g3 with
    | true=>exact kP p
    | false=>exact jY p
   ·exact jY (jY (h _ ms1 true b1 ⟨c,_,d,S1⟩ (by rw[if_neg g];exact G)))
  have gw:∀ {β:Type}{f:Unit->Sem β}{Q':β->Shared->Prop},wpAny (model prog w) A (f ()) Q' E s->wpAny (model prog w) A ((match X with | true=>rule "set.scan.the-table-gave-way" | false=>pure ()) >>= f) Q' E s:=λhq=>by
   cases X with
   | true=>exact jX (kP hq)
   | false=>exact jX (jY hq)
  refine gw ?_
  split
  ·refine jX ?_;refine jY ?_;exact H t1 C B
  ·refine jX (jY ?_);exact H t1 C B
end
end SetW
namespace SetW
open PySem PyProof.Rows
theorem SI.at (S:SI prog w h a ms) (k:∀ o,h.get? a=some o->h'.get? a=some o):SI prog w h' a ms:=by
 obtain⟨f,e,t,⟨o,g,x,d⟩,b,j,l,c,i⟩:=S;exact⟨f,e,t,⟨o,k o g,x,d⟩,b,j,l,c,i⟩
def Met (val:Nat->Int) (i:Nat) (ms:List Int):Prop:=ms.Nodup/\ms.length≤i/\∀ x,x∈ms↔∃ j,j<i/\val j=x
theorem Met.step (h:Met val i ms) (p:ms'.Perm (if val i∈ms then ms else ms++[val i])):Met val (i+1) ms':=by
 obtain⟨d,f,b⟩:=h;have a:∀ x,(∃ j,j<i+1/\val j=x)↔(∃ j,j<i/\val j=x)\/x=val i:=λx=>by grind
 by_cases c:val i∈ms
 ·rw[if_pos c]at p;refine⟨p.nodup_iff.mpr d,by rw[p.length_eq];omega,λx=>?_⟩;rw[p.mem_iff,a,b];exact⟨.inl,λz=>z.elim id λe=>(b x).mp (e▸c)⟩
 ·rw[if_neg c]at p;refine⟨p.nodup_iff.mpr ?_,by rw[p.length_eq];simp;exact f,λx=>?_⟩
  ·rw[fO];exact⟨d,by simp,λx l y g=>by rw[dX.mp g];rintro rfl;exact c l⟩
  ·rw[p.mem_iff,a,dU,b,dX]
section
variable {prog:j7}{w:World}{A:Around}{R:Result->Shared->Prop}{I:Addr}{fp wr:List Addr}{G:Array mq->Array mq->Prop}{n:Nat}{P:Nat->Value->Prop}{St:Nat->Shared->Prop}
theorem b3v (W:WalksS prog w A.in1 I fp wr G n P St) (S:Addr) (hSf:S∉fp) (val:Nat->Int) (hv:∀ i v,P i v->∃ t,v=.int (val i) t) (hb:n+1<kS) :
  ∀ (k i:Nat) (s:Shared) (ms:List Int),n - i=k->i≤n->St i s->SI prog w s.heap S ms->Met val i ms ->
   (∀ s' ms',Moved (S::wr) G s s'->SI prog w s'.heap S ms'->Met val n ms'->R (.ok (.ret .none)) s') ->
   kC (model prog w) A (.builtin "set.update.loop" ⟨[.ref S,.ref I],[]⟩) R s:=by
 have u:S∉wr:=λz=>hSf (W.sub _ z);have H:∀ b∈wr,b∈S::wr:=λb z=>fi _ z;intro k
 induction k with
 | zero=>
  intro i s m X M l p f q;have e:i=n:=by omega
  subst e;refine lc PyProof.Rows.F.entry_set_update_loop ?_;refine jX (W.done s _ _ l λa d=>?_)
  show wpAny _ A.in1 (ret Value.none) _ _ a
  exact jY (q a m (d.mono H) (p.at λo g=>d.heap S o u g) f)
 | succ k ih=>
  intro i s m X M l p f q;refine lc PyProof.Rows.F.entry_set_update_loop ?_;refine jX (W.item i s _ _ (by omega) l λv a N r d=>?_);obtain⟨y,rfl⟩:=hv i v N;obtain⟨U,Q,t,S1⟩:=p.at λo g=>d.heap S o u g
  show wpAny _ A.in1 _ _ _ a
  refine jX (kr ?_);unfold setAdd;refine kr (jX ((ku prog w).pyHash (nh _ _ _ _) ?_));have T:=S1;refine b5B T (by have:=f.2.1;omega) λY B b h D V=>?_;refine jY ⟨lB PyProof.Rows.F.plain_set_update_loop _,ih (i+1) _ B (by omega) (by omega) (W.frame _ a _ _ r (fP _) λc j o g=>?_) D (f.step V) λL J C E x=>?_⟩
  ·rw[h.2 c λz=>hSf (z▸j)];exact g
  ·refine q L J (Moved.trans W.gtrans ((d.mono H).then_heap (fP _) λc o j g=>?_) C) E x;rw[h.2 c λz=>j (by rw[z];exact ft)];exact g
end
section
variable {prog:j7}{w:World}{A:Around}{E:Value->Shared->Prop}{s:Shared}
abbrev a1z (w:World):Obj:={ cls:=.type "set",dict:=none,data:=.set #[] 0 (.fresh 0 0 (!byT w)) }
theorem SI.fresh (g:h.get? a=some (a1z w)):SI prog w h a []:=
 ⟨#[],0,.fresh 0 0 _,⟨_,g,⟨rfl,rfl,rfl⟩,rfl⟩,λe b=>by simp at b,.nil,by decide,rfl,⟨.nil,rfl,rfl⟩⟩
theorem b5C (a:Value) (h:Q (.ref s.heap.objs.size) { s with heap:=s.heap.push (a1z w) }) :
  kC (model prog w) A (.call (.builtin "set.__new__") ⟨[.type "set",a],[]⟩) (wants Q E) s:=by
 refine codeAny_of_tree ?_
 show wpAny _ A.in1 (do l4 "set.__new__" ⟨[.type "set",a],[]⟩;again (.builtin "set.__new__" ⟨[.type "set",a],[]⟩)) _ _ s
 refine jX (my (PySem.F.newCall_set_1 a) (jY ⟨lB PySem.F.plain_set_new _,lc PySem.F.entry_set_new ?_⟩));rw[Around.under_plainId PySem.F.plain_set_new _];unfold j8.«set.__new__» j8.Frozenset.newClass;have sub:=sub_set_self;obtain⟨hp,g,d,tk,os⟩:=s;dsimp only
 wp_walk
 refine nj (jY ?_);dsimp only;simp only[newObj];refine jX (wpAny_alloc (jY ?_));exact jY h
set_option maxHeartbeats 3200000 in
/-- set(a list of whole numbers) -/
theorem call_set (hh:A.handled=none) (hl:s.heap.IsList l items) (hi:kh items.toList ns) (hb:items.size+1<kS)
  (h:∀ (h':Heap) (tk:Nat) (ms:List Int),SI prog w h' s.heap.objs.size ms->Met (λi=>ns.getD i 0) items.size ms->(∀ b o,b<s.heap.objs.size->s.heap.get? b=some o->h'.get? b=some o)->Q (.ref s.heap.objs.size) { s with heap:=h',toks:=tk }) :
  wpAny (model prog w) A (call (.type "set") [.ref l]) Q E s:=by
 obtain⟨mc,mt,mro⟩:=PySem.F.called_set.mro;have md:=PySem.F.called_set.made;have sb:=PySem.F.called_set.sub;refine lG (codeAny_of_tree ?_)
 show wpAny _ _ (callAny (.type "set") _) _ _ _
 refine jY ⟨Code.quiet_builtin _ (by decide +kernel),lc PySem.F.entry_type_call ?_⟩;rw[Around.under_plain (weight_type_call_type "set" [.ref l] []) rfl];have nt:=PySem.F.called_set.notType;have cc:=PySem.F.called_set.canCreate;have tc:=PySem.F.typeCall_set_1 (.ref l)
 repeat (any_goals (first | assumption | wp_step))
 refine lb (b5C (w:=w) (.ref l) (E:=E) (Q:=λobj s1=>obj=.ref s.heap.objs.size/\s1={ s with heap:=s.heap.push (a1z w) }) ⟨rfl,rfl⟩) λr s1 hr=>?_;cases r with
 | error e=>exact hr
 | ok fl=>
  cases fl with
  | ret obj=>
   obtain⟨rfl,rfl⟩:=hr;have gS:(s.heap.push (a1z w)).get? s.heap.objs.size=some (a1z w):=Heap.get?_push_size _ rfl;have tS:Shared.TypeIs { s with heap:=s.heap.push (a1z w) } (.ref s.heap.objs.size) "set":=⟨_,gS,rfl⟩;have li:=PySem.F.called_set.init.lookup;have bi:=PySem.F.called_set.init.bind (.ref s.heap.objs.size)
   repeat (any_goals (first | assumption | wp_step))
   refine lb (codeAny_call_builtin (R:=wants (λr s2=>r=.none/\∃ h' tk ms,s2={ s with heap:=h',toks:=tk }/\SI prog w h' s.heap.objs.size ms/\Met (λi=>ns.getD i 0) items.size ms /\
     (∀ b o,b<s.heap.objs.size->s.heap.get? b=some o->h'.get? b=some o)) E) PySem.F.called_set.init.plain PySem.F.entry_set_init (check_set_init_1 tS ?_)) λr2 s2 hr2=>?_
   ·obtain⟨ol,gl,cl,nl,dl⟩:=hl;obtain⟨oc,od,ob,osl⟩:=ol;simp only at cl dl;subst cl dl;have gl':(s.heap.push (a1z w)).get? l=some { cls:=.type "list",dict:=od,data:=.seq items nl,slots:=osl }:=Heap.get?_push_of_some _ gl;have s1:=PySem.F.sub_list_set;have s2:=PySem.F.sub_list_frozenset;have ne:(Value.type "list"==Value.type "dict")=false:=by decide
    have il:(s.heap.push (a1z w)).IsList l items:=⟨_,gl',rfl,nl,rfl⟩;unfold j8.«set.__init__» noKeywords j8.Frozenset.updateFrom;generalize hPI:pyIter=PI
    wp_walk
    subst hPI;refine lQ il (jX (wpAny_runValue ?_));have ll:l<s.heap.objs.size:=Heap.lt_size gl;have h3:A.in1.in1.in1.handled=none:=by simp[hh]
    have nI:l≠(s.heap.push (a1z w)).objs.size:=by rw[Heap.size_push];exact eu (gz ll)
    have nf:s.heap.objs.size∉[(s.heap.push (a1z w)).objs.size,l]:=by
     rw[Heap.size_push];simp only[dY,dX,fw,or_false,not_or];exact⟨eu (h9 _),fG ll⟩
    refine b3v ((Walks.list h3 _ l nI items).toS) s.heap.objs.size nf (λi=>ns.getD i 0) (λi v e=>kh.int_at hi i v (by rw[fE];exact e)) hb (items.size - 0) 0 _ [] (by omega) (eP _)
     ⟨⟨_,Heap.get?_push_size _ rfl,rfl,rfl⟩,(il.push _)⟩ (SI.fresh (Heap.get?_push_of_some _ gS)) ⟨.nil,dS _,λx=>by simp⟩ λs' ms mv hS hM=>?_
    obtain⟨h',g',d',tk',os'⟩:=s';have eg:g'=s.gens:=mv.gens;have ed:d'=s.drawn:=mv.drawn;have eo:os'=s.os:=mv.os;subst eg ed eo
    show wpAny _ _ _ _ _ _
    refine jY ?_
    show wpAny _ _ (ret Value.none) _ _ _
    refine jY ⟨rfl,h',tk',ms,rfl,hS,hM,λb o hb e=>?_⟩;refine mv.heap b o ?_ (Heap.get?_push_of_some _ (Heap.get?_push_of_some _ e));simp only[dY,dX,fw,or_false,not_or];exact⟨eu hb,by rw[Heap.size_push];exact eu (gz hb)⟩
   ·cases r2 with
    | error e=>exact hr2
    | ok f2=>
     cases f2 with
     | ret r=>
      obtain⟨rfl,h',tk,ms,rfl,hS,hM,hk⟩:=hr2
      repeat (any_goals (first | assumption | wp_step))
      exact h _ _ _ hS hM hk
     | _=>exact hr2.elim
  | _=>exact hr.elim
end
end SetW
namespace SetW
open PySem PyProof.Rows
theorem sit_next:Slot "set_iterator" "__next__" "set_iterator.__next__":=.of (owner:="set_iterator") (n:="__next__") (by rw[typeLookup_type,builtinLookup_eq_fast];kernel_rfl) (by decide +kernel) (by decide +kernel) (by decide +kernel) (by first | exact .inl (by decide +kernel) | exact .inr (by decide +kernel)) (by rw[nn];kernel_rfl)
theorem a1A:mz table "set_iterator.__next__"=some j8.«set_iterator.__next__»:=entryFor_of_tree (by kernel_rfl)
theorem a9j:Slot "set_iterator" "__iter__" "set_iterator.__iter__":=.of (owner:="set_iterator") (n:="__iter__") (by rw[typeLookup_type,builtinLookup_eq_fast];kernel_rfl) (by decide +kernel) (by decide +kernel) (by decide +kernel) (by first | exact .inl (by decide +kernel) | exact .inr (by decide +kernel)) (by rw[nn];kernel_rfl)
theorem a5R:mz table "set_iterator.__iter__"=some j8.«dict_keyiterator.__iter__»:=entryFor_alias (id':="dict_keyiterator.__iter__") (by kernel_rfl) rfl (by decide +kernel) (by kernel_rfl)
theorem a5S:mz table "set.__iter__"=some j8.«frozenset.__iter__»:=entryFor_alias (id':="frozenset.__iter__") (by kernel_rfl) rfl (by decide +kernel) (by kernel_rfl)
theorem a7D:Manifest.owners.lookup (String.ofList ['r','o','t','a','r','e','t','i','_','t','e','s'].reverse)=some Manifest.sig_set_iterator:=by kernel_rfl
theorem a1M (a:Value):argsOk "set_iterator.__next__" ⟨[a],[]⟩:=by unfold argsOk;rw[signature?_of (n:=['_','_','t','x','e','n','_','_']) (by kernel_rfl) a7D];kernel_rfl
theorem a6N (a:Value):argsOk "set_iterator.__iter__" ⟨[a],[]⟩:=by unfold argsOk;rw[signature?_of (n:=['_','_','r','e','t','i','_','_']) (by kernel_rfl) a7D];kernel_rfl
def SetIt (h:Heap) (it a:Addr) (first:Value) (i n ep:Nat):Prop:=∃ o,h.get? it=some o/\o.cls=.type "set_iterator"/\o.data=.fields #[first,.int i 0,.ref a,.int n 0,.int ep 0]
theorem SetIt.ty {s:Shared}(x:SetIt s.heap it a f i n ep):s.TypeIs (.ref it) "set_iterator":=let ⟨o,g,c,_⟩:=x;⟨o,g,c⟩
theorem SetIt.at (x:SetIt h it a f i n ep) (e:∀ o,h.get? it=some o->h'.get? it=some o):SetIt h' it a f i n ep:=let ⟨o,g,r⟩:=x;⟨o,e _ g,r⟩
section
variable {prog:j7}{w:World}{A:Around}{E:Value->Shared->Prop}{s:Shared}{it a:Addr}{f:Value}{i n ep:Nat}{o:Obj}{es:Array (Int×Value)}{t:j6}
theorem a6O (x:SetIt s.heap it a f i n ep) (h:Q (.ref it) s):wpAny (model prog w) A (pyIter (.ref it)) Q E s:=by
 refine wpAny_pyIter_slot x.ty a9j (kD a9j x.ty a5R ?_ (a6N _));exact jY ⟨_,rfl,"set_iterator",_,x.ty,sit_next.lookup,h⟩
theorem a9k (hh:A.handled=none) (hQ:∀ h':Heap,(∀ b o,s.heap.get? b=some o->h'.get? b=some o)->Q none { s with heap:=h' }) :
  wpAny (model prog w) A.in1 (newExc (.type "StopIteration") [] >>= λe=>(raiseNew e:Sem Final)) (λ_ _=>False) (λe s'=>wpAny (model prog w) A (do if <- isInstance e (.type "StopIteration") then pure (none:Option Value) else throw e) Q E s') s:=by
 refine jX ?_;refine jX (kJ ?_ (by size_fits));refine jX (my (by first | rfl | (simp;rfl)) ?_)
 refine kJ ?_ (by size_fits);refine jX (wpAny_handled ?_);rw[hh];refine jX (jY (mV ?_));refine jX (nq ⟨_,Heap.get?_push_size _ rfl,rfl⟩ isSubtype_stop ?_);exact jY (hQ _ λb o e=>Heap.get?_push_of_some _ (Heap.get?_push_of_some _ e))
end
end SetW
namespace SetW
open PySem PyProof.Rows
section
variable {prog:j7}{w:World}{A:Around}{E:Value->Shared->Prop}{s:Shared}{it a:Addr}{f:Value}{i n ep k:Nat}{o:Obj}{es:Array (Int×Value)}{t:j6}{ms:List Int}
theorem a7E (S:SO prog w s.heap a es ep t ms) (hT:byT w=true) (h:Q (((kK (w.params.setOrder a ep) es)[i]?).map λe=>(e.2,k)) s) :
  wpAny (model prog w) A (mB a k i ep) Q E s:=by
 obtain⟨⟨o,f,n,d⟩,j,g,m,b,l⟩:=id S;refine jX (lN f d b ?_);refine lO (λ_=>?_) λc=>absurd hT c;simp;refine jX ?_;refine jX (lN f d b ?_);refine lO (λ_=>?_) λc=>absurd hT c;refine jX (nj (jY (jY ?_)));exact h
theorem a6f (S:SO prog w s.heap a es ep t ms) (hT:byT w=false) (hp:(!t.plain&&decide (es.size > 1))=false)
  (h:Q (match es[j6.below t.place k]?,t.place[j6.below t.place k]? with | some (_,x),some j=>some (x,j+1) | _,_=>none) s) :
  wpAny (model prog w) A (mB a k i ep) Q E s:=by
 obtain⟨⟨o,f,n,e⟩,l,g,m,b,d⟩:=id S;refine jX (lN f e b ?_);refine lO (λc=>by rw[show (model prog w).w.params.followText "set-order"=byT w from rfl,hT]at c;cases c) λ_=>?_
 show wpAny _ _ (if (!t.plain&&decide _)=true then _ else _) _ _ _
 rw[hp]
 show wpAny _ _ ((if _=true then _ else _) >>= _) _ _ _
 rw[d.ld,hT];exact jX (jY (jY h))
theorem a7F (x:SetIt s.heap it a (.int k 0) i es.size ep) (S:SO prog w s.heap a es ep t ms)
  (hnx:∀ (B:Around) (F:Value->Shared->Prop) (R:Option (Value×Nat)->Shared->Prop),R (some (v,nx)) s->wpAny (model prog w) B (mB a k i ep) R F s)
  (hQ:∀ h',SetIt h' it a (.int nx 0) (i+1) es.size ep->Heap.SameBut it s.heap h'->Q (some v) { s with heap:=h' }):wpAny (model prog w) A (pyNext (.ref it)) Q E s:=by
 obtain⟨u,c,h,b⟩:=id x;obtain⟨⟨o,j,C,p⟩,z,l,r,d,y⟩:=id S;refine jX (kR (wpAny_callSpecial?_slot x.ty sit_next (kD sit_next x.ty a1A ?_ (a1M _))));refine jX (jY ?_);refine jX (mC c b ?_);refine jX (l8 j p d ?_);simp;refine jX (hnx _ _ _ ?_);refine jX (kO c b (by simp) ?_);have f:=Heap.get?_update_self (Obj.mapFields (·.setIfInBounds 0 (rawInt nx))) c (Obj.isFreed_of_fields (Obj.data_mapFields b _));have e:=Obj.data_mapFields b (·.setIfInBounds 0 (rawInt nx));refine jX (kO f e (by simp) ?_);have g:=Heap.get?_update_self (Obj.mapFields (·.setIfInBounds 1 (rawInt (i+1)))) f (Obj.isFreed_of_fields (Obj.data_mapFields e _));have q:=Obj.data_mapFields e (·.setIfInBounds 1 (rawInt (i+1)));have n:SetIt _ it a (.int nx 0) (i+1) es.size ep:=
  ⟨_,g,(Obj.cls_mapFields ..).trans ((Obj.cls_mapFields ..).trans h),by rw[q];simp[rawInt]⟩
 refine jY ⟨_,rfl,?_⟩;exact jY (hQ _ n ((Heap.SameBut.update ..).trans (Heap.SameBut.update ..)))
theorem a9l (hh:A.handled=none) (x:SetIt s.heap it a (.int k 0) i es.size ep) (S:SO prog w s.heap a es ep t ms)
  (hnx:∀ (B:Around) (F:Value->Shared->Prop) (R:Option (Value×Nat)->Shared->Prop),R none s->wpAny (model prog w) B (mB a k i ep) R F s)
  (hQ:∀ h',(∀ b o,b≠it->s.heap.get? b=some o->h'.get? b=some o)->Q none { s with heap:=h' }):wpAny (model prog w) A (pyNext (.ref it)) Q E s:=by
 obtain⟨u,f,D,d⟩:=id x;obtain⟨⟨o,g,G,j⟩,r,p,v,c,y⟩:=id S;refine jX (kR (wpAny_callSpecial?_slot x.ty sit_next (kD sit_next x.ty a1A ?_ (a1M _))));refine jX (jY ?_);refine jX (mC f d ?_);refine jX (l8 g j c ?_);simp;refine jX (hnx _ _ _ ?_);refine jX (kO f d (by simp) ?_);refine kg (a9k hh λn h=>?_) (λ_ _ z=>z.elim) λe C z=>z;have q:=hQ n λb o l e=>h b o ((Heap.SameBut.update s.heap it _).extBut b o l e);exact q
end
end SetW
namespace SetW
open PySem PyProof.Rows
theorem a4j {α:Type}:∀ (l:List α) {i:Nat}(h:i<l.length),l.Perm (l[i]::l.eraseIdx i)
 | x::l,0,_=>by simp
 | x::l,i+1,h=>by
  have q:=a4j l (by simpa using h);exact (eN.cons x q).trans (eN.swap _ _ _)
theorem b1S {α:Type}(next:Nat->Nat):∀ (fuel k:Nat) (left:List α) (out:Array α),fuel=left.length->(kK.go next fuel k left out).toList.Perm (out.toList++left)
 | 0,k,left,out,h=>by
  have:=fN.mp h.symm
  subst this;unfold kK.go;simp
 | fuel+1,k,left,out,h=>by
  unfold kK.go;have a:next k % left.length<left.length:=Nat.mod_lt _ (by omega);rw[et a];refine (b1S next fuel _ _ _ (by grind)).trans ?_;rw[fb,eO];exact eN.append_left _ (a4j left a).symm
theorem a7G {α:Type}(next:Nat->Nat) (xs:Array α):(kK next xs).toList.Perm xs.toList:=by
 have:=b1S next xs.size 0 xs.toList #[] (by simp)
 simpa[kK]using this
def a3O (t:j6):Nat->Nat
 | 0=>0
 | j+1=>t.place.getD j 0+1
theorem a6g (h:TOk led t) (hi:i≤t.place.size):j6.below t.place (a3O t i)=i:=by
 obtain⟨f,a,d⟩:=a9h h.up (a3O t i);cases i with
 | zero=>
  by_cases c:j6.below t.place (a3O t 0)=0
  ·grind
  ·have:=a 0 (by omega) (by omega)
   have z:a3O t 0=0:=rfl;omega
 | succ j=>
  have b:j<t.place.size:=by omega
  have e:a3O t (j+1)=t.place[j]+1:=by show t.place.getD j 0+1=_;rw[jA,fI b];rfl
  rcases Nat.lt_trichotomy (j6.below t.place (a3O t (j+1))) (j+1) with c | c | c
  ·grind
  ·omega
  ·have q:=a (j+1) (by omega) c;have r:=b3u h.up (show j<j+1 by omega) (by omega);omega
theorem SO.at (S:SO prog w h a es ep t ms) (k:∀ o,h.get? a=some o->h'.get? a=some o):SO prog w h' a es ep t ms:=by
 obtain⟨⟨o,g,x,d⟩,e,i,b,c,f⟩:=S;exact⟨⟨o,k o g,x,d⟩,e,i,b,c,f⟩
section
variable {prog:j7}{w:World}{A:Around}{E:Value->Shared->Prop}{s:Shared}{it a T:Addr}{f:Value}{i n ep k:Nat}{o:Obj}{es:Array (Int×Value)}{t:j6}{ms:List Int}{ps:List Nat}
def b3w (w:World) (a:Addr) (ep:Nat) (es:Array (Int×Value)):List Value:=(kK (w.params.setOrder a ep) es).toList.map (·.2)
theorem b1T (hh:A.handled=none) (hne:a≠it) (hT:byT w=true):Walks prog w A it [it,a] [it] es.size (λi v=>(b3w w a ep es)[i]?=some v) (λi h=>SetIt h it a (.int (0:Nat) 0) i es.size ep/\SO prog w h a es ep t ms):=by
 have p:(kK (w.params.setOrder a ep) es).size=es.size:=by rw[<- fj,(a7G _ es).length_eq,fj]
 refine⟨λb d=>by simp at d;simp[d],λ_ _ _ c l=>⟨c.1.at λo e=>l it (by simp) o e,c.2.at λo e=>l a (by simp) o e⟩,λi s Q E q c f=>?_,λs Q E c f=>?_,λ_ _ _ _ c f=>a6O c.1 f⟩
 ·have k:(kK (w.params.setOrder a ep) es)[i]?=some ((kK (w.params.setOrder a ep) es)[i]'(by omega)):=fI _;refine a7F (v:=((kK (w.params.setOrder a ep) es)[i]'(by omega)).2) (nx:=0) c.1 c.2 (λB F R j=>a7E c.2 hT ?_) λg x m=>?_
  ·simp_all
  ·refine f _ g s.toks ?_ ⟨x,c.2.at λo e=>m.extBut a o hne e⟩ λb o d e=>m.extBut b o (λz=>d (by simp[z])) e;unfold b3w;rw[er,fE,k]
   rfl
 ·refine a9l hh c.1 c.2 (λB F R j=>a7E c.2 hT ?_) λg n=>f g s.toks λb o d e=>n b o (λz=>d (by simp[z])) e;rw[jB (by omega)];exact j
theorem b0d (hh:A.handled=none) (hne:a≠it) (hT:byT w=false) (hp:(!t.plain&&decide (es.size > 1))=false) (hf:t.fits es.size=true) (ok:TOk (!byT w) t) :
  Walks prog w A it [it,a] [it] es.size (λi v=>(es.toList.map (·.2))[i]?=some v) (λi h=>SetIt h it a (.int (a3O t i) 0) i es.size ep/\SO prog w h a es ep t ms):=by
 have q:t.place.size=es.size:=by
  simp only[j6.fits,fM,beq_iff_eq]at hf;exact hf.1
 refine⟨λb d=>by simp at d;simp[d],λ_ _ _ c m=>⟨c.1.at λo e=>m it (by simp) o e,c.2.at λo e=>m a (by simp) o e⟩,λi s Q E n c f=>?_,λs Q E c f=>?_,λ_ _ _ _ c f=>a6O c.1 f⟩
 ·have j:i<t.place.size:=by omega
  refine a7F (v:=es[i].2) (nx:=a3O t (i+1)) c.1 c.2 (λB F R g=>a6f c.2 hT hp ?_) λk x l=>?_
  ·rw[a6g ok (by omega),fI n,fI j];have e:a3O t (i+1)=t.place[i]+1:=by show t.place.getD i 0+1=_;rw[jA,fI j];rfl
   rw[e]at g;exact g
  ·refine f _ k s.toks ?_ ⟨x,c.2.at λo e=>l.extBut a o hne e⟩ λb o d e=>l.extBut b o (λz=>d (by simp[z])) e;rw[er,fE,fI n]
   rfl
 ·refine a9l hh c.1 c.2 (λB F R g=>a6f c.2 hT hp ?_) λk p=>f k s.toks λb o d e=>p b o (λz=>d (by simp[z])) e;rw[a6g ok (by omega),jB (by omega)];exact g
end
end SetW
namespace SetW
open PySem PyProof.Rows
section
variable {prog:j7}{w:World}{A:Around}{E:Value->Shared->Prop}{s:Shared}{it a T:Addr}{f:Value}{i n ep k:Nat}{o:Obj}{es:Array (Int×Value)}{t:j6}{ms:List Int}{ps:List Nat}
theorem b5D (hn:n≠0) (h:∀ i d',i<n->Q i { s with drawn:=d' }):wpAny (model prog w) A (choose src n) Q E s:=
 λ_ _ _=>⟨hn,h _ _ (Nat.mod_lt _ (Nat.pos_of_ne_zero hn))⟩
theorem a9m {α:Type}:∀ (n:Nat) (xs:List α) (s:Shared) (Q:List α->Shared->Prop),xs.length=n->(∀ ys d',ys.Perm xs->Q ys { s with drawn:=d' })->wpAny (model prog w) A (drawOrder n xs) Q E s
 | 0,xs,s,Q,hl,h=>by
  have:=fN.mp hl
  subst this;exact jY (h [] s.drawn .nil)
 | n+1,[],s,Q,hl,h=>by cases hl
 | n+1,x::xs,s,Q,hl,h=>by
  refine jX (b5D (by simp) λi e a=>?_);rw[et a];refine jX (a9m n _ _ _ (by grind) λd c b=>?_);refine jY ?_;exact h _ c ((eN.cons _ b).trans (a4j _ a).symm)
def PlacesAt (h:Heap) (T:Addr) (ps:List Nat):Prop:=∃ o c,h.get? T=some o/\o.data=.seq (ps.map λ(i:Nat)=>rawInt i).toArray c
theorem PlacesAt.at (x:PlacesAt h T ps) (k:∀ o,h.get? T=some o->h'.get? T=some o):PlacesAt h' T ps:=let ⟨o,c,g,d⟩:=x;⟨o,c,k _ g,d⟩
theorem b0e (x:SetIt s.heap it a (.ref T) i es.size ep) (S:SO prog w s.heap a es ep t ms) (y:PlacesAt s.heap T ps) (hp:ps[i]?=some p) (he:es[p]?=some e)
  (hQ:∀ h',SetIt h' it a (.ref T) (i+1) es.size ep->Heap.SameBut it s.heap h'->Q (some e.2) { s with heap:=h' }):wpAny (model prog w) A (pyNext (.ref it)) Q E s:=by
 obtain⟨u,f,j,d⟩:=id x;obtain⟨⟨o,g,F,h⟩,C,k,D,b,B⟩:=id S;obtain⟨G,c,r,z⟩:=y;refine jX (kR (wpAny_callSpecial?_slot x.ty sit_next (kD sit_next x.ty a1A ?_ (a1M _))));refine jX (jY ?_);refine jX (mC f d ?_);refine jX (l8 g h b ?_);rw[if_neg (by simp)];refine jX (jX (lP r ?_));rw[z];refine jY ?_;dsimp only;have l:(ps.map λ(i:Nat)=>rawInt i).toArray[(i:Int).toNat]?=some (rawInt p):=by simp_all
 rw[l]
 show wpAny _ _ (setNextDrawn a (p:Int).toNat (ep:Int).toNat >>= _) _ _ _
 refine jX ?_;refine jX (lN g h b ?_);simp;rw[he];refine jY ?_;refine jX (kO f d (by simp) ?_);have q:=Heap.get?_update_self (Obj.mapFields (·.setIfInBounds 1 (rawInt ((i:Int)+1)))) f (Obj.isFreed_of_fields (Obj.data_mapFields d _));have v:=Obj.data_mapFields d (·.setIfInBounds 1 (rawInt ((i:Int)+1)));have n:SetIt _ it a (.ref T) (i+1) es.size ep:=
  ⟨_,q,(Obj.cls_mapFields ..).trans j,by rw[v];simp[rawInt]⟩
 refine jY ⟨_,rfl,?_⟩;exact jY (hQ _ n (Heap.SameBut.update ..))
theorem b1U (hh:A.handled=none) (x:SetIt s.heap it a (.ref T) i es.size ep) (S:SO prog w s.heap a es ep t ms) (y:PlacesAt s.heap T ps) (hp:ps[i]?=none)
  (hQ:∀ h',(∀ b o,b≠it->s.heap.get? b=some o->h'.get? b=some o)->Q none { s with heap:=h' }):wpAny (model prog w) A (pyNext (.ref it)) Q E s:=by
 obtain⟨u,f,M,d⟩:=id x;obtain⟨⟨o,p,L,j⟩,H,B,F,g,G⟩:=id S;obtain⟨J,c,k,v⟩:=y;unfold pyNext;refine jX (kR (wpAny_callSpecial?_slot x.ty sit_next (kD sit_next x.ty a1A ?_ (a1M _))));refine jX (jY ?_);refine jX (mC f d ?_);dsimp only;refine jX (l8 p j g ?_);rw[if_neg (by simp)];unfold seqItems?;refine jX (jX (lP k ?_));rw[v];refine jY ?_;dsimp only;have h:(ps.map λ(i:Nat)=>rawInt i).toArray[(i:Int).toNat]?=none:=by simp_all
 rw[h];dsimp only;refine jX (kO f d (by simp) ?_);have D:=Heap.get?_update_self (Obj.mapFields (·.setIfInBounds 0 (rawInt 0))) f (Obj.isFreed_of_fields (Obj.data_mapFields d _));have r:=Obj.data_mapFields d (·.setIfInBounds 0 (rawInt 0));refine jX (kO D r (by simp) ?_);refine kg (a9k hh λl n=>?_) (λ_ _ z=>z.elim) λe I z=>z;have q:=hQ l λb o C e=>n b o (((Heap.SameBut.update s.heap it _).trans (Heap.SameBut.update _ it _)).extBut b o C e);exact q
noncomputable def a7H (es:Array (Int×Value)) (ps:List Nat):List Value:=ps.map λp=>((es[p]?).getD (0,.none)).2
theorem b0f (hh:A.handled=none) (hne:a≠it) (hnT:T≠it) (hps:ps.Perm (ff es.size)) :
  Walks prog w A it [it,a,T] [it] es.size (λi v=>(a7H es ps)[i]?=some v) (λi h=>SetIt h it a (.ref T) i es.size ep/\SO prog w h a es ep t ms/\PlacesAt h T ps):=by
 have r:ps.length=es.size:=by rw[hps.length_eq,iQ]
 refine⟨λb d=>by simp at d;simp[d],λ_ _ _ c l=>⟨c.1.at λo e=>l it (by simp) o e,c.2.1.at λo e=>l a (by simp) o e,c.2.2.at λo e=>l T (by simp) o e⟩,λi s Q E q c g=>?_,λs Q E c g=>?_,λ_ _ _ _ c g=>a6O c.1 g⟩
 ·have f:i<ps.length:=by omega
  have m:=iA.mp (hps.mem_iff.mp (fm f));refine b0e c.1 c.2.1 c.2.2 (et f) (fI m) λj x k=>?_;refine g _ j s.toks ?_ ⟨x,c.2.1.at λo e=>k.extBut a o hne e,c.2.2.at λo e=>k.extBut T o hnT e⟩ λb o d e=>k.extBut b o (λz=>d (by simp[z])) e;unfold a7H;rw[er,et f,gx,fI m]
  rfl
 ·exact b1U hh c.1 c.2.1 c.2.2 (iR (by omega)) λj n=>g j s.toks λb o d e=>n b o (λz=>d (by simp[z])) e
end
end SetW
namespace SetW
open PySem PyProof.Rows
section
variable {prog:j7}{w:World}{A:Around}{E:Value->Shared->Prop}{s:Shared}{it a T:Addr}{f:Value}{i n ep k:Nat}{o:Obj}{es:Array (Int×Value)}{t:j6}{ms:List Int}{ps:List Nat}
theorem b1V {α:Type}(d:α) (l:Array α):(ff l.size).map (λp=>(l[p]?).getD d)=l.toList:=by
 refine jC (by simp) λi b a=>?_
 have:i<l.size:=by omega
 simp[this]
theorem b0g (hps:ps.Perm (ff es.size)):(a7H es ps).Perm (es.toList.map (·.2)):=by
 have q:=hps.map λp=>((es[p]?).getD (0,Value.none)).2;refine q.trans (eN.of_eq ?_);rw[<- b1V (0,Value.none) es,gZ]
 rfl
theorem SO.ty (S:SO prog w s.heap a es ep t ms):s.TypeIs (.ref a) "set":=let ⟨o,g,x,_⟩:=S.at_;⟨o,g,x.1⟩
theorem SO.len (S:SO prog w s.heap a es ep t ms):es.size=ms.length:=by
 have q:=congrArg eQ S.nums.nums;simpa using q
abbrev b8f (f:Value) (a:Addr) (n ep:Nat):Obj:={ cls:=.type "set_iterator",data:=.fields #[f,.int (0:Nat) 0,.ref a,.int n 0,.int ep 0] }
theorem a5o {h:Heap}:SetIt (h.push (b8f f a n ep)) h.objs.size a f 0 n ep:=⟨_,Heap.get?_push_size _ rfl,rfl,rfl⟩
theorem b3x (hh:A.handled=none) (S:SI prog w s.heap a ms)
  (h:∀ (I:Addr) (fp:List Addr) (g:Heap) (d':Drawn) (vs:List Value) (ns:List Int) (St:Nat->Heap->Prop),(∀ b o,s.heap.get? b=some o->g.get? b=some o)->s.heap.objs.size≤I->(∀ b∈fp,b=a\/s.heap.objs.size≤b) ->
   kh vs ns->ns.Perm ms->Walks prog w A I fp [I] vs.length (λi v=>vs[i]?=some v) St->St 0 g->Q (.ref I) { s with heap:=g,drawn:=d' }) :
  wpAny (model prog w) A (pyIter (.ref a)) Q E s:=by
 obtain⟨es,ep,t,S⟩:=S;obtain⟨⟨o,u,hx,y⟩,hel,n,hsc,f,hok⟩:=id S;have C:a<s.heap.objs.size:=Heap.lt_size u;refine wpAny_pyIter_slot S.ty PySem.F.slot_set_iter (kD PySem.F.slot_set_iter S.ty a5S ?_ (PySem.F.args_set_iter_1 _));unfold j8.«frozenset.__iter__» j8.Frozenset.slot0 j8.Frozenset.sizeOf;refine jX (jX (jY (jY ?_)));refine jX (jX (l8 u y f (jY ?_)));unfold setDrawn setsByText;refine jX (jX (lN u y f (jX (jX (nj (jY ?_))))));dsimp only;refine jY ?_
 show wpAny _ _ (if (!byT w&&(!t.plain&&decide (es.size > 1)))=true then _ else _) _ _ _
 have B:(es.toList.map (·.2)).length=es.size:=by simp
 by_cases c:(!byT w&&(!t.plain&&decide (es.size > 1)))=true
 ·rw[if_pos c];refine jX (a9m es.size (ff es.size) _ _ (by simp) λx d' q=>?_);have r:x.length=es.size:=by rw[q.length_eq,iQ]
  have sb:kS≤16777216:=by decide
  refine jX (l6 ?_ (by rw[dQ,r,ki];omega));refine jX (wpAny_setEpoch_of (Heap.get?_push_of_some _ u) y f ?_);unfold newFields;refine jX (kJ (jY ⟨_,rfl,"set_iterator",_,⟨_,Heap.get?_push_size _ rfl,rfl⟩,sit_next.lookup,?_⟩));obtain⟨D,H,G⟩:=a17 n (b0g (es:=es) q);have k:s.heap.objs.size<(s.heap.push { cls:=.type "tuple",data:=.seq (x.map λ(i:Nat)=>rawInt i).toArray }).objs.size:=by rw[Heap.size_push];exact h9 _
  have j:=b0f (prog:=prog) (w:=w) (A:=A) (t:=t) (ms:=ms) (ep:=ep) (a:=a) hh (eu (gq C k)) (eu k) q;have e:(a7H es x).length=es.size:=by unfold a7H;rw[dQ,r]
  rw[<- e]at j;refine h _ _ _ _ _ D _ (λb o g=>Heap.get?_push_of_some _ (Heap.get?_push_of_some _ g)) (fh k) (λb p=>?_) H G j ⟨?_,S.at λo g=>Heap.get?_push_of_some _ (Heap.get?_push_of_some _ g),⟨_,_,Heap.get?_push_of_some _ (Heap.get?_push_size _ rfl),rfl⟩⟩
  ·simp only[dY,fw,or_false]at p;rcases p with rfl | rfl | rfl
   ·exact .inr (fh k)
   ·exact .inl rfl
   ·exact .inr (dS _)
  ·rw[e];exact a5o
 ·rw[if_neg c];refine jX (jY ?_);refine jX (wpAny_setEpoch_of u y f ?_);unfold newFields;refine jX (kJ (jY ⟨_,rfl,"set_iterator",_,⟨_,Heap.get?_push_size _ rfl,rfl⟩,sit_next.lookup,?_⟩));have z:∀ b∈[s.heap.objs.size,a],b=a\/s.heap.objs.size≤b:=λb p=>by
   simp only[dY,fw,or_false]at p;rcases p with rfl | rfl
   ·exact .inr (dS _)
   ·exact .inl rfl
  cases k:byT w with
  | true=>
   have J:(b3w w a ep es).Perm (es.toList.map (·.2)):=(a7G _ es).map _;obtain⟨D,H,G⟩:=a17 n J;have j:=b1T (prog:=prog) (w:=w) (A:=A) (t:=t) (ms:=ms) (ep:=ep) (es:=es) (a:=a) hh (eu C) k;have e:(b3w w a ep es).length=es.size:=by rw[J.length_eq,B]
   rw[<- e]at j;refine h _ _ _ _ _ D _ (λb o g=>Heap.get?_push_of_some _ g) (dS _) z H G j ⟨?_,S.at λo g=>Heap.get?_push_of_some _ g⟩;rw[e];exact a5o
  | false=>
   have hp:(!t.plain&&decide (es.size > 1))=false:=by
    rw[k]at c;simpa using c
   have j:=b0d (prog:=prog) (w:=w) (A:=A) (t:=t) (ms:=ms) (ep:=ep) (es:=es) (a:=a) hh (eu C) k hp f hok;rw[<- B]at j;refine h _ _ _ _ _ ms _ (λb o g=>Heap.get?_push_of_some _ g) (dS _) z n (eN.refl _) j ⟨?_,S.at λo g=>Heap.get?_push_of_some _ g⟩;rw[B];exact a5o
end
end SetW
namespace SetW
open PySem PyProof.Rows
section
variable {prog:j7}{w:World}{A:Around}{E:Value->Shared->Prop}{s:Shared}{a:Addr}{ms:List Int}
theorem b3y (y:s.TypeIs (.ref a) "set") (h:Q false s):wpAny (model prog w) A (j8.List.listLengthHint (.ref a)) Q E s:=by
 refine jX (wpAny_specialOf y PySem.F.slot_set_len.lookup ?_);generalize e0:_=z;refine jX (nq (b:=true) y (by rw[nn];kernel_rfl) ?_);exact jX (mh y (jY h))
theorem b3z (h:ItemsOf (λi v=>vs[i]?=some v) acc vs.length):acc.toList=vs:=by
 obtain⟨a,b⟩:=h;refine jC (by omega) λi d c=>?_;have e:i<acc.size:=by omega
 have:vs[i]?=some acc[i]:=b i acc[i] (fI e)
 rw[et c]at this;simpa using this.symm
theorem b0h (hh:A.handled=none) (S:SI prog w s.heap a ms) (L:Addr) (hL:L≠a) (res:Value) (c0:Nat) (gL:s.heap.get? L=some { cls:=.type "list",data:=.seq #[] c0 })
  (hR:∀ g tk d' acc c' ns,(∀ b o,b≠L->s.heap.get? b=some o->g.get? b=some o)->g.get? L=some { cls:=.type "list",dict:=none,data:=.seq acc c',slots:=#[] }->kh acc.toList ns->ns.Perm ms->R (.ok (.ret res)) { s with heap:=g,drawn:=d',toks:=tk }) :
  wpAny (model prog w) A.in1 (j8.List.listExtendWith (.ref L) (.ref a) res)
   (λfin s'=>match fin with | .done f=>R (.ok f) s' | .again c'=>c'.quiet=true/\kC (model prog w) A c' R s') (λe s'=>R (.error e) s') s:=by
 have ty:s.TypeIs (.ref a) "set":=let ⟨_,_,_,S'⟩:=S;S'.ty
 have small:ms.length≤sizeLine:=by
  obtain⟨es,ep,t,S'⟩:=S;have q1:=S'.len;have q2:=S'.sc;have sb:kS≤16777216:=by decide
  rw[ki];omega
 have lL:=Heap.lt_size gL;unfold j8.List.listExtendWith;refine jX (mh (T:="set") ty ?_);have n1:j8.List.listSameRef (.ref L) (.ref a)=false:=by simp[j8.List.listSameRef,hL]
 have n2:(Value.type "set"==Value.type "list")=false:=by decide
 have n3:(Value.type "set"==Value.type "tuple")=false:=by decide
 simp only[n1,n2,n3,Bool.or_false,gR,if_false];refine jX (b3x (A:=A.in1) hh S λI fp g d' vs ns St kp hI hfp i1 i2 wk st=>?_);have nf:L∉fp:=λz=>(hfp L z).elim hL λq=>eR _ (eJ lL q);have hz:vs.length≤sizeLine:=by
  have q:=congrArg eQ i1.nums;rw[dQ,i2.length_eq]at q;omega
 have key:∀ (g2:Heap) (c1:Nat),St 0 g2->(∀ b o,b≠L->g.get? b=some o->g2.get? b=some o)->g2.get? L=some { cls:=.type "list",data:=.seq #[] c1 } ->
   kC (model prog w) A (.builtin "list.extend.loop" ⟨[.ref L,.ref I,res],[]⟩) R { s with heap:=g2,drawn:=d' }:=by
  intro g2 c1 st2 k2 gL2;refine codeAny_extend_loopS wk.toS hz L nf res vs.length 0 _ #[] c1 rfl (eP _) st2 gL2 (ItemsOf.nil _) λs3 acc c3 mv g3 hacc=>?_;rw[Moved.eq_with mv];refine hR s3.heap s3.toks d' acc c3 ns (λb o nb e=>mv.heap b o (λhm=>?_) (k2 b o nb (kp b o e))) g3 (by rw[b3z hacc];exact i1) i2;rcases dY.mp hm with q | q
  ·exact nb q
  ·rw[dX.mp q]at e;exact eR _ (eJ (Heap.lt_size e) hI)
 have gL1:=kp L _ gL;refine jX (kr (b3y (let ⟨o,e,c⟩:=ty;⟨o,kp _ _ e,c⟩) ?_));refine lO (λ_=>?_) λ_=>jY ⟨lB PySem.F.plain_extend_loop _,key _ c0 st (λb o _ e=>e) gL1⟩;refine jX (kP (jX ?_))
 show wpAny _ _ (updateSeq L (·.push .none) >>= λ_=>updateSeq L (·.pop)) _ _ _
 refine jX (ny gL1 rfl ?_);have g2:=Heap.get?_update_self (Obj.mapSeq (·.push Value.none)) gL1 rfl;refine ny (hz:=by seq_fits) g2 rfl ?_;have g3:=Heap.get?_update_self (Obj.mapSeq (·.pop)) g2 rfl;have oth:∀ b o,b≠L->g.get? b=some o->((g.update L (Obj.mapSeq (·.push Value.none))).update L (Obj.mapSeq (·.pop))).get? b=some o:=λb o nb e=>
  (Heap.get?_update_other _ _ (Ne.symm nb)).trans ((Heap.get?_update_other _ _ (Ne.symm nb)).trans e)
 exact jY ⟨lB PySem.F.plain_extend_loop _,key _ _ (wk.frame 0 _ _ st λb hb o e=>oth b o (λq=>nf (q▸hb)) e) oth g3⟩
theorem collect_set (hh:A.handled=none) (S:SI prog w s.heap a ms)
  (h:∀ (g:Heap) (tk:Nat) (d':Drawn) (vs:List Value) (ns:List Int),(∀ b o,s.heap.get? b=some o->g.get? b=some o)->kh vs ns->ns.Perm ms->R vs { s with heap:=g,drawn:=d',toks:=tk }) :
  wpAny (model prog w) A (collect (.ref a)) R E s:=by
 have B:=let ⟨_,_,_,S'⟩:=S;let ⟨_,g,_⟩:=S'.at_;Heap.lt_size g
 refine jX (wpAny_runValue (lc PySem.F.entry_proto_collect ?_));rw[Around.under_plainId PySem.F.plain_proto_collect _];refine jX (kJ (jY ⟨lB PySem.F.plain_list_iadd _,lc PySem.F.entry_list_iadd ?_⟩));rw[Around.under_plainId PySem.F.plain_list_iadd _];have z:(s.heap.push { cls:=.type "list",data:=.seq ([]).toArray }).get? s.heap.objs.size=some { cls:=.type "list",data:=.seq #[] }:=Heap.get?_push_size _ rfl;have u:=b0h (s:={ s with heap:=s.heap.push { cls:=.type "list",data:=.seq ([]).toArray } })
  (R:=λq t=>∃ (g:Heap) (j:Nat) (i:Drawn) (c:Array Value) (r:Nat) (d:List Int),q=.ok _/\t={ s with heap:=g,drawn:=i,toks:=j } /\
   (∀ b o,s.heap.get? b=some o->g.get? b=some o)/\g.get? s.heap.objs.size=some { cls:=.type "list",dict:=none,data:=.seq c r,slots:=#[] }/\kh c.toList d/\d.Perm ms)
  hh (S.at λo e=>Heap.get?_push_of_some _ e) s.heap.objs.size (fG B) (.ref s.heap.objs.size) 0 z
  λg j i c r d k m p n=>⟨g,j,i,c,r,d,rfl,rfl,λb o e=>k b o (eu (Heap.lt_size e)) (Heap.get?_push_of_some _ e),m,p,n⟩
 refine kg u (λv t x=>?_) λe t x=>?_
 ·cases v with
  | done f=>
   obtain⟨g,j,i,c,r,d,e,rfl,k,m,p,n⟩:=x;cases e;exact jX (lP m (jY (h g j i _ d k p n)))
  | again c1=>
   refine⟨x.1,lb x.2 λq D y=>?_⟩;obtain⟨g,j,i,c,r,d,rfl,rfl,k,m,p,n⟩:=y;exact jX (lP m (jY (h g j i _ d k p n)))
 ·obtain⟨_,_,_,_,_,_,C,_⟩:=x;cases C
end
end SetW
namespace L2
open PySem PySem.Spec PyProof.Rows
theorem a44:∀ {vs:List Value}{ns:List Int},kh vs ns->vs.length=ns.length
 | _,_,.nil=>rfl
 | _,_,.cons n t h=>by rw[eF,eF,a44 h]
theorem a5p:∀ {vs:List Value}{ns:List Int},kh vs ns->Vals (ns.map V.int) vs
 | _,_,.nil=>.nil
 | _,_,.cons n t h=>.cons ⟨t,rfl⟩ (a5p h)
theorem b1W:∀ {vs:List Value}{ns:List Int},vs.length=ns.length->(∀ (i:Nat) v,vs[i]?=some v->∃ n t,ns[i]?=some n/\v=.int n t)->kh vs ns
 | [],[],_,_=>.nil
 | [],_::_,h,_=>by simp at h
 | _::_,[],h,_=>by simp at h
 | v::vs,n::ns,h,q=>by
  obtain⟨m,t,a,b⟩:=q 0 v rfl;simp at a;subst a b;exact .cons _ t (b1W (by simpa using h) λi v e=>by simpa using q (i+1) v (by simpa using e))
section
variable {P:j7}{w:World}{A:Around}{E:Value->Shared->Prop}{s:Shared}
theorem a7I (hmx:ns.length≤1000)
  (hcol:∀ R:List Value->Shared->Prop,(∀ (g:Heap) (tk:Nat) (d:Drawn) (vs:List Value) (ks:List Int),(∀ b o,s.heap.get? b=some o->g.get? b=some o)->kh vs ks->ks.Perm ns->R vs { s with heap:=g,drawn:=d,toks:=tk })->wpAny (model P w) A.in1 (collect (.ref r)) R E s)
  (h:∀ (g g':Heap) (tk:Nat) (d:Drawn) (out:List Value) (n:Nat) (ms:List Int),(∀ b o,s.heap.get? b=some o->g.get? b=some o)->(∀ b o,g.get? b=some o->g'.get? b=some o)->g'.get? g.objs.size=some { cls:=.type "list",data:=.seq out.toArray n } ->
   kh out ms->ms.Perm ns->ms.Pairwise (·≤·)->Q (.ref g.objs.size) { s with heap:=g',drawn:=d,toks:=tk }):wpAny (model P w) A (call (.builtin "sorted") [.ref r]) Q E s:=by
 refine Calls.call_function_entry kind_sorted plain_sorted entry_sorted (args_sorted1 _) ?_;refine jX (jY (jX (hcol _ λg t d f ks p l k=>?_)));have hl:=(a44 l).trans k.length_eq;have v:f.length≤sizeLine:=by rw[ki];omega
 refine jX (ng ?_ v);have j:(g.push _).get? g.objs.size=some (seqObj "list" f.toArray 0):=Heap.get?_push_size _ rfl;refine jX (kr (kD slot_list_sort ⟨_,j,rfl⟩ entry_list_sort (Tim.sort_any j l (by omega) λout u y x q=>⟨_,rfl,?_⟩) (args_list_sort _)));have c:=sortedHeap_at (out:=out) j;obtain⟨n,c⟩:=c;refine jY ⟨_,rfl,h g _ t d out.toList n u p (λb o e=>?_) (by omega) y (x.trans k) q⟩;have i:=Heap.lt_size e;rw[sortedHeap_old (eu i) (by rw[Heap.size_push];exact gz i)];exact Heap.get?_push_of_some _ e
end
section
variable {X:Cx}
theorem Inv.drew (I:Inv X pins σ H s) (d:Drawn):Inv X pins σ H { s with drawn:=d }:=
 I.step (ch:=[]) (λb a=>nomatch a) (λb o _ _ _ e _=>e) (λb o _ _ _ e _=>⟨o.slots,e⟩) (λ_ _ _ _ n=>n) (λb o _ e=>⟨o,e⟩) (λ_ _ e=>e) (λ_ _ _ e=>e) (λb f e=>⟨#[],by rw[e];simp⟩) (λm c=>c) I.hok I.bare
def b5E (K:Fg):List V->Hp->VK->Prop:=λxs H Q=>∃ (p:Addr) (ns:List Int),xs=[.ref p]/\(SqL K H p (ns.map V.int)\/∃ kvs:List (Key×V),H p=some (.dK kvs)/\kvs.map (·.1)=ns.map λi=>(Sum.inl (some i):Key))/\ns.length≤1000 /\
 ∀ (t:Addr) (ms:List Int),H t=none->ms.Perm ns->ms.Pairwise (·≤·)->Q (.ref t) (upd H t (.lst (ms.map V.int)))
theorem a8C (hc:X.calm=true):CallR X (.builtin "sorted") (b5E X.K):=by
 intro F s σ H xs us Q I r h;obtain⟨p,ns,rfl,C,G,q⟩:=h;obtain⟨u,rfl,rx⟩:=a2P r;cases rx;have hh:=I.ok.hd hc;refine a7I G (λR T=>?_) λg g' l d ab n L k1 k2 e a1 S a3=>?_
 ·rcases C with C | ⟨kvs,hd,hk⟩
  ·obtain⟨M,rv,pl,_⟩:=I.list C;have U:=a58 rv;refine collect_list pl.isList ?_ (by rw[a44 U,ki];omega);refine T _ s.toks s.drawn M _ (λb o e=>?_) U (eN.refl _);have ac:=Heap.lt_size e;rw[Heap.get?_update_ne _ _ _ _ (eu ac)];exact Heap.get?_push_of_some _ e
  ·obtain⟨z,lo,E,B,dd⟩:=b24 I.hok hd;obtain⟨ep,ad⟩:=dd.dictAt;have Y:E.length=ns.length:=by rw[<- B.length,<- dQ,hk,dQ]
   refine PySem.W.kdu_collect (PySem.W.kdl_dict lo) hh ad (by rw[Y,ki];omega) λg l aa kp c=>?_;refine T g l s.drawn aa.toList ns kp (b1W (by rw[fj,c.1,Y]) λi v e=>?_) (eN.refl _);obtain⟨k,x,e1,e2⟩:=c.2 i v (by simp_all);have y:E.map (·.1)=ns.map λi=>(Sum.inl (some i):Key):=by rw[<- B.keys];exact hk
   have j:(ns.map λi=>(Sum.inl (some i):Key))[i]?=some k:=by rw[<- y,er,e1];rfl
   rw[er]at j;cases hn:ns[i]? with
   | none=>rw[hn]at j;cases j
   | some n=>
    rw[hn]at j;cases j;have D:Value.isInt n v=true:=e2;cases v with
    | int m t=>exact⟨n,t,rfl,by simp[Value.isInt]at D;rw[D]⟩
    | _=>simp[Value.isInt]at D
 ·have J:Inv X F σ H { s with heap:=g,drawn:=d,toks:=l }:=(I.drew d).kept k1;exact⟨.ref g.objs.size,_,J.laid k2 (dS _) (show ObjOk X.prog X.w _ g' _ (.lst (L.map V.int)) from ⟨by rw[dQ,S.length_eq,ki];omega,ab,n,a5p a1,e⟩),rfl,q _ L (J.hok.fresh (dS _)) S a3⟩
end
end L2
namespace L2
open PySem PySem.Spec PyProof.Rows
structure Zs where
 it:Addr
 tp:Bool
 l:Addr
def Zs.At (z:Zs) (k:Nat) (h:Heap):Prop:=if z.tp=true then h.IsTupleIter z.it z.l k else h.IsListIter z.it z.l k
def Zs.Has (z:Zs) (h:Heap) (xs:Array Value):Prop:=if z.tp=true then h.IsTuple z.l xs else h.IsList z.l xs
theorem Zs.At.keep {z:Zs}(a:z.At k h) (q:∀ o,h.get? z.it=some o->h'.get? z.it=some o):z.At k h':=by
 unfold Zs.At at a ⊢
 split
 ·next e=>rw[if_pos e]at a;exact a.at q
 ·next e=>rw[if_neg e]at a;exact a.at q
theorem Zs.Has.keep {z:Zs}(a:z.Has h xs) (q:∀ o,h.get? z.l=some o->h'.get? z.l=some o):z.Has h' xs:=by
 unfold Zs.Has at a ⊢
 split
 ·next e=>rw[if_pos e]at a;exact let ⟨o,ho,r⟩:=a;⟨o,q o ho,r⟩
 ·next e=>rw[if_neg e]at a;exact let ⟨o,ho,r⟩:=a;⟨o,q o ho,r⟩
theorem Zs.At.obj {z:Zs}(a:z.At k h):∃ o,h.get? z.it=some o/\∀ v,o.data≠.cell v:=by
 unfold Zs.At at a
 split at a<;>(obtain⟨o,e,_,d⟩:=a;exact⟨o,e,λv q=>by rw[d]at q;cases q⟩)
section
variable {P:j7}{w:World}{A:Around}{E:Value->Shared->Prop}{s:Shared}
theorem b8g (ti:s.heap.IsTupleIter it t i) (th:s.heap.IsTuple t xs) (hx:xs[i]?=some x)
  (q:∀ g,g.IsTupleIter it t (i+1)->Heap.SameBut it s.heap g->Q x { s with heap:=g }):wpAny (model P w) A (j8.SmallTypes.nextOf (.ref it)) Q E s:=by
 obtain⟨o,b,c,a⟩:=id ti;obtain⟨u,e,_,n,d⟩:=th;refine jX (wpAny_callSpecial?_slot ti.typeIs PySem.F.slot_tuple_iterator_next
  (kD PySem.F.slot_tuple_iterator_next ti.typeIs PySem.F.entry_tuple_iterator_next ?_ (PySem.F.args_tuple_iterator_next_1 _)))
 show wpAny _ _ (field _ 0 >>= _) _ _ s
 refine jX (kx b a rfl ?_);refine jX (kx b a rfl ?_);refine jX (l9 e d ?_);simp only[jD,hx];refine jX (kO b a (by simp) (jY ⟨x,rfl,jY (q _ ?_ (Heap.SameBut.update ..))⟩));exact⟨_,Heap.get?_update_self _ b (Obj.isFreed_of_fields (Obj.data_mapFields a _)),(Obj.cls_mapFields ..).trans c,by rw[Obj.data_mapFields a];simp[rawInt]⟩
theorem b1X (hh:A.handled=none) (ti:s.heap.IsTupleIter it t i) (th:s.heap.IsTuple t xs) (hx:xs[i]?=none)
  (q:∀ g e,Heap.ExtBut it s.heap g->(∃ o,g.get? e=some o/\o.cls=.type "StopIteration")->E (.ref e) { s with heap:=g }):wpAny (model P w) A (j8.SmallTypes.nextOf (.ref it)) Q E s:=by
 obtain⟨o,b,h,c⟩:=id ti;obtain⟨u,f,_,n,d⟩:=th;refine jX (wpAny_callSpecial?_slot ti.typeIs PySem.F.slot_tuple_iterator_next
  (kD PySem.F.slot_tuple_iterator_next ti.typeIs PySem.F.entry_tuple_iterator_next ?_ (PySem.F.args_tuple_iterator_next_1 _)))
 show wpAny _ _ (field _ 0 >>= _) _ _ s
 refine jX (kx b c rfl ?_);refine jX (kx b c rfl ?_);refine jX (l9 f d ?_);simp only[jD,hx];refine jX (kP (jX (kO b c (by simp) ?_)));refine jX ?_;refine jX (kJ ?_ (by size_fits));refine jX (my (by first | rfl | (simp;rfl)) ?_)
 refine kJ ?_ (by size_fits);refine jX (wpAny_handled ?_)
 first | rw[hh] | rw[hh]
 refine jX (jY (mV ?_));exact q _ _ (((Heap.SameBut.update ..).extBut.push _).push _) ⟨_,Heap.get?_push_size _ rfl,rfl⟩
theorem b5F {z:Zs}(a:z.At i s.heap) (b:z.Has s.heap xs) (hx:xs[i]?=some x)
  (q:∀ g,z.At (i+1) g->Heap.SameBut z.it s.heap g->Q x { s with heap:=g }):wpAny (model P w) A (j8.SmallTypes.nextOf (.ref z.it)) Q E s:=by
 obtain⟨d,c,l⟩:=z;cases c with
 | true=>exact b8g a b hx q
 | false=>exact wpAny_nextOf_list_item a b hx q
theorem b8h {z:Zs}(hh:A.handled=none) (a:z.At i s.heap) (b:z.Has s.heap xs) (hx:xs[i]?=none)
  (q:∀ g e,Heap.ExtBut z.it s.heap g->(∃ o,g.get? e=some o/\o.cls=.type "StopIteration")->E (.ref e) { s with heap:=g }):wpAny (model P w) A (j8.SmallTypes.nextOf (.ref z.it)) Q E s:=by
 obtain⟨d,c,l⟩:=z;cases c with
 | true=>exact b1X hh a b hx q
 | false=>exact wpAny_nextOf_list_end hh a b hx q
end
end L2
namespace L2
open PySem PySem.Spec PyProof.Rows
abbrev IsTu (h:Heap) (T:Addr) (xs:Array Value):Prop:=h.get? T=some { cls:=.type "tuple",data:=.seq xs }
structure ZAp (z TI TO:Addr) (zs:List Zs):Prop where
 nd:(zs.map (·.it)).Nodup
 a1:TI≠z
 a2:TO≠z
 a3:TI≠TO
 its:∀ y∈zs,y.it≠z/\y.it≠TI/\y.it≠TO
 ls:∀ y∈zs,y.l≠z/\y.l≠TO/\∀ x∈zs,y.l≠x.it
section
variable {P:j7}{w:World}{A:Around}{E:Value->Shared->Prop}{s:Shared}
theorem b4E {z TI TO:Addr}{olds:List Value}{arr:Zs->Array Value}{Q:Value->Shared->Prop}(hh:A.handled=none) (D:ZAp z TI TO zs) (hne:zs≠[]) (hsm:zs.length≤1000)
  (hz:IsZip s.heap z TI TO .none) (hI:IsTu s.heap TI (zs.map λy=>Value.ref y.it).toArray) (hO:IsTu s.heap TO olds.toArray) (hol:olds.length=zs.length)
  (hat:∀ y∈zs,y.At k s.heap) (hhas:∀ y∈zs,y.Has s.heap (arr y))
  (hQ:∀ (g:Heap) (T:Addr) (vs:List Value),vs.length=zs.length->(∀ (i:Nat) y,zs[i]?=some y->∃ v,vs[i]?=some v/\(arr y)[k]?=some v)->T=s.heap.objs.size->IsZip g z TI TO (rawInt T)->IsTu g TI (zs.map λy=>Value.ref y.it).toArray->IsTu g TO vs.toArray->IsTu g T vs.toArray ->
   (∀ y∈zs,y.At (k+1) g)->(∀ c o,c≠z->c≠TO->(∀ y∈zs,c≠y.it)->s.heap.get? c=some o->g.get? c=some o)->Q (.ref T) { s with heap:=g })
  (hE:(∃ y∈zs,(arr y)[k]?=none)->∀ g e,(∀ c o,c≠z->c≠TO->(∀ y∈zs,c≠y.it)->s.heap.get? c=some o->g.get? c=some o)->(∃ o,g.get? e=some o/\o.cls=.type "StopIteration")->E (.ref e) { s with heap:=g }) :
  wpAny (model P w) A (j8.«zip.__next__» ⟨[.ref z],[]⟩) (λfin s'=>∃ v,fin=.done (.ret v)/\Q v s') E s:=by
 show wpAny (model P w) _ (field (.ref z) 2 >>= _) _ _ _
 refine jX (kx hz rfl (x:=.bool false) rfl ?_)
 show wpAny (model P w) _ (field (.ref z) 3 >>= _) _ _ _
 refine jX (kx hz rfl (x:=.ref TI) rfl ?_);refine jX (l9 hI rfl ?_);have he:(zs.map λy=>Value.ref y.it).toArray.isEmpty=false:=by
  cases zs with
  | nil=>exact absurd rfl hne
  | cons _ _=>rfl
 dsimp only;rw[he]
 show wpAny (model P w) _ (j8.SmallTypes.ownedTupleIsFree (.ref z) >>= _) _ _ _
 refine jX ?_;unfold j8.SmallTypes.ownedTupleIsFree;refine jX (kx hz rfl (x:=.none) rfl (jY ?_));simp only[if_true];refine jX (kP (jX (kx hz rfl (x:=.ref TO) rfl ?_)));refine jX (mD hz (by simp) λg1 z1 N=>?_)
 replace z1:IsZip g1 z TI TO .ellipsis:=z1
 refine jX ?_;refine wpAny_forIn_list _ (λL b s'=>b.1=none/\∃ (j n:List Zs) (d h:List Value) (g:Heap),zs=j++n/\L=(n.map λy=>Value.ref y.it).zipIdx j.length/\d.length=j.length/\h.length=n.length/\s'={ s with heap:=g } /\
  (∀ (i:Nat) y,j[i]?=some y->∃ v,d[i]?=some v/\(arr y)[k]?=some v)/\IsZip g z TI TO .ellipsis/\IsTu g TO (d++h).toArray/\(∀ y∈j,y.At (k+1) g)/\(∀ y∈n,y.At k g)/\g.objs.size=s.heap.objs.size /\
  (∀ c o,c≠z->c≠TO->(∀ y∈zs,c≠y.it)->s.heap.get? c=some o->g.get? c=some o)) _ ?_ ?_ _ _ ?_
 ·rintro x L b s' ⟨hb,j,n,d,h,g,r,R,I,U,rfl,ev,S,X,ad,F,sg,J⟩;cases n with
  | nil=>simp at R
  | cons y n=>
   cases h with
   | nil=>simp at U
   | cons o h=>
   rw[eE,js]at R;cases R;have a:y∈zs:=by rw[r];simp
   have hyl:=λo q=>J _ o (D.ls y a).1 (D.ls y a).2.1 (D.ls y a).2.2 q;dsimp only;refine jX (wpAny_onRaise ?_)
   show wpAny (model P w) _ (j8.SmallTypes.nextOf (.ref y.it) >>= _) _ _ _
   cases hx:(arr y)[k]? with
   | none=>
    refine jX (b8h (z:=y) hh (F y (.head _)) ((hhas y a).keep hyl) hx λH e x2 he=>?_);obtain⟨oe,V,he2⟩:=he;have Y:IsZip H z TI TO .ellipsis:=x2 _ _ (D.its y a).1.symm S;have hez:e≠z:=λq=>by subst q;rw[Y]at V;cases V;simp at he2
    exact mD Y (by simp) λg3 _ p=>hE ⟨y,a,hx⟩ g3 e (λc u m G t q=>p.extBut _ _ m (x2 _ _ (t y a) (J c u m G t q))) ⟨oe,p.extBut _ _ hez V,he2⟩
   | some v=>
    refine jX (b5F (z:=y) (F y (.head _)) ((hhas y a).keep hyl) hx λH a2 C=>jY ?_);have o2:IsTu H TO (d++o::h).toArray:=C.extBut _ _ (D.its y a).2.2.symm X;refine jX (l9 o2 rfl ?_);have W:(d++o::h).length=zs.length:=by rw[r];simp[I];simpa using U
    refine jX (ny o2 rfl ?_ (by rw[e8,W,ki];omega) (by rw[Array.size_setIfInBounds,e8,W,ki];omega));refine jX (wpAny_letGo (jY ?_));have nd:(j.map (·.it)++y.it::n.map (·.it)).Nodup:=by have:=D.nd;rw[r]at this;simpa using this
    have p:Heap.SameBut TO H (H.update TO (Obj.mapSeq (·.setIfInBounds j.length v))):=Heap.SameBut.update ..;have o3:IsTu (H.update TO (Obj.mapSeq (·.setIfInBounds j.length v))) TO ((d++[v])++h).toArray:=by
     show Heap.get? _ _=_
     rw[Heap.get?_update_self _ o2 rfl]
     have:(d++o::h).set d.length v=(d++[v])++h:=by simp
     simp[Obj.mapSeq,<- I]
    refine⟨rfl,j++[y],n,d++[v],h,_,by rw[r];simp,by simp,by simp[I],by simpa using U,rfl,?_,p.extBut _ _ D.a2.symm (C.extBut _ _ (D.its y a).1.symm S),o3,?_,?_,by rw[p.1,C.1,sg],?_⟩
    ·intro i x B
     by_cases hlt:i<j.length
     ·rw[fR hlt]at B;obtain⟨v',q1,q2⟩:=ev i x B;exact⟨v',by rw[fR (by omega)];exact q1,q2⟩
     ·rw[fQ (by omega)]at B;have h0:i - j.length=0:=by
       have:=(eq.mp B).1
       simp at this;omega
      rw[h0]at B;simp at B;subst B;exact⟨v,by rw[fQ (by omega),show i - d.length=0 by omega];rfl,hx⟩
    ·intro x f;rcases dU.mp f with f | f
     ·have M:x∈zs:=by rw[r];simp[f]
      refine (ad x f).keep λu q=>p.extBut _ _ (D.its x M).2.2 (C.extBut _ _ (λz=>?_) q);rw[fO]at nd;exact nd.2.2 x.it (eY f) y.it (by simp) z
     ·rw[dX.mp f];exact a2.keep λu q=>p.extBut _ _ (D.its y a).2.2 q
    ·intro x f;have M:x∈zs:=by rw[r];simp[f]
     refine (F x (.tail _ f)).keep λu q=>p.extBut _ _ (D.its x M).2.2 (C.extBut _ _ (λz=>?_) q);rw[fO]at nd;exact (e9.mp nd.2.1).1 (by rw[<- z];exact eY f)
    ·intro c u m G t q;exact p.extBut _ _ G (C.extBut _ _ (t y a) (J c u m G t q))
 ·rintro b s' ⟨hb,j,n,d,h,g,r,R,I,U,rfl,ev,S,X,ad,F,sg,J⟩;have htd:n=[]:=by
   cases n with
   | nil=>rfl
   | cons _ _=>simp at R
  subst htd;have hos:h=[]:=by simpa using U
  subst hos;rw[eL]at r X;subst r;obtain⟨N,C⟩:=b;subst hb;dsimp only;refine jX (l9 X rfl ?_);refine jX (l6 ?_ (by show d.toArray.toList.length≤jZ;simp only[I,ki];omega))
  show wpAny (model P w) _ (j8.SmallTypes.ownedTupleHandOut (.ref z) (.ref g.objs.size) >>= _) _ _ _
  refine jX ?_;unfold j8.SmallTypes.ownedTupleHandOut;have hzl:=Heap.lt_size S;have Y:IsZip (g.push { cls:=.type "tuple",data:=.seq d.toArray.toList.toArray }) z TI TO .ellipsis:=Heap.get?_push_of_some _ S;refine jX (mD Y (by simp) λg3 z3 p=>?_)
  replace z3:IsZip g3 z TI TO (rawInt g.objs.size):=z3
  refine mD z3 (by simp) λg4 z4 b4=>?_
  replace z4:IsZip g4 z TI TO (rawInt g.objs.size):=z4
  have up:∀ c o,c≠z->g.get? c=some o->g4.get? c=some o:=λc o m q=>b4.extBut _ _ m (p.extBut _ _ m (Heap.get?_push_of_some _ q));have t4:IsTu g4 g.objs.size d.toArray:=b4.extBut _ _ (fG hzl) (p.extBut _ _ (fG hzl) (by simpa using Heap.get?_push_size _ rfl));refine jY ⟨_,rfl,?_⟩;refine hQ g4 g.objs.size d I ev sg z4 (up _ _ D.a1 (J _ _ D.a1 D.a3 (λy a=>(D.its y a).2.1.symm) hI)) (up _ _ D.a2 X) t4 (λy a=>(ad y a).keep λo q=>up _ o (D.its y a).1 q) λc o m G t q=>up c o m (J c o m G t q)
 ·refine⟨rfl,[],zs,[],olds,g1,rfl,by simp,rfl,hol,rfl,λi y q=>by simp at q,z1,by simpa using N.extBut _ _ D.a2 hO,λy q=>by simp at q,λy a=>(hat y a).keep λo q=>N.extBut _ _ (D.its y a).1 q,N.1,λc o m _ _ q=>N.extBut _ _ m q⟩
end
end L2
namespace L2
open PySem PySem.Spec PyProof.Rows
section
variable {X:Cx}{pins:List (Addr×Obj)}{σ:St}{H:Hp}{s:Shared}{h':Heap}
theorem Inv.turnedN {ch:List Addr}(I:Inv X pins σ H s) (hf:∀ b∈ch,FpOk X pins H b) (k:∀ b o,b∉ch->s.heap.get? b=some o->h'.get? b=some o):Inv X pins σ H { s with heap:=h',toks:=t' }:=by
 have d:∀ b u,H b=some u->b∉ch:=λb u e z=>by rw[(hf b z).1]at e;cases e
 refine I.step (λb i=>?_) (λb o _ _ a e _=>k b o a e) (λb o _ _ a e _=>⟨o.slots,k b o a e⟩) (λ_ _ _ _ n=>n)
  (λb o a e=>⟨o,k b o a e⟩) (λ_ _ e=>e) (λ_ _ _ e=>e) (λb x e=>⟨#[],by rw[e];simp⟩) (λm j=>?_) (λb u e=>?_) I.bare
 ·obtain⟨_,t,_,g,w,l⟩:=hf b i;exact⟨g,t,w,l⟩
 ·obtain⟨o,h,f,p,r⟩:=j;exact⟨o,h,f,k _ o (λz=>(hf _ z).2.1 rfl) p,r⟩
 ·refine (I.hok b u e).stay (λc v a q=>k c v ?_ q) (λ_ q=>q) λ_ _ q=>q;rcases a with z | z
  ·simp_all
  ·simp_all
theorem Inv.turnedT {ch:List Addr}(I:Inv X pins σ H s) (hf:∀ b∈ch,FpOk X pins H b) (k:∀ b o,b∉ch->s.heap.get? b=some o->h'.get? b=some o)
  (hT:s.heap.objs.size≤T) (r:Vals vs us) (hz:vs.length≤jZ) (ht:IsTup h' T us.toArray):Inv X pins σ (upd H T (.tup vs)) { s with heap:=h',toks:=t' }:=by
 have g:∀ b u,H b=some u->b∉ch:=λb u e z=>by rw[(hf b z).1]at e;cases e
 have d:=I.hok.fresh hT;have y:∀ b o,s.heap.get? b=some o->b≠T:=λb o e=>eu (eJ (Heap.lt_size e) hT);refine I.step (λb f=>?_) (λb o _ _ a e _=>k b o a e) (λb o _ _ a e _=>⟨o.slots,k b o a e⟩) (λb o _ e n=>by rw[a0r (y b o e)];exact n)
  (λb o a e=>⟨o,k b o a e⟩) (λb l e=>by rw[a0r (a0Q e d)];exact e) (λb _ _ e=>by rw[a0r (a0Q e d)];exact e) (λb B e=>⟨#[],by rw[a0r (a0Q e d),e];simp⟩) (λm x=>?_) (λb u e=>?_) I.bare
 ·obtain⟨_,j,_,p,A,t⟩:=hf b f;exact⟨p,j,A,t⟩
 ·obtain⟨o,i,w,h,r⟩:=x;exact⟨o,i,w,k _ o (λz=>(hf _ z).2.1 rfl) h,r⟩
 ·by_cases f:b=T
  ·subst f;rw[a0y]at e;cases e;exact⟨hz,us,r,ht⟩
  ·rw[a0r f]at e;refine (I.hok b u e).stay (λc v a q=>k c v ?_ q) (λc q=>by rw[a0r (a0Q q d)];exact q) λc l q=>by rw[a0r (a0Q q d)];exact q
   rcases a with z | z
   ·simp_all
   ·simp_all
end
def SrcV (K:Fg) (H:Hp) (y:Zs) (xs:List V):Prop:=if y.tp=true then SqT K H y.l xs else SqL K H y.l xs
theorem SrcV.has (I:Inv X pins σ H s) (h:SrcV X.K H y xs):∃ its:List Value,Vals xs its/\y.Has s.heap its.toArray:=by
 unfold SrcV at h;unfold Zs.Has
 split at h
 ·next e=>obtain⟨a,r,p,_⟩:=I.tuple h;exact⟨a,r,by rw[if_pos e];exact p⟩
 ·next e=>obtain⟨a,r,p,_⟩:=I.list h;exact⟨a,r,by rw[if_neg e];exact p.isList⟩
theorem SrcV.inj (I:Inv X pins σ H s) (h:SrcV X.K H y xs) (h':SrcV X.K H y xs'):xs=xs':=by
 unfold SrcV at h h'
 split at h
 ·next e=>rw[if_pos e]at h';exact I.tuple_inj h h'
 ·next e=>rw[if_neg e]at h';exact I.list_inj h h'
def Itz (K:Fg) (zs:List Zs):It:=
  ⟨λi H=>∀ y∈zs,∃ xs x,SrcV K H y xs/\xs[i]?=some x,
   λi H x H'=>∃ T vs,H T=none/\x=.ref T/\H'=upd H T (.tup vs)/\vs.length=zs.length/\∀ (j:Nat) y xs,zs[j]?=some y->SrcV K H y xs->∃ v,vs[j]?=some v/\xs[i]?=some v,
   λi H=>(∀ y∈zs,∃ xs,SrcV K H y xs)/\∃ y∈zs,∃ xs,SrcV K H y xs/\xs.length≤i⟩
def TnZ (z TI TO:Addr) (zs:List Zs) (i:Nat) (h:Heap):Prop:=IsZip h z TI TO .none/\IsTu h TI (zs.map λy=>Value.ref y.it).toArray/\(∃ olds:List Value,olds.length=zs.length/\IsTu h TO olds.toArray)/\∀ y∈zs,y.At i h
theorem Vals.of_get:∀ {vs:List V}{us:List Value},vs.length=us.length->(∀ (i:Nat) v u,vs[i]?=some v->us[i]?=some u->RelV v u)->Vals vs us
 | [],[],_,_=>.nil
 | [],_::_,h,_=>by simp at h
 | _::_,[],h,_=>by simp at h
 | v::vs,u::us,h,q=>.cons (q 0 v u rfl rfl) (Vals.of_get (by simpa using h) λi v u a b=>q (i+1) v u (by simpa using a) (by simpa using b))
theorem b3A {P:j7}{w:World}{K:Fg}{elts:List Expr}{x1} {pos:Pos}{z TI TO:Addr}{zs:List Zs}(D:∀ (X:Cx) pins σ H s,X.K=K->Inv X pins σ H s->(∀ b∈z::TI::TO::zs.map (·.it),H b=none)->(∀ y∈zs,∃ xs,SrcV K H y xs)->ZAp z TI TO zs) (hne:zs≠[]) (hsm:zs.length≤1000) :
  Turn P w K (.Tuple elts x1 pos) (Itz K zs) (z::TI::TO::zs.map (·.it)) z (TnZ z TI TO zs) where
 mem:=by simp
 obj:=λi h ⟨t1,t2,⟨olds,_,t3⟩,t4⟩ b hb=>by
  rcases dY.mp hb with rfl | hb
  ·exact⟨_,t1,λv q=>by have q':Data.fields _=Data.cell v:=q;cases q'⟩
  rcases dY.mp hb with rfl | hb
  ·exact⟨_,t2,λv q=>by have q':Data.seq _ _=Data.cell v:=q;cases q'⟩
  rcases dY.mp hb with rfl | hb
  ·exact⟨_,t3,λv q=>by have q':Data.seq _ _=Data.cell v:=q;cases q'⟩
  obtain⟨y,hy,rfl⟩:=eK.mp hb;exact (t4 y hy).obj
 keep:=λi h h' ⟨t1,t2,⟨olds,t0,t3⟩,t4⟩ k=>⟨k z (by simp) _ t1,k TI (by simp) _ t2,⟨olds,t0,k TO (by simp) _ t3⟩,λy hy=>(t4 y hy).keep λo q=>k y.it (by simp;exact .inr (.inr (.inr ⟨y,hy,rfl⟩))) o q⟩
 item:=by
  intro X hP hw hK hc i pins s σ H E I hf st hg;subst hP hw hK;obtain⟨t1,t2,⟨olds,t0,t3⟩,t4⟩:=st;have Da:=D X pins σ H s rfl I (λb hb=>(hf b hb).1) λy hy=>let ⟨xs,_,q,_⟩:=hg y hy;⟨xs,q⟩
  have ex:∀ y:Zs,∃ its:List Value,y∈zs->∃ xs,SrcV X.K H y xs/\Vals xs its/\y.Has s.heap its.toArray/\∃ x,xs[i]?=some x:=λy=>by
   by_cases hy:y∈zs
   ·obtain⟨xs,x,q1,q2⟩:=hg y hy;obtain⟨its,r,p⟩:=q1.has I;exact⟨its,λ_=>⟨xs,q1,r,p,x,q2⟩⟩
   ·exact⟨[],λq=>absurd q hy⟩
  obtain⟨arr,harr⟩:=Classical.axiomOfChoice ex;have hT:s.TypeIs (.ref z) "zip":=⟨_,t1,rfl⟩;unfold pyNext;refine jX (kR (wpAny_callSpecial?_slot (name:=Str.ofString "__next__") hT PySem.F.slot_zip_next (kD PySem.F.slot_zip_next hT PySem.F.entry_zip_next ?_ (PySem.F.args_zip_next_1 _))));refine b4E (arr:=λy=>(arr y).toArray) (k:=i) (I.ok.hd hc) Da hne hsm t1 t2 t3 t0 t4 (λy hy=>let ⟨_,_,_,p,_⟩:=harr y hy;p) ?_ ?_
  ·intro g T us hl hv hT' z2 ti2 to2 tt2 at2 kp;refine jY ⟨_,rfl,?_⟩;refine wpAny_letOwnedTupleGo_zip (s:={ s with heap:=g }) z2 λg3 z3 b3=>?_;have zl:=Heap.lt_size t1;have hTz:T≠z:=by rw[hT'];exact fG zl
   have k3:∀ b o,b∉z::TI::TO::zs.map (·.it)->s.heap.get? b=some o->g3.get? b=some o:=λb o hb q=>by
    simp only[dY,not_or]at hb;exact b3.extBut _ _ hb.1 (kp b o hb.1 hb.2.2.1 (λy hy e=>hb.2.2.2 (by rw[e];exact eY hy)) q)
   have exv:∀ j:Nat,∃ v:V,∀ y xs,zs[j]?=some y->SrcV X.K H y xs->xs[i]?=some v:=λj=>by
    cases hj:zs[j]? with
    | none=>exact⟨.non,λy xs e=>nomatch e⟩
    | some y=>
     obtain⟨xs,q1,_,_,x,q2⟩:=harr y (eI hj);exact⟨x,λy' xs' e q=>by cases e;rw[q.inj I q1];exact q2⟩
   obtain⟨val,hval⟩:=Classical.axiomOfChoice exv;have hlv:((ff zs.length).map val).length=zs.length:=by rw[dQ,iQ]
   have gv:∀ (j:Nat) y,zs[j]?=some y->((ff zs.length).map val)[j]?=some (val j):=λj y e=>by
    rw[er,List.getElem?_range (eq.mp e).1];rfl
   have rv:Vals ((ff zs.length).map val) us:=Vals.of_get (by rw[hlv,hl]) λj v u e1 e2=>by
    have hj:j<zs.length:=by rw[<- hl];exact (eq.mp e2).1
    have hz':=et hj;rw[gv j _ hz']at e1;cases e1;obtain⟨xs,q1,q2,_,_⟩:=harr _ (fm hj);have q3:=hval j _ xs hz' q1;obtain⟨u',e3,e4⟩:=hv j _ hz';rw[e2]at e3;cases e3;obtain⟨u2,e5,e6⟩:=q2.get q3;have e4':(arr zs[j])[i]?=some u:=by simpa using e4
    rw[e5]at e4';cases e4';exact e6
   have tt3:IsTup g3 T us.toArray:=⟨_,b3.extBut _ _ hTz tt2,rfl,_,rfl⟩;refine⟨.ref T,_,I.turnedT (t':=s.toks) hf k3 (by rw[hT'];exact dS _) rv (by rw[hlv];exact fh (a0t hsm)) tt3,rfl,⟨T,_,I.hok.fresh (by rw[hT'];exact dS _),rfl,rfl,hlv,λj y xs e q=>⟨_,gv j y e,hval j y xs e q⟩⟩,⟨z3,b3.extBut _ _ Da.a1 ti2,⟨us,hl,b3.extBut _ _ Da.a2 to2⟩,λy hy=>(at2 y hy).keep λo q=>b3.extBut _ _ (Da.its y hy).1 q⟩,λb hb=>?_⟩;have hbo:∃ o,s.heap.get? b=some o:=by
    rcases dY.mp hb with rfl | hb
    ·exact⟨_,t1⟩
    rcases dY.mp hb with rfl | hb
    ·exact⟨_,t2⟩
    rcases dY.mp hb with rfl | hb
    ·exact⟨_,t3⟩
    obtain⟨y,hy,rfl⟩:=eK.mp hb;obtain⟨o,q,_⟩:=(t4 y hy).obj;exact⟨o,q⟩
   obtain⟨o,q⟩:=hbo;rw[a0r (by rw[hT'];exact eu (Heap.lt_size q))];exact (hf b hb).1
  ·rintro⟨y,hy,q⟩;obtain⟨xs,_,r,_,x,q2⟩:=harr y hy;obtain⟨u,e,_⟩:=r.get q2;have q':(arr y)[i]?=none:=by simpa using q
   rw[e]at q';cases q'
 done:=by
  intro X hP hw hK hc i pins s σ H E I hf st hg;subst hP hw hK;obtain⟨t1,t2,⟨olds,t0,t3⟩,t4⟩:=st;obtain⟨hall,y0,hy0,xs0,hx0,hl0⟩:=hg;have Da:=D X pins σ H s rfl I (λb hb=>(hf b hb).1) hall;have ex:∀ y:Zs,∃ its:List Value,y∈zs->∃ xs,SrcV X.K H y xs/\Vals xs its/\y.Has s.heap its.toArray:=λy=>by
   by_cases hy:y∈zs
   ·obtain⟨xs,q1⟩:=hall y hy;obtain⟨its,r,p⟩:=q1.has I;exact⟨its,λ_=>⟨xs,q1,r,p⟩⟩
   ·exact⟨[],λq=>absurd q hy⟩
  obtain⟨arr,harr⟩:=Classical.axiomOfChoice ex;have hT:s.TypeIs (.ref z) "zip":=⟨_,t1,rfl⟩;unfold pyNext;refine jX (kR (wpAny_callSpecial?_slot (name:=Str.ofString "__next__") hT PySem.F.slot_zip_next (kD PySem.F.slot_zip_next hT PySem.F.entry_zip_next ?_ (PySem.F.args_zip_next_1 _))));refine b4E (arr:=λy=>(arr y).toArray) (k:=i) (I.ok.hd hc) Da hne hsm t1 t2 t3 t0 t4 (λy hy=>let ⟨_,_,_,p⟩:=harr y hy;p) ?_ ?_
  ·intro g T us hl hv _ _ _ _ _ _ _;exfalso;obtain⟨j,hj⟩:=fq hy0;obtain⟨v,_,e⟩:=hv j y0 hj;obtain⟨xs,q1,r,_⟩:=harr y0 hy0;have e':(arr y0)[i]?=some v:=by simpa using e
   have:=(eq.mp e').1
   rw[<- r.length,q1.inj I hx0]at this;omega
  ·rintro _ g e kp ⟨o,ho,hcl⟩;refine jX (nq (T:="StopIteration") (b:=true) (s:={ s with heap:=g }) ⟨o,ho,hcl⟩ isSubtype_stop ?_);refine jY ⟨rfl,I.turnedN (t':=s.toks) hf λb o hb q=>?_⟩;simp only[dY,not_or]at hb;exact kp b o hb.1 hb.2.2.1 (λy hy e=>hb.2.2.2 (by rw[e];exact eY hy)) q
 self:=λ_ _ _ _ _ st h=>wpAny_pyIter_zip st.1 h
end L2
namespace L2
open PySem PySem.Spec PyProof.Rows
noncomputable def mkZs (b:Nat):List (Bool×Addr)->List Zs
 | []=>[]
 | p::r=>⟨b,p.1,p.2⟩::mkZs (b+1) r
theorem a1t:∀ (b:Nat) (l:List (Bool×Addr)),(mkZs b l).length=l.length
 | _,[]=>rfl
 | b,_::r=>by simp[mkZs,a1t _ r]
theorem a3u:∀ (b:Nat) (l r:List (Bool×Addr)),mkZs b (l++r)=mkZs b l++mkZs (b+l.length) r
 | _,[],_=>by simp[mkZs]
 | b,p::l,r=>by
  have:=a3u (b+1) l r
  simp[mkZs,this]
  congr 1
  omega
theorem a18:∀ {b:Nat}{l:List (Bool×Addr)}{y:Zs},y∈mkZs b l->@LE.le Nat _ b y.it/\@LT.lt Nat _ y.it (b+l.length)/\(y.tp,y.l)∈l
 | _,[],_,h=>by simp[mkZs]at h
 | b,p::l,y,h=>by
  rcases dY.mp h with rfl | h
  ·simp
  ·obtain⟨d,c,a⟩:=a18 h;exact⟨by omega,by rw[eF,<- iN,Nat.add_right_comm];exact c,.tail _ a⟩
theorem a6h:∀ (b:Nat) (l:List (Bool×Addr)),((mkZs b l).map (·.it)).Nodup
 | _,[]=>by simp[mkZs]
 | b,p::l=>by
  show (b::(mkZs _ l).map _).Nodup
  refine e9.mpr ⟨λh=>?_,a6h _ l⟩;obtain⟨y,a,e⟩:=eK.mp h
  have:=(a18 a).1
  omega
def HasS (p:Bool×Addr) (h:Heap):Prop:=∃ xs,Zs.Has ⟨0,p.1,p.2⟩ h xs
theorem b0i (srcs:List (Bool×Addr)) (hsm:srcs.length≤1000) :
  Meets (j8.«zip.__new__» ⟨.type "zip"::srcs.map (λp=>Value.ref p.2),[]⟩) (λ_ R s=>(∀ p∈srcs,HasS p s.heap)/\∀ (g:Heap),(∀ b o,s.heap.get? b=some o->g.get? b=some o) ->
   g.objs.size=s.heap.objs.size+srcs.length+3->TnZ (s.heap.objs.size+srcs.length+2) (s.heap.objs.size+srcs.length) (s.heap.objs.size+srcs.length+1) (mkZs s.heap.objs.size srcs) 0 g->R (.ok (.ret (.ref (s.heap.objs.size+srcs.length+2)))) { s with heap:=g }):=
 .of_wp λX w A R s h=>by
  obtain⟨Y,h⟩:=h;unfold j8.«zip.__new__»;have S:j8.SmallTypes.newClass "zip" ⟨.type "zip"::srcs.map (λp=>Value.ref p.2),[]⟩=pure (.type "zip",srcs.map (λp=>Value.ref p.2)):=by
   unfold j8.SmallTypes.newClass;simp only[isType,sub_zip,pure_bind,Bool.not_true,gR,if_false]
  refine jX (my S ?_);dsimp only;rw[if_neg (by simp)];refine jX ?_;unfold j8.SmallTypes.iterAll;refine jX ?_;refine wpAny_forIn_list _ (λk t G=>∃ (f e:List (Bool×Addr)) (g:Heap),srcs=f++e/\k=e.map (λp=>Value.ref p.2)/\t=((mkZs s.heap.objs.size f).map λy=>Value.ref y.it).toArray/\G={ s with heap:=g }/\g.objs.size=s.heap.objs.size+f.length /\
   (∀ b o,s.heap.get? b=some o->g.get? b=some o)/\∀ y∈mkZs s.heap.objs.size f,y.At 0 g) _ ?_ ?_ _ _ ?_
  ·rintro x k t G ⟨f,e,g,n,z,rfl,rfl,j,m,u⟩;cases e with
   | nil=>simp at z
   | cons p e=>
    rw[eE]at z;cases z;obtain⟨B,l⟩:=p;obtain⟨D,L⟩:=Y (B,l) (by rw[n];simp);refine jX (kr ?_);have F:∀ E:Obj,Zs.At ⟨g.objs.size,B,l⟩ 0 (g.push E)->∃ (dn' td':List (Bool×Addr)) (g':Heap),srcs=dn'++td'/\e.map (λp=>Value.ref p.2)=td'.map (λp=>Value.ref p.2)/\(((mkZs s.heap.objs.size f).map λy=>Value.ref y.it).toArray.push (.ref g.objs.size))=((mkZs s.heap.objs.size dn').map λy=>Value.ref y.it).toArray /\
      ({ s with heap:=g.push E }:Shared)={ s with heap:=g' }/\g'.objs.size=s.heap.objs.size+dn'.length/\(∀ b o,s.heap.get? b=some o->g'.get? b=some o)/\∀ y∈mkZs s.heap.objs.size dn',y.At 0 g':=λE ha=>by
     refine⟨f++[(B,l)],e,g.push E,by rw[n];simp,rfl,?_,rfl,by rw[Heap.size_push,j];simp;omega,λb o q=>Heap.get?_push_of_some _ (m b o q),λy c=>?_⟩
     ·rw[a3u];simp[mkZs,j]
     ·rw[a3u]at c;rcases dU.mp c with c | c
      ·exact (u y c).keep λo q=>Heap.get?_push_of_some _ q
      ·simp[mkZs]at c;subst c;rw[<- j];exact ha
    cases B with
    | true=>
     have v:g.IsTuple l D:=let ⟨o,ho,r⟩:=(show s.heap.IsTuple l D from L);⟨o,m _ _ ho,r⟩
     exact wpAny_pyIter_tuple v (jY (F _ ⟨_,Heap.get?_push_size _ rfl,rfl,rfl⟩))
    | false=>
     have v:g.IsList l D:=let ⟨o,ho,r⟩:=(show s.heap.IsList l D from L);⟨o,m _ _ ho,r⟩
     exact lQ v (jY (F _ ⟨_,Heap.get?_push_size _ rfl,rfl,rfl⟩))
  ·rintro t G ⟨f,e,g,n,z,rfl,rfl,j,m,u⟩;have M:e=[]:=by
    cases e with
    | nil=>rfl
    | cons _ _=>simp at z
   subst M;rw[eL]at n;subst n;refine jY ?_;refine jX (l6 ?_ (by show ((mkZs s.heap.objs.size srcs).map λy=>Value.ref y.it).toArray.toList.length≤jZ;simp[a1t];exact fh (a0t hsm)));refine jX (l6 ?_ (by rw[dQ];show ((mkZs s.heap.objs.size srcs).map λy=>Value.ref y.it).toArray.toList.length≤jZ;simp[a1t];exact fh (a0t hsm)));refine jX ?_;unfold j8.SmallTypes.newRecord;refine kJ ?_ (by simp[sizeOk,j8.SmallTypes.ownedTupleFields,ki]);have T:∀ (a d i:Obj),a={ cls:=.type "tuple",data:=.seq ((mkZs s.heap.objs.size srcs).map λy=>Value.ref y.it).toArray }->d={ cls:=.type "tuple",data:=.seq (((mkZs s.heap.objs.size srcs).map λ_=>Value.none)).toArray } ->
     i={ cls:=.type "zip",data:=.fields #[.none,.bool false,.bool false,.ref g.objs.size,.ref (g.push a).objs.size] }->R (.ok (.ret (.ref ((g.push a).push d).objs.size))) { s with heap:=((g.push a).push d).push i }:=λa d i I J C=>by
    have U:(g.push a).objs.size=s.heap.objs.size+srcs.length+1:=by rw[Heap.size_push,j]
    have V:((g.push a).push d).objs.size=s.heap.objs.size+srcs.length+2:=by rw[Heap.size_push,U]
    have N:(((g.push a).push d).push i).get? g.objs.size=some a:=Heap.get?_push_of_some _ (Heap.get?_push_of_some _ (Heap.get?_push_size _ (by rw[I];rfl)));have Q:(((g.push a).push d).push i).get? (g.push a).objs.size=some d:=Heap.get?_push_of_some _ (Heap.get?_push_size _ (by rw[J];rfl));have H:(((g.push a).push d).push i).get? ((g.push a).push d).objs.size=some i:=Heap.get?_push_size _ (by rw[C];rfl);have W:∀ b o,g.get? b=some o->(((g.push a).push d).push i).get? b=some o:=λb o q=>Heap.get?_push_of_some _ (Heap.get?_push_of_some _ (Heap.get?_push_of_some _ q));rw[U]at Q C;rw[V]at H ⊢;rw[j]at N C;refine h _ (λb o q=>W b o (m b o q)) (by rw[Heap.size_push,V]) ⟨H.trans (congrArg some C),N.trans (congrArg some I),⟨(mkZs s.heap.objs.size srcs).map λ_=>Value.none,by rw[dQ],Q.trans (congrArg some J)⟩,λy c=>(u y c).keep λo q=>W _ o q⟩
   exact jY ⟨_,rfl,T _ _ _ (by simp) (by simp) rfl⟩
  ·exact⟨[],srcs,s.heap,rfl,rfl,by simp[mkZs],rfl,rfl,λ_ _ q=>q,λy c=>by simp[mkZs]at c⟩
theorem b5G (a b c d:Value):checkTypeCall "zip" ⟨[a,b,c,d],[]⟩=pure ():=by kernel_rfl
theorem b5H (a b c d:Value):l4 "zip.__new__" ⟨[.type "zip",a,b,c,d],[]⟩=pure ():=by kernel_rfl
theorem b3B (o a b c d:Value):argsOk "object.__init__" ⟨[o,a,b,c,d],[]⟩:=by
 unfold argsOk;rw[signature?_of (n:=['_','_','t','i','n','i','_','_']) (by kernel_rfl) PySem.F.owner_object]
 kernel_rfl
def a7J (us:List Value):Prop:=checkTypeCall "zip" ⟨us,[]⟩=pure ()/\l4 "zip.__new__" ⟨.type "zip"::us,[]⟩=pure ()/\∀ o,argsOk "object.__init__" ⟨o::us,[]⟩
theorem b8i (a b c d:Value):a7J [a,b,c,d]:=⟨b5G a b c d,b5H a b c d,λo=>b3B o a b c d⟩
theorem b1Y (hk:a7J (srcs.map λp=>Value.ref p.2)) (hsm:srcs.length≤1000) (hs:∀ p∈srcs,HasS p s.heap)
  (h:∀ g:Heap,(∀ b o,s.heap.get? b=some o->g.get? b=some o)->TnZ (s.heap.objs.size+srcs.length+2) (s.heap.objs.size+srcs.length) (s.heap.objs.size+srcs.length+1) (mkZs s.heap.objs.size srcs) 0 g->Q (.ref (s.heap.objs.size+srcs.length+2)) { s with heap:=g }) :
  wpAny (model P w) A (call (.type "zip") (srcs.map λp=>Value.ref p.2)) Q E s:=
 callType_new PySem.F.called_zip (by decide) hk.1 hk.2.1 hk.2.2 PySem.F.entry_zip_new (b0i srcs hsm) ⟨hs,λg c _ a=>⟨⟨_,a.1,rfl⟩,h g c a⟩⟩
def SrcP (K:Fg) (H:Hp) (p:Bool×Addr) (xs:List V):Prop:=if p.1=true then SqT K H p.2 xs else SqL K H p.2 xs
def ItzP (K:Fg) (ps:List (Bool×Addr)):It:=
  ⟨λi H=>∀ y∈ps,∃ xs x,SrcP K H y xs/\xs[i]?=some x,
   λi H x H'=>∃ T vs,H T=none/\x=.ref T/\H'=upd H T (.tup vs)/\vs.length=ps.length/\∀ (j:Nat) y xs,ps[j]?=some y->SrcP K H y xs->∃ v,vs[j]?=some v/\xs[i]?=some v,
   λi H=>(∀ y∈ps,∃ xs,SrcP K H y xs)/\∃ y∈ps,∃ xs,SrcP K H y xs/\xs.length≤i⟩
theorem a9n:∀ (b:Nat) (l:List (Bool×Addr)),(mkZs b l).map (λy=>(y.tp,y.l))=l
 | _,[]=>rfl
 | b,p::r=>by simp[mkZs,a9n _ r]
theorem a9o {j:Nat}(h:l[j]?=some p):∃ y,(mkZs b l)[j]?=some y/\(y.tp,y.l)=p:=by
 have:=congrArg (·[j]?) (a9n b l)
 simp only[er,h]at this;cases e:(mkZs b l)[j]? with
 | none=>rw[e]at this;cases this
 | some y=>rw[e]at this;exact⟨y,rfl,by simpa using this⟩
theorem Turn.imp {P:j7}{w:World}{K:Fg}{tg:Expr}{J J':It}{fp:List Addr}{it:Addr}{tn:Nat->Heap->Prop}(t:Turn P w K tg J fp it tn) (g:∀ i H,J'.go i H->J.go i H) (y:∀ i H x H',J'.go i H->J.yld i H x H'->J'.yld i H x H') (s:∀ i H,J'.stop i H->J.stop i H):Turn P w K tg J' fp it tn where
 mem:=t.mem
 obj:=t.obj
 keep:=t.keep
 item:=λX h1 h2 h3 h4 i pins s σ H E I hf st hg=>kg (t.item X h1 h2 h3 h4 i pins s σ H E I hf st (g i H hg)) (λr s1 ⟨u,e,q⟩=>⟨u,e,kg q (λ_ s2 ⟨x,H',a,b,c,d,e⟩=>⟨x,H',a,b,y i H x H' hg c,d,e⟩) λ_ _ z=>z⟩) λ_ _ z=>z
 done:=λX h1 h2 h3 h4 i pins s' σ H E I hf st hg=>t.done X h1 h2 h3 h4 i pins s' σ H E I hf st (s i H hg)
 self:=t.self
theorem a3P (h:@Ne Nat a b):a≠b:=h
def c0o (K:Fg) (n:Nat) (ta:TA):TI:=fun σ H R=>ta σ H λvs H1=>∃ ps:List (Bool×Addr),vs=ps.map (λp=>V.ref p.2)/\ps≠[]/\ps.length=n/\(∀ p∈ps,∃ xs,SrcP K H1 p xs)/\R (ItzP K ps) H1
theorem b1Z:∀ {ps:List (Bool×Addr)}{us:List Value},Vals (ps.map λp=>V.ref p.2) us->us=ps.map λp=>Value.ref p.2
 | [],us,r=>by rw[eT]at r;cases r;rfl
 | p::ps,us,r=>by
  cases r with
  | cons r1 r2=>rw[b1Z r2,r1];rfl
theorem b8j (hg:Gl X "zip") (hm:X.mg "zip"=none) (hok:∀ us:List Value,us.length=n->a7J us) (hn:n≤1000) (ha:PA X (e::es) ta)
  (he:j0 (e::es) X.env=(false,eval e X.env)::j0 es X.env:=by rfl) (hpl:(backTo pos (j0 es X.env)).any (·.1)=false:=by rfl):PI X (.Tuple elts x1 tpos) (.Call (.Name "zip" p) (e::es) [] pos) (c0o X.K n ta):=by
 intro pins s σ H R I h;refine Call_ (a53 I hg hm (show kH "zip"=some (.type "zip") by decide +kernel) (PyProof.Rows.callWith_type1 (thn (ha pos pins s σ H _ I h) λus c ⟨vs,H1,r,r1,q1⟩=>?_) he hpl));obtain⟨f,rfl,hne,hl,hsrc,q⟩:=q1;have hsm:f.length≤1000:=by omega
 have e:=b1Z r1;subst e;have hnz:mkZs c.heap.objs.size f≠[]:=λz=>hne (fN.mp (by rw[<- a1t c.heap.objs.size f,z];rfl));refine b1Y (hok _ (by rw[dQ,hl])) hsm (λp hp=>?_) λg kp tn=>?_
 ·obtain⟨t,d⟩:=hsrc p hp;obtain⟨its,_,h⟩:=SrcV.has (y:=⟨0,p.1,p.2⟩) r d;exact⟨_,h⟩
 ·refine wpAny_pyIter_zip (s:={ c with heap:=g }) tn.1 ?_;have I2:Inv X pins σ H1 { c with heap:=g }:=r.kept (t':=c.toks) kp;refine⟨_,_,_,_,H1,rfl,I2,(b3A (K:=X.K) (zs:=mkZs c.heap.objs.size f) ?_ hnz (by rw[a1t];exact hsm)).imp ?_ ?_ ?_,tn,λb k=>?_,q⟩
  ·intro X' pins' σ' H' s' hK I' hfp hall;have hl':∀ y∈mkZs c.heap.objs.size f,∀ b,H' b=none->b∈(c.heap.objs.size+f.length+2)::(c.heap.objs.size+f.length+1)::(mkZs c.heap.objs.size f).map (·.it)->y.l≠b:=by
    intro y a b k hm z;obtain⟨hb1,hb2,hb3⟩:=a18 a;obtain⟨t,d⟩:=hsrc _ hb3;obtain⟨its,_,hh⟩:=SrcV.has (y:=y) r d
    have:@LT.lt Nat _ y.l c.heap.objs.size:=by
     unfold Zs.Has at hh
     split at hh<;>(obtain⟨o,ho,_⟩:=hh;exact Heap.lt_size ho)
    rcases dY.mp hm with e | hm
    ·exact absurd (z.trans e) (a3P (by omega))
    rcases dY.mp hm with e | hm
    ·exact absurd (z.trans e) (a3P (by omega))
    obtain⟨x,d,e⟩:=eK.mp hm
    have:=(a18 d).1
    exact absurd (z.trans e.symm) (a3P (by omega))
   refine⟨a6h _ _,a3P (by omega),a3P (by omega),a3P (by omega),λy a=>?_,λy a=>?_⟩
   ·have:=a18 a
    exact⟨a3P (by omega),a3P (by omega),a3P (by omega)⟩
   ·exact⟨hl' y a _ (hfp _ (by simp)) (by simp),hl' y a _ (hfp _ (by simp)) (by simp),λx d=>hl' y a _ (hfp _ (by simp;exact .inr (.inr (.inr ⟨x,d,rfl⟩)))) (by simp;exact .inr (.inr ⟨x,d,rfl⟩))⟩
  ·intro i H' hgo y a;exact hgo (y.tp,y.l) (a18 a).2.2
  ·rintro i H' x H2 _ ⟨T,vs,a1,a2,a3,a4,a5⟩;refine⟨T,vs,a1,a2,a3,by rw[a4,a1t],λj p t hp d=>?_⟩;obtain⟨y,a,e⟩:=a9o (b:=c.heap.objs.size) hp;subst e;exact a5 j y t a d
  ·rintro i H' ⟨a1,p,hp,t,d,hl⟩;obtain⟨j,hj⟩:=fq hp;obtain⟨y,a,e⟩:=a9o (b:=c.heap.objs.size) hj;subst e;exact⟨λy a=>a1 (y.tp,y.l) (a18 a).2.2,y,eI a,t,d,hl⟩
  ·have hb':@LE.le Nat _ c.heap.objs.size b:=by
    rcases dY.mp k with rfl | k
    ·omega
    rcases dY.mp k with rfl | k
    ·omega
    rcases dY.mp k with rfl | k
    ·omega
    obtain⟨x,d,rfl⟩:=eK.mp k;exact (a18 d).1
   exact r.fpOk hb' (r.hok.fresh hb')
end L2
namespace L2
open PySem PySem.Spec PyProof.Rows
def Itv (K:Fg) (a:Addr) (n:Nat):It:=
 ⟨λi H=>i<n/\∃ xs,SqL K H a xs/\xs.length=n,λi H x H'=>H'=H/\∀ xs,SqL K H a xs->xs[n - 1 - i]?=some x,λi _=>i=n⟩
theorem b3C {P:j7}{w:World}{K:Fg}{tg:Expr}(a it:Addr) (n:Nat):Turn P w K tg (Itv K a n) [it] it (λi h=>i≤n/\h.IsRevIter it a ((n:Int) - 1 - (i:Nat))) where
 mem:=by simp
 obj:=λi h st b hb=>by
  have e:b=it:=by simpa using hb
  subst e;obtain⟨o,e,c,d⟩:=st.2;exact⟨o,e,λv z=>by rw[d]at z;cases z⟩
 keep:=λi h h' st k=>⟨st.1,st.2.at λo e=>k it (by simp) o e⟩
 item:=by
  intro X hP hw hK hc i pins s σ H E I hf st hg;subst hP hw hK;obtain⟨hi,xs,hq,hx⟩:=hg;obtain⟨its,rv,p,hz⟩:=I.list hq;have hx':=et (show n - 1 - i<xs.length by omega);obtain⟨u,hu,ru⟩:=rv.get hx';obtain⟨f0,f1,f2,f3,f4,f5⟩:=hf it (by simp);have st':=st.2;have e1:(n:Int) - 1 - (i:Nat)=((n - 1 - i:Nat):Int):=by omega
  rw[e1]at st';refine wpAny_pyNext_rev_item st' p.isList (x:=u) (by simpa using hu) λh' s2 sb=>?_;have I1:Inv X pins σ H { s with heap:=h' }:=I.turned (t':=s.toks) (λb o hb e=>(sb.2 b hb).trans e) f0 f1 f3 f4 f5;obtain⟨o,e,c,d⟩:=id s2;refine⟨u,rfl,a9W (s:={ s with heap:=h' }) e c d (by decide) ⟨xs[n - 1 - i],H,I1,ru,⟨rfl,λys hy=>by rw[I.list_inj hy hq];exact hx'⟩,⟨by omega,?_⟩,λb hb=>(hf b hb).1⟩⟩;have e2:(n:Int) - 1 - ((i+1:Nat):Int)=((n - 1 - i:Nat):Int) - 1:=by omega
  rw[e2];exact s2
 done:=by
  intro X hP hw hK hc i pins s σ H E I hf st hg;subst hP hw hK;obtain⟨f0,f1,f2,f3,f4,f5⟩:=hf it (by simp);have hi:i=n:=hg;have st':=st.2;have e1:(n:Int) - 1 - (i:Nat)=-1:=by omega
  rw[e1]at st';exact wpAny_pyNext_rev_end (I.ok.hd hc) st' λh' eb=>⟨rfl,I.turned (t':=s.toks) (λb o hb e=>eb b o hb e) f0 f1 f3 f4 f5⟩
 self:=λ_ _ _ _ _ st h=>wpAny_pyIter_revIter st.2 h
def c0p (K:Fg) (ta:TA):TI:=fun σ H R=>ta σ H λvs H1=>∃ a xs,vs=[.ref a]/\SqL K H1 a xs/\R (Itv K a xs.length) H1
theorem b8k (hg:Gl X "reversed") (hm:X.mg "reversed"=none) (ha:PA X [e] ta)
  (he:j0 [e] X.env=(false,eval e X.env)::j0 [] X.env:=by rfl):PI X tg (.Call (.Name "reversed" p) [e] [] pos) (c0p X.K ta):=by
 intro i s σ H R I h;refine Call_ (a53 I hg hm boot_reversed (PyProof.Rows.callWith_type1 (thn (ha pos i s σ H _ I h) λy c ⟨A,v,f,k,l⟩=>?_) he rfl));obtain⟨a,d,rfl,n,q⟩:=l;obtain⟨u,rfl,r⟩:=a2P k;cases r;obtain⟨j,m,w,z⟩:=f.list n;have x:j.toArray.size=d.length:=by rw[e8,m.length]
 refine call_reversed_list w.isList ?_;rw[x];have g:(c.heap.push (revObj a ((d.length) - 1))).IsRevIter c.heap.objs.size a ((d.length) - 1 - 0):=⟨_,Heap.get?_push_size _ rfl,rfl,by simp[revObj]⟩;refine wpAny_pyIter_revIter g ?_;refine⟨c.heap.objs.size,[c.heap.objs.size],_,_,v,rfl,f.kept λb o e=>Heap.get?_push_of_some _ e,b3C a _ d.length,⟨eP _,g⟩,λb t=>?_,q⟩;have e:b=c.heap.objs.size:=by simp_all
 subst e;exact f.fpOk (dS _) (f.hok.fresh (dS _))
end L2
namespace L2
open PySem PySem.Spec PyProof.Rows
section
variable {X:Cx}
def b0j (x y:Str):Int:=match j8.Str.occurrences x y 0 x.length 1 with
 | i::_=>(i:Int)
 | []=>-1
theorem b5I:MtR X "str.find" (λx vs H Q=>∃ (z y:Str),x=.str z/\vs=[.str y]/\Q (.int (b0j z y)) H):=by
 intro c s σ H x f v g Q I b d h;obtain⟨z,y,rfl,rfl,q⟩:=h;obtain⟨t,rfl⟩:=b;obtain⟨u,rfl,e⟩:=a2P d;obtain⟨a,rfl⟩:=e;exact call_gives PySem.F.slot_str_find (lq _ _ _) PySem.F.entry_str_find (PySem.F.args_str_find_2 _ _) (gives_str_find z y t a) ⟨.int _,H,I.tok _,⟨_,rfl⟩,q⟩
end
end L2
namespace L3
open PySem PySem.Spec PyProof.Rows L2
section
variable {X:Cx}
def b8l:Z->List Z->Hq->K3->Prop:=λx xs G R=>match x,xs with
 | .str z,[.str y]=>R (.int (b0j z y)) G
 | _,_=>False
theorem b8m:MtQ X "str.find" b8l:=a7p b5I λx g H Q e=>e.un λw c G R a b d h f=>by
 match w,c,h with
 | .str z,[.str y],h=>
  obtain⟨v,rfl,r⟩:=b.one;exact⟨z,y,a,by rw[r],f _ _ _ _ h (by rw[a0x]) d (.refl _ _)⟩
theorem b8n (h:R (.int (b0j z y)) G):b8l (.str z) [.str y] G R:=h
noncomputable def putZ (kvs:List (Key×Z)) (k:Key) (v:Z):List (Key×Z):=
 if (kvs.any λkv=>decide (kv.1=k))=true then kvs.map (λkv=>if kv.1=k then (kv.1,v) else kv) else kvs++[(k,v)]
theorem b10 {α β:Type}:∀ {kvs:List (Key×α)}{us:List (Key×β)},us.map (·.1)=kvs.map (·.1)->(us.any λkv=>decide (kv.1=k))=kvs.any λkv=>decide (kv.1=k)
 | [],[],_=>rfl
 | [],_::_,h=>by simp at h
 | _::_,[],h=>by simp at h
 | p::ps,q::qs,h=>by
  rw[eE,eE]at h;injection h with h1 h2
  rw[gj,gj,b10 h2,h1]
theorem a9p {K:Fg}(rv:Rep K H w v) (hk:us.map (·.1)=kvs.map (·.1)) (hr:Reps K H (kvs.map (·.2)) (us.map (·.2))) :
  (putK us k v).map (·.1)=(putZ kvs k w).map (·.1)/\Reps K H ((putZ kvs k w).map (·.2)) ((putK us k v).map (·.2)):=by
 unfold putK putZ;rw[b10 hk]
 split
 ·have l:∀ {d:List _}{f:List _},f.map (·.1)=d.map (·.1)->Reps K H (d.map (·.2)) (f.map (·.2))->((f.map λc=>if c.1=k then (c.1,v) else c).map (·.1)=(d.map λc=>if c.1=k then (c.1,w) else c).map (·.1)/\Reps K H ((d.map λc=>if c.1=k then (c.1,w) else c).map (·.2)) ((f.map λc=>if c.1=k then (c.1,v) else c).map (·.2))):=by
   intro d
   induction d with
   | nil=>intro f g h;cases f with
    | nil=>exact⟨rfl,.nil⟩
    | cons _ _=>simp at g
   | cons p ps ih=>
    intro f g h;cases f with
    | nil=>simp at g
    | cons q qs=>
     rw[eE,eE]at g h;injection g with h3 h4
     obtain⟨a,b,e,j,m⟩:=h;injection e with e1 e2
     subst e1 e2;have i:=ih h4 m;simp only[eE]
     by_cases e:p.1=k
     ·rw[if_pos e,if_pos (h3.trans e)];exact⟨by rw[i.1,h3],.cons rv i.2⟩
     ·rw[if_neg e,if_neg (λz=>e (h3.symm.trans z))];exact⟨by rw[i.1,h3],.cons j i.2⟩
  exact l hk hr
 ·rw[eA,eA,hk,eA,eA];exact⟨rfl,hr.append (.cons rv .nil)⟩
noncomputable def keyZ:Z->Option Key
 | .non=>some (.inl none)
 | .int i=>some (.inl (some i))
 | .str x=>some (.inr x)
 | _=>none
theorem a6P {K:Fg}(h:keyZ i=some k) (r:Rep K H i v):v=kV k:=by
 cases i with
 | non=>rw[a0U]at r;cases h;exact r
 | int j=>rw[a0x]at r;cases h;exact r
 | str j=>rw[a0K]at r;cases h;exact r
 | _=>cases h
theorem b5J {α β:Type}{kvs:List (Key×α)}{us:List (Key×β)}(h:us.map (·.1)=kvs.map (·.1)):us.length=kvs.length:=by
 rw[<- dQ,h,dQ]
def b5K:List Z->Hq->K3->Prop:=λxs G R=>match xs with
 | [.ref p]=>∃ ns:List Int,(G p=some (.lst (ns.map Z.int))\/∃ kvs,G p=some (.dK kvs)/\kvs.map (·.1)=ns.map λi=>Sum.inl (some i))/\ns.length≤1000/\∀ (t:Addr) (ms:List Int),G t=none->ms.Perm ns->ms.Pairwise (·≤·)->R (.ref t) (put G t (.lst (ms.map Z.int)))
 | _=>False
theorem b_sorted (hc:X.calm=true):a2M X (.builtin "sorted") b5K:=a1c (a8C hc) λw H Q n=>n.un λm G R o b h q=>by
 match m,h with
 | [.ref p],h=>
  obtain⟨v,rfl,r⟩:=o.one;obtain⟨l,a,e,h⟩:=h;refine⟨p,l,by rw[r],?_,e,λt g c i j=>q _ _ _ _ (h t g (b.out c) i j) (by rw[a0H]) (b.set (.new c) (a06 (a2j _) (.new c))) (.new c)⟩;rcases a with a | ⟨kvs,a,hk⟩
  ·obtain⟨u,d,f⟩:=b _ _ a
   have:=a5g f
   subst this;exact .inl (SqL.of d)
  ·obtain⟨k,d,s,_⟩:=b _ _ a;exact .inr ⟨k,d,s.trans hk⟩
variable {tg:Expr}{t:A3}
def iRev (t:A3):I3:=fun σ G R=>t σ G λws G1=>∃ a xs,ws=[.ref a]/\G1 a=some (.lst xs)/\R xs.reverse (λG=>G a=some (.lst xs)) G1
theorem b11 {K:Fg}:a5Q K ws.reverse (λG=>G a=some (.lst ws)) (Itv K a ws.length) H0:=λi G H g t l m=>by
 obtain⟨f,e,d⟩:=g a _ l;rw[jE]at m ⊢;refine⟨λh=>h,λw c=>?_⟩;have b:i<ws.length:=by
  have:=(eq.mp c).1
  rwa [jE]at this
 rw[List.getElem?_reverse b]at c;obtain⟨v,j,k⟩:=d.get c;refine⟨⟨b,f,SqL.of e,d.length.symm⟩,?_⟩;rintro x n ⟨rfl,y⟩
 have:=y f (SqL.of e)
 rw[j]at this;cases this;exact⟨k,g,.refl _ _⟩
theorem a8D (hg:Gl X "reversed") (hm:X.mg "reversed"=none) (ha:QA X [e] t)
  (he:j0 [e] X.env=(false,eval e X.env)::j0 [] X.env:=by rfl):QI X tg (.Call (.Name "reversed" p) [e] [] pos) (iRev t):=a8q (b8k hg hm ha.p he) fun τ H R2 i=>i.un fun σ G R k hg h o=>by
 refine⟨σ,G,_,k,hg,h,λws G1 vs H1 ⟨a,xs,e,f,l⟩ g b j=>?_⟩;subst e;obtain⟨v,rfl,r⟩:=g.one;subst r;obtain⟨m,n,d⟩:=b a _ f;exact⟨a,m,rfl,SqL.of n,by rw[<- d.length];exact o _ _ _ _ _ l b11 b j⟩
noncomputable def srcZ (G:Hq):Z->Option (List Z)
 | .ref a=>match G a with
  | some (.lst ws)=>some ws
  | _=>none
 | .tup ws=>some ws
 | _=>none
noncomputable def zipZ:List (List Z)->List Z
 | []=>[]
 | [xs]=>xs.map λx=>.tup [x]
 | xs::rest=>List.zipWith (λx r=>match r with | .tup ws=>.tup (x::ws) | r=>r) xs (zipZ rest)
def iZip (n:Nat) (t:A3):I3:=fun σ G R=>t σ G λws G1=>∃ xss:List (List Z),ws.map (srcZ G1)=xss.map some/\xss≠[]/\ws.length=n/\R (zipZ xss) (λG=>ws.map (srcZ G)=xss.map some) G1
theorem a26:∀ (xss:List (List Z)),xss≠[]->∀ (i:Nat) (w:Z),(zipZ xss)[i]?=some w↔∃ vs:List Z,w=.tup vs/\xss.map (·[i]?)=vs.map some
 | [],h,_,_=>absurd rfl h
 | [xs],_,i,w=>by
  simp only[zipZ,er,eE,eT]
  constructor
  ·intro h;cases e:xs[i]? with
   | none=>rw[e]at h;cases h
   | some x=>rw[e]at h;cases h;exact⟨[x],rfl,rfl⟩
  ·rintro⟨a,rfl,h⟩
   match a,h with
   | [v],h=>rw[eE,eT]at h;injection h with h _;rw[h];rfl
   | [],h=>cases h
   | _::_::_,h=>simp at h
 | xs::ys::rest,_,i,w=>by
  have b:=a26 (ys::rest) (by simp)
  show (List.zipWith _ xs _)[i]?=some w↔_
  rw[List.getElem?_zipWith]
  constructor
  ·intro h;cases e1:xs[i]? with
   | none=>rw[e1]at h;cases h
   | some x=>
    cases e2:(zipZ (ys::rest))[i]? with
    | none=>rw[e1,e2]at h;cases h
    | some r=>
     rw[e1,e2]at h;obtain⟨a,rfl,c⟩:=(b i r).mp e2;cases h;exact⟨x::a,rfl,by rw[eE,c,e1];rfl⟩
  ·rintro⟨a,rfl,h⟩
   match a,h with
   | [],h=>simp at h
   | v::a,h=>
    rw[eE,eE]at h;injection h with h1 h2
    have:=(b i _).mpr ⟨a,rfl,h2⟩
    rw[h1,this]
theorem a9q {K:Fg}(h:srcZ G w=some ws) (r:Rep K H w v) (hg:RH K G H):∃ p:Bool×Addr,v=.ref p.2/\(p.1=true↔∃ us,w=.tup us)/\∃ vs,SrcP K H p vs/\Reps K H ws vs:=by
 cases w with
 | ref a=>
  cases q:G a with
  | none=>simp[srcZ,q]at h
  | some o=>
   cases o with
   | lst us=>
    simp[srcZ,q]at h;subst h;obtain⟨c,d,b⟩:=hg _ _ q;exact⟨(false,a),r,by simp,c,by unfold SrcP;rw[if_neg (by simp)];exact SqL.of d,b⟩
   | _=>simp[srcZ,q]at h
 | tup us=>
  obtain⟨a,c,rfl,e,b⟩:=r;cases h;exact⟨(true,a),rfl,by simp,c,by unfold SrcP;rw[if_pos rfl];exact SqT.of e,b⟩
 | _=>cases h
theorem a9r {K:Fg}(hg:RH K G H):∀ {ws:List Z}{vs:List V}{xss:List (List Z)},ws.map (srcZ G)=xss.map some->Reps K H ws vs->∃ ps:List (Bool×Addr),vs=ps.map (λp=>V.ref p.2)/\ps.length=ws.length /\
  (∀ (j:Nat) (p:Bool×Addr) (w:Z),ps[j]?=some p->ws[j]?=some w->(p.1=true↔∃ us,w=.tup us))/\∀ p∈ps,∃ us,SrcP K H p us
 | [],vs,xss,_,r=>by rw[a0C]at r;subst r;exact⟨[],rfl,rfl,λj p w e=>by simp at e,λp h=>by simp at h⟩
 | w::ws,vs,[],h,_=>by simp at h
 | w::ws,vs,xs::xss,h,r=>by
  injection h with h1 h2
  obtain⟨v,s,rfl,d,o⟩:=r;obtain⟨p,rfl,i,f,l,_⟩:=a9q h1 d hg;obtain⟨q,rfl,m,k,n⟩:=a9r hg h2 o;refine⟨p::q,rfl,by simp[m],λj a g c b=>?_,λa h=>?_⟩
  ·cases j with
   | zero=>simp at c b;subst c b;exact i
   | succ j=>exact k j a g (by simpa using c) (by simpa using b)
  ·rcases dY.mp h with rfl | h
   ·grind
   ·exact n a h
theorem SrcP.uniq {K:Fg}(h:SrcP K H p xs) (g:(if p.1=true then H p.2=some (.tup ys) else H p.2=some (.lst ys))):SrcP K H p ys:=by
 unfold SrcP
 split
 ·next e=>rw[if_pos e]at g;exact SqT.of g
 ·next e=>rw[if_neg e]at g;exact SqL.of g
theorem b12 {K:Fg}(h:srcZ G w=some ws) (r:Rep K H0 w (.ref p.2)) (hp:p.1=true↔∃ us,w=.tup us) (t:TK K H0 H) (hg:RH K G H):∃ vs,SrcP K H p vs/\Reps K H ws vs:=by
 obtain⟨q,e,j,i,f,g⟩:=a9q h (r.mono t) hg;have k:p=q:=by
  obtain⟨a,b⟩:=p;obtain⟨c,d⟩:=q;cases e
  have:a=c:=by rw[gh];exact hp.trans j.symm
  rw[this]
 subst k;exact⟨i,f,g⟩
theorem a2U {α:Type}{β:Type}{f:α->Option β}:∀ {l:List α}{m:List β}{j:Nat}{x:α},l.map f=m.map some->l[j]?=some x->∃ y,m[j]?=some y/\f x=some y
 | [],_,_,_,_,e=>by simp at e
 | a::l,[],_,_,h,_=>by simp at h
 | a::l,b::m,j,x,h,e=>by
  injection h with h1 h2
  cases j with
  | zero=>simp at e;subst e;exact⟨b,rfl,h1⟩
  | succ j=>simpa using a2U h2 (by simp_all)
theorem b13 {K:Fg}(hne:xss≠[]) (hv:vs=ps.map λp=>V.ref p.2) (hl:ps.length=ws.length) (rs:Reps K H0 ws vs) (hk:∀ (j:Nat) (p:Bool×Addr) (w:Z),ps[j]?=some p->ws[j]?=some w->(p.1=true↔∃ us,w=.tup us)) :
  a5Q K (zipZ xss) (λG=>ws.map (srcZ G)=xss.map some) (ItzP K ps) H0:=λi G H S t Q hi=>by
 have A:xss.length=ws.length:=by rw[<- dQ (as:=ws),Q,dQ]
 have o:∀ (j:Nat) p,ps[j]?=some p->∃ b a,xss[j]?=some b/\SrcP K H p a/\Reps K H b a:=λj p e=>by
  have d:j<ws.length:=by rw[<- hl];exact (eq.mp e).1
  have I:=et d;obtain⟨b,k,n⟩:=a2U Q I;obtain⟨v,m,r⟩:=rs.get I;rw[hv,er,e]at m;cases m;obtain⟨a,s,L⟩:=b12 n r (hk j p _ e I) t S;exact⟨b,a,k,s,L⟩
 refine⟨λh=>⟨λp F=>?_,?_⟩,λw hw=>?_⟩
 ·obtain⟨j,d⟩:=fq F;obtain⟨b,a,_,k,_⟩:=o j p d;exact⟨a,k⟩
 ·refine Classical.byContradiction λno=>?_;have all:∀ b∈xss,i<b.length:=λb E=>by
   obtain⟨j,d⟩:=fq E;have D:j<ps.length:=by rw[hl,<- A];exact (eq.mp d).1
   obtain⟨xs',a,k,n,m⟩:=o j _ (et D);rw[d]at k;cases k;refine Classical.byContradiction λc=>no ⟨_,fm D,a,n,?_⟩;rw[<- m.length];omega
  have:(zipZ xss)[i]?=some (.tup (xss.map λb=>b.getD i .non)):=(a26 xss hne i _).mpr ⟨_,rfl,by
   rw[gZ];refine jF λb E=>?_
   have:=all b E
   simp[et this]⟩
  have:=(eq.mp this).1
  omega
 ·obtain⟨g,rfl,U⟩:=(a26 xss hne i w).mp hw;have aa:g.length=ps.length:=by rw[<- dQ,<- U,dQ,A,hl]
  have B:∀ (j:Nat) (b:List Z),xss[j]?=some b->∃ z,g[j]?=some z/\b[i]?=some z:=λj b d=>a2U (f:=λl:List Z=>l[i]?) U d;refine⟨λp F=>?_,?_⟩
  ·obtain⟨j,d⟩:=fq F;obtain⟨b,a,M,k,n⟩:=o j p d;obtain⟨z,m,r⟩:=B j b M;obtain⟨v,s,_⟩:=n.get r;exact⟨a,v,k,s⟩
  ·rintro x H' ⟨T,a,R,rfl,rfl,C,N⟩;have tT:TK K H (upd H T (.tup a)):=.new R;refine⟨?_,S.hid R,tT⟩;rw[a1P];refine⟨T,a,rfl,a0y,?_⟩;have go:∀ {g:List Z}{a:List V},g.length=a.length->(∀ (j:Nat) z u,g[j]?=some z->a[j]?=some u->Rep K H z u)->Reps K H g a:=by
    intro g
    induction g with
    | nil=>intro a h _;cases a with
     | nil=>exact .nil
     | cons _ _=>simp at h
    | cons z g ih=>intro a h q;cases a with
     | nil=>simp at h
     | cons u a=>exact .cons (q 0 z u rfl rfl) (ih (by simpa using h) λj z u J y=>q (j+1) z u (by simpa using J) (by simpa using y))
   refine (go (by rw[aa,C]) λj z u J y=>?_).mono tT;have d:j<ps.length:=by rw[<- C];exact (eq.mp y).1
   obtain⟨b,Y,M,k,n⟩:=o j _ (et d);obtain⟨z',m,r⟩:=B j b M;rw[J]at m;cases m;obtain⟨v,s,L⟩:=n.get r;obtain⟨u',h7,X⟩:=N j _ Y (et d) k;rw[y]at h7;cases h7;rw[s]at X;cases X;exact L
theorem b5L (hok:∀ us:List Value,us.length=n->a7J us) (hn:n≤1000) (hg:Gl X "zip") (hm:X.mg "zip"=none) (ha:QA X (e::es) t)
  (he:j0 (e::es) X.env=(false,eval e X.env)::j0 es X.env:=by rfl) (hpl:(backTo pos (j0 es X.env)).any (·.1)=false:=by rfl):QI X (.Tuple elts x1 tpos) (.Call (.Name "zip" p) (e::es) [] pos) (iZip n t):=a8q (b8j hg hm hok hn ha.p he hpl) fun τ H R2 a=>a.un fun σ G R s hg h u=>by
 refine⟨σ,G,_,s,hg,h,λws G1 vs H1 ⟨b,a,c,k,m⟩ l d q=>?_⟩;obtain⟨r,e,g,o,ha⟩:=a9r d a l;refine⟨r,e,?_,by rw[g,k],ha,u _ _ _ _ _ m (b13 c e g l o) d q⟩;rintro rfl
 have:b.length=0:=by rw[<- dQ,<- a,dQ,<- g];rfl
 exact c (fN.mp this)
theorem zok4 (us:List Value) (h:us.length=4):a7J us:=by
 cases us with
 | nil=>cases h
 | cons a us=>cases us with
  | nil=>cases h
  | cons b us=>cases us with
   | nil=>cases h
   | cons c us=>cases us with
    | nil=>cases h
    | cons d us=>cases us with
     | nil=>exact b8i a b c d
     | cons e us=>cases h
theorem b8o (h:t σ G λws G1=>∃ a xs,ws=[.ref a]/\G1 a=some (.lst xs)/\Ri xs.reverse (λG=>G a=some (.lst xs)) G1):iRev t σ G Ri:=h
theorem b8p (h:t σ G λws G1=>∃ xss:List (List Z),ws.map (srcZ G1)=xss.map some/\xss≠[]/\ws.length=n/\Ri (zipZ xss) (λG=>ws.map (srcZ G)=xss.map some) G1):iZip n t σ G Ri:=h
end
end L3
namespace L3
open PySem PySem.Spec PyProof.Rows L2
noncomputable def putQ (f:Str) (y:Z):List (Str×Z)->List (Str×Z)
 | []=>[(f,y)]
 | (g,x)::r=>if g=f then (g,y)::r else (g,x)::putQ f y r
section
variable {K:Fg}{H:Hp}
theorem a3Q:∀ {fs:List (Str×Z)}{gs:List (Str×V)},gs.map (·.1)=fs.map (·.1)->Reps K H (fs.map (·.2)) (gs.map (·.2))->(fs.lookup f=none->gs.lookup f=none)/\∀ z,fs.lookup f=some z->∃ v,gs.lookup f=some v/\Rep K H z v
 | [],[],_,_=>⟨λ_=>rfl,λ_ h=>by cases h⟩
 | [],_::_,h,_=>by simp at h
 | _::_,[],h,_=>by simp at h
 | (k,x)::fs,(k',v)::gs,h,r=>by
  simp at h;obtain⟨rfl,h⟩:=h;obtain⟨i,g,e,d,b⟩:=r;obtain⟨rfl,rfl⟩:=fW.inj e;have a:=a3Q (f:=f) h b;rw[fv,fv];cases c:f==k' with
  | true=>
   refine⟨λe=>?_,λz e=>?_⟩
   ·cases e
   ·simp_all
  | false=>exact a
theorem a8E (ry:Rep K H y u):∀ {fs:List (Str×Z)}{gs:List (Str×V)},gs.map (·.1)=fs.map (·.1)->Reps K H (fs.map (·.2)) (gs.map (·.2))->(putF f u gs).map (·.1)=(putQ f y fs).map (·.1)/\Reps K H ((putQ f y fs).map (·.2)) ((putF f u gs).map (·.2))
 | [],[],_,_=>⟨rfl,by show Reps K H [y] [u];rw[a1C];exact⟨u,[],rfl,ry,by rw[a0C]⟩⟩
 | [],_::_,h,_=>by simp at h
 | _::_,[],h,_=>by simp at h
 | (k,x)::fs,(k',v)::gs,h,r=>by
  simp at h;obtain⟨rfl,h⟩:=h;obtain⟨i,g,e,d,b⟩:=r;obtain⟨rfl,rfl⟩:=fW.inj e;have a:=a8E (f:=f) ry h b;unfold putQ putF
  by_cases c:k'=f
  ·rw[if_pos c,if_pos c];exact⟨by simp[h],by show Reps K H (y::fs.map _) _;rw[a1C];exact⟨u,_,rfl,ry,b⟩⟩
  ·rw[if_neg c,if_neg c];exact⟨by simp[a.1],by show Reps K H (x::(putQ f y fs).map _) _;rw[a1C];exact⟨v,_,rfl,d,a.2⟩⟩
end
section
variable {X:Cx}{C f:Addr}{fd:j9}{ps:List Str}{sp:P3}{k:Nat}{a m x:Str}{p pos pos' tpos apos:Pos}{e o value:Expr}{es:List Expr}{te to:E3}{t:A3}
def uFld (C:Addr) (te:E3) (a:Str):E3:=fun σ G R=>te σ G λx G1=>∃ q dx fs v,x=.ref q/\G1 q=some (.ins C dx fs)/\fs.lookup a=some v/\R v G1
theorem a8F (hc:Cls X.K C) (hn:NoAttr X.K C a) (he:QE X e te) (hb:lp e a X.env (eval e X.env)=eval e X.env:=by rfl):QE X (.Attribute e a pos) (uFld C te a):=⟨a1m (b6V he.p hb) fun τ H Q x=>x.un fun σ G R s t h k=>
 ⟨σ,G,_,s,t,h,λw D v B ⟨q,r,E,z,i,A,j,d⟩ c b l=>by
  subst i;obtain⟨u,m,g,y⟩:=b _ _ A;obtain⟨o,f,n⟩:=(a3Q g y).2 _ j;exact⟨q,C,r,u,o,c,m,hc,hn,f,k _ _ _ _ d n b l⟩⟩⟩
def b14 (C:Addr) (to te:E3) (a:Str):X3:=λnx _ _ _ σ G=>te σ G λy G1=>to σ G1 λx G2=>∃ q dx fs,x=.ref q/\G2 q=some (.ins C dx fs)/\fs.length<1000/\nx σ (put G2 q (.ins C dx (putQ a y fs)))
theorem b8q (hc:Cls X.K C) (hn:NoAttr X.K C a) (ho:QE X o to) (hv:QE X value te) (hs:kM value (some (.Attribute o a pos')) pos.line X.env=pure false:=by rfl):QS X (.Assign [.Attribute o a pos'] value pos) (b14 C to te a):=⟨a3J (b6W ho.p hv.p hs) λD τ H J=>J.un fun σ G nx rt bk ct hs x h F u2 u3 u4=>
 ⟨σ,G,_,hs,x,h,λy A u H1 E t r e=>⟨σ,A,_,hs.mono e,r,E,λw G2 v i ⟨q,j,fs,z,ea,hl,B⟩ k d g=>by
  subst z;obtain⟨n,l,m,I⟩:=d _ _ ea;have b:TK X.K i (L2.upd i q (.ins C j (putF a u n))):=.ins l;have s:=a8E (f:=a) (t.mono g) m I;exact⟨q,C,j,n,k,l,hc,hn,by have:=congrArg eQ m;simp at this;omega,F _ _ _ _ B (hs.mono ((e.trans g).trans b)) (d.set b ⟨_,a0y,s.1,s.2.mono b⟩) ((e.trans g).trans b)⟩⟩⟩⟩
def b15 (C:Addr) (to te:E3) (r:R3) (a:Str):X3:=λnx _ _ _ σ G=>to σ G λx G1=>∃ q dx fs v,x=.ref q/\G1 q=some (.ins C dx fs)/\fs.lookup a=some v/\te σ G1 λy G2=>r v y G2 λz G3=>∃ dx' fs',G3 q=some (.ins C dx' fs')/\fs'.length<1000/\nx σ (put G3 q (.ins C dx' (putQ a z fs')))
theorem b3D (hc:Cls X.K C) (hn:NoAttr X.K C a) (ho:QE X o to) (hv:QE X value te) (hop:OpQ X (lh op) r):QS X (.AugAssign (.Attribute o a tpos) op value pos) (b15 C to te r a):=⟨a3J (b0X ho.p hv.p hop) λD τ H hx=>hx.un fun σ G nx rt bk ct j Q h u1 u2 u3 u4=>
 ⟨σ,G,_,j,Q,h,λw R v H1 ⟨q,I,fs,z,ew,J,S,hq⟩ l e s=>by
  subst ew;obtain⟨Y,e1,e2,M⟩:=e _ _ J;obtain⟨v',L,r'⟩:=(a3Q e2 M).2 _ S;refine⟨q,C,I,Y,v',l,e1,hc,hn,L,σ,R,_,j.mono s,e,hq,λy T u H2 U V t F=>⟨z,y,T,_,r'.mono F,V,t,U,λz2 G3 v3 n ⟨g,fs',x,hl,B⟩ N b W=>?_⟩⟩;obtain⟨c,d,i,m⟩:=b _ _ x;have k:TK X.K n (L2.upd n q (.ins C g (putF a v3 c))):=.ins d;have A:=a8E (f:=a) N i m;have E:=((s.trans F).trans W).trans k;exact⟨g,c,d,by have:=congrArg eQ i;simp at this;omega,u1 _ _ _ _ B (j.mono E) (b.set k ⟨_,a0y,A.1,A.2.mono k⟩) E⟩⟩⟩
def b5M (C:Addr) (m:Str) (sp:P3) (to:E3) (t:A3):E3:=fun σ G R=>to σ G λx G1=>∃ q dx fs,x=.ref q/\G1 q=some (.ins C dx fs)/\fs.lookup m=none/\t σ G1 λws G2=>sp (.ref q::ws) G2 R
theorem b3E (h:low X.K (b5M C m sp to t) τ H Q) (h1:o'=low X.K to) (h2:t'=lowA X.K t):b60 C m (lowP X.K sp) [] E o' t' τ H Q:=by
 subst h1 h2;obtain⟨σ,G,R,f,s,h,D⟩:=h;refine⟨σ,G,_,f,s,h,λw B v H1 ⟨q,r,fs,y,n,A,x⟩ b a e=>?_⟩;subst y;obtain⟨u,g,z,p⟩:=a _ _ n;refine⟨q,r,u,b,g,(a3Q z p).1 A,σ,B,_,f.mono e,a,x,λj o k H2 h2 i c l=>?_⟩;exact⟨.ref q::j,o,R,by rw[eL,a1C];exact⟨v,k,rfl,by rw[a0H];exact b,i⟩,c,h2,D.mono (e.trans l)⟩
theorem a9s (ho:QE X o to) (c:Cls X.K C) (hm:Meth X.K C m f) (F:FnOk X.prog X.w X.K X.mg X.base CX0 k f fd ps (lowP X.K sp)) (hr:Room k X.A) (hb:Binds X.K fd ps []) (ha:QA X (e::es) t)
  (hst:j0 (e::es) X.env=(false,eval e X.env)::j0 es X.env:=by rfl) (hpl:(backTo pos (j0 es X.env)).any (·.1)=false:=by rfl)
  (ht:eval (.Call (.Attribute o m apos) (e::es) [] pos) X.env=(do
   let ov <- eval o X.env
   kQ apos.atName
   let (f,first) <- kB [ov] (lR ov m pl)
   mO pos f first (backTo pos (j0 (e::es) X.env)) (lV pos (lW [] X.env))):=by rfl):QE X (.Call (.Attribute o m apos) (e::es) [] pos) (b5M C m sp to t):=
 ⟨a1m (b01 ho.p c hm F hr hb .nil b5d ha.p hst hpl ht) λ_ _ _ h=>b3E h rfl rfl⟩
def b8r (C:Addr) (sp:P3) (t:A3):E3:=fun σ G R=>t σ G λws G1=>∀ q dx,G1 q=none->sp (.ref q::ws) (put G1 q (.ins C dx [])) λv G2=>v=.non/\R (.ref q) G2
theorem made (h1:∀ q dx,G1 q=none->sp (.ref q::ws) (put G1 q (.ins C dx [])) λv G2=>v=.non/\R (.ref q) G2) (rs:Reps X.K H1 ws vs) (hg1:RH X.K G1 H1) (up:UpV X.K H1 R Q) (q dx:Addr) (n1:H1 q=none) (n2:H1 dx=none) (ne:dx≠q) :
  lowP X.K sp (.ref q::(vs++[])) (L2.upd (L2.upd H1 dx (.own q)) q (.ins C dx [])) (λv H2=>v=.non/\Q (.ref q) H2) E:=by
 have a:L2.upd H1 dx (.own q) q=none:=by rw[a0r (Ne.symm ne)];exact n1
 have d:TK X.K H1 (L2.upd _ q (.ins C dx [])):=(TK.new n2).trans (TK.new a);refine⟨.ref q::ws,put G1 q (.ins C dx []),_,?_,?_,h1 q dx (hg1.out n1),?_⟩
 ·rw[eL,a1C];exact⟨_,vs,rfl,by rw[a0H],rs.mono d⟩
 ·exact (hg1.hid n2).set (TK.new a) ⟨[],a0y,rfl,by rw[eT,a0C];rfl⟩
 ·rintro w h v i ⟨f,g⟩ b c e;subst f;exact⟨b,up _ _ _ _ g (by rw[a0H]) c (d.trans e)⟩
theorem b16 (M:Mk X.K C f) (F:FnOk X.prog X.w X.K X.mg X.base CX0 k f fd ps (lowP X.K sp)) (hr:Room (k+1) X.A) (hg:Gl X x) (hm:X.mg x=some (.ref C)) (hb:Binds X.K fd ps [])
  (hdb:(x==("__debug__":Str))=false:=by decide):QE X (.Call (.Name x p) [] [] pos) (b8r C sp uNil):=
 ⟨a1m (b2X M F hr hg hm hb .nil b5d hdb) fun τ H Q ⟨σ,G,R,hs,hg,h,g⟩ q c d e b=>made h (by rw[a0C]) hg g q c d e b⟩
variable {σ:S3}{G:Hq}{R:K3}{nx bk ct:C3}{rt:K3}{q dx:Addr}{fs:List (Str×Z)}{v:Z}{Ra:List Z->Hq->Prop}
theorem b8s (h:te σ G λx G1=>∃ q dx fs v,x=.ref q/\G1 q=some (.ins C dx fs)/\fs.lookup a=some v/\R v G1):uFld C te a σ G R:=h
theorem b8t (h:te σ G λy G1=>to σ G1 λx G2=>∃ q dx fs,x=.ref q/\G2 q=some (.ins C dx fs)/\fs.length<1000/\nx σ (put G2 q (.ins C dx (putQ a y fs)))):b14 C to te a nx rt bk ct σ G:=h
theorem b5N (h:to σ G λx G1=>∃ q dx fs,x=.ref q/\G1 q=some (.ins C dx fs)/\fs.lookup m=none/\t σ G1 λws G2=>sp (.ref q::ws) G2 R):b5M C m sp to t σ G R:=h
theorem b5O (h:t σ G λws G1=>∀ q dx,G1 q=none->sp (.ref q::ws) (put G1 q (.ins C dx [])) λv G2=>v=.non/\R (.ref q) G2):b8r C sp t σ G R:=h
theorem b8u (h:to σ G λx G1=>∃ q dx fs v,x=.ref q/\G1 q=some (.ins C dx fs)/\fs.lookup a=some v/\te σ G1 λy G2=>r v y G2 λz G3=>∃ dx' fs',G3 q=some (.ins C dx' fs')/\fs'.length<1000/\nx σ (put G3 q (.ins C dx' (putQ a z fs')))):b15 C to te r a nx rt bk ct σ G:=h
end
end L3
namespace L2
open PySem PySem.Spec PyProof.Rows
section
variable {X:Cx}{pins:List (Addr×Obj)}{σ:St}{H:Hp}{s:Shared}{a:Addr}{kvs:List (Key×V)}{k:Key}{d:V}{u r:Value}{A:Around}{E:Value->Shared->Prop}
theorem b8v (I:Inv X pins σ H s) (e:H a=some (.dK kvs)) (ry:RelV (kV k) u) (rd:RelV d r) (hz:kvs.length<jZ)
  (h1:∀ v w' s',valV kvs k=some v->Inv X pins σ H s'->RelV v w'->Q w' s') (h2:valV kvs k=none->∀ s',Inv X pins σ (upd H a (.dK (putK kvs k d))) s'->Q r s') :
  wpAny (model X.prog X.w) A (call (.builtin "dict.setdefault") [.ref a,u,r]) Q E s:=by
 obtain⟨z,f,n,b,h⟩:=b24 I.hok e;have l:(putK kvs k d).length≤sizeLine:=by have:=a5e kvs k d;omega
 refine mT PySem.F.slot_dict_setdefault h.typeIs PySem.F.entry_dict_setdefault (PySem.F.args_dict_setdefault_3 _ _ _) (kt_meets_setdefault _ a (b09 ry) f r) ⟨n,h,by rw[<- b.length];exact z,λm i=>?_,λx p c o=>?_⟩
 ·cases hv:valV kvs k with
  | none=>
   have:=(b.val k).isSome_eq
   rw[hv,i]at this;cases this
  | some v=>
   have g:=b.val k;rw[hv,i]at g;exact h1 v m _ hv (I.tok _) g
 ·have j:valV kvs k=none:=by
   have:=(b.val k).isSome_eq
   rw[x]at this;cases hv:valV kvs k with
   | none=>rfl
   | some v=>rw[hv]at this;cases this
  have t:∃ q,p.get? a=some q:=let ⟨q,_,_,hq,_⟩:=c;⟨q,hq⟩
  exact h2 j _ (b5e I (by rw[e];exact True.intro) o t (b7b l f (b.put k rd) c))
end
section
variable {X:Cx}
theorem b5P (hu:X.A.units+66<cLine):MtR X "dict.get" (λx vs H Q=>∃ a y d o,x=.ref a/\vs=[y,d]/\DGet H a y o/\Q (o.getD d) H):=by
 intro f s σ H x m v t Q I c k ⟨a,y,d,o,h,e,g,q⟩;subst h e;cases c;obtain⟨u,r,rfl,j,l⟩:=a90 k;exact b7e (by omega) I g j l λn p i b=>⟨_,H,i,b,q⟩
theorem b5Q:MtR X "dict.setdefault" (λx vs H Q=>∃ a kvs k d,x=.ref a/\vs=[kV k,d]/\H a=some (.dK kvs)/\kvs.length<jZ/\(∀ v,valV kvs k=some v->Q v H)/\(valV kvs k=none->Q d (upd H a (.dK (putK kvs k d))))):=by
 intro m s σ H x z v B Q I i p ⟨a,y,k,d,n,j,e,q,g,t⟩;subst n j;cases i;obtain⟨u,r,rfl,o,f⟩:=a90 p;exact b8v I e o f q (λv A w l b c=>⟨v,H,b,c,g v l⟩) λh w b=>⟨d,_,b,f,t h⟩
theorem b5R:IxR X (λx y H Q=>∃ a kvs k v,x=.ref a/\y=kV k/\H a=some (.dK kvs)/\valV kvs k=some v/\Q v H):=by
 intro h i b s σ H x y v u Q I n B ⟨a,D,k,w,p,m,e,l,q⟩ t;subst p m;cases n;obtain⟨z,E,j,g,c⟩:=b24 I.hok e;obtain⟨d,A,f⟩:=RelO.some_of (by rw[<- l];exact g.val k);exact mS c.typeIs PySem.F.slot_dict_getitem.lookup (wpAny_getItem_of (b09 B) c.mapOf A ⟨rfl,w,H,I.tok _,f,q⟩) t
end
end L2
namespace L3
open PySem PySem.Spec PyProof.Rows L2
noncomputable def valZ (kvs:List (Key×Z)) (k:Key):Option Z:=(kvs.find? λkv=>decide (kv.1=k)).map (·.2)
theorem a2A {K:Fg}:∀ {kvs:List (Key×Z)}{us:List (Key×V)},us.map (·.1)=kvs.map (·.1)->Reps K H (kvs.map (·.2)) (us.map (·.2))->(valZ kvs k=none->valV us k=none)/\∀ z,valZ kvs k=some z->∃ v,valV us k=some v/\Rep K H z v
 | [],[],_,_=>⟨λ_=>rfl,λ_ h=>by cases h⟩
 | [],_::_,h,_=>by simp at h
 | _::_,[],h,_=>by simp at h
 | (c,x)::fs,(c',v)::gs,h,r=>by
  simp at h;obtain⟨rfl,h⟩:=h;obtain⟨g,f,e,d,a⟩:=r;obtain⟨rfl,rfl⟩:=fW.inj e;have b:=a2A (k:=k) h a;unfold valZ valV;rw[fu,fu];cases q:decide (c'=k) with
  | true=>
   refine⟨λe=>?_,λz e=>?_⟩
   ·cases e
   ·cases e;exact⟨v,rfl,d⟩
  | false=>exact b
section
variable {X:Cx}
def b5S:Z->List Z->Hq->K3->Prop:=λx xs G R=>match x,xs with
 | .ref p,[y,d]=>∃ kvs k,(G p=some (.dK kvs)\/G p=some (.dF kvs))/\keyZ y=some k/\R ((valZ kvs k).getD d) G
 | _,_=>False
theorem b4F (hu:X.A.units+66<cLine):MtQ X "dict.get" b5S:=a7p (b5P hu) λx E H Q m=>m.un λw B G R j s i h l=>by
 match w,B,h with
 | .ref p,[y,d],h=>
  obtain⟨v,q,rfl,t,o⟩:=s.two;obtain⟨g,k,e,D,h⟩:=h;obtain⟨a,f,c,b⟩:∃ a,Rd H p (.dK a)/\a.map _=g.map _/\Reps X.K H _ (a.map _):=by
   rcases e with e | e
   ·obtain⟨a,f,c,b⟩:=i _ _ e;exact⟨a,.inl f,c,b⟩
   ·obtain⟨C,a,f,c,b⟩:=i _ _ e;exact⟨a,.inr ⟨C,f⟩,c,b⟩
  refine⟨p,v,q,valV a k,j,rfl,by rw[a6P D t];exact .inl ⟨a,k,f,rfl,rfl⟩,?_⟩;cases hz:valZ g k with
  | none=>
   rw[hz]at h;rw[(a2A c b).1 hz];exact l _ _ _ _ h o i (.refl _ _)
  | some z=>
   rw[hz]at h;obtain⟨u,r,n⟩:=(a2A c b).2 z hz;rw[r];exact l _ _ _ _ h n i (.refl _ _)
def b8w:Z->List Z->Hq->K3->Prop:=λx xs G R=>match x,xs with
 | .ref p,[y,d]=>∃ kvs k,G p=some (.dK kvs)/\keyZ y=some k/\kvs.length<jZ/\(∀ z,valZ kvs k=some z->R z G)/\(valZ kvs k=none->R d (put G p (.dK (putZ kvs k d))))
 | _,_=>False
theorem a7K:MtQ X "dict.setdefault" b8w:=a7p b5Q λx M H Q C=>C.un λw t G R i F l h r=>by
 match w,t,h with
 | .ref p,[y,d],h=>
  obtain⟨v,E,rfl,B,q⟩:=F.two;obtain⟨b,k,e,L,A,s,J⟩:=h;obtain⟨D,c,f,g⟩:=l _ _ e;refine⟨p,D,k,E,i,by rw[a6P L B],c,by rw[b5J f];exact A,λu a=>?_,λa=>?_⟩
  ·cases hq:valZ b k with
   | none=>rw[(a2A f g).1 hq]at a;cases a
   | some z=>
    obtain⟨I,j,m⟩:=(a2A f g).2 z hq;rw[j]at a;cases a;exact r _ _ _ _ (s z hq) m l (.refl _ _)
  ·cases hq:valZ b k with
   | some z=>
    obtain⟨I,j,m⟩:=(a2A f g).2 z hq;rw[j]at a;cases a
   | none=>
    have n:=a9p (k:=k) q f g;exact r _ _ _ _ (J hq) (q.mono (.dK c)) (l.set (.dK c) ⟨_,a0y,n.1,n.2.mono (.dK c)⟩) (.dK c)
def zDIx:R3:=λx y G R=>match x with
 | .ref p=>∃ kvs k z,G p=some (.dK kvs)/\keyZ y=some k/\valZ kvs k=some z/\R z G
 | _=>False
theorem c0q:IxQ X zDIx:=b7p b5R λx y H Q f=>f.un λa b G R d q c h j=>by
 cases a with
 | ref p=>
  obtain⟨u,k,z,e,t,i,h⟩:=h;obtain⟨n,r,m,l⟩:=c _ _ e;obtain⟨s,o,g⟩:=(a2A m l).2 z i;exact⟨p,n,k,s,d,a6P t q,r,o,j _ _ _ _ h g c (.refl _ _)⟩
 | _=>exact ei h
theorem b8x (e:G p=some (.dK kvs)) (a:keyZ y=some k) (h:R ((valZ kvs k).getD d) G):b5S (.ref p) [y,d] G R:=⟨kvs,k,.inl e,a,h⟩
theorem b5T (e:G p=some (.dK kvs)\/G p=some (.dF kvs)) (a:keyZ y=some k) (h:R ((valZ kvs k).getD d) G):b5S (.ref p) [y,d] G R:=⟨kvs,k,e,a,h⟩
theorem b8y (e:G p=some (.dK kvs)) (a:keyZ y=some k) (z:kvs.length<jZ) (h1:∀ z,valZ kvs k=some z->R z G) (h2:valZ kvs k=none->R d (put G p (.dK (putZ kvs k d)))):b8w (.ref p) [y,d] G R:=⟨kvs,k,e,a,z,h1,h2⟩
theorem c0r (e:G p=some (.dK kvs)) (a:keyZ y=some k) (v:valZ kvs k=some w) (h:R w G):zDIx (.ref p) y G R:=⟨kvs,k,w,e,a,v,h⟩
theorem b8z {P:Prop}(e:G p=some (.dK kvs)) (h:P):tyZ "dict" (.ref p) G/\P:=⟨.inr ⟨rfl,kvs,.inl e⟩,h⟩
theorem c0s {P:Prop}(e:G p=some (.dK kvs)\/G p=some (.dF kvs)) (h:P):tyZ "dict" (.ref p) G/\P:=⟨.inr ⟨rfl,kvs,e⟩,h⟩
end
end L3
namespace L3
open PySem PySem.Spec PyProof.Rows L2
noncomputable def keysOf:List (Z×Z)->Option (List (Key×Z))
 | []=>some []
 | (x,y)::r=>match keyZ x,keysOf r with
  | some k,some kvs=>some ((k,y)::kvs)
  | _,_=>none
def a4E (kvs more:List (Key×Z)):List (Key×Z):=more.foldl (λacc kv=>putZ acc kv.1 kv.2) kvs
def PReps (K:Fg) (H:Hp):List (Z×Z)->List (V×V)->Prop:=Paired λp q=>Rep K H p.1 q.1/\Rep K H p.2 q.2
theorem PReps.mono {K:Fg}(t:TK K H H'):∀ {ps:List (Z×Z)}{vs:List (V×V)},PReps K H ps vs->PReps K H' ps vs
 | _,_,.nil=>.nil
 | _,_,.cons r s=>.cons ⟨r.1.mono t,r.2.mono t⟩ (PReps.mono t s)
section
variable {X:Cx}
end
end L3
namespace L3
theorem ln0 {α:Type}{C:List α->Prop}(h:C []):∀ us:List α,us.length=0->C us
 | [],_=>h
theorem lnS {α:Type}{C:List α->Prop}(h:∀ a,∀ us:List α,us.length=n->C (a::us)):∀ us:List α,us.length=n+1->C us
 | a::us,e=>h a us (Nat.succ.inj e)
end L3
namespace L2
open PySem PySem.Spec PyProof.Rows
section
variable {X:Cx}
def setO (X:Cx) (t:Addr) (ms:List Int):HO:=.ext λh=>SetW.SI X.prog X.w h t ms
def b8A (X:Cx):List V->Hp->VK->Prop:=λxs H Q=>∃ (p:Addr) (ns:List Int),xs=[.ref p]/\SqL X.K H p (ns.map V.int)/\ns.length≤1000 /\
 ∀ (t:Addr) (ms:List Int),H t=none->SetW.Met (λi=>ns.getD i 0) ns.length ms->Q (.ref t) (upd H t (setO X t ms))
theorem b0k (hc:X.calm=true):CallR X (.type "set") (b8A X):=by
 intro a s σ H D E Q I r h;obtain⟨p,v,rfl,t,B,q⟩:=h;obtain⟨u,rfl,A⟩:=a2P r;cases A;obtain⟨f,m,n,_⟩:=I.list t;have j:=a58 m;have z:=a44 j;have C:1001<scanBound:=by decide
 have i:f.toArray.size=v.length:=by grind
 refine SetW.call_set (I.ok.hd hc) n.isList (by omega) (by grind) λg d c S M k=>?_;rw[i]at M;have l:=
  I.laid (t':=d) (λb o e=>k b o (Heap.lt_size e) e) (dS _) (show ObjOk X.prog X.w _ g _ (setO X s.heap.objs.size c) from ⟨S,let ⟨_,_,_,S'⟩:=S;let ⟨o,e,_⟩:=S'.at_;⟨o,e⟩,λ_ _ x y=>x.at y⟩)
 exact⟨.ref s.heap.objs.size,_,l,rfl,q _ c (I.hok.fresh (dS _)) M⟩
def b3F (X:Cx):List V->Hp->VK->Prop:=λxs H Q=>∃ (p:Addr) (ms:List Int),xs=[.ref p]/\H p=some (setO X p ms)/\ms.length≤1000 /\
 ∀ (t:Addr) (ks:List Int),H t=none->ks.Perm ms->ks.Pairwise (·≤·)->Q (.ref t) (upd H t (.lst (ks.map V.int)))
theorem a7L (hc:X.calm=true):CallR X (.builtin "sorted") (b3F X):=by
 intro c s σ H xs us Q I r h;obtain⟨p,ns,rfl,t,m,q⟩:=h;obtain⟨u,rfl,x⟩:=a2P r;cases x;have D:=I.ok.hd hc;have S:=(I.hok p _ t).1;refine a7I m (λR E=>SetW.collect_set D S λg a d o y v J C=>E g a d o y v J C) λg G a d j n i l z e F k B=>?_;have f:Inv X c σ H { s with heap:=g,drawn:=d,toks:=a }:=(I.drew d).kept l;exact⟨.ref g.objs.size,_,f.laid z (dS _) (show ObjOk X.prog X.w _ G _ (.lst _) from ⟨by rw[dQ,k.length_eq,ki];omega,j,n,a5p F,e⟩),rfl,q _ i (f.hok.fresh (dS _)) k B⟩
end
end L2
namespace L3
open PySem PySem.Spec PyProof.Rows L2
theorem b5U {ns ms:List Int}(h:SetW.Met (λi=>ns.getD i 0) ns.length ms):∀ x,x∈ms↔x∈ns:=λx=>by
 rw[h.2.2 x]
 constructor
 ·rintro⟨j,a,e⟩;have e:ns.getD j 0=x:=e;rw[gM,et a]at e;exact e▸fm a
 ·intro b;obtain⟨j,a,e⟩:=jt.mp b;exact⟨j,a,by show ns.getD j 0=x;rw[gM,et a];exact e⟩
theorem a7M:∀ {ks:List Int},ks.Nodup->ks.Pairwise (·≤·)->ks.Pairwise (·<·)
 | [],_,_=>.nil
 | k::ks,h1,h2=>by
  obtain⟨b,c⟩:=e9.mp h1;obtain⟨f,d⟩:=eH.mp h2;refine eH.mpr ⟨λx a=>?_,a7M c d⟩;have h:=f x a;have g:k≠x:=λe=>b (e▸a);omega
section
variable {X:Cx}{e:Expr}{es:List Expr}{t:A3}{x y:Str}{p p2 pos pos2:Pos}
def uSS (t:A3):E3:=fun σ G R=>t σ G λws G1=>∃ (p:Addr) (ns:List Int),ws=[.ref p]/\G1 p=some (.lst (ns.map Z.int))/\ns.length≤1000 /\
 ∀ (t:Addr) (ks:List Int),G1 t=none->ks.Pairwise (·<·)->(∀ x,x∈ks↔x∈ns)->ks.length≤ns.length->R (.ref t) (put G1 t (.lst (ks.map Z.int)))
theorem i_ss {p:Addr}{ns:List Int}{R:K3}(e:G p=some (.lst (ns.map Z.int))) (z:ns.length≤1000)
  (h:∀ (t:Addr) (ks:List Int),G t=none->ks.Pairwise (·<·)->(∀ x,x∈ks↔x∈ns)->ks.length≤ns.length->R (.ref t) (put G t (.lst (ks.map Z.int)))) :
  ∃ (q:Addr) (ns':List Int),[Z.ref p]=[.ref q]/\G q=some (.lst (ns'.map Z.int))/\ns'.length≤1000 /\
   ∀ (t:Addr) (ks:List Int),G t=none->ks.Pairwise (·<·)->(∀ x,x∈ks↔x∈ns')->ks.length≤ns'.length->R (.ref t) (put G t (.lst (ks.map Z.int))):=⟨p,ns,rfl,e,z,h⟩
theorem q_ss (hc:X.calm=true) (hg:Gl X x) (hm:X.mg x=none) (hv:kH x=some (.builtin "sorted")) (hg2:Gl X y) (hm2:X.mg y=none) (hv2:kH y=some (.type "set")) (ha:QA X (e::es) t)
  (he:j0 (e::es) X.env=(false,eval e X.env)::j0 es X.env) (hpl:(backTo pos2 (j0 es X.env)).any (·.1)=false)
  (hn:x≠"__name__":=by decide) (hdb:(x==("__debug__":Str))=false:=by decide) (hn2:y≠"__name__":=by decide) (hdb2:(y==("__debug__":Str))=false:=by decide) :
  QE X (.Call (.Name x p) [.Call (.Name y p2) (e::es) [] pos2] [] pos) (uSS t):=⟨a1m (a8Z (a7L hc) hg hm hv (b0Z (a7g (b0k hc) hg2 hm2 hv2 ha.p hn2 hdb2 he hpl) b4l rfl) hn hdb rfl rfl) fun τ H Q n=>n.un fun σ G R hs hg h s=>
 ⟨σ,G,_,hs,hg,h,λws G1 vs H1 f rs c w=>by
  obtain⟨p,B,rfl,A,z,f⟩:=f;obtain⟨v,rfl,r⟩:=rs.one;obtain⟨vs',o,k⟩:=c _ _ A
  have:=a5g k
  subst this;refine⟨p,B,by rw[r],SqL.of o,z,λa j ha M=>⟨a,j,rfl,a0y,eD M.2.1 z,λu q b g m=>?_⟩⟩;have l:=c.hid (u:=setO X a j) ha;exact s _ _ _ _ (f u q (l.out b) (a7M (g.nodup_iff.mpr M.1) m) (λx=>by rw[g.mem_iff];exact b5U M x) (by rw[g.length_eq];exact M.2.1)) (by rw[a0H]) (l.set (.new b) (a06 (a2j _) (.new b))) (w.trans ((TK.new ha).trans (.new b)))⟩⟩
end
end L3
namespace L3
open PySem PySem.Spec PyProof.Rows L2
section
variable {X:Cx}
end
end L3
namespace L2
open PySem PySem.Spec PyProof.Rows
section
variable {X:Cx}
theorem b0l:CallR X (.type "str") (λxs H Q=>(∃ i:Int,xs=[.int i]/\i.natAbs.log2<1920/\Q (.str (Str.ofString (toString i))) H)\/∃ x,xs=[.str x]/\Q (.str x) H):=by
 intro b s σ H c d Q I r h;rcases h with ⟨i,rfl,hi,q⟩ | ⟨x,rfl,q⟩
 ·obtain⟨u,rfl,a⟩:=a2P r;obtain⟨t,rfl⟩:=a;exact PySem.P.str_of_int hi ⟨.str _,H,I.tok _,⟨_,rfl⟩,q⟩
 ·obtain⟨u,rfl,a⟩:=a2P r;obtain⟨t,rfl⟩:=a;exact PySem.P.str_of_str ⟨.str _,H,I,⟨_,rfl⟩,q⟩
theorem b0m:CallR X (.type "int") (λxs H Q=>∃ (x:Str) (n:Int),xs=[.str x]/\intText? x=some n/\x.length≤640/\Q (.int n) H):=by
 intro d s σ H e f Q I r h;obtain⟨x,n,rfl,b,a,q⟩:=h;obtain⟨u,rfl,c⟩:=a2P r;obtain⟨t,rfl⟩:=c;exact PySem.W.KIN.call_text b a ⟨.int n,H,I.tok _,⟨_,rfl⟩,q⟩
def KD (X:Cx) (a:Addr) (kvs:List (Key×V)):Prop:=kvs.length≤jZ/\(a==kL)=false/\∃ vs,KV kvs vs/\∀ h:Heap,X.K.In h->h.DictOf (a0O X.prog X.w) a vs
end
end L2
namespace L3
open PySem PySem.Spec PyProof.Rows L2
section
variable {X:Cx}
theorem a3R (h:PE X e (tC (.ref a))):QE X e (uC (.ref a)):=a8o h λ_=>by rw[a0H]
theorem a1N (hg:Gl X x) (hm:X.mg x=some (.ref a)) (hd:(x==("__debug__":Str))=false:=by decide):PE X (.Name x pos) (tC (.ref a)):=b0J hg hm rfl hd
def zStr:List Z->Hq->K3->Prop:=λxs G R=>match xs with
 | [.int i]=>i.natAbs.log2<1920/\R (.str (Str.ofString (toString i))) G
 | [.str x]=>R (.str x) G
 | _=>False
theorem b_str:a2M X (.type "str") zStr:=a1c b0l λf H Q d=>d.un λe G R a b h c=>by
 match e,h with
 | [.int i],h=>
  obtain⟨v,rfl,r⟩:=a.one;exact .inl ⟨i,by rw[r],h.1,c _ _ _ _ h.2 (by rw[a0K]) b (.refl _ _)⟩
 | [.str x],h=>
  obtain⟨v,rfl,r⟩:=a.one;exact .inr ⟨x,by rw[r],c _ _ _ _ h (by rw[a0K]) b (.refl _ _)⟩
def c0t:List Z->Hq->K3->Prop:=λxs G R=>match xs with
 | [.str x]=>∃ n,intText? x=some n/\x.length≤640/\R (.int n) G
 | _=>False
theorem b_int:a2M X (.type "int") c0t:=a1c b0m λi H Q f=>f.un λc G R e b h a=>by
 match c,h with
 | [.str x],h=>
  obtain⟨v,rfl,r⟩:=e.one;obtain⟨n,g,d,h⟩:=h;exact⟨x,n,by rw[r],g,d,a _ _ _ _ h (by rw[a0x]) b (.refl _ _)⟩
def b8B:List Z->Hq->K3->Prop:=λxs G R=>match xs with
 | [.ref p]=>∃ ws,G p=some (.lst ws)/\R (.tup ws) G
 | _=>False
theorem b_tuple:a2M X (.type "tuple") b8B:=a1c a6y λl H Q f=>f.un λk G R j b h g=>by
 match k,h with
 | [.ref p],h=>
  obtain⟨v,rfl,r⟩:=j.one;obtain⟨m,e,h⟩:=h;obtain⟨d,i,c⟩:=b _ _ e;exact⟨p,d,by rw[r],.inl ⟨SqL.of i,λt a=>g _ _ _ _ h (by rw[a1P];exact⟨t,d,rfl,a0y,c.mono (.new a)⟩) (b.hid a) (.new a)⟩⟩
noncomputable def zV:Z->V
 | .str x=>.str x
 | .ref a=>.ref a
 | .int i=>.int i
 | _=>.non
def b8C:Z->Bool
 | .str _=>true
 | .ref _=>true
 | .int _=>true
 | _=>false
def KDZ (X:Cx) (a:Addr) (kvs:List (Key×Z)):Prop:=(∀ kv∈kvs,b8C kv.2=true)/\KD X a (kvs.map λkv=>(kv.1,zV kv.2))
def KTup (K:Fg) (a:Addr) (ss:List Str):Prop:=∃ (o:Obj) (its:Array Value) (n:Nat),K.lookup a=some o/\o.cls=.type "tuple"/\o.data=.seq its n/\its.size≤jZ/\Vals (ss.map V.str) its.toList
theorem KTup.sq {K:Fg}(h:KTup K a ss):SqT K H a (ss.map V.str):=.inr h
variable {t:A3}
end
end L3
namespace L3
open PySem PySem.Spec PyProof.Rows L2
def KDk (w:World) (K:Fg) (a:Addr) (kvs:List (Key×Z)):Prop:=(∀ kv∈kvs,b8C kv.2=true)/\kvs.length≤jZ/\(a==kL)=false/\∃ vs:List (Key×Value),KV (kvs.map λkv=>(kv.1,zV kv.2)) vs/\∀ (P:j7) (h:Heap),K.In h->h.DictOf (a0O P w) a vs
theorem KDk.at (h:KDk X.w X.K a kvs):KDZ X a kvs:=⟨h.1,by rw[dQ];exact h.2.1,h.2.2.1,let ⟨vs,r,q⟩:=h.2.2.2;⟨vs,r,q X.prog⟩⟩
end L3
namespace L2
open PySem PySem.W
theorem b8D (ea:hasDictIn K D=true) (eb:findIn K (.ref D) "__getattribute__"=some (some (.builtin "BaseException.__getattribute__"))) (ec:findIn K (.ref D) "__getattr__"=some none) (ed:findIn K (.ref D) "__class__"=some (some (.builtin "object.__class__")))
  (ee:specialIn K (.builtin "object.__class__") "__get__"=some (some (.builtin "getset_descriptor.__get__"))) (ef:takesIn K (.builtin "object.__class__")=some true) (eg:mroIn K D (.type "object")=some true) (eh:mroIn K D (.type "BaseException")=some true):ExK K D:=
 ⟨by obtain⟨b,a,_⟩:=any_some ea;rw[a];rfl,eb,ec,ed,ee,ef,eg,eh⟩
theorem b8E (xb:subIn K (.ref D) (.type "BaseException")=some true) (xt:typeIn K (.ref D)=some (.type "type")) (xs:subIn K (.ref C) (.ref D)=some true) (xh:hasDictIn K D=true):exmOne K (.ref C) (.ref D)=some true:=by
 obtain⟨b,a,_⟩:=any_some xh;unfold exmOne;rw[if_pos (by simp_all)]
 show (if _=true then subIn K _ _ else none)=some true
 rw[if_pos (by simp_all)];exact xs
end L2
namespace L2
open PySem PySem.Spec PyProof.Rows
section
variable {X:Cx}{e:Addr}{oe:Obj}{C:Addr}
def rIsX (K:Fg) (C e:Addr):List V->Hp->VK->Prop:=λxs H Q=>∃ y b,xs=[.ref e,y]/\((∃ D,y=.ref D/\PySem.W.kitOne K (.ref C) (.ref D)=some b)\/(∃ T,y=.ty T/\PySem.W.kitOne K (.ref C) (.type T)=some b) \/
 ∃ (p:Addr) (ds:List Addr),y=.ref p/\SqT K H p (ds.map V.ref)/\PySem.W.kitAny K (.ref C) (ds.map Value.ref)=some b)/\Q (.bl b) H
theorem b17:∀ {ds:List Addr}{us:List Value},Vals (ds.map V.ref) us->us=ds.map Value.ref
 | [],us,r=>by rw[eT]at r;cases r;rfl
 | T::Ts,us,r=>by
  cases r with
  | cons r1 r2=>rw[b17 r2,r1];rfl
theorem b3G (hc:oe.cls=.ref C) (hd:oe.dict=none) (hn:PySem.W.notCls oe=true) (k:ExK X.K C):CallR (X.hnd e oe) (.builtin "isinstance") (rIsX X.K C e):=by
 intro m s σ H B E Q I r h;obtain⟨y,b,rfl,t,q⟩:=h;obtain⟨u,d,rfl,v,c⟩:=a90 r;cases (v);have J:PySem.W.InstAt s.heap e oe C none:=⟨(I.pin _ (.head _)).1,hc,hn,by rw[hd];exact True.intro⟩;rcases t with ⟨D,rfl,e1⟩ | ⟨T,rfl,e1⟩ | ⟨p,ds,rfl,hq,e1⟩
 ·cases (c);exact PySem.W.kia_one (a6E k) I.kIn J e1 (λz=>nomatch z) λa=>⟨.bl b,H,I.tok a,rfl,q⟩
 ·cases (c);exact PySem.W.kia_one (a6E k) I.kIn J e1 (λz=>nomatch z) λa=>⟨.bl b,H,I.tok a,rfl,q⟩
 ·cases (c);obtain⟨w,i,o,_⟩:=I.tuple hq;have l:=b17 i;subst l;obtain⟨⟨F,A,x,G⟩,j,g,n,f⟩:=o;cases g;cases f;exact PySem.W.kia_tup (a6E k) I.kIn J j e1 (λz=>nomatch z) λa=>⟨.bl b,H,I.tok a,rfl,q⟩
end
end L2
namespace L3
open PySem PySem.Spec PyProof.Rows L2
abbrev PX3:=List Z->Hq->K3->(Addr->Hq->Prop)->Prop
def UpX (K:Fg) (H:Hp) (EE:Addr->Hq->Prop) (E:XK):Prop:=∀ C G H',EE C G->RH K G H'->TK K H H'->E (.ref C) none H'
def a3v (K:Fg) (sp:PX3):Sp:=λvs H Q E=>∃ ws G R EE,Reps K H ws vs/\RH K G H/\sp ws G R EE/\UpV K H R Q/\UpX K H EE E
theorem b8F {K:Fg}(t:TKs H H'):TK K H H':=⟨t.tup,λa b h=>by
 rcases h with ⟨o,h⟩ | h
 ·exact .inl ⟨o,t.frz _ _ _ h⟩
 ·exact .inr h,t.frz⟩
def UpN (K:Fg) (EE:Addr->Hq->Prop) (E:XK):Prop:=∀ C G H',EE C G->RH K G H'->E (.ref C) none H'
theorem UpX.since {K:Fg}(h:UpX K H EE E):UpN K EE (since H E):=λC G a q r t=>h C G a q r (b8F t)
abbrev EE0:Addr->Hq->Prop:=λ_ _=>False
theorem up0 {K:Fg}:UpN K EE0 E0:=λ_ _ _ z _=>z.elim
theorem a5q:a2I (CXx X.prog X.w) X E0:=by simp[a2I,CXx]
section
variable {X:Cx}{E:XK}{EE:Addr->Hq->Prop}{e e0:Expr}{es:List Expr}{x n:Str}{p pos np cpos hpos tpos:Pos}{t:A3}{te:E3}{k:Nat}{f C D:Addr}{fd:j9}{ps:List Str}{sp:PX3}
def b4G (sp:PX3) (EE:Addr->Hq->Prop) (t:A3):E3:=fun σ G R=>t σ G λws G1=>sp ws G1 R EE
theorem a2B (hp:a2I (CXx X.prog X.w) X E) (hU:UpN X.K EE E) (F:FnOk X.prog X.w X.K X.mg X.base (CXx X.prog X.w) k f fd ps (a3v X.K sp)) (hr:Room k X.A) (hg:Gl X x) (hm:X.mg x=some (.ref f)) (hk:PySem.W.keepIn X.K (.ref f)=true) (hb:Binds X.K fd ps []) (ha:QA X (e::es) t)
  (hdb:(x==("__debug__":Str))=false:=by decide) (he:j0 (e::es) X.env=(false,eval e X.env)::j0 es X.env:=by rfl) (hpl:(backTo pos (j0 es X.env)).any (·.1)=false:=by rfl) :
  QE X (.Call (.Name x p) (e::es) [] pos) (b4G sp EE t):=⟨a1m (b00 F hr hg hm hk hb .nil hp ha.p hdb he hpl) fun τ H Q l=>l.un fun σ G R i hg h n=>⟨σ,G,_,i,hg,h,λo g vs H1 c d b j=>⟨o,g,R,EE,by rw[eL];exact d,b,c,n.mono j,λC G m z r _=>hU C G m z r⟩⟩⟩
def b4H (EE:Addr->Hq->Prop) (C:Addr) (te:E3):X3:=λ_ _ _ _ σ G=>te σ G λ_ G1=>EE C G1
theorem a8G (O:Outs X E) (hU:UpX X.K X.H₀ EE E) (hc:X.calm=true) (hg:Gl X x) (hm:X.mg x=some (.ref C)) (hq:PySem.W.excIn X.K C veM "ValueError.__new__"=true) (he:QE X e0 te)
  (hs:j0 [e0] X.env=(false,eval e0 X.env)::j0 [] X.env:=by rfl) (hp:(backTo cpos (j0 [] X.env)).any (·.1)=false:=by rfl) (hd:(x==("__debug__":Str))=false:=by decide) :
  QS X (.Raise (some (.Call (.Name x np) [e0] [] cpos)) none pos) (b4H EE C te):=⟨a3J (b3f O hc hg hm hq he.p hs hp hd) λD τ H d=>d.un fun σ G nx rt bk ct hs hg h u1 u2 u3 u4=>⟨σ,G,_,hs,hg,h,λw G1 v H1 e rv a t1=>λt=>hU _ _ _ e a (b8F t)⟩⟩
theorem RSt.unset {K:Fg}:∀ {σ:S3}{τ:L2.St},RSt K H σ τ->∀ i:Nat,RSt K H (σ.set i none) (τ.set i none)
 | _,_,.nil,_=>by rw[List.set_nil,List.set_nil];exact .nil
 | _,_,.cons r h,0=>.cons (λ_ z=>nomatch z) h
 | _,_,.cons r h,i+1=>.cons r (RSt.unset h i)
variable {o:Expr}{m:Str}{apos:Pos}{to:E3}{PC:Addr->Prop}
def b4I (C:Addr) (m:Str) (sp:PX3) (EE:Addr->Hq->Prop) (to:E3) (t:A3):E3:=fun σ G R=>to σ G λx G1=>∃ q dx fs,x=.ref q/\G1 q=some (.ins C dx fs)/\fs.lookup m=none/\t σ G1 λws G2=>sp (.ref q::ws) G2 R EE
theorem a5r (hp:a2I (CXx X.prog X.w) X E) (hU:UpN X.K EE E) (ho:QE X o to) (c:Cls X.K C) (hm:Meth X.K C m f) (F:FnOk X.prog X.w X.K X.mg X.base (CXx X.prog X.w) k f fd ps (a3v X.K sp)) (hr:Room k X.A) (hb:Binds X.K fd ps []) (ha:QA X (e::es) t)
  (hst:j0 (e::es) X.env=(false,eval e X.env)::j0 es X.env:=by rfl) (hpl:(backTo pos (j0 es X.env)).any (·.1)=false:=by rfl)
  (ht:eval (.Call (.Attribute o m apos) (e::es) [] pos) X.env=(do
   let ov <- eval o X.env
   kQ apos.atName
   let (f,first) <- kB [ov] (lR ov m pl)
   mO pos f first (backTo pos (j0 (e::es) X.env)) (lV pos (lW [] X.env))):=by rfl):QE X (.Call (.Attribute o m apos) (e::es) [] pos) (b4I C m sp EE to t):=
 ⟨a1m (b01 ho.p c hm F hr hb .nil hp ha.p hst hpl ht) fun τ H Q D=>D.un fun σ G R i T h M=>by
  refine⟨σ,G,_,i,T,h,λw u v H1 ⟨q,j,fs,L,V,B,n⟩ b a g=>?_⟩;subst L;obtain⟨S,I,N,l⟩:=a _ _ V;refine⟨q,j,S,b,I,(a3Q N l).1 B,σ,u,_,i.mono g,a,n,λx J Y H2 W U d s=>?_⟩;exact⟨.ref q::x,J,R,EE,by rw[eL,a1C];exact⟨v,Y,rfl,by rw[a0H];exact b,U⟩,d,W,M.mono (g.trans s),λC G y z r _=>hU C G y z r⟩⟩
def zIsX (K:Fg) (C e:Addr):List Z->Hq->K3->Prop:=λxs G R=>∃ y b,xs=[.ref e,y]/\((∃ D,y=.ref D/\PySem.W.kitOne K (.ref C) (.ref D)=some b)\/(∃ T,y=.ty T/\PySem.W.kitOne K (.ref C) (.type T)=some b) \/
 ∃ ds:List Addr,y=.tup (ds.map Z.ref)/\PySem.W.kitAny K (.ref C) (ds.map Value.ref)=some b)/\R (.bl b) G
theorem a7N {K:Fg}:∀ {bs:List Addr}{vs:List V},Reps K H (bs.map Z.ref) vs->vs=bs.map V.ref
 | [],vs,h=>by rw[eT,a0C]at h;subst h;rfl
 | n::ns,vs,h=>by
  obtain⟨v,r,rfl,a,b⟩:=h;rw[a,a7N b];rfl
theorem b5V {e:Addr}(hc:oe.cls=.ref C) (hd:oe.dict=none) (hn:PySem.W.notCls oe=true) (k:ExK X.K C):a2M (X.hnd e oe) (.builtin "isinstance") (zIsX X.K C e):=a1c (b3G hc hd hn k) λs H Q j=>j.un λn G R d i h m=>by
 obtain⟨y,b,rfl,f,q⟩:=h;obtain⟨v,g,rfl,r,a⟩:=d.two;subst r;refine⟨g,b,rfl,?_,m _ _ _ _ q (by rw[a0P]) i (.refl _ _)⟩;rcases f with ⟨D,rfl,e1⟩ | ⟨T,rfl,e1⟩ | ⟨ds,rfl,e1⟩
 exact .inl ⟨D,a,e1⟩;exact .inr (.inl ⟨T,a,e1⟩)
 ·rw[a1P]at a;obtain⟨p,o,rfl,l,c⟩:=a
  have:=a7N c
  subst this;exact .inr (.inr ⟨p,ds,rfl,SqT.of l,e1⟩)
end
section
variable {X:Cx}{EW:XK}{N':List Str}{sc:Scope}{cap:List (Option Nat)}{tg iter elt:Expr}{ifs:List Expr}{wi:I3}{pt:Pt}{tt:T3}{te:E3}{pos:Pos}
theorem c0u (hE:a4d X EW sc) (hc:X.calm=true) (hNN:X.N=N₀) (hso:X.env.scope=so) (ck:capB N₀ so sc N' cap=true) (hp:(pt.slots.all λj=>decide (cap[j]?=some none))=true) (hi:QI X tg iter wi)
  (hg:∀ C s H fp,QP (cxC X EW N' sc C s H fp) tg pt) (ht:∀ C s H fp,QIfs (cxC X EW N' sc C s H fp) ifs tt) (he:∀ C s H fp,QE (cxC X EW N' sc C s H fp) elt te)
  (hs:∀ x,k7 iter X.env x=pure x:=by intro _;rfl):QE X (.ListComp elt [⟨tg,iter,ifs,0⟩] sc pos) (uLC wi cap pt tt te):=⟨a1m (b7g (g:=gP X.K pt) (tt:=lowT X.K tt) hc hE hNN hso ck hi hg ht (λC s H a=>(he C s H a).p) hs) λ_ _ _=>b1y hp⟩
end
section
variable {P:j7}{w:World}{K:Fg}{mg:Str->Option Value}{base:Heap}
theorem fn3x {st:Stmt}(F:Fun K x qual st f fd) (S:FnScope N ps (a0i st)) (len:∀ ws G R EE,sp ws G R EE->ws.length=ps.length)
  (hbody:∀ (cdv:Value) (A:Around) (outer:List Env) (s:Shared) (H:Hp) (E:XK) (ws:List Z) (G:Hq) (R:K3) (EE:Addr->Hq->Prop),Room k (A.deeper (envOfC qual (a0i st) s.heap.objs.size f cdv))->sp ws G R EE->UpX K H EE E ->
   ∃ t,QSs (cxOf (CXx P w) P w K mg base N qual (a0i st) f cdv A outer s H E) (a2e st) t/\t (λ_ G'=>R .non G') R (λ_ _=>False) (λ_ _=>False) (a4B N ws) G):FnOk P w K mg base (CXx P w) (k+1) f fd ps (a3v K sp):=by
 obtain⟨I,T,U,C,M,V,m,L,z,rfl,n,g⟩:=F.ex;refine b61 n g S (λo H Q E ⟨b,G,R,e,c,j,h,d,l⟩=>by rw[<- c.length];exact len _ _ _ _ h) ?_;rintro A a s H o Q E r ⟨b,G,R,e,c,j,h,d,l⟩;obtain⟨t,v,q⟩:=hbody m A a s H E b G R e r h l;exact⟨_,v.p,a4B N b,G,_,R,_,_,.start c,j,q,fun σ' J τ' D u B i y=>d _ _ _ _ u (by rw[a0U]) i y,d,λ_ _ _ _ h _ _ _=>h.elim,λ_ _ _ _ h _ _ _=>h.elim⟩
end
end L3
namespace L3
open PySem PySem.Spec PyProof.Rows L2
mutual
def DZ (G:Hq):PyData->Z->Prop
 | .none,x=>x=.non
 | .bool b,x=>x=.bl b
 | .int i,x=>x=.int i
 | .str s,x=>x=.str s
 | .list ds,x=>∃ p ws,x=.ref p/\G p=some (.lst ws)/\DZs G ds ws
 | .tuple ds,x=>∃ ws,x=.tup ws/\DZs G ds ws
 | .dict _,_=>False
def DZs (G:Hq):List PyData->List Z->Prop
 | [],ws=>ws=[]
 | d::ds,ws=>∃ w r,ws=w::r/\DZ G d w/\DZs G ds r
end
mutual
theorem DZ.sm {G G':Hq}(s:Sm G G'):∀ {d:PyData}{w:Z},DZ G d w->DZ G' d w
 | .none,w,q=>by unfold DZ at q ⊢;exact q
 | .bool b,w,q=>by unfold DZ at q ⊢;exact q
 | .int i,w,q=>by unfold DZ at q ⊢;exact q
 | .str _,w,q=>by unfold DZ at q ⊢;exact q
 | .list ds,w,q=>by
  unfold DZ at q ⊢;obtain⟨p,ws,e,hp,q⟩:=q;exact⟨p,ws,e,s _ _ hp,DZs.sm s q⟩
 | .tuple ds,w,q=>by
  unfold DZ at q ⊢;obtain⟨ws,e,q⟩:=q;exact⟨ws,e,DZs.sm s q⟩
 | .dict _,w,q=>by unfold DZ at q;exact q.elim
theorem DZs.sm {G G':Hq}(s:Sm G G'):∀ {ds:List PyData}{ws:List Z},DZs G ds ws->DZs G' ds ws
 | [],ws,q=>by unfold DZs at q ⊢;exact q
 | d::ds,ws,q=>by
  unfold DZs at q ⊢;obtain⟨w,r,e,q1,q2⟩:=q;exact⟨w,r,e,DZ.sm s q1,DZs.sm s q2⟩
end
section
variable {X:Cx}
end
def b8G:List Z->Hq->K3->Prop:=λxs G R=>match xs with
 | [.bl b]=>R (.int (if b then 1 else 0)) G
 | _=>False
end L3
namespace L2
open PySem PySem.Spec PyProof.Rows
theorem b18:CallR X (.type "int") (λxs H Q=>∃ b:Bool,xs=[.bl b]/\Q (.int (if b then 1 else 0)) H):=by
 intro c s σ H e d Q I r h;obtain⟨b,rfl,q⟩:=h;obtain⟨u,rfl,a⟩:=a2P r;cases (a);exact PySem.call_int_bool ⟨.int _,H,I.tok _,⟨_,rfl⟩,q⟩
end L2
namespace L3
open PySem PySem.Spec PyProof.Rows L2
theorem b8H:a2M X (.type "int") b8G:=a1c b18 λg H Q d=>d.un λc G R a f h e=>by
 match c,h with
 | [.bl b],h=>
  obtain⟨v,rfl,r⟩:=a.one;exact⟨b,by rw[r],e _ _ _ _ h (by rw[a0x]) f (.refl _ _)⟩
theorem b8I (h:R (.int (if b then 1 else 0)) G):b8G [.bl b] G R:=h
section
variable {X:Cx}{E:XK}{e:Expr}{es:List Expr}{x n:Str}{p pos np hpos tpos:Pos}{t:A3}{k:Nat}{f D:Addr}{fd:j9}{ps:List Str}{sp:PX3}
def b8J (PC:Addr->Prop) (i:Nat) (sp:PX3) (t:A3) (th:Addr->Addr->X3):X3:=λnx rt bk ct σ G=>t σ G λws G1=>sp ws G1 (λ_ G2=>nx σ G2) λC' G2=>PC C'/\∀ e,th C' e (fun σ' G'=>nx (σ'.set i none) G') rt (fun σ' G'=>bk (σ'.set i none) G') (fun σ' G'=>ct (σ'.set i none) G') (σ.set i (some (.ref e))) G2
theorem b8K (PC:Addr->Prop) (hst:X.stack=X.env::X.outer) (hex:X.ex=[]) (hfm:X.env.frame=some X.env.locals)
  (F:FnOk X.prog X.w X.K X.mg X.base (CXx X.prog X.w) k f fd ps (a3v X.K sp)) (hr:Room k X.A) (hgf:Gl X y) (hmf:X.mg y=some (.ref f)) (hk:PySem.W.keepIn X.K (.ref f)=true) (hb:Binds X.K fd ps []) (ha:QA X.nox (e::es) t)
  (hg:Gl X x) (hm:X.mg x=some (.ref D)) (hD:∀ C,PC C->PySem.W.exmOne X.K (.ref C) (.ref D)=some true) (hN:X.N.Nodup) (hi:X.N[i]?=some n) (hl:X.env.scope.names.lookup n=some .local)
  (hh:∀ C e oe,PC C->oe.cls=.ref C->oe.dict=none->PySem.W.notCls oe=true->QSs (X.hnd e oe) (b₀::suite) (th C e))
  (he:j0 (e::es) X.env=(false,eval e X.env)::j0 es X.env:=by rfl) (hpl:(backTo cp (j0 es X.env)).any (·.1)=false:=by rfl) (hdb:(y==("__debug__":Str))=false:=by decide)
  (hs:kM (.Call (.Name y p) (e::es) [] cp) none pos.line X.env=pure false:=by rfl) (hd:(x==("__debug__":Str))=false:=by decide) :
  QS X (.Try [.Expr (.Call (.Name y p) (e::es) [] cp) pos] [.ExceptHandler (some (.Name x np)) (some n) (b₀::suite) hpos] [] [] tpos) (b8J PC i sp t th):=
 ⟨a3J (b7m (PC:=PC) (th:=λC e=>lowS X.K (th C e)) (np:=np) hst hex hfm (b5g F hr hgf hmf hk hb ha.p hdb he hpl) hg hm hD hN hi hl (λC e oe z h1 a h3=>(hh C e oe z h1 a h3).p) hs hd) λD τ H hx=>hx.un fun σ G nx rt bk ct hs hg h u1 u2 u3 u4=>by
  refine⟨λc _ H'=>∃ l G',c=.ref l/\(PC l/\∀ e,th l e (fun σ' G'=>nx (σ'.set i none) G') rt (fun σ' G'=>bk (σ'.set i none) G') (fun σ' G'=>ct (σ'.set i none) G') (σ.set i (some (.ref e))) G')/\RH X.K G' H'/\TK X.K H H',?_,?_⟩
  ·exact⟨σ,G,_,hs,hg,h,λws G1 vs H1 h1 rs hg1 t1=>⟨ws,G1,_,_,by rw[eL];exact rs,hg1,h1,λw m v o a _ b g=>u1 _ _ _ _ a (hs.mono (t1.trans g)) b (t1.trans g),λl m o a r2 g=>⟨l,m,rfl,a,r2,t1.trans g⟩⟩⟩
  ·rintro c H' ⟨l,G',rfl,⟨hC',hth⟩,hg',t'⟩;refine⟨l,rfl,hC',λe _=>⟨σ.set i (some (.ref e)),G',_,_,_,_,(hs.mono t').set (by rw[a0H]) i,hg',hth e,?_,u2.mono t',?_,?_⟩⟩
   ·exact fun σ2 m τ2 o a j b g=>u1 _ _ _ _ a (RSt.unset j i) b (t'.trans g)
   ·exact fun σ2 m τ2 o a j b g=>u3 _ _ _ _ a (RSt.unset j i) b (t'.trans g)
   ·exact fun σ2 m τ2 o a j b g=>u4 _ _ _ _ a (RSt.unset j i) b (t'.trans g)⟩
theorem b8L {PC:Addr->Prop}(h:t σ G λws G1=>sp ws G1 (λ_ G2=>nx σ G2) λC' G2=>PC C'/\∀ e,th C' e (fun σ' G'=>nx (σ'.set i none) G') rt (fun σ' G'=>bk (σ'.set i none) G') (fun σ' G'=>ct (σ'.set i none) G') (σ.set i (some (.ref e))) G2):b8J PC i sp t th nx rt bk ct σ G:=h
end
end L3
namespace L2
open PySem PySem.Spec PyProof.Rows
def ItD (o:Obj) (a:Addr) (kvs:List (Key×V)):It:=
 ⟨λi H=>H a=some (.frz o (.dK kvs))/\i<kvs.length,λi H x H'=>H'=H/\∃ p,kvs[i]?=some p/\x=kV p.1,λi H=>H a=some (.frz o (.dK kvs))/\kvs.length≤i⟩
theorem c0v (h:(a0O P w).is k u=true):RelV (kV k) u:=by
 rcases a0G h with ⟨i,t,rfl,rfl⟩ | ⟨x,t,rfl,rfl⟩ | ⟨rfl,rfl⟩
 ·exact⟨t,rfl⟩
 ·exact⟨t,rfl⟩
 ·rfl
theorem a9t:∀ {kvs:List (Key×V)}{vs:List (Key×Value)},KV kvs vs->vs.length=kvs.length
 | [],vs,h=>by cases h;rfl
 | p::kvs,vs,h=>by
  cases h with
  | cons h1 h2=>rw[eF,eF,a9t h2]
theorem b4J:∀ {kvs:List (Key×V)}{vs:List (Key×Value)}{i:Nat}{p:Key×V},KV kvs vs->kvs[i]?=some p->∃ q,vs[i]?=some q/\p.1=q.1
 | [],vs,i,p,h,e=>by simp at e
 | p0::kvs,vs,i,p,h,e=>by
  cases h with
  | cons h1 h2=>
   cases i with
   | zero=>cases e;exact⟨_,rfl,h1.1⟩
   | succ i=>exact b4J (i:=i) h2 (by simpa using e)
theorem b19 {P:j7}{w:World}{K:Fg}{tg:Expr}(a it:Addr) {o:Obj}(kvs:List (Key×V)) {es:Array mN}{ep:Nat}(hd:o.data=.dict es ep):Turn P w K tg (ItD o a kvs) [it] it (λi h=>h.IsKeyIter it a i kvs.length ep) where
 mem:=by simp
 obj:=λi h st b hb=>by
  have e:b=it:=by simpa using hb
  subst e;obtain⟨o,e,c,d⟩:=st;exact⟨o,e,λv z=>by rw[d]at z;cases z⟩
 keep:=λi h h' st k=>st.at λo e=>k it (by simp) o e
 item:=by
  intro X hP hw hK hc i pins s σ H E I hf st hg;subst hP hw hK;obtain⟨ha,hi⟩:=hg;obtain⟨g,hz,hsm,vs,kv,dof⟩:=(show ObjOk X.prog X.w H s.heap a (.frz o (.dK kvs)) from I.hok a _ ha);obtain⟨f0,f1,f2,f3,f4,f5⟩:=hf it (by simp);have hl:=a9t kv;have dat:s.heap.DictAt (a0O X.prog X.w) a vs ep:=by
   obtain⟨o',es',ep',h1,h2,h3,h4⟩:=dof;rw[g]at h1;cases h1;rw[hd]at h3;cases h3;exact⟨o,es,g,h2,hd,h4⟩
  obtain⟨p,hp⟩:∃ p,kvs[i]?=some p:=⟨kvs[i],et hi⟩;obtain⟨⟨k,v⟩,hq,e1⟩:=b4J kv hp;refine wpAny_pyNext_dict_item (by rw[hl];exact st) dat hq λkey h' hk st' sb=>?_;have I1:Inv X pins σ H { s with heap:=h' }:=I.turned (t':=s.toks) (λb o hb e=>(sb.2 b hb).trans e) f0 f1 f3 f4 f5;rw[hl]at st';obtain⟨oi,e,c,d⟩:=id st';exact⟨key,rfl,a9W (s:={ s with heap:=h' }) e c d (by decide) ⟨kV p.1,H,I1,by rw[e1];exact c0v hk,⟨rfl,p,hp,rfl⟩,st',λb hb=>(hf b hb).1⟩⟩
 done:=by
  intro X hP hw hK hc i pins s σ H E I hf st hg;subst hP hw hK;obtain⟨ha,hi⟩:=hg;obtain⟨g,hz,hsm,vs,kv,dof⟩:=(show ObjOk X.prog X.w H s.heap a (.frz o (.dK kvs)) from I.hok a _ ha);obtain⟨f0,f1,f2,f3,f4,f5⟩:=hf it (by simp);have hl:=a9t kv;have dat:s.heap.DictAt (a0O X.prog X.w) a vs ep:=by
   obtain⟨o',es',ep',h1,h2,h3,h4⟩:=dof;rw[g]at h1;cases h1;rw[hd]at h3;cases h3;exact⟨o,es,g,h2,hd,h4⟩
  exact wpAny_pyNext_dict_end (I.ok.hd hc) (by rw[hl];exact st) dat (iR (by omega)) λh' eb=>⟨rfl,I.turned (t':=s.toks) (λb o hb e=>eb b o hb e) f0 f1 f3 f4 f5⟩
 self:=λ_ _ _ _ _ st h=>wpAny_pyIter_keyiter st h
section
variable {X:Cx}{pins:List (Addr×Obj)}{σ:St}{H:Hp}{s:Shared}{a:Addr}{kvs:List (Key×V)}{tg:Expr}
theorem Inv.freeze (I:Inv X pins σ H s) (e:H a=some (.dK kvs)):∃ o,Inv X pins σ (upd H a (.frz o (.dK kvs))) s:=by
 obtain⟨p,k,t,x,h⟩:=(I.hok a _ e);have i:=h;obtain⟨o,C,B,g,r⟩:=i;refine⟨o,?_⟩;have l:∀ b,H b=none->b≠a:=λb q z=>by rw[z,e]at q;cases q
 have j:∀ b d,H b=some (.tup d)->b≠a:=λb d q z=>by rw[z,e]at q;cases q
 have A:∀ b o u,H b=some (.frz o u)->b≠a:=λb o u q z=>by rw[z,e]at q;cases q
 have y:∀ b f,H b=some (.tbl f)->b≠a:=λb f q z=>by rw[z,e]at q;cases q
 have m:∀ b c,H b=some (.own c)->b≠a:=λb c q z=>by rw[z,e]at q;cases q
 refine I.un ⟨λb o q _ _ _=>q,λb o q _ _ _=>⟨o.slots,q⟩,λb o q n _=>by rw[a0r (l b n)];exact n,λb o q _=>⟨o,q⟩,λb d q=>by rw[a0r (j b d q)];exact q,λb o u q=>by rw[a0r (A b o u q)];exact q,λb f q=>⟨#[],by rw[a0r (y b f q),Array.append_empty];exact q⟩⟩ λb u q=>?_
 by_cases hb:b=a
 ·subst hb;rw[a0y]at q;cases q;exact⟨g,p,k,t,x,h⟩
 ·rw[a0r hb]at q;exact (I.hok b u q).stay (λc v _ r=>r) (λc r=>by rw[a0r (m c b r)];exact r) λc d r=>by rw[a0r (j c d r)];exact r
def iDct (tl:TE):TI:=fun σ H R=>tl σ H λx H1=>∃ a kvs,x=.ref a/\((H1 a=some (.dK kvs)/\∀ o,R (ItD o a kvs) (upd H1 a (.frz o (.dK kvs))))\/∃ o,H1 a=some (.frz o (.dK kvs))/\R (ItD o a kvs) H1)
theorem b5W (hl:PE X l tl):PI X tg l (iDct tl):=by
 intro c s σ H R I h;refine thn (hl c s σ H _ I h) λv d ⟨x,B,r,C,E⟩=>?_;obtain⟨a,f,e,q⟩:=E;subst e;cases C;have k:∀ o i,Inv X c σ i d->i a=some (.frz o (.dK f))->R _ i->wpAny _ X.A _ (PIE X c σ tg R) X.xe d:=λo i j m q=>by
  obtain⟨g,M,t,L,D,y⟩:=(j.hok a _ m);obtain⟨N,n⟩:=y.dictAt;have p:=n;obtain⟨J,G,u,_,F,_⟩:=p;rw[g]at u;cases u;refine wpAny_pyIter_dict t n ?_;refine⟨d.heap.objs.size,[d.heap.objs.size],_,_,i,rfl,j.kept λb o e=>Heap.get?_push_of_some _ e,b19 a _ f F,⟨_,Heap.get?_push_size _ rfl,rfl,by rw[a9t D];rfl⟩,λb z=>?_,q⟩;have e:b=d.heap.objs.size:=by grind
  subst e;exact j.fpOk (dS _) (j.hok.fresh (dS _))
 rcases q with ⟨m,q⟩ | ⟨o,m,q⟩
 ·obtain⟨o,j⟩:=r.freeze m;exact k o _ j a0y (q o)
 ·exact k o B r m q
end
end L2
namespace L3
open PySem PySem.Spec PyProof.Rows L2
def keyW:Key->Z
 | .inl (some i)=>.int i
 | .inl none=>.non
 | .inr s=>.str s
theorem b3H {K:Fg}:∀ k:Key,Rep K H (keyW k) (kV k)
 | .inl (some i)=>by show Rep K H (.int i) (.int i);rw[a0x]
 | .inl none=>by show Rep K H .non .non;rw[a0U]
 | .inr s=>by show Rep K H (.str s) (.str s);rw[a0K]
def wkD (x:Z) (G:Hq) (R:List Z->(Hq->Prop)->Hq->Prop):Prop:=match x with
 | .ref a=>∃ kvs,(G a=some (.dK kvs)\/G a=some (.dF kvs))/\R (kvs.map λp=>keyW p.1) (λ_=>True) (put G a (.dF kvs))
 | _=>False
def iD (tl:E3):I3:=fun σ G R=>tl σ G λx G1=>wkD x G1 R
theorem a6i {K:Fg}{kvs:List (Key×Z)}(e:H0 a=some (.frz o (.dK us))) (hn:us.map (·.1)=kvs.map (·.1)):a5Q K (kvs.map λp=>keyW p.1) (λ_=>True) (ItD o a us) H0:=λi G H g t n j=>by
 have d:=t.frd _ _ _ e;have l:us.length=kvs.length:=by have:=congrArg eQ hn;simpa using this
 rw[dQ]at j;refine⟨λh=>⟨d,by rw[dQ]at h;omega⟩,λw b=>?_⟩;rw[er]at b;cases hk:kvs[i]? with
 | none=>rw[hk]at b;cases b
 | some p=>
  rw[hk]at b;cases b;have k:=(eq.mp hk).1;refine⟨⟨d,by omega⟩,?_⟩;rintro x m ⟨rfl,q,f,rfl⟩
  have:q.1=p.1:=by
   have c:(us.map (·.1))[i]?=some q.1:=by rw[er,f];rfl
   rw[hn,er,hk]at c;exact (eZ.inj c).symm
  rw[this];exact⟨b3H _,g,.refl _ _⟩
section
variable {X:Cx}{tg l:Expr}{tl:E3}
theorem b5X (hl:QE X l tl):QI X tg l (iD tl):=a8q (b5W hl.p) fun τ H B u=>u.un fun σ G R z A h t=>by
 refine⟨σ,G,_,z,A,h,λw r v q d k c s=>?_⟩;cases w with
 | ref a=>
  obtain⟨j,e,d⟩:=d;rcases e with e | e
  ·obtain⟨g,f,i,n⟩:=c _ _ e;refine⟨a,g,k,.inl ⟨f,λo=>?_⟩⟩;have m:TK X.K q (L2.upd q a (.frz o (.dK g))):=.dK f;exact t _ _ _ _ _ d (a6i a0y i) (c.set m ⟨o,g,a0y,i,n.mono m⟩) (s.trans m)
  ·have x:=e;obtain⟨o,g,f,i,n⟩:=c _ _ e;refine⟨a,g,k,.inr ⟨o,f,?_⟩⟩;have y:put r a (.dF j)=r:=by
    funext b
    unfold put
    split
    ·simp_all
    ·rfl
   rw[y]at d;exact t _ _ _ _ _ d (a6i f i) c s
 | _=>exact ei d
theorem i_iD (h:tl σ G λx G1=>wkD x G1 R):iD tl σ G R:=h
theorem c0w (e:G p=some (.dK kvs)\/G p=some (.dF kvs)) (h:R (kvs.map λp=>keyW p.1) (λ_=>True) (put G p (.dF kvs))):wkD (.ref p) G R:=⟨kvs,e,h⟩
end
end L3
namespace L2
open PySem PySem.Spec PyProof.Rows
theorem b2a:∀ {ss:List Str}{us:List Value},Vals (ss.map V.str) us->lJ us ss
 | [],us,r=>by rw[eT]at r;cases r;exact .nil
 | s::ss,us,r=>by
  cases r with
  | cons r1 r2=>obtain⟨t,rfl⟩:=r1;exact .cons s t (b2a r2)
theorem a5s:∀ {vs:List Value}{ss:List Str},lJ vs ss->Vals (ss.map V.str) vs
 | _,_,.nil=>.nil
 | _,_,.cons s t h=>.cons ⟨t,rfl⟩ (a5s h)
def b3I (K:Fg):List V->Hp->VK->Prop:=λxs H Q=>∃ (p:Addr) (ss:List Str),xs=[.ref p]/\SqL K H p (ss.map V.str)/\ss.length<64 /\
 ∀ (t:Addr) (ts:List Str),H t=none->ts.Perm ss->lC ts=true->Q (.ref t) (upd H t (.lst (ts.map V.str)))
theorem a7O:CallR X (.builtin "sorted") (b3I X.K):=by
 intro k s σ H y z Q I r h;obtain⟨p,x,rfl,g,t,q⟩:=h;obtain⟨u,rfl,i⟩:=a2P r;cases i;obtain⟨c,n,m,_⟩:=I.list g;have f:=b2a n;have v:=f.length;refine sorted_strs m.isList f (by omega) λa b o d l=>?_;obtain⟨e,j⟩:=sortedAll_at s.heap c a;exact⟨.ref _,_,I.laid (λ_ _=>sortedAll_old) (fP _) (show ObjOk X.prog X.w _ _ _ (.lst _) from ⟨by rw[dQ,d.length_eq,ki];omega,a.toList,e,a5s o,by simpa using j⟩),rfl,q _ b (I.hok.fresh (fP _)) d l⟩
end L2
namespace L3
open PySem PySem.Spec PyProof.Rows L2
theorem a4k {K:Fg}:∀ ss:List Str,Reps K H (ss.map Z.str) (ss.map V.str)
 | []=>by rw[eT,eT,a0C]
 | s::ss=>by
  exact⟨_,_,rfl,by rw[a0K],a4k ss⟩
theorem a6j {K:Fg}:∀ {ss:List Str}{vs:List V},Reps K H (ss.map Z.str) vs->vs=ss.map V.str
 | [],vs,h=>by rw[eT,a0C]at h;subst h;rfl
 | s::ss,vs,h=>by
  obtain⟨v,r,rfl,a,b⟩:=h;rw[a,a6j b];rfl
def a9u:List Z->Hq->K3->Prop:=λxs G R=>match xs with
 | [.ref p]=>∃ ss:List Str,G p=some (.lst (ss.map Z.str))/\ss.length<64/\∀ (t:Addr) (ts:List Str),G t=none->ts.Perm ss->lC ts=true->R (.ref t) (put G t (.lst (ts.map Z.str)))
 | _=>False
theorem a7P:a2M X (.builtin "sorted") a9u:=a1c a7O λu H Q n=>n.un λg G R j b h q=>by
 match g,h with
 | [.ref p],h=>
  obtain⟨v,rfl,r⟩:=j.one;obtain⟨i,e,d,h⟩:=h;obtain⟨s,k,l⟩:=b _ _ e
  have:=a6j l
  subst this;exact⟨p,i,by rw[r],SqL.of k,d,λt a c f m=>q _ _ _ _ (h t a (b.out c) f m) (by rw[a0H]) (b.set (.new c) ⟨_,a0y,a4k a⟩) (.new c)⟩
theorem a7Q (e:G p=some (.lst (ss.map Z.str))) (z:ss.length<64) (h:∀ (t:Addr) (ts:List Str),G t=none->ts.Perm ss->lC ts=true->R (.ref t) (put G t (.lst (ts.map Z.str)))):a9u [.ref p] G R:=⟨ss,e,z,h⟩
end L3
namespace L2
open PySem PySem.Spec PyProof.Rows
structure Cl where
 x:Str
 np:Pos
 b₀:Stmt
 suite:List Stmt
 hp:Pos
def Cl.h (n:Str) (c:Cl):ExceptHandler:=.ExceptHandler (some (.Name c.x c.np)) (some n) (c.b₀::c.suite) c.hp
inductive Picks (X:Cx) (C:Addr) (th:Addr->TS):List Cl->Prop
 | here {c:Cl} {cs:List Cl} {D:Addr} (hg:Gl X c.x) (hm:X.mg c.x=some (.ref D)) (hd:(c.x==("__debug__":Str))=false) (hD:PySem.W.exmOne X.K (.ref C) (.ref D)=some true)
   (hh:∀ e oe,oe.cls=.ref C->oe.dict=none->PySem.W.notCls oe=true->PSs (X.hnd e oe) (c.b₀::c.suite) (th e)):Picks X C th (c::cs)
 | next {c:Cl} {cs:List Cl} {D:Addr} (hg:Gl X c.x) (hm:X.mg c.x=some (.ref D)) (hd:(c.x==("__debug__":Str))=false) (hD:PySem.W.exmOne X.K (.ref C) (.ref D)=some false) (hp:Picks X C th cs):Picks X C th (c::cs)
section
variable {X:Cx}{n:Str}{pos tpos:Pos}{ce:Expr}
end
end L2
namespace L3
open PySem PySem.Spec PyProof.Rows L2
inductive Alt (X:Cx) (cs:List Cl):List (Addr×(Addr->X3))->Prop
 | nil:Alt X cs []
 | cons {C:Addr} {th:Addr->X3} {l:List (Addr×(Addr->X3))} (h:Picks X C (λe=>lowS X.K (th e)) cs) (hs:Alt X cs l):Alt X cs ((C,th)::l)
theorem Alt.get:∀ {l:List (Addr×(Addr->X3))},Alt X cs l->∀ p∈l,Picks X p.1 (λe=>lowS X.K (p.2 e)) cs
 | _,.nil,p,h=>by simp at h
 | _,.cons h hs,p,hp=>by
  rcases dY.mp hp with rfl | hp
  ·omega
  ·exact hs.get p hp
section
variable {X:Cx}{e:Expr}{es:List Expr}{n:Str}{p pos tpos:Pos}{t:A3}{k:Nat}{f:Addr}{fd:j9}{ps:List Str}{sp:PX3}
end
end L3
namespace L2
open PySem PySem.W
end L2
namespace L2
open PySem PySem.Spec PyProof.Rows
theorem Inv.melt (I:Inv X pins σ H s) (e:H a=some (.frz o (.dK kvs))) (n:∀ o u,X.H₀ a≠some (.frz o u)):Inv X pins σ (upd H a (.dK kvs)) s:=by
 obtain⟨g,E,j,A,B,t⟩:=(I.hok a _ e);have i:∀ b,H b=none->b≠a:=λb q z=>by rw[z,e]at q;cases q
 have k:∀ b d,H b=some (.tup d)->b≠a:=λb d q z=>by rw[z,e]at q;cases q
 have D:∀ b f,H b=some (.tbl f)->b≠a:=λb f q z=>by rw[z,e]at q;cases q
 have L:∀ b c,H b=some (.own c)->b≠a:=λb c q z=>by rw[z,e]at q;cases q
 refine⟨I.ok,I.os,I.bare,⟨I.base.keep,I.base.slot,λb o F C y=>?_,I.base.there,λb d q=>?_,λb o u q=>?_,λb f q=>?_⟩,I.loc,I.cell,?_,λx c q=>?_,λp M=>?_,λb u q=>?_,I.len⟩
 ·have h:=I.base.free b o F C y;rw[a0r (i b h)];exact h
 ·have h:=I.base.tups b d q;rw[a0r (k b d h)];exact h
 ·rw[a0r (λz=>n o u (by simp_all))];exact I.base.frzs b o u q
 ·obtain⟨m,h⟩:=I.base.tbls b f q;exact⟨m,by rw[a0r (D b _ h)];exact h⟩
 ·rw[a0r (i _ I.free)];exact I.free
 ·have h:=I.freeC x c q;rw[a0r (i _ h)];exact h
 ·obtain⟨G,l,J⟩:=I.pin p M;exact⟨G,by rw[a0r (i _ l)];exact l,J⟩
 ·by_cases hb:b=a
  ·subst hb;rw[a0y]at q;cases q;exact⟨E,j,A,B,t⟩
  ·rw[a0r hb]at q;exact (I.hok b u q).stay (λc v _ r=>r) (λc r=>by rw[a0r (L c b r)];exact r) λc d r=>by rw[a0r (k c d r)];exact r
end L2
namespace L3
open PySem PySem.Spec PyProof.Rows L2
section
variable {X:Cx}{K:Fg}{H H1:Hp}{a:Addr}{us us1:List (Key×V)}{o:Obj}{e:Expr}{t:E3}{G:Hq}{kvs:List (Key×Z)}
theorem a5t (h:H1 a=some (.frz o (.dK us1))):TW K H1 (upd H1 a (.dK us1)):=
 ⟨λc b q=>by rw[a0r (λz=>by rw[z,h]at q;cases q)];exact q,λc b q=>by
  rcases q with ⟨o',q⟩ | q
  ·exact .inl ⟨o',by rw[a0r (λz=>by rw[z,h]at q;cases q)];exact q⟩
  ·exact .inr q⟩
theorem b5Y (h0:H a=some (.dK us)) (t:TK K H H1) (h:H1 a=some (.frz o (.dK us1))):TK K H (upd H1 a (.dK us1)):=
 ⟨λc b q=>(a5t (K:=K) h).tup c b (t.tup c b q),λc b q=>(a5t (K:=K) h).frz c b (t.frz c b q),λc d u q=>by
  rw[a0r (λz=>by rw[z,h0]at q;cases q)];exact t.frd c d u q⟩
theorem c0x (t:TW K H H1) (e:H1 b=H b) (h:ROb K H b o'):ROb K H1 b o':=by
 cases o' with
 | lst ws=>obtain⟨a,q,r⟩:=h;exact⟨a,e.trans q,r.monoW t⟩
 | dK kvs=>obtain⟨a,q,n,r⟩:=h;exact⟨a,e.trans q,n,r.monoW t⟩
 | ins C dx fs=>obtain⟨a,q,n,r⟩:=h;exact⟨a,e.trans q,n,r.monoW t⟩
 | dF kvs=>obtain⟨c,a,q,n,r⟩:=h;exact⟨c,a,e.trans q,n,r.monoW t⟩
theorem b5Z (g:RH K G H1) (e1:G a=some (.dF kvs)):∃ o us1,H1 a=some (.frz o (.dK us1))/\RH K (put G a (.dK kvs)) (upd H1 a (.dK us1)):=by
 obtain⟨o,c,h,d,f⟩:=g _ _ e1;refine⟨o,c,h,λb e q=>?_⟩
 by_cases hb:b=a
 ·subst hb;rw[a0e]at q;cases q;exact⟨c,a0y,d,f.monoW (a5t h)⟩
 ·rw[a0A hb]at q;exact c0x (a5t h) (a0r hb) (g b e q)
def uUnf (t:E3):E3:=fun σ G R=>∃ a kvs,G a=some (.dK kvs)/\t σ G λv G'=>G' a=some (.dF kvs)/\R v (put G' a (.dK kvs))
theorem c0y (h:QE X e t):QE X e (uUnf t):=⟨λf s τ H Q I z=>by
 obtain⟨σ,G,R,y,j,⟨a,d,x,A⟩,C⟩:=z;obtain⟨F,k,L,J⟩:=j _ _ x;refine thn (h.p f s τ H (λv c=>∃ w b,Rep X.K c w v/\RH X.K b c/\TK X.K H c/\b a=some _/\R w _) I ⟨σ,G,_,y,j,A,λw b v c q r g t=>⟨w,b,r,g,t,q.1,q.2⟩⟩) λu E ⟨v,c,l,m,w,b,r,g,t,n,q⟩=>?_;obtain⟨o,D,i,B⟩:=b5Z g n;exact⟨v,_,l.melt i (λo u z=>by have:=I.base.frzs a o u z;rw[k]at this;cases this),m,C w _ v _ q (r.monoW (a5t i)) B (b5Y k t i)⟩⟩
theorem c0z (e:G a=some (.dK kvs)) (h:t σ G λv G'=>G' a=some (.dF kvs)/\R v (put G' a (.dK kvs))):uUnf t σ G R:=⟨a,kvs,e,h⟩
end
end L3
namespace DictP
open PySem PyProof.Rows
theorem a6k:mz table "dict.update.loop"=some j8.«dict.update.loop»:=entryFor_of_tree (by kernel_rfl)
theorem a27:plainId "dict.update.loop"=true:=by decide +kernel
theorem b50:typeLookup (.type "list") "keys"=pure none:=am_miss_of_fast (by decide +kernel)
section
variable {prog:j7}{w:World}{A:Around}{E:Value->Shared->Prop}{s:Shared}{a:Addr}{xs:Array Value}{k:Nat}{sl:Array (Option Value)}
theorem b2b (hx:s.heap.get? a=some { cls:=.type "list",dict:=none,data:=.seq xs k,slots:=sl }) (hA:A.handled=none)
  (h:∀ h' tk,(∀ b ob,s.heap.get? b=some ob->h'.get? b=some ob)->Q none { s with heap:=h',toks:=tk }):wpAny (model prog w) A (getAttr? (.ref a) "keys") Q E s:=by
 obtain⟨hp,g,d,tk,os⟩:=s;have hT:∀ tk',(⟨hp,g,d,tk',os⟩:Shared).TypeIs (.ref a) "list":=λ_=>⟨_,hx,rfl⟩;have f1:=sub_AttributeError;have f3:=F.slot_list_getattribute.lookup;have f4:=F.slot_list_getattribute.bind (.ref a);have f5:=am_list_getattr_none;unfold getAttr? getAttrBy? getAttrBy
 repeat (any_goals (first | assumption | exact hT _ | ((with_reducible show wpAny _ _ (call (Value.builtin "list.__getattribute__") _ _) _ _ _);refine lZ F.slot_list_getattribute (hT _) am_entry_list_getattribute (F.args_list_getattribute_2 _ _) (meets_getattribute_miss_list a xs k sl "keys" _ b50 (by decide +kernel)) ⟨hx,hA,λh' tk' e hx'=>?_⟩) | wp_step))
 obtain⟨t',u',he⟩:=hx'.there
 show wpAny _ _ (getattributeRaised _ _ _ _ _ _ _) _ _ _
 unfold getattributeRaised
 repeat (any_goals (first | assumption | wp_step))
 exact h _ _ hx'.keeps
theorem b0n (g:s.heap.get? t=some o) (hc:o.cls=.type "tuple") (hd:o.data=.seq #[x,y] n) (h:Q [x,y] s):wpAny (model prog w) A (j8.Dict.pairItems (.ref t)) Q E s:=by
 obtain⟨c,a,b,e⟩:=o;simp only at hc hd;subst hc hd
 repeat (any_goals (first | assumption | wp_step))
end
section
variable {prog:j7}{w:World}{A:Around}{R:Result->Shared->Prop}{I:Addr}{fp wr:List Addr}{G:Array mq->Array mq->Prop}{n:Nat}{P:Nat->Value->Prop}{St:Nat->Shared->Prop}{K:Type}[DecidableEq K] {knd:KeyKind prog w K}
def PairAt (knd:KeyKind prog w K) (h:Heap) (v:Value) (r:K×Value):Prop:=∃ t o key m,v=.ref t/\h.get? t=some o/\o.cls=.type "tuple"/\o.data=.seq #[key,r.2] m/\knd.is r.1 key=true
theorem loop (W:WalksS prog w A.in1 I fp wr G n P St) (d:Addr) (hdf:d∉fp) (rows:List (K×Value)) (hn:n=rows.length) (hz:rows.length≤jZ) :
  ∀ (k i:Nat) (s:Shared),n - i=k->i≤n->St i s->(∀ j v,P j v->∃ r,rows[j]?=some r/\PairAt knd s.heap v r/\v≠.ref d)->(∀ j v,P j v->∀ b,v=.ref b->b∉wr)->s.heap.DictOf knd d (merged [] (rows.take i)) ->
   (∀ s',Moved (d::wr) G s s'->s'.heap.DictOf knd d (merged [] rows)->R (.ok (.ret .none)) s') ->
   kC (model prog w) A (.builtin "dict.update.loop" ⟨[.ref d,.ref I,rawInt i,.none],[]⟩) R s:=by
 have x:d∉wr:=λh=>hdf (W.sub _ h);have up:∀ b∈wr,b∈d::wr:=λb p=>fi _ p;intro k
 induction k with
 | zero=>
  intro i s hk hi q N l u M;have V:i=n:=by omega
  subst V;refine lc a6k ?_;rw[Around.under_plainId a27 _];refine jX (W.done s _ _ q λa f=>?_)
  show wpAny _ A.in1 _ _ _ a
  refine jX (jY (jY (M a (f.mono up) ?_)));rw[fD (by omega)]at u;obtain⟨o,J,S,L,c⟩:=u;exact⟨o,J,S,f.heap d _ x L,c⟩
 | succ k ih=>
  intro i s hk hi q N l u M;have U:i<n:=by omega
  refine lc a6k ?_;rw[Around.under_plainId a27 _];refine jX (W.item i s _ _ U q λv a C H f=>?_);obtain⟨r,hr,⟨t,o,y,m,rfl,g,hc,hd,D⟩,hne⟩:=N i v C;have g':=f.heap t _ (l i _ C t rfl) g;have X:a.heap.DictOf knd d (merged [] (rows.take i)):=by
   obtain⟨o,J,S,L,c⟩:=u;exact⟨o,J,S,f.heap d _ x L,c⟩
  refine jX (kr ?_);refine jX (wpAny_tryCatch (b0n g' hc hd ?_));refine kr ?_;have hl:(merged [] (rows.take i)).length≤sizeLine:=by
   have:=merged_length_le [] (rows.take i)
   rw[eG]at this;simp at this;omega
  refine wpAny_dictSet_pairs D X (λh' B hsb=>?_) hl;rw[<- merged_take_succ _ _ _ _ hr]at B;have Q:∀ b o,b≠d->a.heap.get? b=some o->h'.get? b=some o:=λb o nb e=>by rw[hsb.2 b nb];exact e
  refine jY ⟨lB a27 _,?_⟩
  have:=ih (i+1) { a with heap:=h',toks:=a.toks+1 } (by omega) (by omega) (W.frame _ a _ _ H (fP _) λb p o e=>Q b o (λz=>hdf (z▸p)) e) (λj v hv=>?_) l B λT E F=>?_
  ·exact this
  ·obtain⟨r,h1,⟨t,o,y,m,rfl,h2,h3⟩,Y⟩:=N j v hv;exact⟨r,h1,⟨t,o,y,m,rfl,Q t o (λz=>Y (by rw[z])) (f.heap t _ (l j _ hv t rfl) h2),h3⟩,Y⟩
  ·refine M T (Moved.trans W.gtrans ((f.mono up).then_heap (fP _) λb o p e=>Q b o (λz=>p (by rw[z];exact ft)) e) E) F
theorem call_pairs (hh:A.handled=none)
  (hl:s.heap.get? l=some { cls:=.type "list",dict:=none,data:=.seq items c,slots:=sl }) (hi:∀ (j:Nat) v,items[j]?=some v->∃ r,rows[j]?=some r/\PairAt knd s.heap v r) (hn:items.size=rows.length) (hz:rows.length≤jZ)
  (h:∀ (h':Heap) (tk:Nat),h'.DictOf knd s.heap.objs.size (merged [] rows)->(∀ b o,s.heap.get? b=some o->h'.get? b=some o)->Q (.ref s.heap.objs.size) { s with heap:=h',toks:=tk }) :
  wpAny (model prog w) A (call (.type "dict") [.ref l]) Q E s:=by
 refine callType_codes (Q₁:=λx C=>x=.ref s.heap.objs.size/\C={ s with heap:=s.heap.push { cls:=.type "dict",data:=.dict #[] } }) F.kt_called_dict (F.kt_typeCall_dict_1 _) F.entry_dict_init (kt_code_dict_new _ ⟨rfl,rfl⟩) ?_;rintro x C ⟨rfl,rfl⟩;have a:(s.heap.push { cls:=.type "dict",data:=.dict #[] }).DictOf knd s.heap.objs.size []:=Heap.DictOf.new s.heap;have f:(s.heap.push { cls:=.type "dict",data:=.dict #[] }).get? l=some { cls:=.type "list",dict:=none,data:=.seq items c,slots:=sl }:=Heap.get?_push_of_some _ hl;have V:Shared.TypeIs { s with heap:=s.heap.push { cls:=.type "dict",data:=.dict #[] } } (.ref l) "list":=⟨_,f,rfl⟩;refine⟨a.typeIs,F.args_dict_init_2 _ _,?_⟩;unfold j8.«dict.__init__»;refine jX ?_;unfold j8.Dict.selfAndRest;refine jX (wpAny_notOrdered_dict a.typeIs ?_)
 show wpAny _ _ (pure (s.heap.objs.size,[Value.ref l])) _ _ _
 refine jY ?_
 show wpAny _ _ (j8.Dict.updateFrom "dict.__init__" s.heap.objs.size (.ref l) [] .none) _ _ _
 unfold j8.Dict.updateFrom;refine jX (mh V ?_);rw[if_pos (by decide)];refine jX (b2b f (by simp[hh]) λd t1 k=>?_);rw[if_pos (show (none:Option Value).isNone=true from rfl)];have gd:=k _ _ (Heap.get?_push_size _ rfl);have y:=λb o e=>k b o (Heap.get?_push_of_some _ e);have J:d.IsList l items:=⟨_,k l _ f,rfl,c,rfl⟩;refine jX (kP (jX (lQ J ?_)));refine jY ⟨lB a27 _,?_⟩;have I:=Heap.lt_size hl;have i:=Heap.lt_size gd;have h3:A.in1.in1.handled=none:=by simp[hh]
 have nI:l≠d.objs.size:=eu (gq I i);have U:s.heap.objs.size∉[d.objs.size,l]:=by
  simp;exact⟨eu i,fG I⟩
 have N:∀ (j:Nat) v,items[j]?=some v->∀ b,v=.ref b->b<s.heap.objs.size:=λj v e b B=>by
  obtain⟨r,_,t,o,u,m,G,q,_⟩:=hi j v e;rw[B]at G;cases G;exact Heap.lt_size q
 refine loop (knd:=knd) ((Walks.list h3 _ l nI items).toS) s.heap.objs.size U rows hn hz (items.size - 0) 0 _ (by omega) (eP _)
  ⟨⟨_,Heap.get?_push_size _ rfl,rfl,rfl⟩,J.push _⟩ (λj v e=>?_) (λj v e b B g=>?_) ?_ λM p hD=>?_
 ·obtain⟨r,W,t,o,u,m,rfl,q,R⟩:=hi j v e;refine⟨r,W,⟨t,o,u,m,rfl,Heap.get?_push_of_some _ (y _ _ q),R⟩,λz=>?_⟩;injection z with z
  exact absurd (Heap.lt_size q) (by rw[z];exact eR _)
 ·have:=N j v e b B
  rw[dX.mp g]at this;exact absurd (gq this i) (eR _)
 ·rw[List.take_zero]
  show Heap.DictOf knd _ _ []
  obtain⟨o,Y,L,g0,r0⟩:=a;exact⟨o,Y,L,Heap.get?_push_of_some _ (k _ _ g0),r0⟩
 ·obtain⟨S,g',d',H,D⟩:=M;have T:g'=s.gens:=p.gens;have ed:d'=s.drawn:=p.drawn;have X:D=s.os:=p.os;subst T ed X;refine⟨rfl,h S H hD λb o e=>p.heap b o (λg=>?_) (Heap.get?_push_of_some _ (y b o e))⟩;have n:=Heap.lt_size e;simp at g;rcases g with z | z
  ·rw[z]at n;exact eR _ n
  ·rw[z]at n;exact eR _ (gq n i)
end
end DictP
namespace L2
open PySem PySem.Spec PyProof.Rows
section
variable {X:Cx}
def b0o (rows:List (Addr×Key×V)) (acc:List (Key×V)):List (Key×V):=rows.foldl (λacc r=>putK acc r.2.1 r.2.2) acc
def b8M (X:Cx):List V->Hp->VK->Prop:=λxs H Q=>∃ (p:Addr) (rows:List (Addr×Key×V)),xs=[.ref p]/\SqL X.K H p (rows.map λr=>V.ref r.1)/\(∀ r∈rows,H r.1=some (.tup [kV r.2.1,r.2.2]))/\rows.length≤1000 /\
 ∀ t,H t=none->Q (.ref t) (upd H t (.dK (b0o rows [])))
theorem a9v (ok:HOk P w H h):∀ {rows:List (Addr×Key×V)},(∀ r∈rows,H r.1=some (.tup [kV r.2.1,r.2.2]))->∃ vs:List (Key×Value),vs.length=rows.length /\
  (∀ (j:Nat) r,rows[j]?=some r->∃ q,vs[j]?=some q/\DictP.PairAt (a0O P w) h (.ref r.1) q)/\∀ acc bcc,KV acc bcc->KV (b0o rows acc) (merged bcc vs)
 | [],_=>⟨[],rfl,λj r e=>by simp at e,λ_ _ k=>k⟩
 | r::rows,hr=>by
  obtain⟨m,p,d,l⟩:=a9v ok λr a=>hr r (.tail _ a);obtain⟨_,y,s,o,i,f,n,t⟩:=(ok _ _ (hr r (.head _)));obtain⟨b,u,rfl,g,c⟩:=Vals.two s;refine⟨(r.2.1,u)::m,by rw[eF,eF,p],λj q e=>?_,λx v k=>l _ _ (k.put r.2.1 c)⟩;cases j with
  | zero=>
   cases e;exact⟨_,rfl,r.1,o,b,n,rfl,i,f,t,b09 g⟩
  | succ j=>exact d j q (by simp_all)
theorem a7R:∀ (rows:List (Addr×Key×V)) (acc:List (Key×V)),(b0o rows acc).length≤acc.length+rows.length
 | [],_=>dS _
 | r::rows,acc=>by
  have:=a7R rows (putK acc r.2.1 r.2.2)
  have:=a5e acc r.2.1 r.2.2
  show (b0o rows (putK acc r.2.1 r.2.2)).length≤_
  rw[eF];omega
theorem b0p (hc:X.calm=true):CallR X (.type "dict") (b8M X):=by
 intro f s σ H xs us Q I r h;obtain⟨p,rows,rfl,T,ht,hz,q⟩:=h;obtain⟨u,rfl,V⟩:=a2P r;cases V;obtain⟨d,z,⟨o,n,F,C,E,B⟩,_⟩:=I.list T;obtain⟨c,dd,dt,sl⟩:=o;subst C E B;obtain⟨A,k,h2,W⟩:=a9v I.hok ht;have G:d.length=rows.length:=by have:=z.length;rw[dQ]at this;omega
 have b:A.length≤sizeLine:=by grind
 refine DictP.call_pairs (knd:=a0O X.prog X.w) (I.ok.hd hc) F (λj v e=>?_) (by grind) b λg t M U=>?_
 ·have l:d[j]?=some v:=by simpa using e
  obtain⟨r,D⟩:∃ r,rows[j]?=some r:=⟨rows[j]'(by grind),et _⟩;obtain⟨q,m,pa⟩:=h2 j r D;obtain⟨u,y,N⟩:=z.get (by rw[er,D];rfl);rw[l]at y;cases y;rw[N];exact⟨q,m,pa⟩
 ·have L:=W [] [] .nil;have S:=I.hok.fresh (dS s.heap.objs.size);have Y:=(a81 (P:=X.prog) (w:=X.w) (H:=λ_=>none) s.heap I.big).2.1;have R:=a7R rows [];have J:=
   I.laid (t':=t) U (dS _) (show ObjOk X.prog X.w _ g _ (.dK _) from ⟨by rw[ki];simp at R;omega,Y,_,L,M⟩)
  exact⟨.ref s.heap.objs.size,_,J,rfl,q _ S⟩
end
section
variable {P:j7}{w:World}{A:Around}{E:Value->Shared->Prop}{s:Shared}
theorem b0q (h64:ss.length<64)
  (hcol:∀ R:List Value->Shared->Prop,(∀ (g:Heap) (tk:Nat) (vs:List Value),(∀ b o,s.heap.get? b=some o->g.get? b=some o)->lJ vs ss->R vs { s with heap:=g,toks:=tk })->wpAny (model P w) A.in1 (collect (.ref r)) R E s)
  (h:∀ (g g':Heap) (tk:Nat) (out:List Value) (n:Nat) (ts:List Str),(∀ b o,s.heap.get? b=some o->g.get? b=some o)->(∀ b o,g.get? b=some o->g'.get? b=some o)->g'.get? g.objs.size=some { cls:=.type "list",data:=.seq out.toArray n } ->
   lJ out ts->ts.Perm ss->lC ts=true->Q (.ref g.objs.size) { s with heap:=g',toks:=tk }):wpAny (model P w) A (call (.builtin "sorted") [.ref r]) Q E s:=by
 refine Calls.call_function_entry kind_sorted plain_sorted entry_sorted (args_sorted1 _) ?_;refine jX (jY (jX (hcol _ λg t c u d=>?_)));have D:=d.length;have p:c.length≤sizeLine:=by rw[ki];omega
 refine jX (ng ?_ p);have j:(g.push _).get? g.objs.size=some (seqObj "list" c.toArray 0):=Heap.get?_push_size _ rfl;refine jX (kr (kD slot_list_sort ⟨_,j,rfl⟩ entry_list_sort (list_sort_treeK strKind_oneLt j d.keysOf (λB C k e=>keyKind_strs (by rw[<- e];exact d)) (by omega) λf q z=>⟨_,rfl,?_⟩) (args_list_sort _)));obtain⟨v,y,l,x⟩:=sorted_out_str d q z;have a:=sortedHeap_at (out:=(arrOf f).map (·.2)) j;obtain⟨n,a⟩:=a;refine jY ⟨_,rfl,h g _ t ((arrOf f).map (·.2)).toList n v u (λb o e=>?_) (by omega) y l x⟩;have i:=Heap.lt_size e;rw[sortedHeap_old (eu i) (by rw[Heap.size_push];exact gz i)];exact Heap.get?_push_of_some _ e
theorem b51 (hl:vs.length=ss.length) (h:∀ (i:Nat) (v:Value),vs[i]?=some v->∃ (x:Str) (t:Tok),ss[i]?=some x/\v=Value.str x t):lJ vs ss:=by
 induction vs generalizing ss with
 | nil=>cases ss with
  | nil=>exact .nil
  | cons _ _=>simp at hl
 | cons v vs ih=>cases ss with
  | nil=>simp at hl
  | cons x ss=>
   obtain⟨y,t,a,rfl⟩:=h 0 v rfl;cases a;exact .cons x t (ih (by simpa using hl) λi v e=>by simpa using h (i+1) v (by simpa using e))
end
section
variable {X:Cx}
def b3J (K:Fg):List V->Hp->VK->Prop:=λxs H Q=>∃ (p:Addr) (kvs:List (Key×V)) (ss:List Str),xs=[.ref p]/\H p=some (.dK kvs)/\kvs.map (·.1)=ss.map (λs=>(Sum.inr s:Key))/\ss.length<64 /\
 ∀ (t:Addr) (ts:List Str),H t=none->ts.Perm ss->lC ts=true->Q (.ref t) (upd H t (.lst (ts.map V.str)))
theorem a7S (hc:X.calm=true):CallR X (.builtin "sorted") (b3J X.K):=by
 intro o s σ H xs us Q I r h;obtain⟨p,kvs,ss,rfl,hd,L,D,q⟩:=h;obtain⟨u,rfl,S⟩:=a2P r;cases S;have hh:=I.ok.hd hc;refine b0q D (λR Y=>?_) λg g' c C n J k1 k2 e a1 E T=>?_
 ·obtain⟨z,lo,y,m,U⟩:=b24 I.hok hd;obtain⟨ep,F⟩:=U.dictAt;have M:y.length=ss.length:=by rw[<- m.length,<- dQ,L,dQ]
  refine PySem.W.kdu_collect (PySem.W.kdl_dict lo) hh F (by rw[M,ki];omega) λg c G kp d=>?_;refine Y g c G.toList kp (b51 (by rw[fj,d.1,M]) λi v e=>?_);obtain⟨k,x,e1,e2⟩:=d.2 i v (by simp_all);have j:y.map (·.1)=ss.map λs=>(Sum.inr s:Key):=by rw[<- m.keys];exact L
  have b:(ss.map λs=>(Sum.inr s:Key))[i]?=some k:=by rw[<- j,er,e1];rfl
  rw[er]at b;cases hn:ss[i]? with
  | none=>rw[hn]at b;cases b
  | some n=>
   rw[hn]at b;cases b;obtain⟨t,e4⟩:=Value.isStrOf_shape e2;exact⟨n,t,rfl,e4⟩
 ·have N:Inv X o σ H { s with heap:=g,toks:=c }:=I.kept k1;exact⟨.ref g.objs.size,_,N.laid k2 (dS _) (show ObjOk X.prog X.w _ g' _ (.lst _) from ⟨by rw[dQ,E.length_eq,ki];omega,C,n,a5s a1,e⟩),rfl,q _ J (N.hok.fresh (dS _)) E T⟩
end
end L2
namespace L3
open PySem PySem.Spec PyProof.Rows L2
section
variable {X:Cx}{K:Fg}{H:Hp}
theorem b3K (h:Rep K H (keyW k) v):v=kV k:=by
 match k,h with
 | .inl (some i),h=>rw[show keyW _=.int i from rfl,a0x]at h;exact h
 | .inl none,h=>rw[show keyW _=.non from rfl,a0U]at h;exact h
 | .inr x,h=>rw[show keyW _=.str x from rfl,a0K]at h;exact h
def prZ (r:Key×Z):Z:=.tup [keyW r.1,r.2]
theorem b2c:∀ {rows:List (Key×Z)}{vs:List V},Reps K H (rows.map prZ) vs->∃ rs:List (Addr×Key×V),vs=rs.map (λr=>V.ref r.1)/\(∀ r∈rs,H r.1=some (.tup [kV r.2.1,r.2.2]))/\rs.length=rows.length /\
  ∀ acc bcc,bcc.map (·.1)=acc.map (·.1)->Reps K H (acc.map (·.2)) (bcc.map (·.2))->(b0o rs bcc).map (·.1)=(a4E acc rows).map (·.1)/\Reps K H ((a4E acc rows).map (·.2)) ((b0o rs bcc).map (·.2))
 | [],vs,h=>by
  exact⟨[],h,λr e=>by simp at e,rfl,λf g b c=>⟨b,c⟩⟩
 | r::rows,vs,h=>by
  obtain⟨v,x,rfl,b,c⟩:=h;obtain⟨t,rfl,l,n,u⟩:=b2c c;obtain⟨a,y,rfl,p,e⟩:=b;obtain⟨z,w,rfl,j,i⟩:=e.two
  have:=b3K j
  subst this;refine⟨(a,r.1,w)::t,rfl,λq d=>?_,by rw[eF,eF,n],λf g b s=>?_⟩
  ·rcases dY.mp d with rfl | d
   ·grind
   ·exact l q d
  ·obtain⟨m,o⟩:=a9p i b s;exact u _ _ m o
def b4K:List Z->Hq->K3->Prop:=λxs G R=>match xs with
 | [.ref p]=>∃ rows:List (Key×Z),G p=some (.lst (rows.map prZ))/\rows.length≤1000/\∀ t,G t=none->R (.ref t) (put G t (.dK (a4E [] rows)))
 | _=>False
theorem b52 (hc:X.calm=true):a2M X (.type "dict") b4K:=a1c (b0p hc) λx H Q n=>n.un λg G R d b h q=>by
 match g,h with
 | [.ref p],h=>
  obtain⟨v,rfl,r⟩:=d.one;obtain⟨c,e,w,h⟩:=h;obtain⟨s,j,l⟩:=b _ _ e;obtain⟨d,rfl,f,u,k⟩:=b2c l;obtain⟨m,i⟩:=k [] [] rfl .nil;exact⟨p,d,by rw[r],SqL.of j,f,by omega,λt a=>q _ _ _ _ (h t (b.out a)) (by rw[a0H]) (b.set (.new a) ⟨_,a0y,m,i.mono (.new a)⟩) (.new a)⟩
theorem b53 (e:G p=some (.lst (rows.map prZ))) (z:rows.length≤1000) (h:∀ t,G t=none->R (.ref t) (put G t (.dK (a4E [] rows)))):b4K [.ref p] G R:=⟨rows,e,z,h⟩
def a9w:List Z->Hq->K3->Prop:=λxs G R=>match xs with
 | [.ref p]=>∃ (kvs:List (Key×Z)) (ss:List Str),G p=some (.dK kvs)/\kvs.map (·.1)=ss.map (λs=>(Sum.inr s:Key))/\ss.length<64/\∀ (t:Addr) (ts:List Str),G t=none->ts.Perm ss->lC ts=true->R (.ref t) (put G t (.lst (ts.map Z.str)))
 | _=>False
theorem b2d (hc:X.calm=true):a2M X (.builtin "sorted") a9w:=a1c (a7S hc) λy H Q l=>l.un λg G R f b h u=>by
 match g,h with
 | [.ref p],h=>
  obtain⟨v,rfl,r⟩:=f.one;obtain⟨w,i,e,m,d,h⟩:=h;obtain⟨q,s,j,x⟩:=b _ _ e;exact⟨p,q,i,by rw[r],s,by rw[j];exact m,d,λt c a n k=>u _ _ _ _ (h t c (b.out a) n k) (by rw[a0H]) (b.set (.new a) ⟨_,a0y,a4k c⟩) (.new a)⟩
theorem b0r (e:G p=some (.dK kvs)) (k:kvs.map (·.1)=ss.map (λs=>(Sum.inr s:Key))) (z:ss.length<64) (h:∀ (t:Addr) (ts:List Str),G t=none->ts.Perm ss->lC ts=true->R (.ref t) (put G t (.lst (ts.map Z.str)))):a9w [.ref p] G R:=⟨kvs,ss,e,k,z,h⟩
theorem Reps.dropLast:∀ {ws:List Z}{vs:List V},Reps K H ws vs->Reps K H ws.dropLast vs.dropLast
 | [],vs,h=>by rw[a0C]at h;subst h;exact .nil
 | [w],vs,h=>by
  obtain⟨v,rfl,_⟩:=h.one;exact .nil
 | w::w'::ws,vs,h=>by
  obtain⟨v,r,rfl,c,b⟩:=h;have a:=b;obtain⟨e,d,rfl,_,_⟩:=a;exact .cons c (Reps.dropLast b)
def zPop:Z->List Z->Hq->K3->Prop:=λx xs G R=>match x,xs with
 | .ref p,[]=>∃ ws y,G p=some (.lst ws)/\ws.getLast?=some y/\R y (put G p (.lst ws.dropLast))
 | _,_=>False
theorem c0A:MtQ X "list.pop" zPop:=a7p b65 λx q H Q m=>m.un λw j G R c f d h n=>by
 match w,j,h with
 | .ref p,[],h=>
  obtain⟨o,y,e,g,h⟩:=h;obtain⟨i,b,a⟩:=d _ _ e;rw[jG]at g;obtain⟨v,k,l⟩:=a.get g;exact⟨p,i,v,c,f,b,by rw[<- a.length];exact k,n _ _ _ _ h (l.mono (.lst b)) (d.set (.lst b) (a06 a.dropLast (.lst b))) (.lst b)⟩
theorem c0B (e:G p=some (.lst ws)) (hy:ws.getLast?=some y) (h:R y (put G p (.lst ws.dropLast))):zPop (.ref p) [] G R:=⟨ws,y,e,hy,h⟩
end
end L3
namespace L2
open PySem PySem.Spec PyProof.Rows Tim
end L2
namespace L3
open PySem PySem.Spec PyProof.Rows L2 Tim
end L3
namespace L2
open PySem PySem.Spec PyProof.Rows
end L2
namespace L3
open PySem PySem.Spec PyProof.Rows L2
end L3
set_option maxHeartbeats 4000000
namespace L3
set_option genInjectivity false in
inductive Ex4 {α0 α1 α2 α3:Type}(p:α0->α1->α2->α3->Prop):Prop
 | mk (a0:α0) (a1:α1) (a2:α2) (a3:α3) (h:p a0 a1 a2 a3):Ex4 p
set_option genInjectivity false in
inductive Ex5 {α0 α1 α2 α3 α4:Type}(p:α0->α1->α2->α3->α4->Prop):Prop
 | mk (a0:α0) (a1:α1) (a2:α2) (a3:α3) (a4:α4) (h:p a0 a1 a2 a3 a4):Ex5 p
set_option genInjectivity false in
inductive Ex6 {α0 α1 α2 α3 α4 α5:Type}(p:α0->α1->α2->α3->α4->α5->Prop):Prop
 | mk (a0:α0) (a1:α1) (a2:α2) (a3:α3) (a4:α4) (a5:α5) (h:p a0 a1 a2 a3 a4 a5):Ex6 p
set_option genInjectivity false in
inductive Ex8 {α0 α1 α2 α3 α4 α5 α6 α7:Type}(p:α0->α1->α2->α3->α4->α5->α6->α7->Prop):Prop
 | mk (a0:α0) (a1:α1) (a2:α2) (a3:α3) (a4:α4) (a5:α5) (a6:α6) (a7:α7) (h:p a0 a1 a2 a3 a4 a5 a6 a7):Ex8 p
set_option genInjectivity false in
inductive Ex9 {α0 α1 α2 α3 α4 α5 α6 α7 α8:Type}(p:α0->α1->α2->α3->α4->α5->α6->α7->α8->Prop):Prop
 | mk (a0:α0) (a1:α1) (a2:α2) (a3:α3) (a4:α4) (a5:α5) (a6:α6) (a7:α7) (a8:α8) (h:p a0 a1 a2 a3 a4 a5 a6 a7 a8):Ex9 p
set_option genInjectivity false in
inductive Ex10 {α0 α1 α2 α3 α4 α5 α6 α7 α8 α9:Type}(p:α0->α1->α2->α3->α4->α5->α6->α7->α8->α9->Prop):Prop
 | mk (a0:α0) (a1:α1) (a2:α2) (a3:α3) (a4:α4) (a5:α5) (a6:α6) (a7:α7) (a8:α8) (a9:α9) (h:p a0 a1 a2 a3 a4 a5 a6 a7 a8 a9):Ex10 p
set_option genInjectivity false in
inductive Ex15 {α0 α1 α2 α3 α4 α5 α6 α7 α8 α9 α10 α11 α12 α13 α14:Type}(p:α0->α1->α2->α3->α4->α5->α6->α7->α8->α9->α10->α11->α12->α13->α14->Prop):Prop
 | mk (a0:α0) (a1:α1) (a2:α2) (a3:α3) (a4:α4) (a5:α5) (a6:α6) (a7:α7) (a8:α8) (a9:α9) (a10:α10) (a11:α11) (a12:α12) (a13:α13) (a14:α14) (h:p a0 a1 a2 a3 a4 a5 a6 a7 a8 a9 a10 a11 a12 a13 a14):Ex15 p
end L3
namespace Lw
open PySem L2 L3
def top (i:Nat):Stmt:=PySem.Challenge.pw_twotimes_k41_joined_by_key.main.body.getD i (.Pass ⟨0,0,0,0⟩)
abbrev a2C:Stmt:=top 15
abbrev a2D:Stmt:=top 16
abbrev a2h:Stmt:=top 17
abbrev a1U:Stmt:=top 18
abbrev a19:Stmt:=top 22
abbrev a0Y:Stmt:=top 27
abbrev a2E:Stmt:=top 23
abbrev a4l:Stmt:=top 20
abbrev a1h:Stmt:=top 24
abbrev a3w:Stmt:=top 26
abbrev a2F:Stmt:=top 25
abbrev a1u:Stmt:=top 21
abbrev a1i:Stmt:=top 35
abbrev a0Z:Stmt:=a3n (top 39) 7
abbrev a2i:Stmt:=top 33
abbrev a0S:Stmt:=a3n (top 39) 9
abbrev a1V:Stmt:=a3n (top 39) 5
abbrev a1j:Stmt:=a3n (top 39) 6
abbrev a2a:Stmt:=top 29
abbrev a4m:Stmt:=top 31
abbrev a1v:Stmt:=top 34
abbrev a1w:Stmt:=top 37
abbrev a1W:Stmt:=top 38
abbrev a5u:Stmt:=top 41
abbrev a5v:Stmt:=top 42
abbrev a6Q:Stmt:=top 43
abbrev a5w:Stmt:=top 44
abbrev a3x:Stmt:=top 45
abbrev a5x:Stmt:=top 46
abbrev b54:Stmt:=top 47
abbrev a8H:Stmt:=top 48
abbrev a6R:Stmt:=top 49
abbrev b55:Stmt:=top 50
abbrev a8I:Stmt:=top 51
abbrev a5y:Stmt:=top 52
abbrev a1G:Stmt:=a3n (top 39) 0
abbrev a1x:Stmt:=a3n (top 39) 8
abbrev a2V:Stmt:=a3n (top 39) 1
abbrev a6S:Stmt:=top 53
theorem a03 (hr:Room k A):A.units+66<cLine:=by have:=hr.un;omega
local macro_rules | `(tactic| walk_at "sc")=>`(tactic| exact⟨rfl,rfl,rfl,by decide +kernel,rfl,by decide +kernel,by decide +kernel⟩)
theorem a7T:FnScope ["thing"] ["thing"] (a0i a2C):=by walk_at "sc"
theorem a5T:FnScope ["thing"] ["thing"] (a0i a2D):=by walk_at "sc"
theorem a5z:FnScope ["begin","end"] ["begin","end"] (a0i a2h):=by walk_at "sc"
theorem a4N:FnScope ["end","other"] ["end","other"] (a0i a1U):=by walk_at "sc"
theorem a6T:FnScope ["line","moment"] ["line","moment"] (a0i a19):=by walk_at "sc"
theorem sc_p_with_alike_joined:FnScope ["pieces","told","piece"] ["pieces"] (a0i a0Y):=by walk_at "sc"
theorem a7U:FnScope ["line","moment"] ["line","moment"] (a0i a2E):=by walk_at "sc"
theorem sc_p_put_on:FnScope ["line","begin","end","worth","pieces"] ["line","begin","end","worth"] (a0i a4l):=by walk_at "sc"
theorem sc_p_bounds_of:FnScope ["stretches","begins","ends"] ["stretches"] (a0i a1h):=by walk_at "sc"
theorem a7V:FnScope ["stretch","moment"] ["stretch","moment"] (a0i a3w):=by walk_at "sc"
theorem sc_p_worths_in:FnScope ["line","moments","worths","at","moment"] ["line","moments"] (a0i a2F):=by walk_at "sc"
theorem sc_p_laid_together:FnScope ["line","other","bounds","worths","other_worths","ends","pieces","begin","end","worth","other_worth"] ["line","other"] (a0i a1u):=by walk_at "sc"
theorem a3y:FnScope ["knowing","last"] ["knowing","last"] (a0i a1i):=by walk_at "sc"
theorem a2N:FnScope ["self","knowing"] ["self","knowing"] (a0i a0Z):=by walk_at "sc"
theorem a5A:FnScope ["thing"] ["thing"] (a0i a2i):=by walk_at "sc"
theorem sc_Sheet_known_line:FnScope ["self","key","knowing","since","line"] ["self","key","knowing"] (a0i a0S):=by walk_at "sc"
theorem a4O:FnScope ["self","key","knowing"] ["self","key","knowing"] (a0i a1V):=by walk_at "sc"
theorem a4P:FnScope ["self","knowing"] ["self","knowing"] (a0i a1j):=by walk_at "sc"
theorem a6U:FnScope ["sheet","knowing"] ["sheet","knowing"] (a0i a2a):=by walk_at "sc"
theorem sc_p_by_key:FnScope ["sheet","knowing","other","other_knowing","table","other_table","told","key","begin","end","worth","other_worth"] ["sheet","knowing","other","other_knowing"] (a0i a4m):=by walk_at "sc"
theorem a3S:FnScope ["begin","end"] ["begin","end"] (a0i a1v):=by walk_at "sc"
theorem sc_p_check_telling:FnScope ["telling","name"] ["telling"] (a0i a1w):=by walk_at "sc"
theorem sc_p_line_behind:FnScope ["line","telling","worth"] ["line","telling"] (a0i a1W):=by walk_at "sc"
theorem b0s:FnScope ["script","k"] ["script","k"] (a0i a5u):=by walk_at "sc"
theorem sc_tumbled:FnScope ["cell","k","stir"] ["cell","k"] (a0i a5v):=by walk_at "sc"
theorem sc_words:FnScope ["cell","letters","word","at","first","last","moved"] ["cell"] (a0i a6Q):=by walk_at "sc"
theorem sc_stretch:FnScope ["cell","kind","begin"] ["cell"] (a0i a5w):=by walk_at "sc"
theorem sc_by_digits:FnScope ["cell","keys","worths","begin","end"] ["cell","keys","worths"] (a0i a3x):=by walk_at "sc"
theorem sc_telling:FnScope ["cell","keys","worths","key","begin","end"] ["cell","keys","worths"] (a0i a5x):=by walk_at "sc"
theorem b8N:FnScope ["telling","moment"] ["telling","moment"] (a0i b54):=by walk_at "sc"
theorem sc_worth:FnScope ["tellings","key","moment","found","telling"] ["tellings","key","moment"] (a0i a8H):=by walk_at "sc"
theorem sc_points:FnScope ["tellings","found","telling"] ["tellings"] (a0i a6R):=by walk_at "sc"
theorem sc_due:FnScope ["one","other","keys","points","rows","key","at","worth","another","end","row"] ["one","other","keys"] (a0i b55):=by walk_at "sc"
theorem sc_right:FnScope ["sheets","tellings","knowings","keys","due","found","row"] ["sheets","tellings","knowings","keys"] (a0i a8I):=by walk_at "sc"
theorem sc_refused:FnScope ["sheets","knowings","right","other","e"] ["sheets","knowings"] (a0i a5y):=by walk_at "sc"
theorem a4n:FnScope ["self"] ["self"] (a0i a1G):=by walk_at "sc"
theorem a3T:FnScope ["self","key","line"] ["self","key","line"] (a0i a1x):=by walk_at "sc"
theorem sc_Sheet_tell:FnScope ["self","telling","key","line"] ["self","telling"] (a0i a2V):=by walk_at "sc"
theorem sc_law:FnScope ["script","keys","worths","sheets","tellings","cell","at","xs","last","k","knowings","own","bad"] ["script"] (a0i a6S):=by walk_at "sc"
theorem c0C:fY (α:=Str) ["sign"]:=by decide +kernel
theorem b0t:fY (α:=Str) ["begin","end","worth","moment"]:=by decide +kernel
theorem a6V:fY (α:=Str) ["begin","end","worth"]:=by decide +kernel
theorem c0D:fY (α:=Str) ["key","knowing","self"]:=by decide +kernel
theorem c0E:fY (α:=Str) ["key","knowing","sheet"]:=by decide +kernel
theorem c0F:fY (α:=Str) ["k","letters","cell"]:=by decide +kernel
theorem c0G:fY (α:=Str) ["k","script"]:=by decide +kernel
set_option genInjectivity false in
structure Ad where
 f0:Addr
 d0:j9
 f1:Addr
 d1:j9
 f2:Addr
 d2:j9
 f3:Addr
 d3:j9
 f4:Addr
 d4:j9
 f5:Addr
 d5:j9
 f6:Addr
 d6:j9
 f7:Addr
 d7:j9
 f8:Addr
 d8:j9
 f9:Addr
 d9:j9
 f10:Addr
 d10:j9
 f11:Addr
 d11:j9
 f12:Addr
 d12:j9
 f13:Addr
 d13:j9
 f14:Addr
 d14:j9
 f15:Addr
 d15:j9
 f16:Addr
 d16:j9
 f17:Addr
 d17:j9
 f18:Addr
 d18:j9
 f19:Addr
 d19:j9
 f20:Addr
 d20:j9
 f21:Addr
 d21:j9
 f22:Addr
 d22:j9
 f23:Addr
 d23:j9
 f24:Addr
 d24:j9
 f25:Addr
 d25:j9
 f26:Addr
 d26:j9
 f27:Addr
 d27:j9
 f28:Addr
 d28:j9
 f29:Addr
 d29:j9
 f30:Addr
 d30:j9
 f31:Addr
 d31:j9
 f32:Addr
 d32:j9
 f33:Addr
 d33:j9
 f34:Addr
 d34:j9
 f35:Addr
 d35:j9
 f36:Addr
 d36:j9
 f37:Addr
 d37:j9
 f38:Addr
 d38:j9
 c_Sheet:Addr
 x_NoKnowing:Addr
 x_NoName:Addr
 x_NoStretch:Addr
 x_TimesError:Addr
 x_Broken:Addr
 x_Forgotten:Addr
 x_NoFit:Addr
 x_NoLog:Addr
 x_NoRow:Addr
 x_NoSheet:Addr
structure Fns (K:Fg) (a:Ad):Prop where
 n0:Fun K "is_name" "is_name" a2C a.f0 a.d0
 n1:Fun K "is_moment" "is_moment" a2D a.f1 a.d1
 n2:Fun K "is_stretch" "is_stretch" a2h a.f2 a.d2
 n3:Fun K "earlier_end" "earlier_end" a1U a.f3 a.d3
 n4:Fun K "ahead_of" "ahead_of" a19 a.f4 a.d4
 n5:Fun K "with_alike_joined" "with_alike_joined" a0Y a.f5 a.d5
 n6:Fun K "from_on" "from_on" a2E a.f6 a.d6
 n7:Fun K "put_on" "put_on" a4l a.f7 a.d7
 n8:Fun K "bounds_of" "bounds_of" a1h a.f8 a.d8
 n9:Fun K "is_over" "is_over" a3w a.f9 a.d9
 n10:Fun K "worths_in" "worths_in" a2F a.f10 a.d10
 n11:Fun K "laid_together" "laid_together" a1u a.f11 a.d11
 n12:Fun K "check_in_reach" "check_in_reach" a1i a.f12 a.d12
 n13:Fun K "check_knowing" "Sheet.check_knowing" a0Z a.f13 a.d13
 n14:Fun K "check_name" "check_name" a2i a.f14 a.d14
 n15:Fun K "known_line" "Sheet.known_line" a0S a.f15 a.d15
 n16:Fun K "line_at" "Sheet.line_at" a1V a.f16 a.d16
 n17:Fun K "keys_at" "Sheet.keys_at" a1j a.f17 a.d17
 n18:Fun K "table_at" "table_at" a2a a.f18 a.d18
 n19:Fun K "by_key" "by_key" a4m a.f19 a.d19
 n20:Fun K "check_stretch" "check_stretch" a1v a.f20 a.d20
 n21:Fun K "check_telling" "check_telling" a1w a.f21 a.d21
 n22:Fun K "line_behind" "line_behind" a1W a.f22 a.d22
 n23:Fun K "_law_cell_at" "_law_cell_at" a5u a.f23 a.d23
 n24:Fun K "_law_tumbled" "_law_tumbled" a5v a.f24 a.d24
 n25:Fun K "_law_words" "_law_words" a6Q a.f25 a.d25
 n26:Fun K "_law_stretch" "_law_stretch" a5w a.f26 a.d26
 n27:Fun K "_law_by_digits" "_law_by_digits" a3x a.f27 a.d27
 n28:Fun K "_law_telling" "_law_telling" a5x a.f28 a.d28
 n29:Fun K "_law_has" "_law_has" b54 a.f29 a.d29
 n30:Fun K "_law_worth" "_law_worth" a8H a.f30 a.d30
 n31:Fun K "_law_points" "_law_points" a6R a.f31 a.d31
 n32:Fun K "_law_due" "_law_due" b55 a.f32 a.d32
 n33:Fun K "_law_right" "_law_right" a8I a.f33 a.d33
 n34:Fun K "_law_refused" "_law_refused" a5y a.f34 a.d34
 n35:Fun K "__init__" "Sheet.__init__" a1G a.f35 a.d35
 n36:Fun K "keep_line" "Sheet.keep_line" a1x a.f36 a.d36
 n37:Fun K "tell" "Sheet.tell" a2V a.f37 a.d37
 n38:Fun K "law" "law" a6S a.f38 a.d38
theorem a7W {K:Fg}{a:Ad}(F:Fns K a):Binds K a.d0 ["thing"] []:=F.n0.binds λ_ _ _ _ _ _=>lnS λ_=>ln0 rfl
theorem a3h {K:Fg}{a:Ad}(F:Fns K a):Binds K a.d1 ["thing"] []:=F.n1.binds λ_ _ _ _ _ _=>lnS λ_=>ln0 rfl
theorem a5B {K:Fg}{a:Ad}(F:Fns K a):Binds K a.d2 ["begin","end"] []:=F.n2.binds λ_ _ _ _ _ _=>lnS λ_=>lnS λ_=>ln0 rfl
theorem a4Q {K:Fg}{a:Ad}(F:Fns K a):Binds K a.d3 ["end","other"] []:=F.n3.binds λ_ _ _ _ _ _=>lnS λ_=>lnS λ_=>ln0 rfl
theorem a6W {K:Fg}{a:Ad}(F:Fns K a):Binds K a.d4 ["line","moment"] []:=F.n4.binds λ_ _ _ _ _ _=>lnS λ_=>lnS λ_=>ln0 rfl
theorem a1n {K:Fg}{a:Ad}(F:Fns K a):Binds K a.d5 ["pieces"] []:=F.n5.binds λ_ _ _ _ _ _=>lnS λ_=>ln0 rfl
theorem a7X {K:Fg}{a:Ad}(F:Fns K a):Binds K a.d6 ["line","moment"] []:=F.n6.binds λ_ _ _ _ _ _=>lnS λ_=>lnS λ_=>ln0 rfl
theorem a8J {K:Fg}{a:Ad}(F:Fns K a):Binds K a.d7 ["line","begin","end","worth"] []:=F.n7.binds λ_ _ _ _ _ _=>lnS λ_=>lnS λ_=>lnS λ_=>lnS λ_=>ln0 rfl
theorem a5U {K:Fg}{a:Ad}(F:Fns K a):Binds K a.d8 ["stretches"] []:=F.n8.binds λ_ _ _ _ _ _=>lnS λ_=>ln0 rfl
theorem a7Y {K:Fg}{a:Ad}(F:Fns K a):Binds K a.d9 ["stretch","moment"] []:=F.n9.binds λ_ _ _ _ _ _=>lnS λ_=>lnS λ_=>ln0 rfl
theorem a3i {K:Fg}{a:Ad}(F:Fns K a):Binds K a.d10 ["line","moments"] []:=F.n10.binds λ_ _ _ _ _ _=>lnS λ_=>lnS λ_=>ln0 rfl
theorem a3U {K:Fg}{a:Ad}(F:Fns K a):Binds K a.d11 ["line","other"] []:=F.n11.binds λ_ _ _ _ _ _=>lnS λ_=>lnS λ_=>ln0 rfl
theorem a3z {K:Fg}{a:Ad}(F:Fns K a):Binds K a.d12 ["knowing","last"] []:=F.n12.binds λ_ _ _ _ _ _=>lnS λ_=>lnS λ_=>ln0 rfl
theorem a1o {K:Fg}{a:Ad}(F:Fns K a):Binds K a.d13 ["self","knowing"] []:=F.n13.binds λ_ _ _ _ _ _=>lnS λ_=>lnS λ_=>ln0 rfl
theorem a2W {K:Fg}{a:Ad}(F:Fns K a):Binds K a.d14 ["thing"] []:=F.n14.binds λ_ _ _ _ _ _=>lnS λ_=>ln0 rfl
theorem a07 {K:Fg}{a:Ad}(F:Fns K a):Binds K a.d15 ["self","key","knowing"] []:=F.n15.binds λ_ _ _ _ _ _=>lnS λ_=>lnS λ_=>lnS λ_=>ln0 rfl
theorem a4R {K:Fg}{a:Ad}(F:Fns K a):Binds K a.d16 ["self","key","knowing"] []:=F.n16.binds λ_ _ _ _ _ _=>lnS λ_=>lnS λ_=>lnS λ_=>ln0 rfl
theorem a4S {K:Fg}{a:Ad}(F:Fns K a):Binds K a.d17 ["self","knowing"] []:=F.n17.binds λ_ _ _ _ _ _=>lnS λ_=>lnS λ_=>ln0 rfl
theorem a3V {K:Fg}{a:Ad}(F:Fns K a):Binds K a.d18 ["sheet","knowing"] []:=F.n18.binds λ_ _ _ _ _ _=>lnS λ_=>lnS λ_=>ln0 rfl
theorem a3A {K:Fg}{a:Ad}(F:Fns K a):Binds K a.d19 ["sheet","knowing","other","other_knowing"] []:=F.n19.binds λ_ _ _ _ _ _=>lnS λ_=>lnS λ_=>lnS λ_=>lnS λ_=>ln0 rfl
theorem a3W {K:Fg}{a:Ad}(F:Fns K a):Binds K a.d20 ["begin","end"] []:=F.n20.binds λ_ _ _ _ _ _=>lnS λ_=>lnS λ_=>ln0 rfl
theorem a3X {K:Fg}{a:Ad}(F:Fns K a):Binds K a.d21 ["telling"] []:=F.n21.binds λ_ _ _ _ _ _=>lnS λ_=>ln0 rfl
theorem a4T {K:Fg}{a:Ad}(F:Fns K a):Binds K a.d22 ["line","telling"] []:=F.n22.binds λ_ _ _ _ _ _=>lnS λ_=>lnS λ_=>ln0 rfl
theorem a4o {K:Fg}{a:Ad}(F:Fns K a):Binds K a.d23 ["script","k"] []:=F.n23.binds λ_ _ _ _ _ _=>lnS λ_=>lnS λ_=>ln0 rfl
theorem a0z {K:Fg}{a:Ad}(F:Fns K a):Binds K a.d24 ["cell","k"] []:=F.n24.binds λ_ _ _ _ _ _=>lnS λ_=>lnS λ_=>ln0 rfl
theorem a9x {K:Fg}{a:Ad}(F:Fns K a):Binds K a.d25 ["cell"] []:=F.n25.binds λ_ _ _ _ _ _=>lnS λ_=>ln0 rfl
theorem b0u {K:Fg}{a:Ad}(F:Fns K a):Binds K a.d26 ["cell"] []:=F.n26.binds λ_ _ _ _ _ _=>lnS λ_=>ln0 rfl
theorem a7Z {K:Fg}{a:Ad}(F:Fns K a):Binds K a.d27 ["cell","keys","worths"] []:=F.n27.binds λ_ _ _ _ _ _=>lnS λ_=>lnS λ_=>lnS λ_=>ln0 rfl
theorem b0v {K:Fg}{a:Ad}(F:Fns K a):Binds K a.d28 ["cell","keys","worths"] []:=F.n28.binds λ_ _ _ _ _ _=>lnS λ_=>lnS λ_=>lnS λ_=>ln0 rfl
theorem b8O {K:Fg}{a:Ad}(F:Fns K a):Binds K a.d29 ["telling","moment"] []:=F.n29.binds λ_ _ _ _ _ _=>lnS λ_=>lnS λ_=>ln0 rfl
theorem a9y {K:Fg}{a:Ad}(F:Fns K a):Binds K a.d30 ["tellings","key","moment"] []:=F.n30.binds λ_ _ _ _ _ _=>lnS λ_=>lnS λ_=>lnS λ_=>ln0 rfl
theorem a70 {K:Fg}{a:Ad}(F:Fns K a):Binds K a.d31 ["tellings"] []:=F.n31.binds λ_ _ _ _ _ _=>lnS λ_=>ln0 rfl
theorem b8P {K:Fg}{a:Ad}(F:Fns K a):Binds K a.d32 ["one","other","keys"] []:=F.n32.binds λ_ _ _ _ _ _=>lnS λ_=>lnS λ_=>lnS λ_=>ln0 rfl
theorem a9z {K:Fg}{a:Ad}(F:Fns K a):Binds K a.d33 ["sheets","tellings","knowings","keys"] []:=F.n33.binds λ_ _ _ _ _ _=>lnS λ_=>lnS λ_=>lnS λ_=>lnS λ_=>ln0 rfl
theorem a6l {K:Fg}{a:Ad}(F:Fns K a):Binds K a.d34 ["sheets","knowings"] []:=F.n34.binds λ_ _ _ _ _ _=>lnS λ_=>lnS λ_=>ln0 rfl
theorem a2p {K:Fg}{a:Ad}(F:Fns K a):Binds K a.d35 ["self"] []:=F.n35.binds λ_ _ _ _ _ _=>lnS λ_=>ln0 rfl
theorem a3Y {K:Fg}{a:Ad}(F:Fns K a):Binds K a.d36 ["self","key","line"] []:=F.n36.binds λ_ _ _ _ _ _=>lnS λ_=>lnS λ_=>lnS λ_=>ln0 rfl
theorem a6X {K:Fg}{a:Ad}(F:Fns K a):Binds K a.d37 ["self","telling"] []:=F.n37.binds λ_ _ _ _ _ _=>lnS λ_=>lnS λ_=>ln0 rfl
def FE (K:Fg) (x q:Str) (st:Stmt) (f:Addr):Prop:=∃ d,Fun K x q st f d
theorem fe_mk {K:Fg}{x qual:Str}{st:Stmt}{f:Addr}{oc:Value}{od an:Option Addr}{osl:Array (Option Value)}{kV doc pm cdv ct:Value}(l:K.lookup f=some ⟨oc,od,.func (PySem.W.fnOf x qual (a3o st) (a2e st) (a0i st) .none kV doc pm an cdv ct),osl⟩) (c:PySem.W.codeIn K cdv qual=true) (k:PySem.W.keepIn K (.ref f)=true):FE K x qual st f:=⟨_,b4o l c k⟩
structure Txt (K:Fg) (mg:Str->Option Value) (a:Ad):Prop where
 m0:mg "is_name"=some (.ref a.f0)
 m1:mg "is_moment"=some (.ref a.f1)
 m2:mg "is_stretch"=some (.ref a.f2)
 m3:mg "earlier_end"=some (.ref a.f3)
 m4:mg "ahead_of"=some (.ref a.f4)
 m5:mg "with_alike_joined"=some (.ref a.f5)
 m6:mg "from_on"=some (.ref a.f6)
 m7:mg "put_on"=some (.ref a.f7)
 m8:mg "bounds_of"=some (.ref a.f8)
 m9:mg "is_over"=some (.ref a.f9)
 m10:mg "worths_in"=some (.ref a.f10)
 m11:mg "laid_together"=some (.ref a.f11)
 m12:mg "check_in_reach"=some (.ref a.f12)
 mt13:Meth K a.c_Sheet "check_knowing" a.f13
 m14:mg "check_name"=some (.ref a.f14)
 mt15:Meth K a.c_Sheet "known_line" a.f15
 mt16:Meth K a.c_Sheet "line_at" a.f16
 mt17:Meth K a.c_Sheet "keys_at" a.f17
 m18:mg "table_at"=some (.ref a.f18)
 m19:mg "by_key"=some (.ref a.f19)
 m20:mg "check_stretch"=some (.ref a.f20)
 m21:mg "check_telling"=some (.ref a.f21)
 m22:mg "line_behind"=some (.ref a.f22)
 m23:mg "_law_cell_at"=some (.ref a.f23)
 m24:mg "_law_tumbled"=some (.ref a.f24)
 m25:mg "_law_words"=some (.ref a.f25)
 m26:mg "_law_stretch"=some (.ref a.f26)
 m27:mg "_law_by_digits"=some (.ref a.f27)
 m28:mg "_law_telling"=some (.ref a.f28)
 m29:mg "_law_has"=some (.ref a.f29)
 m30:mg "_law_worth"=some (.ref a.f30)
 m31:mg "_law_points"=some (.ref a.f31)
 m32:mg "_law_due"=some (.ref a.f32)
 m33:mg "_law_right"=some (.ref a.f33)
 m34:mg "_law_refused"=some (.ref a.f34)
 mt35:Meth K a.c_Sheet "__init__" a.f35
 mt36:Meth K a.c_Sheet "keep_line" a.f36
 mt37:Meth K a.c_Sheet "tell" a.f37
 m38:mg "law"=some (.ref a.f38)
 b_all:mg "all"=none
 b_isinstance:mg "isinstance"=none
 b_str:mg "str"=none
 b_len:mg "len"=none
 b_bool:mg "bool"=none
 b_int:mg "int"=none
 b_min:mg "min"=none
 b_max:mg "max"=none
 b_sorted:mg "sorted"=none
 b_set:mg "set"=none
 b_zip:mg "zip"=none
 b_reversed:mg "reversed"=none
 b_dict:mg "dict"=none
 b_range:mg "range"=none
 b_list:mg "list"=none
 b_tuple:mg "tuple"=none
 b_ValueError:mg "ValueError"=none
 cl_Sheet:Cls K a.c_Sheet
 mg_Sheet:mg "Sheet"=some (.ref a.c_Sheet)
 mk_Sheet:Mk K a.c_Sheet a.f35
 na_last:NoAttr K a.c_Sheet "last"
 na_kept:NoAttr K a.c_Sheet "kept"
 x_NoKnowing:mg "NoKnowing"=some (.ref a.x_NoKnowing)
 x_NoName:mg "NoName"=some (.ref a.x_NoName)
 x_NoStretch:mg "NoStretch"=some (.ref a.x_NoStretch)
 x_TimesError:mg "TimesError"=some (.ref a.x_TimesError)
 x_Broken:mg "Broken"=some (.ref a.x_Broken)
 x_Forgotten:mg "Forgotten"=some (.ref a.x_Forgotten)
 x_NoFit:mg "NoFit"=some (.ref a.x_NoFit)
 x_NoLog:mg "NoLog"=some (.ref a.x_NoLog)
 x_NoRow:mg "NoRow"=some (.ref a.x_NoRow)
 x_NoSheet:mg "NoSheet"=some (.ref a.x_NoSheet)
 xi_NoKnowing:PySem.W.excIn K a.x_NoKnowing veM "ValueError.__new__"=true
 xi_NoName:PySem.W.excIn K a.x_NoName veM "ValueError.__new__"=true
 xi_NoStretch:PySem.W.excIn K a.x_NoStretch veM "ValueError.__new__"=true
 xm_NoKnowing_TimesError:PySem.W.exmOne K (.ref a.x_NoKnowing) (.ref a.x_TimesError)=some true
 xk_NoKnowing:ExK K a.x_NoKnowing
 kt_NoKnowing_ValueError:PySem.W.kitOne K (.ref a.x_NoKnowing) (.type "ValueError")=some true
 ka_NoKnowing_0:PySem.W.kitAny K (.ref a.x_NoKnowing) [.ref a.x_Broken,.ref a.x_Forgotten,.ref a.x_NoFit,.ref a.x_NoLog,.ref a.x_NoName,.ref a.x_NoRow,.ref a.x_NoSheet,.ref a.x_NoStretch]=some false
 c_LONGEST_NAME:∃ t,mg "LONGEST_NAME"=some (.int 8 t)
 c_LAST_MOMENT:∃ t,mg "LAST_MOMENT"=some (.int 1000000000000 t)
theorem a9A (hg:Gl X x) (hm:∃ t,X.mg x=some (.int i t)) (hd:(x==("__debug__":Str))=false:=by decide):PE X (.Name x pos) (tC (.int i)):=by
 obtain⟨t,h⟩:=hm;exact b0J hg h ⟨t,rfl⟩ hd
theorem c0H (h:t σ G λws G1=>∃ (p:Addr) (ns:List Int),ws=[.ref p]/\G1 p=some (.lst (ns.map Z.int))/\ns.length≤1000 /\
  ∀ (t:Addr) (ks:List Int),G1 t=none->ks.Pairwise (·<·)->(∀ x,x∈ks↔x∈ns)->ks.length≤ns.length->R (.ref t) (put G1 t (.lst (ks.map Z.int)))):uSS t σ G R:=h
def a71:P3:=λws G R=>∃ a ns,ws=[.scr a ns]/\ns.length≤63/\∀ G',R (.bl true) G'
theorem b2e {K:Fg}{H:Hp}{E:XK}(a:Addr) (ns:List Int) (hl:ns.length≤63) (f:Fz K H a (ns.map V.int)):lowP K a71 [.ref a] H (λv _=>v=.bl true) E:=
 ⟨[.scr a ns],λ_=>none,λw _=>w=.bl true,.cons (by rw[a4e];exact⟨rfl,f⟩) .nil,λ_ _ e=>(nomatch e),⟨a,ns,rfl,hl,λ_=>rfl⟩,λw G v b e r _ _=>by subst e;rw[a0P]at r;exact r⟩
theorem lenK (h:Nat.ble n 1000=true):n≤sizeLine:=fh (a0t (jm h))
theorem a1X (h:n≤1000):n≤sizeLine:=fh (a0t h)
def b8Q (x w:Int):Prop:=w=0\/(w=1/\0≤x/\x<536870909)
abbrev RowO (x w:Int):O:=.lst [.int x,.int w]
def RowAt (G:Hq) (r:Addr):Prop:=∃ x w,G r=some (RowO x w)/\b8Q x w
local macro_rules | `(tactic| walk_at "sd")=>`(tactic| first | assumption | (exact a1X (by first | decide | omega | (simp;done) | (simp;omega))) | (exact a0t (by first | decide | omega | (simp;done) | (simp;omega))) | decide | omega)
local macro_rules | `(tactic| walk_at "hp")=>`(tactic| first | assumption | exact a0e | (refine a0l ?_ (by assumption);walk_at "hp") | (refine Sm.get (by assumption) ?_;walk_at "hp"))
local macro_rules | `(tactic| walk_at "go1")=>`(tactic| with_reducible (first
 | refine b9Z ?_ | refine b9Q (by with_unfolding_all rfl) ?_ | refine i_c ?_ | refine i_op ?_ | refine i_un ?_ | refine b7Q ?_ | refine b5t ?_ | refine b9R ?_ | refine i_or ?_ | refine b9S ?_ | refine b7R ?_ | refine b9T ?_ | refine b7S ?_ | refine i_if ?_
 | refine b9U ?_ | refine i_truI ?_ | refine i_truB ?_ | refine i_sl ?_ | refine b3m ?_ | refine b7T ?_ | refine b9V ?_ | refine b7U ?_ | refine b9W ?_ | refine b9X ?_ | refine i_cb ?_ | refine c0H ?_ | refine b9Y ?_ | refine i_bm ?_ | refine b7V ?_
 | refine b7W ?_ | refine b7X ?_ | refine b90 ?_ | refine i_retN ?_ | refine b91 ?_ | refine b92 ?_ | refine b93 ?_ | refine b94 (by with_unfolding_all rfl) ?_ | refine i_break ?_ | refine i_cont ?_ | refine b76 ?_ | refine c0d ?_ | refine i_iL ?_ | refine i_iT ?_ | refine i_iS ?_ | refine c0e ?_ | refine i_iR2 ?_ | refine i_wkC ?_ | refine c0f ?_ | refine c0g ?_ | refine i_tt ?_
 | refine b7Y ?_ | refine i_I0 ?_ | refine b95 ?_ | refine i_CI ?_ | refine i_CS ?_ | refine b96 ?_ | refine i_isB ?_ | refine b70 ?_ | refine i_eqB ?_ | refine b71 ?_ | refine b97 ?_ | refine i_inS ?_ | refine b73 ?_ | refine i_nm ?_ | refine a1S (by with_unfolding_all rfl) ?_ | refine i_lenT ?_ | refine b74 ?_ | refine i_mm ?_ | refine c0c ?_
 | refine ifT ?_ | refine ifF ?_ | refine ifNN ?_ | refine ifNI ?_ | refine ifNS ?_ | refine ifNU ?_ | refine ifMN ?_ | refine ifMI ?_ | refine ifMS ?_ | refine ifMU ?_ | refine a1S at0 ?_ | refine a1S at1 ?_ | refine a1S at2 ?_ | refine b8n ?_ | refine b8o ?_ | refine i_iR3 ?_ | refine b8p ?_ | refine b8s ?_ | refine b5N ?_ | refine b5O ?_ | refine b8t ?_ | refine b8u ?_ | refine i_disp ?_ | refine i_pcons ?_ | refine i_pnil ?_ | refine⟨_,rfl,?_⟩))
local macro_rules | `(tactic| walk_at "go")=>`(tactic| repeat walk_at "go1")
def a6m:P3:=λws G R=>∃ p ns k,ws=[.scr p ns,.int k]/\0≤k/\∀ i,R (.int i) G
theorem a8K (h:a6m ws G R):ws.length=2:=by obtain⟨_,_,_,rfl,_⟩:=h;rfl
variable {P:j7}{w:World}{K:Fg}{mg:Str->Option Value}{base:Heap}{a:Ad}
theorem b0w (F:Fns K a) (T:Txt K mg a):FnOk P w K mg base CX0 1 a.f23 a.d23 ["script","k"] (lowP K a6m):=by
 refine fn3 F.n23 b0s (λi G R h=>(by exact a8K h)) (λl A b s H E i G R e h=>?_);refine⟨_,(a0m (z_if (a0v o_lt (a0c (pv 1)) (a0B b_len rfl T.b_len PySem.boot_len (a0b (a0c (pv 0)) a0h a0a)) (a0p _))
  (a0n (a0I (q_ix x_ix (a0c (pv 0)) (a0c (pv 1)) (λ_ _=>rfl))))
  a0V)
  (a0n (a0I a0g))),?_⟩
 obtain⟨p,g,k,rfl,f,q⟩:=h;walk_at "go";refine ifD (λc=>?_) λ_=>?_
 ·obtain⟨j,rfl⟩:=fZ f;have d:j<g.length:=by omega
  walk_at "go";exact b98 (a1O (et d)) (q _)
 ·walk_at "go";exact q _
theorem m9 (x:Int):0≤x % 536870909/\x % 536870909<536870909:=⟨fc _ (by decide),fg _ (by decide)⟩
theorem RowAt.new (h:RowAt G r) (n:G p=none):RowAt (put G p o) r:=by
 obtain⟨x,w,e,k⟩:=h;exact⟨x,w,a0l e n,k⟩
theorem RowAt.at {G:Hq}{r:Addr}{x w:Int}(k:b8Q x w):RowAt (put G r (RowO x w)) r:=⟨x,w,a0e,k⟩
structure Rw where
 b:Int
 e:Option Int
 w:List Z
@[reducible] def oz:Option Int->Z
 | none=>.non
 | some i=>.int i
theorem b8R (h:oz x=oz y):x=y:=by
 cases x<;>cases y<;>first | rfl | cases h<;>rfl
noncomputable def Rw.z (r:Rw):Z:=.tup (.int r.b::oz r.e::r.w)
def bef (t:Int):Option Int->Bool
 | none=>true
 | some e=>decide (t<e)
def Rw.has (r:Rw) (t:Int):Bool:=decide (r.b≤t)&&bef t r.e
def Rw.good (r:Rw):Prop:=bef r.b r.e=true
noncomputable def val (l:List Rw) (t:Int):Option (List Z):=(l.find? (·.has t)).map (·.w)
theorem a1H:val [] t=none:=rfl
theorem a0D:val (r::l) t=if r.has t=true then some r.w else val l t:=by
 unfold val;rw[fu];cases h:r.has t<;>simp
theorem a1b:val (l++m) t=(val l t).or (val m t):=by
 unfold val;rw[jH];cases h:l.find? _<;>simp
def Lt (r s:Rw):Prop:=∃ e,r.e=some e/\e≤s.b
def Lt2 (r s:Rw):Prop:=∃ e,r.e=some e/\e≤s.b/\(e=s.b->r.w≠s.w)
def Rise (l:List Rw):Prop:=(∀ r∈l,r.good)/\l.Pairwise Lt
def Can (l:List Rw):Prop:=(∀ r∈l,r.good)/\l.Pairwise Lt2
theorem Lt2.lt {r s:Rw}(h:Lt2 r s):Lt r s:=let ⟨e,a,b,_⟩:=h;⟨e,a,b⟩
theorem Can.rise (h:Can l):Rise l:=⟨h.1,h.2.imp Lt2.lt⟩
theorem Can.nil:Can []:=⟨λ_ h=>by simp at h,.nil⟩
theorem Rise.nil:Rise []:=Can.nil.rise
theorem Can.tail (h:Can (r::l)):Can l:=⟨λs a=>h.1 s (.tail _ a),(eH.mp h.2).2⟩
theorem Rise.tail (h:Rise (r::l)):Rise l:=⟨λs a=>h.1 s (.tail _ a),(eH.mp h.2).2⟩
theorem b2f {r:Rw}(h:r.good):r.has r.b=true:=by
 unfold Rw.has;rw[h];simp
theorem Lt.has (h:Lt r s) (a:r.has t=true):s.has t=false:=by
 obtain⟨e,c,d⟩:=h;unfold Rw.has at a ⊢;rw[c]at a;simp only[bef,fM,decide_eq_true_eq]at a
 have:decide (s.b≤t)=false:=decide_eq_false (by omega)
 rw[this,jI]
theorem Lt.b (g:r.good) (h:Lt r s):r.b<s.b:=by
 obtain⟨e,a,c⟩:=h
 have:bef r.b r.e=true:=g
 rw[a]at this;simp only[bef,decide_eq_true_eq]at this;omega
theorem a28 (h:∀ r∈l,r.has t=false):val l t=none:=by simp_all[val]
theorem b3L {l:List Rw}{t:Int}{w:List Z}(h:val l t=some w):∃ r∈l,r.has t=true/\r.w=w:=by
 induction l with
 | nil=>cases h
 | cons r l ih=>
  rw[a0D]at h
  split at h
  ·simp_all
  ·obtain⟨s,a,b⟩:=ih h;exact⟨s,.tail _ a,b⟩
theorem a6n {r:Rw}(h:t<r.b):r.has t=false:=by
 unfold Rw.has;rw[decide_eq_false (by omega),jI]
theorem b8S (h:Can (r::l)) (h':Can (s::m)) (q:∀ t,val (r::l) t=val (s::m) t):¬ r.b<s.b:=λc=>by
 have d:=q r.b;rw[a0D,b2f (h.1 r (.head _)),if_pos rfl,a28]at d
 ·grind
 ·intro x a;refine a6n ?_;rcases dY.mp a with rfl | a
  ·omega
  ·have:=(((eH.mp h'.2).1 x a).lt).b (h'.1 s (.head _))
   omega
theorem b56 (h:Can (r::l)) (hb:r.b=s.b) (hw:r.w=s.w) (q:∀ t,val (r::l) t=val (s::m) t) (he:r.e=some e):bef e s.e=false:=by
 cases hc:bef e s.e with
 | false=>rfl
 | true=>
  exfalso;have g:bef r.b r.e=true:=h.1 r (.head _)
  rw[he]at g;simp only[bef,decide_eq_true_eq]at g;have c:=q e;have i:s.has e=true:=by unfold Rw.has;rw[hc,decide_eq_true (show s.b≤e by omega)];rfl
  have k:r.has e=false:=by unfold Rw.has;rw[he];simp[bef]
  rw[a0D,a0D,i,k,if_pos rfl,if_neg (by simp)]at c;obtain⟨x,n,a,d⟩:=b3L c;obtain⟨u,f,p,j⟩:=(eH.mp h.2).1 x n;rw[he]at f;cases f;have o:x.b≤e:=by unfold Rw.has at a;simp at a;exact a.1
  exact j (by omega) (by simp_all)
theorem b2g:∀ {l m:List Rw},Can l->Can m->(∀ t,val l t=val m t)->l=m
 | [],[],_,_,_=>rfl
 | [],s::m,_,h',q=>by
  have:=q s.b
  rw[a1H,a0D,b2f (h'.1 s (.head _)),if_pos rfl]at this;cases this
 | r::l,[],h,_,q=>by
  have:=q r.b
  rw[a1H,a0D,b2f (h.1 r (.head _)),if_pos rfl]at this;cases this
 | r::l,s::m,h,h',q=>by
  have a:r.b=s.b:=by
   have f:=b8S h h' q;have g:=b8S h' h λt=>(q t).symm;omega
  have c:r.w=s.w:=by
   have f:=q r.b;have g:s.has r.b=true:=by rw[a];exact b2f (h'.1 s (.head _))
   rw[a0D,a0D,b2f (h.1 r (.head _)),g,if_pos rfl,if_pos rfl]at f;exact eZ.inj f
  have i:r.e=s.e:=by
   cases e1:r.e with
   | none=>
    cases e2:s.e with
    | none=>rfl
    | some e=>
     have:=b56 h' a.symm c.symm (λt=>(q t).symm) e2
     rw[e1]at this;cases this
   | some e=>
    have:=b56 h a c q e1
    cases e2:s.e with
    | none=>rw[e2]at this;cases this
    | some e'=>
     have k:=b56 h' a.symm c.symm (λt=>(q t).symm) e2;rw[e1]at k;rw[e2]at this;simp only[bef,decide_eq_false_iff_not]at this k
     congr 1
     omega
  have j:r=s:=by
   obtain⟨_,_,_⟩:=r;simp only at a c i;rw[a,c,i]
  subst j
  congr 1
  refine b2g h.tail h'.tail λt=>?_;cases ht:r.has t with
  | true=>
   rw[a28 λx d=>((eH.mp h.2).1 x d).lt.has ht,a28 λx d=>((eH.mp h'.2).1 x d).lt.has ht]
  | false=>
   have:=q t
   rw[a0D,a0D,ht,if_neg (by simp),if_neg (by simp)]at this;exact this
noncomputable def jn (told:List Rw) (p:Rw):List Rw:=match told.getLast? with
 | some l=>if l.e=some p.b/\l.w=p.w then told.dropLast++[⟨l.b,p.e,p.w⟩] else told++[p]
 | none=>told++[p]
def join (ps:List Rw):List Rw:=ps.foldl jn []
theorem a3Z {α:Type}{l:List α}{x:α}(h:l.getLast?=some x):l=l.dropLast++[x]:=by
 obtain⟨a,rfl⟩:=List.getLast?_eq_some_iff.mp h;simp
theorem c0I (h:Can told) (g:p.good) (hlt:∀ r∈told,Lt r p):Can (jn told p)/\(∀ t,val (jn told p) t=(val told t).or (val [p] t))/\(∀ x,(∀ r∈told,Lt r x)->Lt p x->∀ r∈jn told p,Lt r x)/\(jn told p).length≤told.length+1/\∀ r∈jn told p,r.w=p.w\/∃ r'∈told,r.w=r'.w:=by
 unfold jn;cases hl:told.getLast? with
 | none=>
  have:told=[]:=iu.mp hl
  subst this;exact⟨⟨λr a=>by simp at a;rw[a];exact g,by simp⟩,λt=>by simp[a1H],λx _ f r a=>by simp at a;rw[a];exact f,by simp,λr a=>by simp at a;rw[a];exact .inl rfl⟩
 | some l=>
  have d:=a3Z hl;generalize told.dropLast=init at d;subst d;have i:l∈init++[l]:=by simp
  have k:=eM.mp h.2;dsimp only
  split
  ·next hc=>
   obtain⟨n,o⟩:=hc;have D:l.b<p.b:=by
    have:bef l.b l.e=true:=h.1 l i
    rw[n]at this;simpa[bef]using this
   have v:(⟨l.b,p.e,p.w⟩:Rw).good:=by
    show bef l.b p.e=true
    have:bef p.b p.e=true:=g
    cases hpe:p.e with
    | none=>rfl
    | some e=>
     rw[hpe]at this;simp only[bef,decide_eq_true_eq]at this ⊢;omega
   refine⟨⟨λr a=>?_,?_⟩,λt=>?_,λx m f r a=>?_,by simp,λr a=>?_⟩
   ·rcases dU.mp a with a | a
    ·exact h.1 r (by simp[a])
    ·rw[dX.mp a];exact v
   ·refine eM.mpr ⟨k.1,by simp,λr a s d=>?_⟩;rw[dX.mp d];obtain⟨e,c,j,A⟩:=k.2.2 r a l (by simp);exact⟨e,c,j,λz=>by rw[<- o];exact A z⟩
   ·rw[a1b,a1b];cases val init t with
    | some w=>rfl
    | none=>
     have y:(⟨l.b,p.e,p.w⟩:Rw).has t=(l.has t||p.has t):=by
      unfold Rw.has;rw[n]
      have:bef p.b p.e=true:=g
      cases hpe:p.e with
      | none=>
       simp only[bef,iw]
       by_cases c1:l.b≤t<;>by_cases c2:t<p.b<;>by_cases c3:p.b≤t<;>simp[c1,c2,c3]<;>omega
      | some e=>
       rw[hpe]at this;simp only[bef,decide_eq_true_eq]at this ⊢
       by_cases c1:l.b≤t<;>by_cases c2:t<p.b<;>by_cases c3:p.b≤t<;>by_cases c4:t<e<;>simp[c1,c2,c3,c4]<;>omega
     simp only[a0D,a1H,y,o,Option.none_or];cases l.has t<;>cases p.has t<;>simp
   ·rcases dU.mp a with a | a
    ·exact m r (by simp[a])
    ·rw[dX.mp a];obtain⟨e,c,j⟩:=f;exact⟨e,c,j⟩
   ·rcases dU.mp a with a | a
    ·exact .inr ⟨r,by simp[a],rfl⟩
    ·rw[dX.mp a];exact .inl rfl
  ·next hc=>
   refine⟨⟨λr a=>?_,?_⟩,λt=>a1b,λx m f r a=>?_,by simp,λr a=>?_⟩
   ·rcases dU.mp a with a | a
    ·exact h.1 r a
    ·rw[dX.mp a];exact g
   ·refine eM.mpr ⟨h.2,by simp,λr a s d=>?_⟩;rw[dX.mp d];obtain⟨e,c,j⟩:=hlt r a;refine⟨e,c,j,λz u=>?_⟩;rcases dU.mp a with hr' | hr'
    ·obtain⟨C,q,B,_⟩:=k.2.2 r hr' l (by simp);rw[c]at q;cases q
     have:=(hlt l i).b (h.1 l i)
     omega
    ·simp_all
   ·rcases dU.mp a with a | a
    ·exact m r a
    ·rw[dX.mp a];exact f
   ·rcases dU.mp a with a | a
    ·exact .inr ⟨r,a,rfl⟩
    ·rw[dX.mp a];exact .inl rfl
theorem b2h:∀ (ps told:List Rw),Can told->Rise ps->(∀ r∈told,∀ p∈ps,Lt r p)->Can (ps.foldl jn told)/\(∀ t,val (ps.foldl jn told) t=(val told t).or (val ps t))/\(ps.foldl jn told).length≤told.length+ps.length/\∀ r∈ps.foldl jn told,∃ r'∈told++ps,r.w=r'.w
 | [],told,h,_,_=>⟨h,λt=>by simp[a1H],by simp,λr f=>⟨r,by simpa using f,rfl⟩⟩
 | p::ps,told,h,f,hlt=>by
  have l:=eH.mp f.2;have a:=c0I h (f.1 p (.head _)) λr q=>hlt r q p (.head _);have b:=b2h ps _ a.1 f.tail λr q x j=>a.2.2.1 x (λg k=>hlt g k x (.tail _ j)) (l.1 x j) r q;refine⟨b.1,λt=>?_,?_,λr i=>?_⟩
  ·show val (ps.foldl jn _) t=_
   rw[b.2.1 t,a.2.1 t,show p::ps=[p]++ps from rfl,a1b,Option.or_assoc]
  ·grind
  ·obtain⟨g,c,d⟩:=b.2.2.2 r i;rcases dU.mp c with c | c
   ·rcases a.2.2.2.2 g c with e | ⟨r2,e1,e2⟩
    ·exact⟨p,by simp,d.trans e⟩
    ·grind
   ·exact⟨g,by simp[c],d⟩
theorem a2X (h:Rise ps):Can (join ps)/\(∀ t,val (join ps) t=val ps t)/\(join ps).length≤ps.length/\∀ r∈join ps,∃ r'∈ps,r.w=r'.w:=by
 have:=b2h ps [] .nil h λr a=>by simp at a
 unfold join;exact⟨this.1,λt=>by rw[this.2.1 t];rfl,by simpa using this.2.2.1,by simpa using this.2.2.2⟩
noncomputable def emin:Option Int->Option Int->Option Int
 | none,o=>o
 | some e,none=>some e
 | some e,some o=>some (if o<e then o else e)
def a3j (m:Option Int) (r:Rw):Option Rw:=if bef r.b m=true then some ⟨r.b,emin r.e m,r.w⟩ else none
def ahead (m:Option Int) (l:List Rw):List Rw:=l.filterMap (a3j m)
def a6Y (m:Int) (r:Rw):Option Rw:=if bef m r.e=true then some ⟨if m > r.b then m else r.b,r.e,r.w⟩ else none
def fromOn (m:Int) (l:List Rw):List Rw:=l.filterMap (a6Y m)
theorem b2i (h1:∀ r r',f r=some r'->r'.has t=(r.has t&&c)/\r'.w=r.w) (h2:∀ r,f r=none->(r.has t&&c)=false):∀ l:List Rw,val (l.filterMap f) t=if c=true then val l t else none
 | []=>by simp[a1H]
 | r::l=>by
  have a:=b2i h1 h2 l;rw[fJ];cases hf:f r with
  | none=>
   have:=h2 r hf
   rw[a,a0D];cases c with
   | true=>rw[iw]at this;rw[this];rfl
   | false=>rfl
  | some r'=>
   obtain⟨d,b⟩:=h1 r r' hf;rw[a0D,a,d,b,a0D];cases c<;>cases r.has t<;>rfl
theorem a9B:bef t (emin x y)=(bef t x&&bef t y):=by
 cases x with
 | none=>cases y<;>simp[bef,emin]
 | some a=>
  cases y with
  | none=>simp[bef,emin]
  | some b=>
   simp only[bef,emin];rw[<- Bool.decide_and];apply a0W;rw[eq_iff_iff]
   split<;>omega
theorem a72 (m:Option Int) (l:List Rw) (t:Int):val (ahead m l) t=if bef t m=true then val l t else none:=by
 refine b2i (λr a h=>?_) (λr h=>?_) l
 ·unfold a3j at h
  split at h
  ·cases h;refine⟨?_,rfl⟩;unfold Rw.has;simp only[a9B,Bool.and_assoc]
  ·cases h
 ·unfold a3j at h
  split at h
  ·cases h
  ·next hc=>
   unfold Rw.has;cases m with
   | none=>exact absurd rfl hc
   | some m=>
    simp only[bef,decide_eq_true_eq]at hc ⊢
    by_cases c1:r.b≤t
    ·rw[decide_eq_false (show ¬ t<m by omega),gK]
    ·rw[decide_eq_false c1];rfl
theorem b3M (m:Int) (l:List Rw) (t:Int):val (fromOn m l) t=if m≤t then val l t else none:=by
 have:(if m≤t then val l t else none)=if decide (m≤t)=true then val l t else none:=by simp
 rw[this];refine b2i (λr a h=>?_) (λr h=>?_) l
 ·unfold a6Y at h
  split at h
  ·cases h;unfold Rw.has
   have:decide ((if m > r.b then m else r.b)≤t)=(decide (r.b≤t)&&decide (m≤t)):=by grind
   rw[this];cases decide (r.b≤t)<;>cases decide (m≤t)<;>simp
  ·cases h
 ·unfold a6Y at h
  split at h
  ·cases h
  ·next hc=>
   unfold Rw.has;cases he:r.e with
   | none=>rw[he]at hc;exact absurd rfl hc
   | some e=>
    rw[he]at hc;simp only[bef]at hc ⊢
    by_cases c1:m≤t
    ·grind
    ·simp_all
theorem a30 (h:x∈ahead m l):∃ r∈l,bef r.b m=true/\x=⟨r.b,emin r.e m,r.w⟩:=by
 obtain⟨r,d,a⟩:=fK.mp h;unfold a3j at a
 split at a
 ·next c=>cases a;exact⟨r,d,c,rfl⟩
 ·cases a
theorem a45 (h:x∈fromOn m l):∃ r∈l,bef m r.e=true/\x=⟨if m > r.b then m else r.b,r.e,r.w⟩:=by
 obtain⟨r,d,a⟩:=fK.mp h;unfold a6Y at a
 split at a
 ·next c=>cases a;exact⟨r,d,c,rfl⟩
 ·cases a
theorem b57 (hf:∀ r s r' s',R r s->f r=some r'->f s=some s'->R r' s'):∀ {l:List Rw},l.Pairwise R->(l.filterMap f).Pairwise R
 | [],_=>by simp
 | r::l,h=>by
  have b:=eH.mp h;have c:=b57 hf b.2;rw[fJ];cases e:f r with
  | none=>exact c
  | some r'=>
   refine eH.mpr ⟨λs i=>?_,c⟩;obtain⟨a,d,g⟩:=fK.mp i;exact hf r a r' s (b.1 a d) e g
theorem b58 {x:Int}{m:Option Int}:∃ e,emin (some x) m=some e/\e≤x:=by
 cases m with
 | none=>exact⟨x,rfl,fz _⟩
 | some o=>
  refine⟨_,rfl,?_⟩
  split<;>omega
theorem b0x (m:Option Int) (h:Rise l):Rise (ahead m l):=by
 refine⟨λx j=>?_,b57 (λr s t p d a c=>?_) h.2⟩
 ·obtain⟨r,k,i,rfl⟩:=a30 j
  show bef r.b _=true
  rw[a9B,i,iw];exact h.1 r k
 ·unfold a3j at a c
  split at a
  ·split at c
   ·cases a;cases c;obtain⟨e,g,o⟩:=d;obtain⟨f,n,q⟩:=@b58 e m;exact⟨f,by rw[<- n,<- g],by show f≤s.b;omega⟩
   ·grind
  ·grind
theorem b2j (m:Int) (h:Rise l):Rise (fromOn m l):=by
 refine⟨λx j=>?_,b57 (λr s n k d a c=>?_) h.2⟩
 ·obtain⟨r,f,g,rfl⟩:=a45 j
  split
  ·exact g
  ·exact h.1 r f
 ·unfold a6Y at a c
  split at a
  ·split at c
   ·cases a;cases c;obtain⟨e,i,o⟩:=d;exact⟨e,i,by show e≤(if m > s.b then m else s.b);split<;>omega⟩
   ·grind
  ·grind
theorem a73 (m:Option Int) (l:List Rw):(ahead m l).length≤l.length:=gB _ _
theorem b3N (m:Int) (l:List Rw):(fromOn m l).length≤l.length:=gB _ _
theorem a9C (hbe:b≤e):∀ {l:List Rw},Rise l->(ahead (some b) l).length+(fromOn e l).length≤l.length+1
 | [],_=>by simp[ahead,fromOn]
 | r::l,h=>by
  have i:=a9C hbe h.tail;have d:=(eH.mp h.2).1;have c:(ahead (some b) (r::l)).length=(if bef r.b (some b)=true then 1 else 0)+(ahead (some b) l).length:=by
   unfold ahead;unfold a3j
   split
   ·grind
   ·grind
  have a:(fromOn e (r::l)).length=(if bef e r.e=true then 1 else 0)+(fromOn e l).length:=by
   unfold fromOn;unfold a6Y
   split
   ·grind
   ·grind
  rw[c,a,eF]
  by_cases c1:bef r.b (some b)=true
  ·by_cases c2:bef e r.e=true
   ·have:ahead (some b) l=[]:=by
     unfold ahead;rw[List.filterMap_eq_nil_iff];intro s g;unfold a3j;obtain⟨j,f,k⟩:=d s g;rw[f]at c2;simp only[bef,decide_eq_true_eq]at c1 c2 ⊢;rw[if_neg (by omega)]
    have:=b3N e l
    simp_all;omega
   ·grind
  ·rw[if_neg c1];split<;>omega
noncomputable def a2J (l:List Rw) (b:Int) (e:Option Int) (w:Option (List Z)):List Rw:=
 ahead (some b) l++(match w with | some w=>[⟨b,e,w⟩] | none=>[])++(match e with | some e=>fromOn e l | none=>[])
theorem a74 {l:List Rw}{b:Int}{e:Option Int}{w:Option (List Z)}(h:Rise l) (g:bef b e=true):Rise (a2J l b e w)/\(∀ t,val (a2J l b e w) t=if (decide (b≤t)&&bef t e)=true then w else val l t)/\(a2J l b e w).length≤l.length+2:=by
 have p:=b0x (some b) h;have m:∀ r∈ahead (some b) l,∃ x,r.e=some x/\x≤b:=λr a=>by
  obtain⟨f,_,_,rfl⟩:=a30 a
  show ∃ x,emin f.e (some b)=some x/\x≤b
  cases f.e with
  | none=>exact⟨b,rfl,fz _⟩
  | some x=>refine⟨_,rfl,?_⟩;split<;>omega
 have v:Rise (match w with | some w=>[(⟨b,e,w⟩:Rw)] | none=>[]):=by
  cases w with
  | none=>exact .nil
  | some w=>exact⟨λr a=>by rw[dX.mp a];exact g,by simp⟩
 have n:∀ r∈(match w with | some w=>[(⟨b,e,w⟩:Rw)] | none=>[]),r.b=b/\r.e=e:=λr a=>by
  cases w with
  | none=>simp at a
  | some w=>rw[dX.mp a];exact⟨rfl,rfl⟩
 have z:∀ t,val (match w with | some w=>[(⟨b,e,w⟩:Rw)] | none=>[]) t=if (decide (b≤t)&&bef t e)=true then w else none:=λt=>by
  cases w with
  | none=>simp[a1H]
  | some w=>rw[a0D,a1H];rfl
 have j:∀ {A B:List Rw},Rise A->Rise B->(∀ r∈A,∀ s∈B,Lt r s)->Rise (A++B):=λo u y=>⟨λr a=>(dU.mp a).elim (o.1 r) (u.1 r),eM.mpr ⟨o.2,u.2,y⟩⟩;unfold a2J;cases e with
 | none=>
  dsimp only;rw[eL];refine⟨j p v λr a s d=>?_,λt=>?_,?_⟩
  ·obtain⟨x,i,k⟩:=m r a;exact⟨x,i,by rw[(n s d).1];exact k⟩
  ·rw[a1b,a72,z];simp only[bef,iw,decide_eq_true_eq]
   by_cases c:b≤t
   ·rw[if_neg (by omega),if_pos c,if_pos c];rfl
   ·rw[if_pos (by omega),if_neg c,if_neg c];simp
  ·rw[dW]
   have:=a73 (some b) l
   cases w<;>simp<;>omega
 | some e=>
  have E:b<e:=by simpa[bef]using g
  have D:=b2j e h;have C:∀ s∈fromOn e l,e≤s.b:=λs d=>by
   obtain⟨f,_,_,rfl⟩:=a45 d
   show e≤(if e > f.b then e else f.b)
   split<;>omega
  dsimp only;refine⟨j (j p v λr a s d=>?_) D λr a s d=>?_,λt=>?_,?_⟩
  ·obtain⟨x,i,k⟩:=m r a;exact⟨x,i,by rw[(n s d).1];exact k⟩
  ·have q:=C s d;rcases dU.mp a with a | a
   ·obtain⟨x,i,k⟩:=m r a;exact⟨x,i,by omega⟩
   ·exact⟨e,(n r a).2,q⟩
  ·rw[a1b,a1b,a72,z,b3M];simp only[bef,fM,decide_eq_true_eq]
   by_cases c1:b≤t
   ·by_cases c2:t<e
    ·rw[if_neg (by omega),if_pos ⟨c1,c2⟩,if_neg (by omega),if_pos ⟨c1,c2⟩];simp
    ·rw[if_neg (by omega),if_neg (by omega),if_pos (by omega),if_neg (by omega)];rfl
   ·grind
  ·rw[dW,dW]
   have:=a9C (b:=b) (e:=e) (by omega) h
   cases w<;>simp<;>omega
noncomputable def pcs (f:Int->Option (List Z)):List Int->List Rw
 | []=>[]
 | b::bs=>(match f b with | some w=>[⟨b,bs.head?,w⟩] | none=>[])++pcs f bs
theorem a5C:∀ {bs:List Int}{r:Rw},r∈pcs f bs->r.b∈bs/\f r.b=some r.w
 | [],_,h=>by simp[pcs]at h
 | b::bs,r,h=>by
  rcases dU.mp h with h | h
  ·cases e:f b with
   | none=>rw[e]at h;simp at h
   | some w=>rw[e]at h;rw[dX.mp h];exact⟨.head _,e⟩
  ·obtain⟨c,a⟩:=a5C h;exact⟨.tail _ c,a⟩
theorem a29 (f:Int->Option (List Z)):∀ bs:List Int,(pcs f bs).length≤bs.length
 | []=>by simp[pcs]
 | b::bs=>by
  have:=a29 f bs
  unfold pcs;cases f b<;>simp<;>omega
theorem a2b (f:Int->Option (List Z)):∀ {bs:List Int},bs.Pairwise (·<·)->Rise (pcs f bs)
 | [],_=>by simp[pcs];exact .nil
 | b::bs,h=>by
  have g:=eH.mp h;have i:=a2b f g.2;unfold pcs;cases e:f b with
  | none=>simpa using i
  | some w=>
   refine⟨λr a=>?_,eM.mpr ⟨by simp,i.2,λr a s j=>?_⟩⟩
   ·rcases dU.mp a with a | a
    ·rw[dX.mp a]
     show bef b bs.head?=true
     cases bs with
     | nil=>rfl
     | cons c cs=>simpa[bef]using g.1 c (.head _)
    ·exact i.1 r a
   ·rw[dX.mp a];have d:=(a5C j).1;cases bs with
    | nil=>simp at d
    | cons c cs=>
     refine⟨c,rfl,?_⟩;rcases dY.mp d with q | q
     ·omega
     ·have:=(eH.mp g.2).1 _ q
      omega
theorem a8L:∀ {bs:List Int},bs.Pairwise (·<·)->(∀ t b,b∈bs->b≤t->(∀ c∈bs,c≤t->c≤b)->f t=f b)->∀ t,val (pcs f bs) t=if (bs.any λb=>decide (b≤t))=true then f t else none
 | [],_,_,t=>by simp[pcs,a1H]
 | b::bs,h,hf,t=>by
  have j:=eH.mp h;have p:=a8L j.2 (λt c a g o=>hf t c (.tail _ a) g λd k l=>by
   rcases dY.mp k with rfl | k
   ·have:=j.1 c a;omega
   ·exact o d k l) t
  unfold pcs;rw[a1b,p,gj]
  by_cases c1:b≤t
  ·rw[decide_eq_true c1,Bool.true_or,if_pos rfl];cases c2:bs.any λb=>decide (b≤t) with
   | true=>
    obtain⟨c,a,g⟩:=g9.mp c2;have g:c≤t:=by simpa using g
    rw[if_pos rfl]
    have:val (match f b with | some w=>[(⟨b,bs.head?,w⟩:Rw)] | none=>[]) t=none:=by
     cases f b with
     | none=>rfl
     | some w=>
      rw[a0D,a1H];cases bs with
      | nil=>simp at a
      | cons d ds=>
       have k:d≤t:=by
        rcases dY.mp a with rfl | a
        ·exact g
        ·have:=(eH.mp j.2).1 c a;omega
       have n:(⟨b,(d::ds).head?,w⟩:Rw).has t=false:=by
        unfold Rw.has;simp only[jJ,bef];rw[decide_eq_false (show ¬ t<d by omega),gK]
       rw[n]
       rfl
    rw[this];rfl
   | false=>
    rw[if_neg (by decide)];have i:∀ c∈bs,¬ c≤t:=λc a g=>by grind
    have m:=hf t b (.head _) c1 λc a g=>by
     rcases dY.mp a with rfl | a
     ·omega
     ·exact absurd g (i c a)
    rw[m];cases e:f b with
    | none=>rfl
    | some w=>
     rw[a0D,a1H]
     have:(⟨b,bs.head?,w⟩:Rw).has t=true:=by
      unfold Rw.has;simp only;rw[decide_eq_true c1];cases bs with
      | nil=>rfl
      | cons d ds=>simp only[jJ,bef,fk,decide_eq_true_eq];have:=i d (.head _);omega
     rw[this];rfl
  ·rw[decide_eq_false c1,jk];have i:(bs.any λb=>decide (b≤t))=false:=je.mpr λc a=>by grind
   rw[i,if_neg (by decide)]
   have:val (match f b with | some w=>[(⟨b,bs.head?,w⟩:Rw)] | none=>[]) t=none:=by
    cases f b with
    | none=>rfl
    | some w=>
     rw[a0D,a1H,a6n (by show t<b;omega)]
     rfl
   rw[this];rfl
def a0J (puts:List Rw) (t:Int):Z:=match puts.reverse.find? (·.has t) with
 | some r=>r.w.headD .non
 | none=>.non
def optW (z:Z):Option (List Z):=if z=.non then none else some [z]
theorem a5D (puts:List Rw) (p:Rw) (t:Int):a0J (puts++[p]) t=if p.has t=true then p.w.headD .non else a0J puts t:=by
 unfold a0J;rw[fX,gJ,List.reverse_nil,gT,iH,fu];cases p.has t<;>rfl
def a6o (rows:List Rw) (bs:List Int):Prop:=bs.Pairwise (·<·)/\∀ x,x∈bs↔∃ r∈rows,x=r.b\/r.e=some x
theorem a9D {r:Rw}(h:b≤t) (h1:r.b≤t->r.b≤b) (h2:∀ e,r.e=some e->e≤t->e≤b):r.has t=r.has b:=by
 unfold Rw.has;have a:decide (r.b≤t)=decide (r.b≤b):=a0W (by grind)
 congr 1
 cases he:r.e with
 | none=>rfl
 | some e=>
  have:=h2 e he
  exact a0W (by grind)
theorem a4p:∀ {l:List Rw},(∀ r∈l,f r=g r)->l.find? f=l.find? g
 | [],_=>rfl
 | r::l,h=>by rw[fu,fu,h r (.head _),a4p λs a=>h s (.tail _ a)]
def a75 (l:List Rw) (b:Int) (e:Option Int) (w:Option (List Z)):List Rw:=join (a2J l b e w)
theorem b3O {l:List Rw}{b:Int}{e:Option Int}{w:Option (List Z)}(h:Rise l) (g:bef b e=true):Can (a75 l b e w)/\(∀ t,val (a75 l b e w) t=if (decide (b≤t)&&bef t e)=true then w else val l t)/\(a75 l b e w).length≤l.length+2:=by
 have a:=a74 (w:=w) h g;have j:=a2X a.1;exact⟨j.1,λt=>by rw[<- a.2.1 t];exact j.2.1 t,eD j.2.2.1 a.2.2⟩
def okW (w:List Z):Prop:=w≠[]/\w.length≤4/\w.all (flat 4)=true
def OkR (l:List Rw):Prop:=∀ r∈l,okW r.w
theorem a1Y:∀ {n m:Nat}{z:Z},n≤m->flat n z=true->flat m z=true:=by
 intro n
 induction n with
 | zero=>intro m z _ h;cases z<;>first | (simp[flat]at h;done) | (cases m<;>simp_all[flat])
 | succ n ih=>
  intro m z b h;cases m with
  | zero=>omega
  | succ m=>
   cases z with
   | tup ws=>
    simp only[flat,fV]at h ⊢;exact λx a=>ih (by omega) (h x a)
   | _=>first | (simp[flat];done) | (simp[flat]at h;done) | (simp only[flat]at h ⊢;exact h)
theorem a6Z {ws:List Z}(hm:n≤m) (h:ws.all (flat n)=true):ws.all (flat m)=true:=by
 rw[fV]at h ⊢;exact λx a=>a1Y hm (h x a)
theorem b2k:flat n (oz e)=true:=by
 cases e<;>cases n<;>rfl
theorem a60:flat n (.int i)=true:=by cases n<;>rfl
theorem b3P:flat n .non=true:=by cases n<;>rfl
def wz:Option (List Z)->Z
 | none=>.non
 | some w=>w.headD .non
theorem b8T (h:R (.bl (decide (e=some b))) G):zEq id (oz e) (.int b) G R:=by
 cases e with
 | none=>
  refine (⟨b3P,a60,?_⟩)
  have:decide (Z.non=Z.int b)=decide (none=some b):=by simp
  exact h
 | some e=>
  refine b71 ?_
  have:decide (e=b)=decide (some e=some b):=a0W (by simp)
  rw[this];exact h
theorem b8U (h1:flat 8 (.tup xs)=true) (h2:flat 8 (.tup ys)=true) (h:R (.bl (f (decide (xs=ys)))) G):zEq f (.tup xs) (.tup ys) G R:=by
 refine (⟨h1,h2,?_⟩);rw[a0W (Z.tup.injEq _ _)];exact h
def a1I:P3:=λws G R=>∃ x y,ws=[oz x,oz y]/\R (oz (emin x y)) G
theorem a4q (h:a1I ws G R):ws.length=2:=by obtain⟨_,_,rfl,_⟩:=h;rfl
theorem a4U (F:Fns K a) (T:Txt K mg a):FnOk P w K mg base CX0 1 a.f3 a.d3 ["end","other"] (lowP K a1I):=by
 refine fn3 F.n3 a4N (λd G R h=>(by exact a4q h)) (λe A b s H E d G R c h=>?_);have f:=a03 c;refine⟨_,(a0m (z_if (a0v o_is (a0c (pv 0)) a1E (a0p _))
  (a0n (a0I (a0c (pv 1))))
  a0V)
  (a0m (z_if (a0v o_is (a0c (pv 1)) a1E (a0p _))
  (a0n (a0I (a0c (pv 0))))
  a0V)
  (a0n (a0I (a0B (b_min rfl) rfl T.b_min rfl (a0b (a0c (pv 0)) (a0b (a0c (pv 1)) a0h a0a) a0a)))))),?_⟩
 obtain⟨x,y,rfl,q⟩:=h;cases x with
 | none=>
  walk_at "go";cases y<;>exact q
 | some x=>
  cases y with
  | none=>
   walk_at "go";exact q
  | some y=>
   walk_at "go";exact q
def over (r:Rw) (m:Int):Bool:=match r.e with
 | none=>false
 | some e=>decide (e≤m)
def a4F:P3:=λws G R=>∃ r m,ws=[Rw.z r,.int m]/\R (.bl (over r m)) G
theorem a61 (h:a4F ws G R):ws.length=2:=by obtain⟨_,_,rfl,_⟩:=h;rfl
theorem a76 (F:Fns K a) (T:Txt K mg a):FnOk P w K mg base CX0 1 a.f9 a.d9 ["stretch","moment"] (lowP K a4F):=by
 refine fn3 F.n9 a7V (λf G R h=>(by exact a61 h)) (λg A c s H E f G R d h=>?_);refine⟨_,(a0n (a0I (a7r (a7q a1R (q_ix x_ix (a0c (pv 0)) a0g (λ_ _=>rfl)) a1E (a0p _)) (a97 (a7q o_le (q_ix x_ix (a0c (pv 0)) a0g (λ_ _=>rfl)) (a0c (pv 1)) (a0p _)))))),?_⟩;obtain⟨⟨b,e,w⟩,m,rfl,q⟩:=h;cases e with
 | none=>
  walk_at "go";exact a1S at1 (by walk_at "go";exact q)
 | some e=>
  walk_at "go";refine a1S at1 ?_;walk_at "go";refine a1S at1 ?_;walk_at "go";exact q
theorem a5E {α β:Type}{l:List α}{g:α->Z}{g':β->Z}(f:α->Option β) (hok:∀ ys,ok (put G1 D (.lst ys))) (hz:l.length≤1000)
  (turn:∀ x,x∈l->∀ (ys:List Z) (K1:K3) (K2:Hq->Prop),(∀ y,f x=some y->K1 (g' y) (put G1 D (.lst ys)))->(f x=none->K2 (put G1 D (.lst ys)))->∃ σ',a5P pt (g x) (cap3 cap σ)=some σ'/\tt σ' (put G1 D (.lst ys)) λb G4=>if b=true then te σ' G4 K1 else K2 G4)
  (fin:R (.ref D) (put G1 D (.lst ((l.filterMap f).map g')))):LCB (l.map g) ok cap pt tt te σ R D G1:=by
 refine b1x (λi c G=>c=((l.take i).filterMap f).map g'/\G=put G1 D (.lst c)) ⟨by simp,rfl⟩ ?_ ?_ ?_
 ·simp_all
 ·rintro i x c G d ⟨e,rfl⟩;rw[er]at d;cases hx':l[i]? with
  | none=>rw[hx']at d;cases d
  | some a=>
   rw[hx']at d;cases d;refine turn a (eI hx') c _ _ (λy j=>⟨a0e,?_,?_,?_⟩) λh=>⟨?_,rfl⟩
   ·rw[e,dQ];exact ie (eD (gB _ _) (by rw[eG];omega)) (a0t (dS 1000))
   ·rw[a16 hx',j,e,eA];rfl
   ·rw[a2R]
   ·rw[a16 hx',h,e];simp
 ·simp_all
def One (l:List Rw):Prop:=∀ r∈l,∃ x,r.w=[x]
def a31:P3:=λws G R=>∃ p l m,ws=[.ref p,oz m]/\G p=some (.lst (l.map Rw.z))/\One l/\l.length≤1000/\∀ t,G t=none->R (.ref t) (put G t (.lst ((ahead m l).map Rw.z)))
theorem a5V (h:a31 ws G R):ws.length=2:=by obtain⟨_,_,_,rfl,_⟩:=h;rfl
theorem a62 (F:Fns K a) (T:Txt K mg a):FnOk P w K mg base CX0 2 a.f4 a.d4 ["line","moment"] (lowP K a31):=by
 have d:FnOk P w K mg base CX0 1 a.f3 a.d3 ["end","other"] (lowP K a1I):=a4U F T;refine fn3 F.n4 a6T (λu G R h=>(by exact a5V h)) (λB A n s H E u G R f h=>?_);have I:=a03 f;refine⟨_,(a0n (a0I (q_lc (N₀:=["line","moment"]) (so:=a0i a19) (cap:=[none,none,none,some 1]) (pt:=(.tp [0,1,2])) rfl rfl rfl (by decide +kernel) rfl (a02 (a0c (pv 0))) (λ_ _ _ _=>(show QP _ _ (.tp [0,1,2]) from (a3H rfl (a0w (a0o (i:=0) b0t rfl (dR rfl)) (a0w (a0o (i:=1) b0t rfl (dR rfl)) (a0w (a0o (i:=2) b0t rfl (dR rfl)) a2s)))))) (λ_ _ _ _=>(a6G (QW.qt (q_or (a0v o_is (a0c (pv 3)) a1E (a0p _)) (a5h (a0v o_lt (a0c (pv 0)) (a0c (pv 3)) (a0p _))))))) (λ_ _ _ _=>(a2l (a0b (a0c (pv 0)) (a0b (a0s d (f.mono (by decide)) rfl T.m3 F.n3.kp (a4Q F) (a0b (a0c (pv 1)) (a0b (a0c (pv 3)) a0h a0a) a0a) (he:=a0a)) (a0b (a0c (pv 2)) a0h a0a) a0L) a0a)))))),?_⟩;obtain⟨p,l,m,rfl,k,t,y,q⟩:=h;walk_at "go";refine a3c k ?_;intro D j;refine a5E (a3j m) (λo=>a0l k j) y ?_ (q D j);intro r f o C J g v;obtain⟨x,z⟩:=t r f;obtain⟨b,e,w⟩:=r;cases z;refine⟨_,rfl,?_⟩;cases m with
 | none=>
  walk_at "go";refine⟨e,none,rfl,?_⟩;walk_at "go";refine⟨lenK rfl,?_⟩;exact g _ rfl
 | some m=>
  walk_at "go";refine ifD (λc=>?_) λc=>?_
  ·walk_at "go";refine⟨e,some m,rfl,?_⟩;walk_at "go";refine⟨lenK rfl,?_⟩;refine g ⟨b,emin e (some m),[x]⟩ ?_;unfold a3j;rw[if_pos (by simpa[bef]using c)]
  ·refine v ?_;unfold a3j;rw[if_neg (by simpa[bef]using c)]
def a4G:P3:=λws G R=>∃ p l m,ws=[.ref p,.int m]/\G p=some (.lst (l.map Rw.z))/\One l/\l.length≤1000/\∀ t,G t=none->R (.ref t) (put G t (.lst ((fromOn m l).map Rw.z)))
theorem a63 (h:a4G ws G R):ws.length=2:=by obtain⟨_,_,_,rfl,_⟩:=h;rfl
theorem a77 (F:Fns K a) (T:Txt K mg a):FnOk P w K mg base CX0 1 a.f6 a.d6 ["line","moment"] (lowP K a4G):=by
 refine fn3 F.n6 a7U (λws G R h=>(by exact a63 h)) (λcdv A outer s H E ws G R hr h=>?_);have hu:=a03 hr;refine⟨_,(a0n (a0I (q_lc (N₀:=["line","moment"]) (so:=a0i a2E) (N':=["begin","end","worth","moment"]) (cap:=[none,none,none,some 1]) (pt:=(.tp [0,1,2])) rfl rfl rfl (by decide +kernel) rfl (a02 (a0c (pv 0))) (λ_ _ _ _=>(show QP _ _ (.tp [0,1,2]) from (a3H rfl (a0w (a0o (i:=0) b0t rfl (dR rfl)) (a0w (a0o (i:=1) b0t rfl (dR rfl)) (a0w (a0o (i:=2) b0t rfl (dR rfl)) a2s)))))) (λ_ _ _ _=>(a6G (QW.qt (q_or (a0v o_is (a0c (pv 1)) a1E (a0p _)) (a5h (a0v o_lt (a0c (pv 3)) (a0c (pv 1)) (a0p _))))))) (λ_ _ _ _=>(a2l (a0b (a0B (b_max rfl) rfl T.b_max rfl (a0b (a0c (pv 0)) (a0b (a0c (pv 3)) a0h a0a) a0a) (he:=a0a) (hpl:=(a0j a0a a0k))) (a0b (a0c (pv 1)) (a0b (a0c (pv 2)) a0h a0a) a0a) a0L)))))),?_⟩;obtain⟨p,l,m,rfl,hp,h1,hz,q⟩:=h;walk_at "go";refine a3c hp ?_;intro D hD;refine a5E (a6Y m) (λys=>a0l hp hD) hz ?_ (q D hD);intro r hr ys K1 K2 k1 k2;obtain⟨x,hx⟩:=h1 r hr;obtain⟨b,e,w⟩:=r;cases hx;refine⟨_,rfl,?_⟩;cases e with
 | none=>
  walk_at "go";refine⟨lenK rfl,?_⟩;exact k1 ⟨if m > b then m else b,none,[x]⟩ rfl
 | some e=>
  walk_at "go";refine ifD (λc=>?_) λc=>?_
  ·walk_at "go";refine⟨lenK rfl,?_⟩;refine k1 ⟨if m > b then m else b,some e,[x]⟩ ?_;unfold a6Y;rw[if_pos (by simpa[bef]using c)]
  ·refine k2 ?_;unfold a6Y;rw[if_neg (by simpa[bef]using c)]
theorem b2l (h:0<n):ixN n (-1)=some (n - 1):=by grind [ixN]
theorem a4r {α:Type}{l:List α}{x:α}(h:l.getLast?=some x):atI l (-1)=some x:=by
 have a:l≠[]:=λz=>by subst z;simp at h
 unfold atI;rw[b2l (gG.mpr a)]
 show l[l.length - 1]?=some x
 rw[<- jG];exact h
theorem b3Q {α:Type}{l:List α}{x y:α}(h:l.getLast?=some x):l.set (l.length - 1) y=l.dropLast++[y]:=by
 have a:=a3Z h;generalize l.dropLast=i at a;subst a;simp
theorem sIx2 {a b:Z}{w:List Z}:HT.sIx (a::b::w).length 0 (some 2)=2:=rfl
theorem cut2 {a b:Z}{w:List Z}:cutZ (a::b::w) (some 2) none=w:=by
 unfold cutZ;rw[sIx2,HT.sIx_none];simp
theorem b2m {a b:Z}{w:List Z}:¬ (HT.sIx (a::b::w).length 0 (some 2)=0/\HT.sIx (a::b::w).length (a::b::w).length none=(a::b::w).length):=by
 rw[sIx2];intro h;exact absurd h.1 (by decide)
def a0R:P3:=λws G R=>∃ p ps,ws=[.ref p]/\G p=some (.lst (ps.map Rw.z))/\OkR ps/\ps.length≤1000/\∀ t,G t=none->R (.ref t) (put G t (.lst ((join ps).map Rw.z)))
theorem a2G (h:a0R ws G R):ws.length=1:=by obtain⟨_,_,rfl,_⟩:=h;rfl
theorem b3R {G:Hq}{R:K3}{a b:Z}{w:List Z}(h:R (.tup w) G):zSl (.tup (a::b::w)) (some 2) none G R:=b5w b2m (by rw[cut2];exact h)
theorem b2n {w:List Z}(h:okW w):flat 8 (.tup w)=true:=a6Z (by simp) h.2.2
theorem a9E:∀ (ps told:List Rw),OkR told->OkR ps->OkR (ps.foldl jn told)
 | [],_,h,_=>h
 | p::ps,told,h,h'=>by
  refine a9E ps _ (λr a=>?_) λr a=>h' r (.tail _ a);unfold jn at a
  split at a
  ·next l hl=>
   split at a
   ·rcases dU.mp a with a | a
    ·exact h r (iU _ a)
    ·rw[dX.mp a];exact h' p (.head _)
   ·rcases dU.mp a with a | a
    ·exact h r a
    ·rw[dX.mp a];exact h' p (.head _)
  ·rcases dU.mp a with a | a
   ·exact h r a
   ·rw[dX.mp a];exact h' p (.head _)
theorem b8V (told:List Rw) (p:Rw):(jn told p).length≤told.length+1:=by
 unfold jn
 split
 ·split<;>simp
 ·simp
theorem a46:∀ (ps told:List Rw),(ps.foldl jn told).length≤told.length+ps.length
 | [],told=>by simp
 | p::ps,told=>by
  have b:=a46 ps (jn told p);have a:=b8V told p
  show (ps.foldl jn (jn told p)).length≤_
  rw[eF];omega
theorem b2o {ps:List Rw}(h:ps[i]?=some p):(ps.take (i+1)).foldl jn []=jn ((ps.take i).foldl jn []) p:=by
 rw[fH,h];simp
theorem a1p (F:Fns K a) (T:Txt K mg a):FnOk P w K mg base CX0 1 a.f5 a.d5 ["pieces"] (lowP K a0R):=by
 refine fn3 F.n5 sc_p_with_alike_joined (λws G R h=>(by exact a2G h)) (λcdv A outer s H E ws G R hr h=>?_);have hu:=a03 hr;refine⟨_,(a0m (z_set (i:=1) sc_p_with_alike_joined.nd rfl (dR rfl) (a1d a0h))
  (a0m (a3q (pt:=(.nm 2)) kj.never rfl (a02 (a0c (pv 0))) (show QP _ _ (.nm 2) from (a0o (i:=2) sc_p_with_alike_joined.nd rfl (dR rfl)))
  (a0n (z_if (QW.qt (a5O (b7t (a0c (pv 1)) (λ_=>rfl)) (a5O (a0v (o_eq hu) (q_ix x_ix (q_ix x_ix (a0c (pv 1)) (q_un a2n a0g) (λ_ _=>rfl)) a0g (λ_ _=>rfl)) (q_ix x_ix (a0c (pv 2)) a0g (λ_ _=>rfl)) (a0p _)) (a4C (a0v (o_eq hu) (a1Q x_sl (q_ix x_ix (a0c (pv 1)) (q_un a2n a0g) (λ_ _=>rfl)) (a2k a0g) a1K) (a1Q x_sl (a0c (pv 2)) (a2k a0g) a1K) (a0p _))))))
  (a0n (b7D (q_op a0N (a2l (a0b (q_ix x_ix (q_ix x_ix (a0c (pv 1)) (q_un a2n a0g) (λ_ _=>rfl)) a0g (λ_ _=>rfl)) (a0b (q_ix x_ix (a0c (pv 2)) a0g (λ_ _=>rfl)) a0h a0d) a0d)) (a1Q x_sl (a0c (pv 2)) (a2k a0g) a1K)) (a0c (pv 1)) (q_un a2n a0g) b9O))
  (a0n (a01 (q_bm PySem.F.plainAttrs_list PySem.F.slot_list_append PySem.F.type_list_append a1e (a0c (pv 1)) (a0b (a0c (pv 2)) a0h a0a)))))))
  (a0n (a0I (a0c (pv 1)))))),?_⟩
 obtain⟨p,ps,rfl,hp,hok,hz,q⟩:=h;walk_at "go";refine⟨lenK rfl,λt ht=>?_⟩;walk_at "go";refine a3c (a0l hp ht) ?_;refine a1D (λi σ G'=>∃ v,σ=[some (.ref p),some (.ref t),v]/\G'=put G t (.lst (((ps.take i).foldl jn []).map Rw.z))) ⟨_,rfl,by simp⟩ (by rintro i σ G' _ ⟨v,_,e⟩;exact by rw[e];exact a0l hp ht) ?_ ?_
 ·rintro i x σ G' hx ⟨v,rfl,rfl⟩;rw[er]at hx;cases hx':ps[i]? with
  | none=>rw[hx']at hx;cases hx
  | some r=>
   rw[hx']at hx;cases hx;have hr:=hok r (eI hx');have hot:OkR ((ps.take i).foldl jn []):=a9E _ _ (λr hr=>by simp at hr) λr hr=>hok r (fB hr);have hlt:=a46 (ps.take i) [];rw[eG]at hlt;have hi:=(eq.mp hx').1;rw[b2o hx'];generalize (ps.take i).foldl jn []=told at hot hlt ⊢;simp only[jK]at hlt;refine⟨_,rfl,?_⟩;have app:∀ G',G'=put G t (.lst (told.map Rw.z))->jn told r=told++[r]->a6H (.ref t) [r.z] G' (λ_ G1=>∃ v,([some (.ref p),some (.ref t),some r.z]:S3)=[some (.ref p),some (.ref t),v]/\G1=put G t (.lst ((jn told r).map Rw.z))):=by
    rintro _ rfl e;refine a00 a0e (by rw[dQ];exact a0t (by omega)) ⟨_,rfl,?_⟩;rw[a2R,e,eA]
    rfl
   walk_at "go";refine b4y a0e ?_;cases hl:told.getLast? with
   | none=>
    have e0:told=[]:=iu.mp hl;subst e0;refine ifF ?_;walk_at "go";refine a2o a0e ?_;walk_at "go";exact app _ rfl (by unfold jn;rw[hl])
   | some k=>
    have hne:told≠[]:=λz=>by subst z;simp at hl
    have hlm:(told.map Rw.z).getLast?=some k.z:=by rw[iy,hl];rfl
    have he:(told.map Rw.z).isEmpty=false:=by cases told with | nil=>exact absurd rfl hne | cons _ _=>rfl
    have hk:=hot k (iV hl);rw[he];refine ifT ?_;walk_at "go";refine a1f a0e (a4r hlm) ?_;walk_at "go";refine a1S at1 ?_;walk_at "go";refine a1S at0 ?_;refine b8T ?_;walk_at "go";refine ifD (λc1=>?_) λc1=>?_
    ·walk_at "go";refine a1f a0e (a4r hlm) ?_;walk_at "go";refine b3R ?_;walk_at "go";refine b3R ?_;refine b8U (b2n hk) (b2n hr) ?_;walk_at "go";refine ifD (λc2=>?_) λc2=>?_
     ·walk_at "go";refine a1f a0e (a4r hlm) ?_;walk_at "go";refine a1S at0 ?_;walk_at "go";refine a1S at1 ?_;walk_at "go";refine⟨lenK rfl,?_⟩;walk_at "go";refine b3R ?_;refine b7Z (by simp) (a1X (by have:=hr.2.1;simp;omega)) ?_;walk_at "go";refine c0a a0e (b2l (by rw[dQ];exact gG.mpr hne)) ?_;refine⟨_,rfl,?_⟩;rw[a2R,b3Q hlm]
      congr 1
      unfold jn;rw[hl];dsimp only;rw[if_pos ⟨c1,c2⟩,eA,iW]
      rfl
     ·walk_at "go";refine a2o a0e ?_;walk_at "go";exact app _ rfl (by unfold jn;rw[hl];dsimp only;rw[if_neg λz=>c2 z.2])
    ·refine ifF ?_;walk_at "go";refine a2o a0e ?_;walk_at "go";exact app _ rfl (by unfold jn;rw[hl];dsimp only;rw[if_neg λz=>c1 z.1])
 ·rintro σ G' ⟨v,rfl,rfl⟩;walk_at "go";rw[dQ,fF];exact q t ht
theorem b3S (h:over r m=true):r.has m=false:=by
 unfold over at h;unfold Rw.has;cases he:r.e with
 | none=>rw[he]at h;cases h
 | some e=>
  rw[he]at h;simp at h;simp only[bef];rw[decide_eq_false (show ¬ m<e by omega),gK]
theorem b2p (h:m≤m') (o:over r m=true):over r m'=true:=by
 unfold over at o ⊢;cases he:r.e with
 | none=>rw[he]at o;cases o
 | some e=>rw[he]at o;simp at o ⊢;omega
theorem a9F:∀ {l:List Rw}{m:Int}{k:Nat},(∀ (i:Nat) r,i<k->l[i]?=some r->over r m=true)->val l m=val (l.drop k) m
 | l,m,0,_=>rfl
 | [],m,k+1,_=>rfl
 | r::l,m,k+1,h=>by
  rw[a0D,b3S (h 0 r (by simp) rfl),if_neg (by simp),List.drop_succ_cons];exact a9F λi s a e=>h (i+1) s (by omega) (by grind)
theorem b3T (h:Rise (r::l)) (o:over r m=false):val (r::l) m=if r.b≤m then some r.w else none:=by
 rw[a0D];have d:bef m r.e=true:=by
  unfold over at o;cases he:r.e with
  | none=>rfl
  | some e=>rw[he]at o;simp at o;simp only[bef,decide_eq_true_eq];omega
 by_cases c:r.b≤m
 ·have:r.has m=true:=by unfold Rw.has;rw[d,decide_eq_true c];rfl
  rw[this,if_pos rfl,if_pos c]
 ·rw[a6n (by omega),if_neg (by simp),if_neg c];refine a28 λs a=>a6n ?_
  have:=((eH.mp h.2).1 s a).b (h.1 r (.head _))
  omega
theorem Rise.drop (h:Rise l) (k:Nat):Rise (l.drop k):=⟨λr a=>h.1 r (ik a),h.2.sublist (iG _ _)⟩
theorem drop_get {α:Type}{l:List α}{x:α}(h:l[k]?=some x):l.drop k=x::l.drop (k+1):=by
 obtain⟨b,a⟩:=eq.mp h;rw[gN b,a]
def a3k:P3:=λws G R=>Ex4 λ(p q:Addr) (l:List Rw) (ms:List Int)=>ws=[.ref p,.ref q]/\G p=some (.lst (l.map Rw.z))/\G q=some (.lst (ms.map Z.int))/\Rise l/\OkR l/\l.length≤1000/\ms.Pairwise (·≤·)/\ms.length≤1000 /\
 ∀ t,G t=none->R (.ref t) (put G t (.lst (ms.map λm=>wz (val l m))))
theorem a5F (h:a3k ws G R):ws.length=2:=by obtain⟨_,_,_,_,rfl,_⟩:=h;rfl
theorem a8M {l:List Rw}{k:Nat}(h:l[k]?=some r):atI (l.map Rw.z) (k:Int)=some r.z:=a1O (by simp_all)
theorem take_snoc {α:Type}{l:List α}{x:α}(h:l[i]?=some x):l.take (i+1)=l.take i++[x]:=by rw[fH,h];rfl
theorem a5W (F:Fns K a) (T:Txt K mg a):FnOk P w K mg base CX0 2 a.f10 a.d10 ["line","moments"] (lowP K a3k):=by
 have G_p_is_over:=a76 (P:=P) (w:=w) (base:=base) F T;refine fn3 F.n10 sc_p_worths_in (λws G R h=>(by exact a5F h)) (λcdv A outer s H E ws G R hr h=>?_);have hu:=a03 hr;refine⟨_,(a0m (z_set (i:=2) sc_p_worths_in.nd rfl (dR rfl) (a1d a0h))
  (a0m (z_set (i:=3) sc_p_worths_in.nd rfl (dR rfl) a0g)
  (a0m (a3q (pt:=(.nm 4)) kj.never rfl (a02 (a0c (pv 1))) (show QP _ _ (.nm 4) from (a0o (i:=4) sc_p_worths_in.nd rfl (dR rfl)))
  (a6F (b5i kj.never (QW.qt (a5O (a0v o_lt (a0c (pv 3)) (a0B b_len rfl T.b_len PySem.boot_len (a0b (a0c (pv 0)) a0h a0a) (he:=a0a) (hpl:=a0k)) (a0p _)) (a4C (a3b (a0s G_p_is_over (hr.mono (by decide)) rfl T.m9 F.n9.kp (a7Y F) (a0b (q_ix x_ix (a0c (pv 0)) (a0c (pv 3)) (λ_ _=>rfl)) (a0b (a0c (pv 4)) a0h a0a) a0d) (he:=a0d) (hpl:=(a0j a0a a0k)))))))
  (a0n (b7E (i:=3) sc_p_worths_in.nd rfl (dR rfl) a0g b4u)))
  (a0n (z_if (QW.qt (a5O (a0v o_lt (a0c (pv 3)) (a0B b_len rfl T.b_len PySem.boot_len (a0b (a0c (pv 0)) a0h a0a) (he:=a0a) (hpl:=a0k)) (a0p _)) (a4C (a0v o_le (q_ix x_ix (q_ix x_ix (a0c (pv 0)) (a0c (pv 3)) (λ_ _=>rfl)) a0g (λ_ _=>rfl)) (a0c (pv 4)) (a0p _)))))
  (a0n (a01 (q_bm PySem.F.plainAttrs_list PySem.F.slot_list_append PySem.F.type_list_append a1e (a0c (pv 2)) (a0b (q_ix x_ix (q_ix x_ix (a0c (pv 0)) (a0c (pv 3)) (λ_ _=>rfl)) a0g (λ_ _=>rfl)) a0h a0d))))
  (a0n (a01 (q_bm PySem.F.plainAttrs_list PySem.F.slot_list_append PySem.F.type_list_append a1e (a0c (pv 2)) (a0b a1E a0h a0f))))))))
  (a0n (a0I (a0c (pv 2))))))),?_⟩
 obtain⟨p,q,l,ms,rfl,hp,hq,hr,hok,hz,hm,hmz,fin⟩:=h;walk_at "go";refine⟨lenK rfl,λt ht=>?_⟩;walk_at "go";refine a3c (a0l hq ht) ?_;refine a1D (λi σ G'=>∃ (k:Nat) (v:Option Z),k≤l.length/\(∀ (j:Nat) r m,j<k->l[j]?=some r->ms[i]?=some m->over r m=true)/\σ=[some (.ref p),some (.ref q),some (.ref t),some (.int k),v]/\G'=put G t (.lst ((ms.take i).map λm=>wz (val l m)))) ⟨0,_,eP _,λj r m hj=>by omega,rfl,by simp⟩ (by rintro i σ G' _ ⟨_,_,_,_,_,e⟩;exact by rw[e];exact a0l hq ht) ?_ ?_
 ·rintro i x σ G' hx ⟨k,v,hk,hov,rfl,rfl⟩;rw[er]at hx;cases hx':ms[i]? with
  | none=>rw[hx']at hx;cases hx
  | some m=>
   rw[hx']at hx;cases hx;refine⟨_,rfl,?_⟩;walk_at "go";have hp':put G t (.lst ((ms.take i).map λm=>wz (val l m))) p=some (.lst (l.map Rw.z)):=a0l hp ht;generalize hG:put G t (.lst ((ms.take i).map λm=>wz (val l m)))=G1 at hp' ⊢;refine a6I (fun σ' G'=>∃ k':Nat,k'≤l.length/\(∀ (j:Nat) r,j<k'->l[j]?=some r->over r m=true)/\(∀ r,l[k']?=some r->over r m=false)/\σ'=[some (.ref p),some (.ref q),some (.ref t),some (.int k'),some (.int m)]/\G1=G') ?_ ?_
   ·refine⟨λn σ' G'=>∃ k':Nat,n+k'=l.length/\(∀ (j:Nat) r,j<k'->l[j]?=some r->over r m=true)/\σ'=[some (.ref p),some (.ref q),some (.ref t),some (.int k'),some (.int m)]/\G1=G',⟨l.length - k,k,by omega,λj r hj e=>hov j r m hj e hx',rfl,rfl⟩,?_⟩;rintro n σ' G' ⟨k',hn,ho,rfl,rfl⟩;walk_at "go";refine a7w hp' ?_;walk_at "go";refine ifD (λc=>?_) λc=>?_
    ·rw[dQ]at c;have hlt:k'<l.length:=by omega
     have hg:=et hlt;walk_at "go";refine a1f hp' (a8M hg) ?_;walk_at "go";refine⟨_,_,rfl,?_⟩;walk_at "go";refine ifB (λc2=>?_) λc2=>?_
     ·walk_at "go";refine⟨n - 1,by omega,k'+1,by omega,λj r hj e=>?_,rfl,rfl⟩
      by_cases hjk:j<k'
      ·exact ho j r hjk e
      ·have:j=k':=by omega
       subst this;rw[hg]at e;cases e;exact c2
     ·exact⟨k',by omega,ho,λr e=>by rw[hg]at e;cases e;exact c2,rfl,rfl⟩
    ·rw[dQ]at c;refine ifF ?_;exact⟨k',by omega,ho,λr e=>by have:=(eq.mp e).1;omega,rfl,rfl⟩
   ·rintro σ' G' ⟨k',hk',ho,hn,rfl,rfl⟩;have hv:val l m=val (l.drop k') m:=a9F ho;have nxt:∀ w:Z,w=wz (val l m)->a6H (.ref t) [w] G1 (λ_ G2=>∃ (k:Nat) (v:Option Z),k≤l.length/\(∀ (j:Nat) r m,j<k->l[j]?=some r->ms[i+1]?=some m->over r m=true)/\([some (.ref p),some (.ref q),some (.ref t),some (.int k'),some (.int m)]:S3)=[some (.ref p),some (.ref q),some (.ref t),some (.int k),v]/\G2=put G t (.lst ((ms.take (i+1)).map λm=>wz (val l m)))):=by
     rintro w rfl;subst hG;have hi:=(eq.mp hx').1;refine a00 a0e (by rw[dQ,eG];exact a0t (by omega)) ⟨k',_,hk',λj r m' hj e e'=>b2p ?_ (ho j r hj e),rfl,?_⟩
     ·obtain⟨h1,e1⟩:=eq.mp hx';obtain⟨h2,e2⟩:=eq.mp e';rw[<- e1,<- e2];exact gE.mp hm _ _ h1 h2 (by omega)
     ·rw[a2R,take_snoc hx',eA];rfl
    have ht1:∃ ws,G1 t=some (.lst ws):=by rw[<- hG];exact⟨_,a0e⟩
    obtain⟨wt,ht1⟩:=ht1;walk_at "go";refine a7w hp' ?_;walk_at "go";refine ifD (λc=>?_) λc=>?_
    ·rw[dQ]at c;have hlt:k'<l.length:=by omega
     have hg:=et hlt;have hv2:=b3T (by rw[<- drop_get hg];exact hr.drop k') (hn _ hg);rw[<- drop_get hg,<- hv]at hv2;walk_at "go";refine a1f hp' (a8M hg) ?_;walk_at "go";refine a1S at0 ?_;walk_at "go";refine ifD (λc2=>?_) λc2=>?_
     ·walk_at "go";refine a2o ht1 ?_;walk_at "go";refine a1f hp' (a8M hg) ?_;walk_at "go";have hw:=hok _ (fm hlt);obtain⟨x,xs,ex⟩:∃ x xs,(l[k']).w=x::xs:=by
       cases e:(l[k']).w with
       | nil=>exact absurd e hw.1
       | cons x xs=>exact⟨x,xs,rfl⟩
      refine a1S (w:=x) (by show atI (_::_::(l[k']).w) 2=some x;rw[ex];exact at2) ?_;walk_at "go";refine nxt x ?_;rw[hv2,if_pos c2,ex];rfl
     ·walk_at "go";refine a2o ht1 ?_;walk_at "go";refine nxt .non ?_;rw[hv2,if_neg c2];rfl
    ·rw[dQ]at c;refine ifF ?_;walk_at "go";refine a2o ht1 ?_;walk_at "go";refine nxt .non ?_;rw[hv,gO (by omega)];rfl
 ·rintro σ G' ⟨k,v,_,_,rfl,rfl⟩;walk_at "go";rw[dQ,fF];exact fin t ht
theorem b2q (h:OkR l):OkR (ahead m l):=λx a=>by
 obtain⟨r,b,_,rfl⟩:=a30 a;exact h r b
theorem b3U (h:OkR l):OkR (fromOn m l):=λx a=>by
 obtain⟨r,b,_,rfl⟩:=a45 a;exact h r b
def okV (z:Z):Prop:=flat 4 z=true
theorem b8W (h:okV z):okW [z]:=⟨by simp,by simp,by rw[eU,h];rfl⟩
theorem b0y (h:OkR l) (hz:okV z):OkR (a2J l b e (optW z)):=by
 intro r a;rcases dU.mp a with a | a
 ·rcases dU.mp a with a | a
  ·exact b2q h r a
  ·unfold optW at a
   split at a
   ·next w e=>
          split at e
          ·cases e
          ·cases e;rw[dX.mp a];exact b8W hz
   ·simp_all
 ·cases e with
  | none=>simp at a
  | some e=>exact b3U h r a
def a5G:P3:=λws G R=>Ex5 λp l b e z=>ws=[.ref p,.int b,oz e,z]/\G p=some (.lst (l.map Rw.z))/\Rise l/\OkR l/\One l/\l.length≤900/\bef b e=true/\okV z /\
 ∀ t G',G t=none->Sm G G'->G' t=some (.lst ((a75 l b e (optW z)).map Rw.z))->R (.ref t) G'
theorem a78 (h:a5G ws G R):ws.length=4:=by obtain⟨_,_,_,_,_,rfl,_⟩:=h;rfl
theorem a8N (F:Fns K a) (T:Txt K mg a):FnOk P w K mg base CX0 3 a.f7 a.d7 ["line","begin","end","worth"] (lowP K a5G):=by
 have G_p_ahead_of:=a62 (P:=P) (w:=w) (base:=base) F T;have G_p_with_alike_joined:=a1p (P:=P) (w:=w) (base:=base) F T;have G_p_from_on:=a77 (P:=P) (w:=w) (base:=base) F T;refine fn3 F.n7 sc_p_put_on (λws G R h=>(by exact a78 h)) (λcdv A outer s H E ws G R hr h=>?_);have hu:=a03 hr;refine⟨_,(a0m (z_set (i:=4) sc_p_put_on.nd rfl (dR rfl) (a0s G_p_ahead_of (hr.mono (by decide)) rfl T.m4 F.n4.kp (a6W F) (a0b (a0c (pv 0)) (a0b (a0c (pv 1)) a0h a0a) a0a) (he:=a0a) (hpl:=(a0j a0a a0k))))
  (a6F (z_if (a0v a1R (a0c (pv 3)) a1E (a0p _))
  (a0n (a01 (q_bm PySem.F.plainAttrs_list PySem.F.slot_list_append PySem.F.type_list_append a1e (a0c (pv 4)) (a0b (a2l (a0b (a0c (pv 1)) (a0b (a0c (pv 2)) (a0b (a0c (pv 3)) a0h a0a) a0a) a0a)) a0h a22))))
  a0V)
  (a6F (z_if (a0v a1R (a0c (pv 2)) a1E (a0p _))
  (a0n (a01 (q_bm PySem.F.plainAttrs_list PySem.F.slot_list_extend PySem.F.type_list_extend b3l (a0c (pv 4)) (a0b (a0s G_p_from_on (hr.mono (by decide)) rfl T.m6 F.n6.kp (a7X F) (a0b (a0c (pv 0)) (a0b (a0c (pv 2)) a0h a0a) a0a) (he:=a0a) (hpl:=(a0j a0a a0k))) a0h a0L))))
  a0V)
  (a0n (a0I (a0s G_p_with_alike_joined (hr.mono (by decide)) rfl T.m5 F.n5.kp (a1n F) (a0b (a0c (pv 4)) a0h a0a) (he:=a0a) (hpl:=a0k))))))),?_⟩
 obtain⟨p,l,b,e,z,rfl,hp,hr,hok,h1,hz,g,hv,q⟩:=h;have hpc:=(a74 (w:=optW z) hr g).2.2;walk_at "go";refine⟨p,l,some b,rfl,hp,h1,by omega,λt ht=>?_⟩;walk_at "go";have la:=a73 (some b) l;refine a6I (fun σ' G'=>σ'=[some (.ref p),some (.int b),some (oz e),some z,some (.ref t)]/\G'=put G t (.lst ((ahead (some b) l++(match optW z with | some w=>[(⟨b,e,w⟩:Rw)] | none=>[])).map Rw.z))) ?_ ?_
 ·walk_at "go";refine ifN (λc=>?_) λc=>?_
  ·walk_at "go";refine a2o a0e ?_;walk_at "go";refine⟨lenK rfl,?_⟩;walk_at "go";refine a00 a0e (by rw[dQ];exact a0t (by omega)) ⟨rfl,?_⟩;rw[a2R,optW,if_neg c,eA];rfl
  ·walk_at "go";refine⟨rfl,?_⟩;rw[optW,if_pos c];simp
 ·rintro σ' G' ⟨rfl,rfl⟩;have hp1:∀ o,put G t o p=some (.lst (l.map Rw.z)):=λo=>a0l hp ht;have fin:∀ G' ,Sm G G'->G' t=some (.lst ((a2J l b e (optW z)).map Rw.z))->a0R [.ref t] G' R:=λG' s ht'=>by
   refine⟨t,_,rfl,ht',b0y hok hv,by omega,λu hu=>?_⟩;exact q u _ (s.free hu) (s.trans (Sm.new hu)) a0e
  refine a6I (fun σ' G'=>σ'=[some (.ref p),some (.int b),some (oz e),some z,some (.ref t)]/\Sm G G'/\G' t=some (.lst ((a2J l b e (optW z)).map Rw.z))) ?_ ?_
  ·cases e with
   | none=>
    walk_at "go";refine⟨rfl,Sm.new ht,?_⟩;unfold a2J;rw[eL];exact a0e
   | some e=>
    walk_at "go";refine a2o a0e ?_;walk_at "go";refine⟨p,l,e,rfl,hp1 _,h1,by omega,λu hu=>?_⟩;have hut:t≠u:=λz=>by subst z;rw[a0e]at hu;cases hu
    have hpl:(a2J l b (some e) (optW z)).length=(ahead (some b) l++(match optW z with | some w=>[(⟨b,some e,w⟩:Rw)] | none=>[])).length+(fromOn e l).length:=by
     unfold a2J;exact dW
    generalize hA:(ahead (some b) l++(match optW z with | some w=>[(⟨b,some e,w⟩:Rw)] | none=>[]))=A at hu hpl ⊢
    have e1:put (put G t (.lst (A.map Rw.z))) u (.lst ((fromOn e l).map Rw.z)) t=some (.lst (A.map Rw.z)):=by rw[a0A hut];exact a0e
    walk_at "go";refine b3n e1 a0e (by rw[dQ,dQ];exact a1X (by omega)) ?_;refine⟨rfl,?_,?_⟩
    ·exact ((Sm.new ht).trans (Sm.new hu)).put ht
    ·rw[a0e,<- eA,<- hA]
     rfl
  ·rintro σ' G' ⟨rfl,s,ht'⟩;walk_at "go";exact fin G' s ht'
def okS (s:Str):Prop:=s.length≤1000/\PyData.strOk s=true
def Th (G:Hq):Z->Prop
 | .non=>True
 | .bl _=>True
 | .int _=>True
 | .str s=>okS s
 | .tup _=>True
 | .ref p=>(∃ ws,G p=some (.lst ws))\/∃ kvs,G p=some (.dK kvs)
 | _=>False
theorem Th.sm (s:Sm G G') (h:Th G x):Th G' x:=by
 cases x with
 | ref p=>
  rcases h with ⟨ws,e⟩ | ⟨ws,e⟩
  ·exact .inl ⟨ws,s _ _ e⟩
  ·exact .inr ⟨ws,s _ _ e⟩
 | _=>exact h
structure Kd (G:Hq) (x:Z) (n:String):Prop where
 ty:tyN G x=some n
 is:n="NoneType"\/n="bool"\/n="int"\/n="str"\/n="tuple"\/n="list"\/n="dict"
theorem Th.kd (h:Th G x):∃ n,Kd G x n:=by
 cases x with
 | non=>exact⟨_,rfl,.inl rfl⟩
 | bl _=>exact⟨_,rfl,.inr (.inl rfl)⟩
 | int _=>exact⟨_,rfl,.inr (.inr (.inl rfl))⟩
 | str _=>exact⟨_,rfl,.inr (.inr (.inr (.inl rfl)))⟩
 | tup _=>exact⟨_,rfl,.inr (.inr (.inr (.inr (.inl rfl))))⟩
 | ref p=>
  rcases h with ⟨ws,e⟩ | ⟨ws,e⟩
  ·exact⟨"list",by simp[tyN,e],.inr (.inr (.inr (.inr (.inr (.inl rfl)))))⟩
  ·exact⟨"dict",by simp[tyN,e],.inr (.inr (.inr (.inr (.inr (.inr rfl)))))⟩
 | _=>exact ei h
theorem b59 (h:n="NoneType"\/n="bool"\/n="int"\/n="str"\/n="tuple"\/n="list"\/n="dict"):kit0 n "str"=some (decide (n="str")):=by
 rcases h with rfl | rfl | rfl | rfl | rfl | rfl | rfl<;>decide +kernel
theorem b3V (h:n="NoneType"\/n="bool"\/n="int"\/n="str"\/n="tuple"\/n="list"\/n="dict"):kit0 n "bool"=some (decide (n="bool")):=by
 rcases h with rfl | rfl | rfl | rfl | rfl | rfl | rfl<;>decide +kernel
theorem b6a (h:n="NoneType"\/n="bool"\/n="int"\/n="str"\/n="tuple"\/n="list"\/n="dict"):kit0 n "int"=some (decide (n="int")||decide (n="bool")):=by
 rcases h with rfl | rfl | rfl | rfl | rfl | rfl | rfl<;>decide +kernel
def isS:Z->Bool
 | .str _=>true
 | _=>false
def isB:Z->Bool
 | .bl _=>true
 | _=>false
def isI:Z->Bool
 | .int _=>true
 | .bl _=>true
 | _=>false
theorem c0J (h:Th G x) (q:R (.bl (isS x)) G):zIsT [x,.ty "str"] G R:=by
 obtain⟨n,k⟩:=h.kd;refine⟨n,_,k.ty,b59 k.is,?_⟩;have e:decide (n="str")=isS x:=by
  have:=k.ty
  cases x with
  | ref p=>rcases h with ⟨ws,e⟩ | ⟨ws,e⟩<;>(simp[tyN,e]at this;subst this;show _=false;decide)
  | _=>first | (cases this;show _=false;decide;done) | (cases this;show _=true;decide;done) | exact ei h
 rw[e];exact q
theorem b8X (h:Th G x) (q:R (.bl (isB x)) G):zIsT [x,.ty "bool"] G R:=by
 obtain⟨n,k⟩:=h.kd;refine⟨n,_,k.ty,b3V k.is,?_⟩;have e:decide (n="bool")=isB x:=by
  have:=k.ty
  cases x with
  | ref p=>rcases h with ⟨ws,e⟩ | ⟨ws,e⟩<;>(simp[tyN,e]at this;subst this;show _=false;decide)
  | _=>first | (cases this;show _=false;decide;done) | (cases this;show _=true;decide;done) | exact ei h
 rw[e];exact q
theorem b8Y (h:Th G x) (q:R (.bl (isI x)) G):zIsT [x,.ty "int"] G R:=by
 obtain⟨n,k⟩:=h.kd;refine⟨n,_,k.ty,b6a k.is,?_⟩;have e:(decide (n="int")||decide (n="bool"))=isI x:=by
  have:=k.ty
  cases x with
  | ref p=>rcases h with ⟨ws,e⟩ | ⟨ws,e⟩<;>(simp[tyN,e]at this;subst this;show _=false;decide)
  | _=>first | (cases this;show _=false;decide;done) | (cases this;show _=true;decide;done) | exact ei h
 rw[e];exact q
def okC (c:Nat):Bool:=decide (97≤c)&&decide (c≤122)
def a3d:Z->Bool
 | .str s=>decide (1≤s.length)&&decide (s.length≤8)&&s.cps.toList.all okC
 | _=>false
def momB:Z->Bool
 | .int i=>decide (0≤i)&&decide (i≤1000000000000)
 | _=>false
theorem a64:momB (.int i)=(decide (0≤i)&&decide (i≤1000000000000)):=rfl
def strB (x y:Z):Bool:=momB x&&match y with
 | .non=>true
 | .int j=>momB (.int j)&&match x with | .int i=>decide (i<j) | _=>false
 | _=>false
def spB1 (f:Z->Bool):P3:=λws G R=>∃ x,ws=[x]/\Th G x/\∀ G',Sm G G'->R (.bl (f x)) G'
theorem b8Z (h:spB1 f ws G R):ws.length=1:=by obtain⟨_,rfl,_⟩:=h;rfl
def spB2 (f:Z->Z->Bool):P3:=λws G R=>∃ x y,ws=[x,y]/\Th G x/\Th G y/\∀ G',Sm G G'->R (.bl (f x y)) G'
theorem c0K (h:spB2 f ws G R):ws.length=2:=by obtain⟨_,_,rfl,_⟩:=h;rfl
abbrev a79:P3:=spB1 a3d
abbrev a3l:P3:=spB1 momB
abbrev a5H:P3:=spB2 strB
theorem b2r (a b:Nat):ltS ⟨#[a]⟩ ⟨#[b]⟩=decide (a<b):=by
 by_cases h:a<b
 ·rw[decide_eq_true h];exact decide_eq_true (jL.mpr (.inl h))
 ·rw[decide_eq_false h];refine decide_eq_false λq=>?_;rcases jL.mp q with q | q
  ·simp_all
  ·simp_all
theorem strA:(Str.ofString "a")=⟨#[97]⟩:=by decide +kernel
theorem strZ:(Str.ofString "z")=⟨#[122]⟩:=by decide +kernel
theorem b3W (x:Str) (g:Nat->Option Z) (f:Z->Option Z) (h:∀ c,f (.str ⟨#[c]⟩)=g c):(a4M x).filterMap f=x.cps.toList.filterMap g:=by
 unfold a4M;rw[jg]
 congr 1
 funext c
 exact h c
theorem b2s (h:x.length≤1000):(a4M x).length≤1000:=by unfold a4M;rw[dQ,fj];exact h
theorem b80 (l:List Nat):(l.filterMap λc=>some (Z.bl (okC c)))=(l.map okC).map Z.bl:=by simp
theorem b6b (l:List Nat):(l.map okC).all id=l.all okC:=by simp
theorem a47:a3d (.str s)=(decide (1≤s.length)&&decide (s.length≤8)&&s.cps.toList.all okC):=rfl
theorem a8a (F:Fns K a) (T:Txt K mg a):FnOk P w K mg base CX0 1 a.f0 a.d0 ["thing"] (lowP K a79):=by
 refine fn3 F.n0 a7T (λws G R h=>(by exact b8Z h)) (λcdv A outer s H E ws G R hr h=>?_);have hu:=a03 hr;refine⟨_,(a0m (z_if (a2S (a3b (a0B a8v rfl T.b_isinstance rfl (a0b (a0c (pv 0)) (a0b (q_ty (a2O (v:=.ty "str") rfl T.b_str rfl rfl)) a0h a0a) a0a) (he:=a0a) (hpl:=(a0j a0a a0k)))))
  (a0n (a0I q_bl))
  a0V)
  (a0m (z_if (QW.qt (q_or (a0v o_lt (a0B b_len rfl T.b_len PySem.boot_len (a0b (a0c (pv 0)) a0h a0a) (he:=a0a) (hpl:=a0k)) a0g (a0p _)) (a5h (a0v o_gt (a0B b_len rfl T.b_len PySem.boot_len (a0b (a0c (pv 0)) a0h a0a) (he:=a0a) (hpl:=a0k)) (b4s (a9A rfl T.c_LONGEST_NAME)) (a0p _)))))
  (a0n (a0I q_bl))
  a0V)
  (a0n (a0I (a0B (b_all rfl) rfl T.b_all rfl (a0b (q_lc (N₀:=["thing"]) (so:=a0i a2C) (N':=["sign"]) (cap:=[none]) (pt:=(.nm 0)) rfl rfl rfl (by decide +kernel) rfl (b7P (a0c (pv 0))) (λ_ _ _ _=>(show QP _ _ (.nm 0) from (a0o (i:=0) c0C rfl (dR rfl)))) (λ_ _ _ _=>a4i) (λ_ _ _ _=>(b1p o_le o_le a4f (a0c (pv 0)) a4f))) a0h a05) (he:=a05) (hpl:=a0k)))))),?_⟩
 obtain⟨x,rfl,hx,q⟩:=h;walk_at "go";refine c0J hx ?_;walk_at "go";refine ifNB (λc=>?_) λc=>?_
 ·walk_at "go";have e:a3d x=false:=by cases x<;>first | rfl | cases c
  have:=q G (Sm.refl G)
  rw[e]at this;exact this
 ·obtain⟨s,rfl⟩:∃ s,x=.str s:=by cases x<;>first | exact⟨_,rfl⟩ | cases c
  have hs:okS s:=hx;walk_at "go";refine b1J (a1X hs.1) ?_;walk_at "go";have no:a3d (.str s)=false->R (.bl false) G:=λe=>by have:=q G (Sm.refl G);rw[e]at this;exact this
  refine ifD (λc1=>?_) λc1=>?_
  ·walk_at "go";exact no (by rw[a47,decide_eq_false (show ¬ 1≤s.length by omega)];rfl)
  ·walk_at "go";refine b1J (a1X hs.1) ?_;walk_at "go";refine ifD (λc2=>?_) λc2=>?_
   ·walk_at "go";exact no (by rw[a47,decide_eq_false (show ¬ s.length≤8 by omega),gK];rfl)
   ·walk_at "go";intro D hD;refine b5k (λx=>match x with | .str z=>some (.bl (!ltS z (Str.ofString "a")&&!ltS (Str.ofString "z") z)) | _=>none) (λ_=>True.intro) (b2s hs.1) ?_ ?_
    ·intro x hm ys K1 K2 k1 k2;unfold a4M at hm;obtain⟨c,_,rfl⟩:=eK.mp hm;refine⟨_,rfl,?_⟩;walk_at "go";refine ifB (λz=>?_) λz=>?_
     ·walk_at "go";refine k1 _ ?_;dsimp only;rw[z];rfl
     ·refine k1 _ ?_;dsimp only;rw[z];rfl
    ·have e:(a4M s).filterMap (λx=>match x with | .str z=>some (.bl (!ltS z (Str.ofString "a")&&!ltS (Str.ofString "z") z)) | _=>none)=(s.cps.toList.map okC).map Z.bl:=by
      rw[b3W s (λc=>some (.bl (okC c))) _ λc=>?_,b80];dsimp only;rw[strA,strZ,b2r,b2r];unfold okC
      congr 2
      by_cases h1:c<97<;>by_cases h2:122<c<;>simp[h1,h2]<;>omega
     have e2:a3d (.str s)=s.cps.toList.all okC:=by rw[a47,decide_eq_true (show 1≤s.length by omega),decide_eq_true (show s.length≤8 by omega),fk,fk]
     refine c0b (by rw[e];exact a0e) ?_;rw[b6b,<- e2];exact q _ (Sm.new hD)
theorem a5X (F:Fns K a) (T:Txt K mg a):FnOk P w K mg base CX0 1 a.f1 a.d1 ["thing"] (lowP K a3l):=by
 refine fn3 F.n1 a5T (λws G R h=>(by exact b8Z h)) (λcdv A outer s H E ws G R hr h=>?_);have hu:=a03 hr;refine⟨_,(a0m (z_if (QW.qt (q_or (a3b (a0B a8v rfl T.b_isinstance rfl (a0b (a0c (pv 0)) (a0b (q_ty (a2O (v:=.ty "bool") rfl T.b_bool rfl rfl)) a0h a0a) a0a) (he:=a0a) (hpl:=(a0j a0a a0k)))) (a5h (a2S (a3b (a0B a8v rfl T.b_isinstance rfl (a0b (a0c (pv 0)) (a0b (q_ty (a2O (v:=.ty "int") rfl T.b_int rfl rfl)) a0h a0a) a0a) (he:=a0a) (hpl:=(a0j a0a a0k))))))))
  (a0n (a0I q_bl))
  a0V)
  (a0n (a0I (b1p o_le o_le a0g (a0c (pv 0)) (b4s (a9A rfl T.c_LAST_MOMENT)))))),?_⟩
 obtain⟨x,rfl,hx,q⟩:=h;have no:momB x=false->R (.bl false) G:=λe=>by have:=q G (Sm.refl G);rw[e]at this;exact this
 walk_at "go";refine b8X hx ?_;walk_at "go";refine ifB (λc=>?_) λc=>?_
 ·walk_at "go";exact no (by cases x<;>first | rfl | cases c)
 ·walk_at "go";refine b8Y hx ?_;walk_at "go";refine ifNB (λc2=>?_) λc2=>?_
  ·walk_at "go";exact no (by cases x<;>first | rfl | cases c2)
  ·obtain⟨i,rfl⟩:∃ i,x=.int i:=by cases x<;>first | exact⟨_,rfl⟩ | (cases c;done) | (cases c2;done)
   walk_at "go";refine ifD (λz=>?_) λz=>?_
   ·walk_at "go"
    have:=q G (Sm.refl G)
    rw[a64,decide_eq_true z,fk]at this;exact this
   ·exact no (by rw[a64,decide_eq_false z];rfl)
theorem a5I (F:Fns K a) (T:Txt K mg a):FnOk P w K mg base CX0 2 a.f2 a.d2 ["begin","end"] (lowP K a5H):=by
 have b:FnOk P w K mg base CX0 1 a.f1 a.d1 ["thing"] (lowP K a3l):=a5X F T;refine fn3 F.n2 a5z (λo G R h=>(by exact c0K h)) (λu A n s H E o G R l h=>?_);have v:=a03 l;refine⟨_,(a0m (z_if (a2S (a3b (a0s b (l.mono (by decide)) rfl T.m1 F.n1.kp (a3h F) (a0b (a0c (pv 0)) a0h a0a))))
  (a0n (a0I q_bl))
  a0V)
  (a0m (z_if (a0v o_is (a0c (pv 1)) a1E (a0p _))
  (a0n (a0I q_bl))
  a0V)
  (a0n (a0I (a7r (a0s b (l.mono (by decide)) rfl T.m1 F.n1.kp (a3h F) (a0b (a0c (pv 1)) a0h a0a)) (a97 (a7q o_lt (a0c (pv 0)) (a0c (pv 1)) (a0p _)))))))),?_⟩
 obtain⟨x,y,rfl,t,r,q⟩:=h;walk_at "go";refine⟨x,rfl,t,λC g=>?_⟩;have m:∀ d,Sm G d->strB x y=false->R (.bl false) d:=λd s e=>by have:=q d s;rw[e]at this;exact this
 walk_at "go";refine ifNB (λc=>?_) λc=>?_
 ·walk_at "go";exact m _ g (by unfold strB;rw[c];rfl)
 ·walk_at "go";refine ifD (λz=>?_) λz=>?_
  ·walk_at "go"
   have:=q _ g
   unfold strB at this;rw[c,z]at this;exact this
  ·walk_at "go";refine⟨y,rfl,r.sm g,λB p=>?_⟩;have k:=g.trans p;walk_at "go";refine ifB (λf=>?_) λf=>?_
   ·obtain⟨i,rfl⟩:∃ i,x=.int i:=by cases x<;>first | exact⟨_,rfl⟩ | cases c
    obtain⟨j,rfl⟩:∃ j,y=.int j:=by cases y<;>first | exact⟨_,rfl⟩ | cases f
    walk_at "go"
    have:=q _ k
    unfold strB at this;rw[c]at this;dsimp only at this;rw[f,fk,fk]at this;exact this
   ·refine m _ k ?_;unfold strB;rw[c,fk];cases y<;>first | rfl | exact absurd rfl z | (dsimp only;rw[f];rfl)
def isL (c:Nat):Prop:=97≤c/\c≤122
def nmOk (s:Str):Prop:=1≤s.cps.toList.length/\s.cps.toList.length≤8/\∀ c∈s.cps.toList,isL c
theorem a3B (s:Str):s.length=s.cps.toList.length:=by rw[fj];rfl
theorem a9G (h:∀ c∈s.cps.toList,isL c):PyData.strOk s=true:=by
 unfold PyData.strOk;rw[Array.all_eq_true_iff_forall_mem];intro c a
 have:=(h c (by simp_all)).2
 exact decide_eq_true (by omega)
theorem b2t (h:nmOk s):flat n (.str s)=true:=by
 have:=a9G h.2.2
 cases n<;>exact this
theorem b3X (h:nmOk s):Th G (.str s):=⟨by rw[a3B];have:=h.2.1;omega,a9G h.2.2⟩
theorem nm_b (h:nmOk s):a3d (.str s)=true:=by
 rw[a47,decide_eq_true (by rw[a3B];exact h.1),decide_eq_true (by rw[a3B];exact h.2.1)];rw[fk,fk,fV];intro c b;obtain⟨a,d⟩:=h.2.2 c b;unfold okC;rw[decide_eq_true a,decide_eq_true d];rfl
def T12:Int:=1000000000000
def stOk (b:Int) (e:Option Int):Prop:=0≤b/\b≤T12/\∀ x,e=some x->b<x/\x≤T12
theorem stOk.bef (h:stOk b e):bef b e=true:=by
 cases e with
 | none=>rfl
 | some x=>simp only[Lw.bef,decide_eq_true_eq];exact (h.2.2 x rfl).1
theorem st_b (h:stOk b e):strB (.int b) (oz e)=true:=by
 obtain⟨c,g,a⟩:=h;unfold T12 at *;unfold strB;rw[a64,decide_eq_true c,decide_eq_true g];cases e with
 | none=>rfl
 | some x=>
  obtain⟨f,d⟩:=a x rfl
  show (true&&(momB _&&decide _))=true
  rw[a64,decide_eq_true (show 0≤x by omega),decide_eq_true d,decide_eq_true f];rfl
def Plain (l:List Rw):Prop:=∀ r∈l,∃ x,r.w=[x]/\flat 0 x=true
theorem Plain.one (h:Plain l):One l:=λr a=>let ⟨x,e,_⟩:=h r a;⟨x,e⟩
theorem Plain.okR (h:Plain l):OkR l:=λr a=>by
 obtain⟨x,e,f⟩:=h r a;rw[e];exact b8W (a1Y (by simp) f)
theorem Plain.nil:Plain []:=λr hr=>by simp at hr
theorem a4H (h:Plain puts) (t:Int):flat 0 (a0J puts t)=true:=by
 unfold a0J;cases e:puts.reverse.find? _ with
 | none=>rfl
 | some r=>
  obtain⟨x,a,f⟩:=h r (by have:=iz e;simpa using this)
  show flat 0 (r.w.headD .non)=true
  rw[a];exact f
theorem b2u (z:Z):wz (optW z)=z:=by
 unfold optW
 split
 ·next h=>rw[h];rfl
 ·rfl
theorem b2v (h:Plain L) (f:flat 0 z=true):Plain (a75 L b e (optW z)):=λr a=>by
 have m:Plain (a2J L b e (optW z)):=λr a=>by
  rcases dU.mp a with a | a
  ·rcases dU.mp a with a | a
   ·obtain⟨j,i,_,rfl⟩:=a30 a;exact h j i
   ·unfold optW at a
    split at a
    ·next w e=>
           split at e
           ·cases e
           ·cases e;rw[dX.mp a];exact⟨z,rfl,f⟩
    ·simp_all
  ·cases e with
   | none=>simp at a
   | some e=>
    obtain⟨j,i,_,rfl⟩:=a45 a;exact h j i
 have l:∀ d c,Plain c->Plain d->Plain (d.foldl jn c):=by
  intro d
  induction d with
  | nil=>exact λ_ h _=>h
  | cons p d ih=>
   intro c k g;refine ih _ (λr a=>?_) λr a=>g r (.tail _ a)
   have:=g p (.head _)
   unfold jn at a
   split at a
   ·split at a
    ·rcases dU.mp a with a | a
     ·exact k r (iU _ a)
     ·simp_all
    ·rcases dU.mp a with a | a
     ·exact k r a
     ·simp_all
   ·simp_all
 exact l _ [] Plain.nil m r a
structure Tl where
 key:Str
 w:Option Str
 b:Int
 e:Option Int
abbrev sPut:Str:=Str.ofString "put"
abbrev b4L:Str:=Str.ofString "clear"
noncomputable def Tl.z (τ:Tl):Z:=match τ.w with
 | some w=>.tup [.str sPut,.str τ.key,.str w,.int τ.b,oz τ.e]
 | none=>.tup [.str b4L,.str τ.key,.int τ.b,oz τ.e]
def Tl.v (τ:Tl):Z:=match τ.w with
 | some w=>.str w
 | none=>.non
structure Tl.Ok (τ:Tl):Prop where
 k:nmOk τ.key
 w:∀ s,τ.w=some s->nmOk s
 st:stOk τ.b τ.e
theorem Tl.Ok.v {τ:Tl}(h:τ.Ok):flat 0 τ.v=true:=by
 unfold Tl.v;cases e:τ.w with
 | none=>rfl
 | some w=>exact b2t (h.w w e)
def Tl.rw (τ:Tl):Rw:=⟨τ.b,τ.e,[τ.v]⟩
noncomputable def a0M (T:List Tl) (k:Str):List Rw:=(T.filter fun τ=>decide (τ.key=k)).map Tl.rw
theorem a4s:a0M (T++[τ]) k=a0M T k++(if τ.key=k then [τ.rw] else []):=by
 unfold a0M
 by_cases c:τ.key=k<;>simp[c]
def OkT (T:List Tl):Prop:=∀ τ∈T,τ.Ok
theorem a6p (h:OkT T):Plain (a0M T k):=λr a=>by
 obtain⟨τ,b,rfl⟩:=eK.mp a;exact⟨_,rfl,(h τ (gg.mp b).1).v⟩
structure IsLine (T:List Tl) (k:Str) (L:List Rw):Prop where
 can:Can L
 pl:Plain L
 len:L.length≤2*T.length
 v:∀ t,val L t=optW (a0J (a0M T k) t)
theorem IsLine.nil (h:a0M T k=[]):IsLine T k []:=⟨Can.nil,Plain.nil,by simp,λt=>by rw[h];rfl⟩
theorem IsLine.snoc (h:IsLine T τ.key L) (o:τ.Ok):IsLine (T++[τ]) τ.key (a75 L τ.b τ.e (optW τ.v)):=by
 have a:=b3O (w:=optW τ.v) h.can.rise o.st.bef;refine⟨a.1,b2v h.pl o.v,by have:=a.2.2;have:=h.len;simp;omega,λt=>?_⟩;rw[a4s,if_pos rfl,a5D,a.2.1 t,h.v t]
 show _=optW (if (decide (τ.b≤t)&&bef t τ.e)=true then τ.v else a0J _ t)
 split<;>rfl
noncomputable def ixF (k:Str):Nat->List Tl->List Int
 | _,[]=>[]
 | n,τ::T=>(if τ.key=k then [(n:Int)+1] else [])++ixF k (n+1) T
def ix (T:List Tl) (k:Str):List Int:=ixF k 0 T
theorem a9H:∀ (n:Nat) (T:List Tl),ixF k n (T++[τ])=ixF k n T++(if τ.key=k then [(n+T.length:Int)+1] else [])
 | n,[]=>by simp[ixF]
 | n,σ::T=>by
  rw[gY,ixF,a9H,ixF,eO]
  congr 2
  split
  ·congr 1;rw[eF];omega
  ·rfl
theorem a4t:ix (T++[τ]) k=ix T k++(if τ.key=k then [(T.length:Int)+1] else []):=by
 unfold ix;rw[a9H];simp
theorem b2w:∀ {n:Nat}{T:List Tl}{i:Int},i∈ixF k n T->(n:Int)+1≤i/\i≤n+T.length
 | _,[],i,h=>by simp[ixF]at h
 | n,τ::T,i,h=>by
  rw[eF];rcases dU.mp h with h | h
  ·split at h
   ·rw[dX.mp h];omega
   ·simp_all
  ·have:=b2w h;omega
theorem b81 (h:i∈ix T k):1≤i/\i≤T.length:=by
 have:=b2w h
 simpa using this
theorem b2x:∀ (n:Nat) (T:List Tl),(ixF k n T).length≤T.length
 | _,[]=>by simp[ixF]
 | n,τ::T=>by
  have:=b2x (k:=k) (n+1) T
  rw[ixF,dW,eF]
  split<;>simp<;>omega
theorem b82 (T:List Tl) (k:Str):(ix T k).length≤T.length:=b2x 0 T
theorem a6q:∀ (n:Nat) (T:List Tl),(ixF k n T).Pairwise (·<·)
 | _,[]=>.nil
 | n,τ::T=>by
  refine eM.mpr ⟨by split<;>simp,a6q _ T,λx a y b=>?_⟩
  have:=b2w b
  split at a
  ·rw[dX.mp a];omega
  ·grind
theorem b2y (T:List Tl) (k:Str):(ix T k).Pairwise (·<·):=a6q 0 T
theorem a48:∀ (n:Nat) (T:List Tl) (s q:Nat),s≤q->(∀ i∈ixF k n T,(i:Int)≤n+s\/(n+q:Int)<i)->a0M (T.take q) k=a0M (T.take s) k
 | n,[],s,q,_,_=>by simp
 | n,τ::T,s,0,hs,_=>by grind
 | n,τ::T,0,q+1,hs,h=>by
  have d:¬ τ.key=k:=λe=>by
   have:=h (n+1) (by rw[ixF,if_pos e];simp)
   omega
  have a:=a48 (k:=k) (n+1) T 0 q (by omega) λi b=>by
   rcases h i (by rw[ixF];simp[b]) with c | c
   omega;omega
  rw[iX];unfold a0M at a ⊢;rw[fS,if_neg (by simpa using d),a];simp
 | n,τ::T,s+1,q+1,hs,h=>by
  have a:=a48 (k:=k) (n+1) T s q (by omega) λi b=>by
   rcases h i (by rw[ixF];simp[b]) with c | c
   ·left;omega
   omega
  rw[iX,iX];unfold a0M at a ⊢;rw[fS,fS]
  split
  ·grind
  ·exact a
theorem IsLine.cut {s q:Nat}(h:IsLine (T.take s) k L) (hs:s≤q) (hi:∀ i∈ix T k,i≤(s:Int)\/(q:Int)<i):IsLine (T.take q) k L:=by
 have e:=a48 0 T s q hs λi h=>by have:=hi i h;simpa using this
 exact⟨h.can,h.pl,by have:=h.len;rw[eG]at this ⊢;omega,λt=>by rw[e];exact h.v t⟩
abbrev a8O:Str:=Str.ofString "last"
abbrev b2z:Str:=Str.ofString "kept"
def shF (n:Int) (d:Addr):List (Str×Z):=[(a8O,.int n),(b2z,.ref d)]
theorem c0Q:¬ (a8O=b2z):=by decide +kernel
theorem b6c:putQ b2z (.ref d) [(a8O,.int n)]=shF n d:=by
 rfl
theorem b6d:putQ a8O (.int m) (shF n d)=shF m d:=rfl
theorem a4u:(shF n d).lookup a8O=some (.int n):=rfl
theorem a8P:(shF n d).lookup b2z=some (.ref d):=rfl
theorem a5Y (h1:(m==a8O)=false) (h2:(m==b2z)=false):(shF n d).lookup m=none:=by
 unfold shF;rw[fv,h1,fv,h2];rfl
abbrev enZ (e:Int×Addr):Z:=.tup [.int e.1,.ref e.2]
structure Hist (G:Hq) (S:Addr->Prop) (T:List Tl) (k:Str) (h:Addr) (es:List (Int×Addr)):Prop where
 s:S h
 at_:G h=some (.lst (es.map enZ))
 ix:es.map (·.1)=ix T k
 ne:es≠[]
 ln:∀ e∈es,S e.2/\∃ L,G e.2=some (.lst (L.map Rw.z))/\IsLine (T.take e.1.toNat) k L
structure ShM (C:Addr) (G:Hq) (p:Addr) (S:Addr->Prop) (T:List Tl) (n:Int) (dx d:Addr) (kvs:List (Key×Z)):Prop where
 ob:G p=some (.ins C dx (shF n d))
 sp:S p
 sd:S d
 dc:G d=some (.dK kvs)
 len:kvs.length≤T.length
 no:∀ k,valZ kvs (.inr k)=none->ix T k=[]
 hs:∀ k z,valZ kvs (.inr k)=some z->∃ h es,z=.ref h/\Hist G S T k h es
 inj:∀ k k' z,valZ kvs (.inr k)=some z->valZ kvs (.inr k')=some z->k=k'
 al:∀ b,S b->∃ o,G b=some o
 nd:(kvs.map (·.1)).Nodup
 sk:∀ q∈kvs,∃ s,q.1=Sum.inr s
def Sheet (C:Addr) (G:Hq) (p:Addr) (S:Addr->Prop) (T:List Tl):Prop:=∃ dx d kvs,ShM C G p S T T.length dx d kvs
def KS (S:Addr->Prop) (G G':Hq):Prop:=∀ b o,S b->G b=some o->G' b=some o
def KN (S:Addr->Prop) (G G':Hq):Prop:=∀ b o,¬ S b->G b=some o->G' b=some o
theorem Sm.ks (s:Sm G G'):KS S G G':=λb o _ e=>s b o e
theorem Sm.kn (s:Sm G G'):KN S G G':=λb o _ e=>s b o e
theorem KN.trans (a:KN S G G1) (b:KN S G1 G2):KN S G G2:=λc o n e=>b c o n (a c o n e)
theorem Hist.keep (H:Hist G S T k h es) (q:KS S G G'):Hist G' S T k h es:=
 ⟨H.s,q _ _ H.s H.at_,H.ix,H.ne,λe c=>let ⟨s,L,a,b⟩:=H.ln e c;⟨s,L,q _ _ s a,b⟩⟩
theorem ShM.keep (H:ShM C G p S T n dx d kvs) (q:KS S G G'):ShM C G' p S T n dx d kvs:=
 ⟨q _ _ H.sp H.ob,H.sp,H.sd,q _ _ H.sd H.dc,H.len,H.no,λk z e=>let ⟨h,es,a,b⟩:=H.hs k z e;⟨h,es,a,b.keep q⟩,H.inj,(λb c=>let ⟨o,e⟩:=H.al b c;⟨o,q b o c e⟩),H.nd,H.sk⟩
theorem Sheet.keep (H:Sheet C G p S T) (q:KS S G G'):Sheet C G' p S T:=let ⟨dx,d,kvs,h⟩:=H;⟨dx,d,kvs,h.keep q⟩
structure ShV (C:Addr) (G:Hq) (p:Addr) (S:Addr->Prop) (T:List Tl) (n:Int) (dx d:Addr) (kvs:List (Key×Z)):Prop where
 ob:G p=some (.ins C dx (shF n d))
 sp:S p
 sd:S d
 dc:G d=some (.dK kvs)\/G d=some (.dF kvs)
 len:kvs.length≤T.length
 no:∀ k,valZ kvs (.inr k)=none->ix T k=[]
 hs:∀ k z,valZ kvs (.inr k)=some z->∃ h es,z=.ref h/\Hist G S T k h es
 al:∀ b,S b->∃ o,G b=some o
 nd:(kvs.map (·.1)).Nodup
 sk:∀ q∈kvs,∃ s,q.1=Sum.inr s
theorem ShM.v (H:ShM C G p S T n dx d kvs):ShV C G p S T n dx d kvs:=⟨H.ob,H.sp,H.sd,.inl H.dc,H.len,H.no,H.hs,H.al,H.nd,H.sk⟩
theorem ShV.keep (H:ShV C G p S T n dx d kvs) (q:KS S G G'):ShV C G' p S T n dx d kvs:=
 ⟨q _ _ H.sp H.ob,H.sp,H.sd,H.dc.imp (q _ _ H.sd) (q _ _ H.sd),H.len,H.no,λk z e=>let ⟨h,es,a,b⟩:=H.hs k z e;⟨h,es,a,b.keep q⟩,(λb c=>let ⟨o,e⟩:=H.al b c;⟨o,q b o c e⟩),H.nd,H.sk⟩
def SheetV (C:Addr) (G:Hq) (p:Addr) (S:Addr->Prop) (T:List Tl):Prop:=∃ dx d kvs,ShV C G p S T T.length dx d kvs
theorem Sheet.v (H:Sheet C G p S T):SheetV C G p S T:=let ⟨dx,d,kvs,h⟩:=H;⟨dx,d,kvs,h.v⟩
theorem SheetV.keep (H:SheetV C G p S T) (q:KS S G G'):SheetV C G' p S T:=let ⟨dx,d,kvs,h⟩:=H;⟨dx,d,kvs,h.keep q⟩
theorem b6e (h:t σ G λws G1=>sp ws G1 R EE):b4G sp EE t σ G R:=h
theorem b6f (h:te σ G λ_ G1=>EE C G1):b4H EE C te nx rt bk ct σ G:=h
theorem b6g (h:to σ G λx G1=>∃ q dx fs,x=.ref q/\G1 q=some (.ins C dx fs)/\fs.lookup m=none/\t σ G1 λws G2=>sp (.ref q::ws) G2 R EE):b4I C m sp EE to t σ G R:=h
local macro_rules | `(tactic| walk_at "go1")=>`(tactic| with_reducible (first | refine b6e ?_ | refine b6f ?_ | refine b6g ?_ | refine i_tryM ?_))
def a2Y (a:Ad):PX3:=λws G R EE=>∃ x,ws=[x]/\Th G x/\∀ G',Sm G G'->if a3d x=true then R .non G' else EE a.x_NoName G'
theorem a4V {a:Ad}{ws:List Z}{G:Hq}{R:K3}{EE:Addr->Hq->Prop}(h:a2Y a ws G R EE):ws.length=1:=by obtain⟨_,rfl,_⟩:=h;rfl
theorem a2Z (F:Fns K a) (T:Txt K mg a):FnOk P w K mg base (CXx P w) 2 a.f14 a.d14 ["thing"] (a3v K (a2Y a)):=by
 have b:FnOk P w K mg base CX0 1 a.f0 a.d0 ["thing"] _:=a8a F T;refine fn3x F.n14 a5A (λm G R g h=>(by exact a4V h)) (λn A f s H E m G R g e h j=>?_);refine⟨_,(a0n (z_if (a2S (a3b (a0s b (e.mono (by simp)) rfl T.m0 F.n0.kp (a7W F) (a0b (a0c (pv 0)) a0h a0a))))
  (a0n (a8G Outs.of j rfl rfl T.x_NoName T.xi_NoName a4f a0f a0k))
  a0V)),?_⟩
 obtain⟨x,rfl,l,q⟩:=h;walk_at "go";refine⟨_,rfl,l,λk i=>?_⟩;have d:=q k i;walk_at "go";refine ifNB (λc=>?_) λc=>?_
 ·rw[c]at d;exact d
 ·rw[c]at d;exact d
def a2c (a:Ad):PX3:=λws G R EE=>∃ x y,ws=[x,y]/\Th G x/\Th G y/\∀ G',Sm G G'->if strB x y=true then R .non G' else EE a.x_NoStretch G'
theorem a3C {a:Ad}{ws:List Z}{G:Hq}{R:K3}{EE:Addr->Hq->Prop}(h:a2c a ws G R EE):ws.length=2:=by obtain⟨_,_,rfl,_⟩:=h;rfl
theorem a32 (F:Fns K a) (T:Txt K mg a):FnOk P w K mg base (CXx P w) 3 a.f20 a.d20 ["begin","end"] (a3v K (a2c a)):=by
 have b:FnOk P w K mg base CX0 2 a.f2 a.d2 ["begin","end"] _:=a5I F T;refine fn3x F.n20 a3S (λn G R g h=>(by exact a3C h)) (λo A f s H E n G R g e h j=>?_);refine⟨_,(a0n (z_if (a2S (a3b (a0s b (e.mono (by decide)) rfl T.m2 F.n2.kp (a5B F) (a0b (a0c (pv 0)) (a0b (a0c (pv 1)) a0h a0a) a0a))))
  (a0n (a8G Outs.of j rfl rfl T.x_NoStretch T.xi_NoStretch a4f a0f a0k))
  a0V)),?_⟩
 obtain⟨x,y,rfl,k,m,q⟩:=h;walk_at "go";refine⟨_,_,rfl,k,m,λl i=>?_⟩;have d:=q l i;walk_at "go";refine ifNB (λc=>?_) λc=>?_
 ·rw[c]at d;exact d
 ·rw[c]at d;walk_at "go";exact d
structure Tel (G:Hq) (z:Z) (h:Z) (nm:List Z) (x y:Z):Prop where
 e:z=.tup (h::(nm++[x,y]))
 l:(∃ k,nm=[k])\/∃ k w,nm=[k,w]
 n:∀ z∈nm,Th G z
 x:Th G x
 y:Th G y
theorem Tel.sm {x y:Z}(T:Tel G z h nm x y) (s:Sm G G'):Tel G' z h nm x y:=⟨T.e,T.l,λz a=>(T.n z a).sm s,T.x.sm s,T.y.sm s⟩
def a1k (a:Ad):PX3:=λws G R EE=>Ex5 λ(z h:Z) (nm:List Z) (x y:Z)=>ws=[z]/\Tel G z h nm x y/\∀ G',Sm G G'->if nm.all a3d=true then (if strB x y=true then R .non G' else EE a.x_NoStretch G') else EE a.x_NoName G'
theorem a3D {a:Ad}{ws:List Z}{G:Hq}{R:K3}{EE:Addr->Hq->Prop}(h:a1k a ws G R EE):ws.length=1:=by obtain⟨_,_,_,_,_,rfl,_⟩:=h;rfl
theorem c0L:cutZ [h,k,x,y] (some 1) (some (-2))=[k]:=rfl
theorem c0M {h k w x y:Z}:cutZ [h,k,w,x,y] (some 1) (some (-2))=[k,w]:=rfl
theorem a8b {l:List Z}(h:x∈l) (c:f x=false):l.all f=false:=List.all_eq_false.mpr ⟨x,h,by rw[c];decide⟩
theorem a9I {l:List Z}(h:(l.take i).all f=true) (e:l[i]?=some x) (c:f x=true):(l.take (i+1)).all f=true:=by
 rw[fH,List.all_append,h,e]
 show (true&&([x].all f))=true
 rw[eU,c];rfl
theorem a33 (F:Fns K a) (T:Txt K mg a):FnOk P w K mg base (CXx P w) 4 a.f21 a.d21 ["telling"] (a3v K (a1k a)):=by
 have G_p_check_stretch:=a32 (P:=P) (w:=w) (base:=base) F T;have G_p_check_name:=a2Z (P:=P) (w:=w) (base:=base) F T;refine fn3x F.n21 sc_p_check_telling (λws G R EE h=>(by exact a3D h)) (λcdv A outer s H E ws G R EE hr h ux=>?_);have hu:=a03 hr;refine⟨_,(a0m (a3q (pt:=(.nm 1)) kj.leaving rfl (b7F (a1Q x_sl (a0c (pv 0)) (a2k a0g) (a2k (q_un a2n a0g)))) (show QP _ _ (.nm 1) from (a0o (i:=1) sc_p_check_telling.nd rfl (dR rfl)))
  (a0n (a01 (a2B (a1y Outs.of) ux.since G_p_check_name (hr.mono (by decide)) rfl T.m14 F.n14.kp (a2W F) (a0b (a0c (pv 1)) a0h a0a) (he:=a0a) (hpl:=a0k)))))
  (a0n (a01 (a2B (a1y Outs.of) ux.since G_p_check_stretch (hr.mono (by decide)) rfl T.m20 F.n20.kp (a3W F) (a0b (q_ix x_ix (a0c (pv 0)) (q_un a2n a0g) (λ_ _=>rfl)) (a0b (q_ix x_ix (a0c (pv 0)) (q_un a2n a0g) (λ_ _=>rfl)) a0h a0d) a0d) (he:=a0d) (hpl:=(a0j a0d a0k)))))),?_⟩
 obtain⟨z,h,nm,x,y,rfl,⟨rfl,hl,hn,hx,hy⟩,q⟩:=h;rcases hl with ⟨k,rfl⟩ | ⟨k,w,rfl⟩
 ·show uSeq _ _ _ _ _ _ (a4B _ [.tup [h,k,x,y]]) _
  walk_at "go";refine b5w (show ¬ (HT.sIx 4 0 (some 1)=0/\HT.sIx 4 4 (some (-2))=4) by decide) ?_;rw[c0L];walk_at "go";refine a1D (λi σ G'=>∃ v:Option Z,Sm G G'/\(([k]:List Z).take i).all a3d=true/\σ=[some (.tup [h,k,x,y]),v]) ⟨_,Sm.refl _,rfl,rfl⟩ (λ_ _ _ _ _=>True.intro) ?_ ?_
  ·rintro i u σ G' hu ⟨v,s,ha,rfl⟩;have hm:=eI hu;refine⟨_,rfl,?_⟩;walk_at "go";refine⟨u,rfl,(hn u hm).sm s,λG1 s1=>?_⟩;have q':=q G1 (s.trans s1);refine ifB (λc=>?_) λc=>?_
   ·walk_at "go";exact⟨_,s.trans s1,a9I ha hu c,rfl⟩
   ·rw[a8b hm c]at q';exact q'
  ·rintro σ G' ⟨v,s,ha,rfl⟩;have ha:([k]:List Z).all a3d=true:=ha;walk_at "go";refine⟨x,y,rfl,hx.sm s,hy.sm s,λG1 s1=>?_⟩;have q':=q G1 (s.trans s1);rw[ha]at q';refine ifB (λc=>?_) λc=>?_
   ·rw[c]at q';walk_at "go";exact q'
   ·rw[c]at q';exact q'
 ·show uSeq _ _ _ _ _ _ (a4B _ [.tup [h,k,w,x,y]]) _
  walk_at "go";refine b5w (show ¬ (HT.sIx 5 0 (some 1)=0/\HT.sIx 5 5 (some (-2))=5) by decide) ?_;rw[c0M];walk_at "go";refine a1D (λi σ G'=>∃ v:Option Z,Sm G G'/\(([k,w]:List Z).take i).all a3d=true/\σ=[some (.tup [h,k,w,x,y]),v]) ⟨_,Sm.refl _,rfl,rfl⟩ (λ_ _ _ _ _=>True.intro) ?_ ?_
  ·rintro i u σ G' hu ⟨v,s,ha,rfl⟩;have hm:=eI hu;refine⟨_,rfl,?_⟩;walk_at "go";refine⟨u,rfl,(hn u hm).sm s,λG1 s1=>?_⟩;have q':=q G1 (s.trans s1);refine ifB (λc=>?_) λc=>?_
   ·walk_at "go";exact⟨_,s.trans s1,a9I ha hu c,rfl⟩
   ·rw[a8b hm c]at q';exact q'
  ·rintro σ G' ⟨v,s,ha,rfl⟩;have ha:([k,w]:List Z).all a3d=true:=ha;walk_at "go";refine⟨x,y,rfl,hx.sm s,hy.sm s,λG1 s1=>?_⟩;have q':=q G1 (s.trans s1);rw[ha]at q';refine ifB (λc=>?_) λc=>?_
   ·rw[c]at q';walk_at "go";exact q'
   ·rw[c]at q';exact q'
def a1Z (a:Ad):PX3:=λws G R EE=>∃ q n:Int,ws=[.int q,.int n]/\if 0≤q/\q≤n then R .non G else EE a.x_NoKnowing G
theorem a3e {a:Ad}{ws:List Z}{G:Hq}{R:K3}{EE:Addr->Hq->Prop}(h:a1Z a ws G R EE):ws.length=2:=by obtain⟨_,_,rfl,_⟩:=h;rfl
theorem a3E (F:Fns K a) (T:Txt K mg a):FnOk P w K mg base (CXx P w) 1 a.f12 a.d12 ["knowing","last"] (a3v K (a1Z a)):=by
 refine fn3x F.n12 a3y (λd G R f h=>(by exact a3e h)) (λj A b s H E d G R f g h e=>?_);have l:=a03 g;refine⟨_,(a0n (z_if (QW.qt (q_or (a0v o_lt (a0c (pv 0)) a0g (a0p _)) (a5h (a0v o_gt (a0c (pv 0)) (a0c (pv 1)) (a0p _)))))
  (a0n (a8G Outs.of e rfl rfl T.x_NoKnowing T.xi_NoKnowing a4f a0f a0k))
  a0V)),?_⟩
 obtain⟨q,n,rfl,k⟩:=h;walk_at "go";refine ifD (λc=>?_) λc=>?_
 ·rw[if_neg (by omega)]at k;walk_at "go";exact k
 ·walk_at "go";refine ifD (λi=>?_) λi=>?_
  ·rw[if_neg (by omega)]at k;walk_at "go";exact k
  ·rw[if_pos (by omega)]at k;walk_at "go";exact k
def a1J:P3:=λws G R=>∃ (l:Addr) (L:List Rw) (τ:Tl),ws=[.ref l,τ.z]/\G l=some (.lst (L.map Rw.z))/\Rise L/\Plain L/\L.length≤400/\τ.Ok /\
 ∀ t G',G t=none->Sm G G'->G' t=some (.lst ((a75 L τ.b τ.e (optW τ.v)).map Rw.z))->R (.ref t) G'
theorem a4v (h:a1J ws G R):ws.length=2:=by obtain⟨_,_,_,rfl,_⟩:=h;rfl
theorem b83:¬ (b4L=sPut):=by decide +kernel
theorem a4W (F:Fns K a) (T:Txt K mg a):FnOk P w K mg base CX0 4 a.f22 a.d22 ["line","telling"] (lowP K a1J):=by
 have d:FnOk P w K mg base CX0 3 a.f7 a.d7 ["line","begin","end","worth"] _:=a8N F T;refine fn3 F.n22 sc_p_line_behind (λp G R h=>(by exact a4v h)) (λu A n s H E p G R f h=>?_);have o:=a03 f;refine⟨_,(a0m (z_set (i:=2) sc_p_line_behind.nd rfl (dR rfl) (q_if (a0v (o_eq o) (q_ix x_ix (a0c (pv 1)) a0g (λ_ _=>rfl)) a4f (a0p _)) (q_ix x_ix (a0c (pv 1)) a0g (λ_ _=>rfl)) a1E))
  (a0n (a0I (a0s d (f.mono (by decide)) rfl T.m7 F.n7.kp (a8J F) (a0b (a0c (pv 0)) (a0b (q_ix x_ix (a0c (pv 1)) (q_un a2n a0g) (λ_ _=>rfl)) (a0b (q_ix x_ix (a0c (pv 1)) (q_un a2n a0g) (λ_ _=>rfl)) (a0b (a0c (pv 2)) a0h a0a) a0d) a0d) a0a))))),?_⟩
 obtain⟨l,L,⟨t,w,b,e⟩,rfl,j,f,g,x,m,q⟩:=h;have k:=m.st.bef;have r:=m.v;cases w with
 | none=>
  unfold Tl.z;walk_at "go";refine ifD (λc=>absurd c b83) λ_=>?_;walk_at "go";exact⟨l,L,b,e,.non,rfl,j,f,g.okR,g.one,by omega,k,rfl,q⟩
 | some w=>
  unfold Tl.z;walk_at "go";refine ifD (λ_=>?_) λc=>absurd rfl c;walk_at "go";exact⟨l,L,b,e,.str w,rfl,j,f,g.okR,g.one,by omega,k,a1Y (by decide) r,q⟩
def a2q (a:Ad):P3:=λws G R=>∃ p dx,ws=[.ref p]/\G p=some (.ins a.c_Sheet dx [])/\∀ d G',G d=none->(∀ b o,G b=some o->b≠p->G' b=some o)->Sheet a.c_Sheet G' p (λx=>x=p\/x=d) []->R .non G'
theorem a34 {a:Ad}{ws:List Z}{G:Hq}{R:K3}(h:a2q a ws G R):ws.length=1:=by obtain⟨_,_,rfl,_⟩:=h;rfl
theorem a4w (F:Fns K a) (T:Txt K mg a):FnOk P w K mg base CX0 1 a.f35 a.d35 ["self"] (lowP K (a2q a)):=by
 refine fn3 F.n35 a4n (λm G R h=>(by exact a34 h)) (λu A l s H E m G R r h=>?_);have x:=a03 r;refine⟨_,(a0m (b8q T.cl_Sheet T.na_last (a0c (pv 0)) a0g)
  (a0n (b8q T.cl_Sheet T.na_kept (a0c (pv 0)) b7O))),?_⟩
 obtain⟨p,g,rfl,t,q⟩:=h;walk_at "go";refine⟨p,g,[],rfl,t,by decide,?_⟩;walk_at "go";intro d i;have c:=a0u a0e i;walk_at "go";refine⟨p,g,[(a8O,.int 0)],rfl,by rw[a0A c];exact a0e,by decide,?_⟩;rw[b6c];walk_at "go";have f:G d=none:=by rw[a0A (Ne.symm c)]at i;exact i
 refine q d _ f (λb o e j=>?_) ⟨g,d,[],⟨a0e,.inl rfl,.inr rfl,?_,by simp,λk _=>rfl,(λk z e=>by cases e),(λk v z e=>by cases e),?_,.nil,λq n=>by simp at n⟩⟩
 ·rw[a0A j,a0A (a0u e f),a0A j];exact e
 ·rw[a0A (Ne.symm c)];exact a0e
 ·rintro b (rfl | rfl)
  ·exact⟨_,a0e⟩
  ·exact⟨_,by rw[a0A (Ne.symm c)];exact a0e⟩
def a1q (a:Ad):PX3:=λws G R EE=>Ex4 λ(p:Addr) (S:Addr->Prop) (T:List Tl) (q:Int)=>ws=[.ref p,.int q]/\SheetV a.c_Sheet G p S T/\if 0≤q/\q≤T.length then R .non G else EE a.x_NoKnowing G
theorem a2H {a:Ad}{ws:List Z}{G:Hq}{R:K3}{EE:Addr->Hq->Prop}(h:a1q a ws G R EE):ws.length=2:=by obtain⟨_,_,_,_,rfl,_⟩:=h;rfl
theorem a1r (F:Fns K a) (T:Txt K mg a):FnOk P w K mg base (CXx P w) 2 a.f13 a.d13 ["self","knowing"] (a3v K (a1q a)):=by
 have b:FnOk P w K mg base _ 1 a.f12 a.d12 ["knowing","last"] _:=a3E F T;refine fn3x F.n13 a2N (λm G R l h=>(by exact a2H h)) (λn A f s H E m G R l e h j=>?_);refine⟨_,(a0n (a01 (a2B (a1y Outs.of) j.since b (e.mono (by decide)) rfl T.m12 F.n12.kp (a3z F) (a0b (a0c (pv 1)) (a0b (a8F T.cl_Sheet T.na_last (a0c (pv 0))) a0h a2T) a0a)))),?_⟩;obtain⟨p,S,T',q,rfl,⟨i,d,o,g⟩,k⟩:=h;walk_at "go";refine⟨p,i,_,_,rfl,g.ob,a4u,?_⟩;walk_at "go";refine⟨q,_,rfl,?_⟩
 by_cases c:0≤q/\q≤T'.length
 ·omega
 ·omega
def a08 (a:Ad):P3:=λws G R=>Ex9 λ(p:Addr) (S:Addr->Prop) (T:List Tl) (k:Str) (q:Int) (n:Int) (dx d:Addr) (kvs:List (Key×Z))=>ws=[.ref p,.str k,.int q]/\ShV a.c_Sheet G p S T n dx d kvs/\0≤q/\q≤T.length/\T.length≤200 /\
 ∀ t L G',G t=none->Sm G G'->G' t=some (.lst (L.map Rw.z))->IsLine (T.take q.toNat) k L->R (.ref t) G'
theorem a3f {a:Ad}{ws:List Z}{G:Hq}{R:K3}(h:a08 a ws G R):ws.length=3:=by obtain⟨_,_,_,_,_,_,_,_,_,rfl,_⟩:=h;rfl
theorem a8c {q:Nat}(h:∀ i∈ix T k,(q:Int)<i):a0M (T.take q) k=[]:=by
 have:=a48 0 T 0 q (eP _) λi a=>by right;have:=h i a;simpa using this
 rw[this];rfl
theorem b6h (l:List Rw):l.filterMap (λr=>some r)=l:=by simp
theorem a09 (F:Fns K a) (T:Txt K mg a):FnOk P w K mg base CX0 1 a.f15 a.d15 ["self","key","knowing"] (lowP K (a08 a)):=by
 refine fn3 F.n15 sc_Sheet_known_line (λws G R h=>(by exact a3f h)) (λcdv A outer s H E ws G R hr h=>?_);have hu:=a03 hr;refine⟨_,(a0m (a3q (pt:=(.tp [3,4])) kj.never rfl (a8D rfl T.b_reversed (a0b (q_bm PySem.F.plainAttrs_dict PySem.F.slot_dict_get PySem.F.type_dict_get (b4F hu) (a8F T.cl_Sheet T.na_kept (a0c (pv 0))) (a0b (a0c (pv 1)) (a0b (a1d a0h) a0h a04) a0a)) a0h a0L)) (show QP _ _ (.tp [3,4]) from (a3H rfl (a0w (a0o (i:=3) sc_Sheet_known_line.nd rfl (dR rfl)) (a0w (a0o (i:=4) sc_Sheet_known_line.nd rfl (dR rfl)) a2s))))
  (a0n (z_if (a0v o_le (a0c (pv 3)) (a0c (pv 2)) (a0p _))
  (a0n (a0I (q_lc (N₀:=["self","key","knowing","since","line"]) (so:=a0i a0S) (N':=["begin","end","worth"]) (cap:=[none,none,none]) (pt:=(.tp [0,1,2])) rfl rfl rfl (by decide +kernel) rfl (a02 (a0c (pv 4))) (λ_ _ _ _=>(show QP _ _ (.tp [0,1,2]) from (a3H rfl (a0w (a0o (i:=0) a6V rfl (dR rfl)) (a0w (a0o (i:=1) a6V rfl (dR rfl)) (a0w (a0o (i:=2) a6V rfl (dR rfl)) a2s)))))) (λ_ _ _ _=>a4i) (λ_ _ _ _=>(a2l (a0b (a0c (pv 0)) (a0b (a0c (pv 1)) (a0b (a0c (pv 2)) a0h a0a) a0a) a0a))))))
  a0V)))
  (a0n (a0I (a1d a0h)))),?_⟩
 obtain⟨p,S,T,k,q,n,dx,d,kvs,rfl,sh,h0,h1,hT,fin⟩:=h;obtain⟨q,rfl⟩:=fZ h0;walk_at "go";refine⟨p,dx,_,_,rfl,sh.ob,a8P,?_⟩;refine c0s sh.dc ?_;walk_at "go";refine⟨lenK rfl,λt0 ht0=>?_⟩;walk_at "go";refine b5T (sh.dc.imp (λe=>a0l e ht0) λe=>a0l e ht0) rfl ?_;have s0:Sm G (put G t0 (.lst [])):=Sm.new ht0;have none_:(∀ i∈ix T k,(q:Int)<i)->∀ (v1 v2:Option Z) (G1:Hq),Sm G G1->∀ t,G1 t=none->R (.ref t) (put G1 t (.lst [])):=λhi _ _ G1 s1 t ht=>
  fin t [] _ (s1.free ht) (s1.trans (Sm.new ht)) a0e (by
   have e:((q:Int)).toNat=q:=by omega
   rw[e];exact IsLine.nil (a8c hi))
 cases hv:valZ kvs (.inr k) with
 | none=>
  walk_at "go";refine⟨t0,[],rfl,a0e,?_⟩;refine a1D (λi σ G'=>∃ v1 v2:Option Z,σ=[some (.ref p),some (.str k),some (.int q),v1,v2]/\G'=put G t0 (.lst [])) ⟨_,_,rfl,rfl⟩ (λi σ G' _ ⟨_,_,_,e⟩=>by rw[e];exact a0e) ?_ ?_
  ·rintro i x σ G' hx _;simp at hx
  ·rintro σ G' ⟨v1,v2,rfl,rfl⟩;walk_at "go";refine⟨lenK rfl,λt ht=>?_⟩;exact none_ (λi hi=>by rw[sh.no k hv]at hi;simp at hi) v1 v2 _ s0 t ht
 | some z=>
  obtain⟨h,es,rfl,H⟩:=sh.hs k z hv;walk_at "go";refine⟨h,_,rfl,a0l H.at_ ht0,?_⟩;rw[<- List.map_reverse];refine a1D (λi σ G'=>∃ v1 v2:Option Z,(∀ (j:Nat) e,j<i->es.reverse[j]?=some e->(q:Int)<e.1)/\σ=[some (.ref p),some (.str k),some (.int q),v1,v2]/\G'=put G t0 (.lst [])) ⟨_,_,λj e hj=>by omega,rfl,rfl⟩ (λi σ G' _ ⟨_,_,_,_,e⟩=>by rw[e];exact a0l H.at_ ht0) ?_ ?_
  ·rintro i x σ G' hx ⟨v1,v2,hall,rfl,rfl⟩;rw[er]at hx;cases hx':es.reverse[i]? with
   | none=>rw[hx']at hx;cases hx
   | some e=>
   rw[hx']at hx;cases hx;obtain⟨s,l⟩:=e;have hmem:(s,l)∈es:=by have:=eI hx';simpa using this
   have hix:s∈ix T k:=by rw[<- H.ix];exact eY (f:=(·.1)) hmem
   obtain⟨hs1,hs2⟩:=b81 hix;obtain⟨_,L,gl,il⟩:=H.ln _ hmem;refine⟨_,rfl,?_⟩;walk_at "go";refine ifD (λc=>?_) λc=>?_
   ·walk_at "go";refine a3c (a0l gl ht0) ?_;intro D hD;have hone:=il.pl.one;have hll:L.length≤1000:=by have:=il.len;rw[eG]at this;omega
    refine a5E (g':=Rw.z) (λr=>some r) (λys=>a0l (a0l gl ht0) hD) hll ?_ ?_
    ·intro r hr ys K1 K2 k1 k2;obtain⟨x,hx⟩:=hone r hr;obtain⟨b,e,w⟩:=r;cases hx;refine⟨_,rfl,?_⟩;walk_at "go";refine⟨lenK rfl,?_⟩;exact k1 ⟨b,e,[x]⟩ rfl
    ·rw[b6h];refine fin D L _ (s0.free hD) (s0.trans (Sm.new hD)) a0e ?_;have e1:((q:Int)).toNat=q:=by omega
     rw[e1];have il':IsLine (T.take s.toNat) k L:=il;refine il'.cut (by omega) λj hj=>?_;rw[<- H.ix]at hj;obtain⟨e2,he2,rfl⟩:=eK.mp hj
     by_cases c2:e2.1≤s
     ·left;omega
     ·right
      have he3:e2∈es.reverse:=by simpa using he2
      obtain⟨m,hm⟩:=fq he3
      by_cases hmi:m<i
      ·exact hall m e2 hmi hm
      ·exfalso;have hst:(ix T k).Pairwise (·<·):=b2y T k
       rw[<- H.ix]at hst;have hst2:es.reverse.Pairwise (λx y=>y.1<x.1):=by
        rw[List.pairwise_reverse];exact iY.mp hst
       by_cases hmi2:m=i
       ·subst hmi2;rw[hx']at hm;cases hm;omega
       ·obtain⟨l1,e5⟩:=eq.mp hx';obtain⟨l2,e6⟩:=eq.mp hm
        have:=gE.mp hst2 i m l1 l2 (by omega)
        rw[e5,e6]at this;simp only at this;omega
   ·walk_at "go";refine⟨_,_,λj e hj he=>?_,rfl,rfl⟩
    by_cases hji:j<i
    ·exact hall j e hji he
    ·have:j=i:=by omega
     subst this;rw[hx']at he;cases he;simp only;omega
  ·rintro σ G' ⟨v1,v2,hall,rfl,rfl⟩;walk_at "go";refine⟨lenK rfl,λt ht=>?_⟩;refine none_ (λj hj=>?_) v1 v2 _ s0 t ht;rw[<- H.ix]at hj;obtain⟨e2,he2,rfl⟩:=eK.mp hj;have he3:e2∈es.reverse:=by simpa using he2
   obtain⟨m,hm⟩:=fq he3;exact hall m e2 (by rw[dQ];exact (eq.mp hm).1) hm
theorem a65:valZ (putZ kvs k v) j=if j=k then some v else valZ kvs j:=by
 unfold putZ
 split
 ·next hc=>
  have m:∀ kvs:List (Key×Z),valZ (kvs.map λkv=>if kv.1=k then (kv.1,v) else kv) j=(valZ kvs j).map λx=>if j=k then v else x:=by
   intro kvs
   induction kvs with
   | nil=>rfl
   | cons p r ih=>
    unfold valZ at ih ⊢;rw[eE,fu,fu];have h:(if p.1=k then (p.1,v) else p).1=p.1:=by split<;>rfl
    rw[h];cases c:decide (p.1=j) with
    | false=>exact ih
    | true=>
     have d:=of_decide_eq_true c;simp
     by_cases ck:p.1=k
     ·simp_all
     ·simp_all
  rw[m]
  by_cases c:j=k
  ·subst c;obtain⟨p,f,g⟩:=g9.mp hc
   have:(kvs.find? λkv=>decide (kv.1=j)).isSome=true:=jM.mpr ⟨p,f,g⟩
   unfold valZ;cases e:kvs.find? λkv=>decide (kv.1=j) with
   | none=>rw[e]at this;cases this
   | some q=>simp
  ·simp_all
 ·next hc=>
  unfold valZ;rw[jH]
  by_cases c:j=k
  ·subst c
   have:kvs.find? (λkv=>decide (kv.1=j))=none:=by
    rw[iZ];intro p i l;exact hc (g9.mpr ⟨p,i,l⟩)
   rw[this];simp
  ·rw[if_neg c]
   have:[(k,v)].find? (λkv=>decide (kv.1=j))=none:=by simp;exact λz=>c z.symm
   rw[this,Option.or_none]
theorem b3Y {kvs:List (Key×Z)}{k:Key}{v:Z}:(putZ kvs k v).length≤kvs.length+1:=by
 unfold putZ
 split<;>simp
theorem Hist.ne_row {L:List Rw}(H:Hist G S T k h es) (e:G x=some (.lst (L.map Rw.z))):x≠h:=λz=>by
 subst z
 have:=e.symm.trans H.at_
 have b:L.map Rw.z=es.map enZ:=by simp_all
 cases es with
 | nil=>exact H.ne rfl
 | cons a es=>
  cases L with
  | nil=>simp at b
  | cons r L=>
   have c:=(fW.inj b).1;simp only[Rw.z,Z.tup.injEq,fW.injEq]at c;obtain⟨i,d,g⟩:=r;have f:=c.2.1;cases d<;>cases f
theorem a8d (h:valZ kvs k=none):∀ q∈kvs,q.1≠k:=λq b e=>by
 unfold valZ at h
 have:(kvs.find? λa=>decide (a.1=k)).isSome=true:=jM.mpr ⟨q,b,decide_eq_true e⟩
 cases e2:kvs.find? λa=>decide (a.1=k) with
 | none=>rw[e2]at this;cases this
 | some x=>rw[e2]at h;cases h
theorem b2A (h:valZ kvs k=none):putZ kvs k v=kvs++[(k,v)]:=by
 unfold putZ;rw[if_neg λz=>?_];obtain⟨q,a,b⟩:=g9.mp z;exact a8d h q a (of_decide_eq_true b)
theorem b84 (h:valZ kvs k=none) (nd:(kvs.map (·.1)).Nodup):((putZ kvs k v).map (·.1)).Nodup:=by
 rw[b2A h,eA,fO];refine⟨nd,by simp,λx a y c=>?_⟩;obtain⟨q,b,rfl⟩:=eK.mp a
 have:y=k:=by simpa using c
 rw[this];exact a8d h q b
theorem b85 (sk:∀ q∈kvs,∃ s,q.1=Sum.inr s):∀ q∈putZ kvs (.inr k) v,∃ s,q.1=Sum.inr s:=λq a=>by
 unfold putZ at a
 split at a
 ·obtain⟨d,c,e⟩:=eK.mp a;obtain⟨s,b⟩:=sk d c;refine⟨s,?_⟩;rw[<- e]
  split
  ·omega
  ·omega
 ·rcases dU.mp a with a | a
  ·exact sk q a
  ·exact⟨k,by rw[dX.mp a]⟩
def a1l (a:Ad):P3:=λws G R=>Ex9 λ(p:Addr) (S:Addr->Prop) (T:List Tl) (τ:Tl) (l:Addr) (L:List Rw) (dx d:Addr) (kvs:List (Key×Z))=>ws=[.ref p,.str τ.key,.ref l]/\ShM a.c_Sheet G p S T ((T.length:Int)+1) dx d kvs/\G l=some (.lst (L.map Rw.z))/\¬ S l/\IsLine (T++[τ]) τ.key L/\T.length≤200 /\
 ∀ (S':Addr->Prop) G',(∀ b,S b->S' b)->(∀ b,S' b->S b\/b=l\/G b=none)->KN S G G'->Sheet a.c_Sheet G' p S' (T++[τ])->R .non G'
theorem a3F {a:Ad}{ws:List Z}{G:Hq}{R:K3}(h:a1l a ws G R):ws.length=3:=by obtain⟨_,_,_,_,_,_,_,_,_,rfl,_⟩:=h;rfl
theorem a66 (h:s∈ix T k):(T++[τ]).take s.toNat=T.take s.toNat:=by
 have:=b81 h
 rw[ir (by omega)]
theorem a9J:(T++[τ]).take ((T.length:Int)+1).toNat=T++[τ]:=by
 rw[fD];rw[dW,ji];omega
theorem a35 (F:Fns K a) (T:Txt K mg a):FnOk P w K mg base CX0 1 a.f36 a.d36 ["self","key","line"] (lowP K (a1l a)):=by
 refine fn3 F.n36 a3T (λws G R h=>(by exact a3F h)) (λcdv A outer s H E ws G R hr h=>?_);have hu:=a03 hr;refine⟨_,(a0n (a01 (q_bm PySem.F.plainAttrs_list PySem.F.slot_list_append PySem.F.type_list_append a1e (q_bm PySem.F.plainAttrs_dict PySem.F.slot_dict_setdefault PySem.F.type_dict_setdefault a7K (a8F T.cl_Sheet T.na_kept (a0c (pv 0))) (a0b (a0c (pv 1)) (a0b (a1d a0h) a0h a04) a0a)) (a0b (a2l (a0b (a8F T.cl_Sheet T.na_last (a0c (pv 0))) (a0b (a0c (pv 2)) a0h a0a) a2T)) a0h a22)))),?_⟩;obtain⟨p,S,T,τ,l,L,M,d,B,rfl,g,I,nl,il,hT,q⟩:=h;walk_at "go";refine⟨p,M,_,_,rfl,g.ob,a8P,?_⟩;refine b8z g.dc ?_;walk_at "go";refine⟨lenK rfl,λn m=>?_⟩;walk_at "go";have Y:p≠d:=λz=>by have e:=g.ob;rw[z,g.dc]at e;cases e
 have N:((T++[τ]).length:Int)=(T.length:Int)+1:=by simp
 refine b8y (a0l g.dc m) rfl (a0t (by have:=g.len;omega)) (λz D=>?_) λD=>?_
 ·obtain⟨h,es,rfl,H⟩:=g.hs _ z D;have hpe:p≠h:=λz=>by have e:=g.ob;rw[z,H.at_]at e;cases e
  have hde:d≠h:=λz=>by have e:=g.dc;rw[z,H.at_]at e;cases e
  have hle:l≠h:=λz=>nl (z▸H.s);refine a2o (a0l H.at_ m) ?_;walk_at "go";refine⟨p,M,_,_,rfl,a0l g.ob m,a4u,?_⟩;walk_at "go";refine⟨lenK rfl,?_⟩;walk_at "go";have hel:es.length≤T.length:=by
   have e1:=congrArg eQ H.ix;rw[dQ]at e1;rw[e1];exact b82 T τ.key
  refine a00 (a0l H.at_ m) (by rw[dQ];exact a0t (by omega)) ?_;have i:∀ b o,b≠h->G b=some o->put (put G n (.lst [])) h (.lst (es.map enZ++[.tup [.int ((T.length:Int)+1),.ref l]])) b=some o:=λb o C e=>by rw[a0A C];exact a0l e m
  refine q (λb=>S b\/b=l) _ (λb j=>.inl j) (λb j=>j.elim .inl λz=>.inr (.inl z)) (λb o C e=>i b o (λz=>C (z▸H.s)) e) ⟨M,d,B,?_⟩;refine⟨by rw[N];exact i _ _ hpe g.ob,.inl g.sp,.inl g.sd,i _ _ hde g.dc,by have:=g.len;simp;omega,λk x=>?_,λk z e=>?_,g.inj,(λb j=>?_),g.nd,g.sk⟩
  ·rw[a4t,g.no k x,if_neg]
   ·rfl
   ·rintro rfl;rw[D]at x;cases x
  ·by_cases U:k=τ.key
   ·subst U;rw[D]at e;cases e;refine⟨h,es++[((T.length:Int)+1,l)],rfl,.inl H.s,by rw[a0e,eA];rfl,by rw[eA,H.ix,a4t,if_pos rfl];rfl,by simp,λe r=>?_⟩;rcases dU.mp r with r | r
    ·obtain⟨V,L1,u,Q⟩:=H.ln e r;refine⟨.inl V,L1,i _ _ (H.ne_row u) u,?_⟩;rw[a66 (by rw[<- H.ix];exact eY r)];exact Q
    ·rw[dX.mp r];refine⟨.inr rfl,L,i _ _ hle I,?_⟩;rw[a9J];exact il
   ·obtain⟨t,v,y,H'⟩:=g.hs k z e;have hh:t≠h:=λw=>U (g.inj k τ.key z e (by rw[D,y,w]));refine⟨t,v,y,.inl H'.s,i _ _ hh H'.at_,by rw[H'.ix,a4t,if_neg (Ne.symm U),eL],H'.ne,λe r=>?_⟩;obtain⟨V,L1,u,Q⟩:=H'.ln e r;refine⟨.inl V,L1,i _ _ (H.ne_row u) u,?_⟩;rw[a66 (by rw[<- H'.ix];exact eY r)];exact Q
  ·by_cases c:b=h
   ·rw[c];exact⟨_,a0e⟩
   ·rcases j with j | j
    ·obtain⟨o,e⟩:=g.al b j;exact⟨o,i b o c e⟩
    ·rw[j]at c ⊢;exact⟨_,i l _ c I⟩
 ·have X:d≠n:=a0u g.dc m;have hpt:p≠n:=a0u g.ob m;have hlt:l≠n:=a0u I m;have aa:put (put G n (.lst [])) d (.dK (putZ B (.inr τ.key) (.ref n))) n=some (.lst []):=by rw[a0A (Ne.symm X)];exact a0e
  refine a2o aa ?_;walk_at "go";refine⟨p,M,_,_,rfl,by rw[a0A Y];exact a0l g.ob m,a4u,?_⟩;walk_at "go";refine⟨lenK rfl,?_⟩;walk_at "go";refine a00 aa (a0t (by decide)) ?_;have i:∀ b o,b≠d->G b=some o->put (put (put G n (.lst [])) d (.dK (putZ B (.inr τ.key) (.ref n)))) n (.lst ([]++[.tup [.int ((T.length:Int)+1),.ref l]])) b=some o:=λb o C e=>by
   rw[a0A (a0u e m),a0A C];exact a0l e m
  have nS:∀ t,S t->∀ o,G t=some o->t≠n:=λt _ o e=>a0u e m;refine q (λb=>S b\/b=l\/b=n) _ (λb j=>.inl j) (λb j=>j.elim .inl λz=>z.elim (λz=>.inr (.inl z)) λz=>.inr (.inr (by rw[z];exact m))) (λb o C e=>i b o (λz=>C (z▸g.sd)) e) ⟨M,d,putZ B (.inr τ.key) (.ref n),?_⟩;refine⟨by rw[N];exact i _ _ Y g.ob,.inl g.sp,.inl g.sd,by rw[a0A X];exact a0e,by have h1:=g.len;have h2:=@b3Y B (.inr τ.key) (.ref n);simp;omega,λk x=>?_,λk z e=>?_,λk k' z e J=>?_,(λb j=>?_),b84 D g.nd,b85 g.sk⟩
  ·rw[a65]at x
   split at x
   ·cases x
   ·next c=>
    rw[a4t,g.no k x,if_neg λz=>c (by rw[z])]
    rfl
  ·rw[a65]at e
   split at e
   ·next c=>
    cases e;have U:k=τ.key:=by simpa using c
    subst U;refine⟨n,[((T.length:Int)+1,l)],rfl,.inr (.inr rfl),by rw[a0e];rfl,by rw[a4t,g.no _ D,if_pos rfl];rfl,by simp,λe r=>?_⟩;rw[dX.mp r];refine⟨.inr (.inl rfl),L,i _ _ (λz=>by have z':l=d:=z;rw[z',g.dc]at I;cases I) I,?_⟩;rw[a9J];exact il
   ·next c=>
    obtain⟨t,v,y,H'⟩:=g.hs k z e;have hd':t≠d:=λw=>by have e:=H'.at_;rw[w,g.dc]at e;cases e
    refine⟨t,v,y,.inl H'.s,i _ _ hd' H'.at_,by rw[H'.ix,a4t,if_neg λz=>c (by rw[z]),eL],H'.ne,λe r=>?_⟩;obtain⟨V,L1,u,Q⟩:=H'.ln e r;refine⟨.inl V,L1,i _ _ (λw=>by rw[w,g.dc]at u;cases u) u,?_⟩;rw[a66 (by rw[<- H'.ix];exact eY r)];exact Q
  ·rw[a65]at e J
   split at e
   ·next c=>
    split at J
    ·next c'=>simpa using c.trans c'.symm
    ·cases e;obtain⟨t,v,y,H'⟩:=g.hs k' _ J;cases y;exact absurd rfl (nS _ H'.s _ H'.at_)
   ·split at J
    ·cases J;obtain⟨t,v,y,H'⟩:=g.hs k _ e;cases y;exact absurd rfl (nS _ H'.s _ H'.at_)
    ·exact g.inj k k' z e J
  ·by_cases c:b=n
   ·rw[c];exact⟨_,a0e⟩
   ·by_cases c2:b=d
    ·rw[c2];exact⟨_,by rw[a0A X];exact a0e⟩
    ·rcases j with j | j | j
     ·obtain⟨o,e⟩:=g.al b j;exact⟨o,i b o c2 e⟩
     ·rw[j]at c2 ⊢;exact⟨_,i l _ c2 I⟩
     ·exact absurd j c
def BadT (a:Ad) (G:Hq) (z:Z) (c:Addr):Prop:=Ex4 λ(h:Z) (nm:List Z) (x y:Z)=>Tel G z h nm x y/\((nm.all a3d=false/\c=a.x_NoName)\/(nm.all a3d=true/\strB x y=false/\c=a.x_NoStretch))
def a36 (a:Ad):PX3:=λws G R EE=>∃ (p:Addr) (S:Addr->Prop) (T:List Tl),Sheet a.c_Sheet G p S T/\((∃ τ:Tl,ws=[.ref p,τ.z]/\τ.Ok/\T.length≤150 /\
 ∀ (S':Addr->Prop) G',(∀ b,S b->S' b)->(∀ b,S' b->S b\/G b=none)->KN S G G'->Sheet a.c_Sheet G' p S' (T++[τ])->R (.int ((T.length:Int)+1)) G') \/
 ∃ (z:Z) (c:Addr),ws=[.ref p,z]/\BadT a G z c/\∀ G',Sm G G'->EE c G')
theorem a5Z {a:Ad}{ws:List Z}{G:Hq}{R:K3}{EE:Addr->Hq->Prop}(h:a36 a ws G R EE):ws.length=2:=by obtain⟨_,_,_,_,⟨_,rfl,_⟩ | ⟨_,_,rfl,_⟩⟩:=h<;>rfl
theorem b4M {τ:Tl}:∃ ws,τ.z=.tup ws/\atI ws 1=some (.str τ.key):=by
 obtain⟨k,w,b,e⟩:=τ;cases w<;>exact⟨_,rfl,at1⟩
theorem b86:Th G (oz e):=by cases e<;>exact True.intro
theorem Tl.Ok.tel {τ:Tl}(ok:τ.Ok):∃ (h:Z) (nm:List Z),Tel G τ.z h nm (.int τ.b) (oz τ.e)/\nm.all a3d=true/\strB (.int τ.b) (oz τ.e)=true:=by
 obtain⟨k,w,b,e⟩:=τ;have d:=ok.k;have a:=ok.w;have f:=st_b ok.st;cases w with
 | none=>exact⟨_,[.str k],⟨rfl,.inl ⟨_,rfl⟩,λz c=>by rw[dX.mp c];exact b3X d,True.intro,b86⟩,by rw[eU,nm_b d];rfl,f⟩
 | some w=>
  have a:=a w rfl;refine⟨_,[.str k,.str w],⟨rfl,.inr ⟨_,_,rfl⟩,λz c=>?_,True.intro,b86⟩,by rw[eU,nm_b d,eU,nm_b a];rfl,f⟩;simp at c;rcases c with rfl | rfl
  ·exact b3X d
  ·exact b3X a
theorem a67 (F:Fns K a) (T:Txt K mg a):FnOk P w K mg base (CXx P w) 5 a.f37 a.d37 ["self","telling"] (a3v K (a36 a)):=by
 have j:FnOk P w K mg base (CXx P w) 4 a.f21 a.d21 ["telling"] (a3v K (a1k a)):=a33 F T;have m:FnOk P w K mg base CX0 4 a.f22 a.d22 ["line","telling"] (lowP K a1J):=a4W F T;have l:FnOk P w K mg base CX0 1 a.f36 a.d36 ["self","key","line"] (lowP K (a1l a)):=a35 F T;have g:FnOk P w K mg base CX0 1 a.f15 a.d15 ["self","key","knowing"] (lowP K (a08 a)):=a09 F T;refine fn3x F.n37 sc_Sheet_tell (λws G R EE h=>(by exact a5Z h)) (λcdv A outer s H E ws G R EE Q h ux=>?_);have hu:=a03 Q;refine⟨_,(a0m (a01 (a2B (a1y Outs.of) ux.since j (Q.mono (by decide)) rfl T.m21 F.n21.kp (a3X F) (a0b (a0c (pv 1)) a0h a0a) (he:=a0a) (hpl:=a0k)))
  (a0m (z_set (i:=2) sc_Sheet_tell.nd rfl (dR rfl) (q_ix x_ix (a0c (pv 1)) a0g (λ_ _=>rfl)))
  (a0m (z_set (i:=3) sc_Sheet_tell.nd rfl (dR rfl) (a0s m (Q.mono (by decide)) rfl T.m22 F.n22.kp (a4T F) (a0b (a9s (a0c (pv 0)) T.cl_Sheet T.mt15 g (Q.mono (by decide)) (a07 F) (a0b (a0c (pv 2)) (a0b (a8F T.cl_Sheet T.na_last (a0c (pv 0))) a0h a2T) a0a) (hst:=a0a)) (a0b (a0c (pv 1)) a0h a0a) a0L) (he:=a0L)))
  (a0m (b3D T.cl_Sheet T.na_last (a0c (pv 0)) a0g b4u)
  (a0m (a01 (a9s (a0c (pv 0)) T.cl_Sheet T.mt36 l (Q.mono (by decide)) (a3Y F) (a0b (a0c (pv 2)) (a0b (a0c (pv 3)) a0h a0a) a0a) (hst:=a0a)))
  (a0n (a0I (a8F T.cl_Sheet T.na_last (a0c (pv 0)))))))))),?_⟩
 obtain⟨p,S,T,⟨n,d,D,X⟩,⟨τ,rfl,ok,hT,q⟩ | ⟨z,c,rfl,⟨h,nm,x,y,N,J⟩,q⟩⟩:=h
 rotate_left
 ·walk_at "go";refine⟨z,h,nm,x,y,rfl,N,λG1 B=>?_⟩;have q':=q G1 B;rcases J with ⟨e1,rfl⟩ | ⟨e1,e2,rfl⟩
  ·rw[e1];exact ifF q'
  ·rw[e1,e2];exact ifT (ifF q')
 walk_at "go";obtain⟨th,tn,N,ta,ts⟩:=ok.tel (G:=G);refine⟨_,_,_,_,_,rfl,N,λG1 B=>?_⟩;rw[ta,ts];refine ifT (ifT ?_);have C:=X.keep (Sm.ks B);obtain⟨ws,U,ek⟩:=@b4M τ;walk_at "go";rw[U];refine a1S ek ?_;rw[<- U];walk_at "go";refine⟨p,n,_,rfl,C.ob,a5Y (by decide +kernel) (by decide +kernel),?_⟩;walk_at "go";refine⟨p,n,_,_,rfl,C.ob,a4u,?_⟩;walk_at "go";refine⟨p,S,T,τ.key,_,_,n,d,D,rfl,C.v,by omega,by omega,by omega,λt L G2 ht s2 gt M=>?_⟩;rw[show ((T.length:Int)).toNat=T.length by omega,fF]at M;have sh2:=C.keep (Sm.ks s2);walk_at "go";have hll:=M.len;refine⟨t,L,τ,rfl,gt,M.can.rise,M.pl,by omega,ok,λu r hu s3 gu=>?_⟩;have f:=sh2.keep (Sm.ks s3);have ad:=(B.trans s2).trans s3;have ab:G u=none:=(B.trans s2).free hu;have nu:¬ S u:=λz=>by obtain⟨o,e⟩:=X.al u z;rw[ab]at e;cases e
 walk_at "go";refine⟨p,n,_,_,rfl,f.ob,a4u,?_⟩;walk_at "go";refine⟨n,_,f.ob,by show 2<1000;decide,?_⟩;rw[b6d];have hup:u≠p:=λz=>nu (z▸X.sp);have I:ShM a.c_Sheet (put r p (.ins a.c_Sheet n (shF ((T.length:Int)+1) d))) p S T ((T.length:Int)+1) n d D:=by
  have V:∀ b o,b≠p->r b=some o->put r p (.ins a.c_Sheet n (shF ((T.length:Int)+1) d)) b=some o:=λb o nb e=>by rw[a0A nb];exact e
  refine⟨a0e,f.sp,f.sd,V _ _ (λz=>by have e:=f.dc;rw[z,f.ob]at e;cases e) f.dc,f.len,f.no,λk z e=>?_,f.inj,(λb J=>?_),f.nd,f.sk⟩
  ·obtain⟨h,es,U,H⟩:=f.hs k z e;refine⟨h,es,U,H.s,V _ _ (λz=>by have e:=H.at_;rw[z,f.ob]at e;cases e) H.at_,H.ix,H.ne,λe he=>?_⟩;obtain⟨B,L1,g1,i1⟩:=H.ln e he;exact⟨B,L1,V _ _ (λz=>by rw[z,f.ob]at g1;cases g1) g1,i1⟩
  ·by_cases c:b=p
   ·rw[c];exact⟨_,a0e⟩
   ·obtain⟨o,e⟩:=f.al b J;exact⟨o,V b o c e⟩
 have aa:put r p (.ins a.c_Sheet n (shF ((T.length:Int)+1) d)) u=some (.lst ((a75 L τ.b τ.e (optW τ.v)).map Rw.z)):=by rw[a0A hup];exact gu
 have ae:KN S G (put r p (.ins a.c_Sheet n (shF ((T.length:Int)+1) d))):=λb o nb e=>by rw[a0A (show b≠p from λz=>nb (by rw[z];exact X.sp))];exact ad _ _ e
 have ac:∀ b,put r p (.ins a.c_Sheet n (shF ((T.length:Int)+1) d)) b=none->G b=none:=λb e=>by
  by_cases c:b=p
  ·rw[c,a0e]at e;cases e
  ·rw[a0A c]at e;exact ad.free e
 generalize put r p (.ins a.c_Sheet n (shF ((T.length:Int)+1) d))=G4 at I aa ae ac ⊢;walk_at "go";refine⟨p,n,_,rfl,I.ob,a5Y (by decide +kernel) (by decide +kernel),?_⟩;walk_at "go";refine⟨p,S,T,τ,u,_,n,d,D,rfl,I,aa,nu,M.snoc ok,by omega,λS' G5 i1 i2 kn5 Y=>?_⟩;have sh5':=Y;obtain⟨dx5,d5,kvs5,m5⟩:=sh5';walk_at "go";refine⟨p,dx5,_,_,rfl,m5.ob,a4u,?_⟩;have e:(((T++[τ]).length:Nat):Int)=(T.length:Int)+1:=by simp
 rw[e];refine q S' G5 i1 (λb J=>?_) (ae.trans kn5) Y;rcases i2 b J with h | h | h
 ·exact .inl h
 ·rw[h];exact .inr ab
 ·exact .inr (ac b h)
theorem a0F (a b:Str):(a++b).cps.toList=a.cps.toList++b.cps.toList:=by
 show (a.cps++b.cps).toList=_
 rw[Array.toList_append]
theorem c0N {p:Nat}(h:p≤s.cps.toList.length):(Txt.slice s none (some (p:Int))).cps.toList=s.cps.toList.take p:=by
 have:=eq_of_beq (PyProof.Rows.slice_closes_to (x:=s) (j:=p) ⟨by omega,by omega⟩)
 rw[this];simp
theorem b6i {p:Nat}(h:p≤s.cps.toList.length):(Txt.slice s (some (p:Int)) none).cps.toList=s.cps.toList.drop p:=by
 have:=PyProof.Rows.slice_from_eq (x:=s) (i:=p) (by simp) (by rw[a3B];omega) rfl
 rw[this,a3B,fD (by simp)];simp
theorem b3Z (h:nmOk s):s.length≤sizeLine:=a1X (by rw[a3B];have:=h.2.1;omega)
theorem a4x:(10:Int) ^ (12:Int).toNat=1000000000000:=by decide
theorem b9i:(Str.ofString "abcdefghijklmnopqrstuvwxyz").cps.toList=[97,98,99,100,101,102,103,104,105,106,107,108,109,110,111,112,113,114,115,116,117,118,119,120,121,122]:=by decide +kernel
theorem a9K (h0:0≤k) (h1:k<26):atI (Str.ofString "abcdefghijklmnopqrstuvwxyz").cps.toList k=some (97+k.toNat):=by
 obtain⟨j,rfl⟩:=fZ h0;have a:j<26:=by omega
 refine a1O ?_
 have:∀ j:Fin 26,([97,98,99,100,101,102,103,104,105,106,107,108,109,110,111,112,113,114,115,116,117,118,119,120,121,122])[j.1]?=some (97+j.1):=by decide
 exact this ⟨j,a⟩
theorem c0O:∀ cs:List Nat,(Txt.join (Str.ofString "") (cs.map λc=>(⟨#[c]⟩:Str))).cps.toList=cs:=by
 intro a;rw[show Txt.join _ _=Str.join _ _ from StrLaws.glued_eq_join _ _,show Str.ofString ""=Str.empty by decide +kernel]
 induction a with
 | nil=>rfl
 | cons c a ih=>
  cases a with
  | nil=>rfl
  | cons d a=>
   show (_++Str.empty++Str.join Str.empty _).cps.toList=_
   rw[a0F,a0F,ih]
   rfl
theorem b0z (cs:List Nat) (h:cs.length≤100):((cs.map λc=>(⟨#[c]⟩:Str)).map (·.length)).sum+(cs.map λc=>(⟨#[c]⟩:Str)).length*(Str.ofString "").length≤16777216:=by
 have e:((cs.map λc=>(⟨#[c]⟩:Str)).map (·.length)).sum=cs.length:=by
  clear h
  induction cs with
  | nil=>rfl
  | cons c cs ih=>
   rw[eE,eE,List.sum_cons,ih,eF]
   show 1+cs.length=_
   omega
 rw[e,show Str.ofString ""=Str.empty by decide +kernel,show Str.empty.length=0 from rfl];omega
def a6r:P3:=λws G R=>∃ c k:Int,ws=[.int c,.int k]/\0≤k/\k≤1000/\∀ r:Int,0≤r->r<1000000007->R (.int r) G
theorem a8Q (h:a6r ws G R):ws.length=2:=by obtain⟨_,_,rfl,_⟩:=h;rfl
theorem mM (x:Int):0≤x % 1073676287/\x % 1073676287<1073676287:=⟨fc _ (by decide),fg _ (by decide)⟩
theorem mP (x:Int):0≤x % 1000000007/\x % 1000000007<1000000007:=⟨fc _ (by decide),fg _ (by decide)⟩
theorem a3a (F:Fns K a) (T:Txt K mg a):FnOk P w K mg base CX0 1 a.f24 a.d24 ["cell","k"] (lowP K a6r):=by
 refine fn3 F.n24 sc_tumbled (λf G R h=>(by exact a8Q h)) (λj A b s H E f G R d h=>?_);refine⟨_,(a0m (z_set (i:=2) sc_tumbled.nd rfl (dR rfl) (q_op a0T (q_op a0N (q_op a0T (a0c (pv 0)) a0g) (q_op a7t a0g (q_op a0N (a0c (pv 1)) a0g))) a0g))
  (a0m (z_set (i:=2) sc_tumbled.nd rfl (dR rfl) (q_op a0N (q_op a0T (q_op a7t (a0c (pv 2)) (a0c (pv 2))) a0g) (q_op a7t a0g (a0c (pv 1)))))
  (a0n (a0I (q_op a0T (q_op a7t (a0c (pv 2)) (q_op a0N (a0c (pv 2)) a0g)) a0g))))),?_⟩
 obtain⟨c,k,rfl,l,n,q⟩:=h;walk_at "go";refine i_I (show 0<1073676287 by decide) ?_;walk_at "go";refine i_I (.inr ⟨by omega,by omega⟩) ?_;walk_at "go";refine i_I (show (0:Int)<1073676287 by decide) ?_;walk_at "go";have g:=mM (c % 1073676287+39916801*(k+1));generalize (c % 1073676287+39916801*(k+1)) % 1073676287=u at g ⊢;refine i_I (.inl ⟨by omega,by omega⟩) ?_;walk_at "go";refine i_I (show (0:Int)<1073676287 by decide) ?_;walk_at "go";refine i_I (.inr ⟨by omega,by omega⟩) ?_;walk_at "go";refine i_I (.inl ⟨by omega,by omega⟩) ?_;walk_at "go";refine i_I (show (0:Int)<1000000007 by decide) ?_;exact q _ (mP _).1 (mP _).2
theorem b30 (h:isL c):b0j (Str.ofString "abcdefghijklmnopqrstuvwxyz") ⟨#[c]⟩=(c:Int) - 97:=by
 have:∀ j:Fin 26,b0j (Str.ofString "abcdefghijklmnopqrstuvwxyz") ⟨#[97+j.1]⟩=(j.1:Int):=by decide +kernel
 obtain⟨b,d⟩:=h;have e:=this ⟨c - 97,by omega⟩;have a:97+(c - 97)=c:=by omega
 simp only[a]at e;rw[e];omega
theorem a8e:∀ {l:List Nat}{a b:Nat},l++[a]=b::l->a=b
 | [],a,b,h=>by simpa using h
 | x::l,a,b,h=>by
  injection h with h1 h2
  rw[a8e h2,h1]
def a9L:P3:=λws G R=>∃ c:Int,ws=[.int c]/\∀ (t:Addr) (ns:List Str) (G':Hq),G t=none->Sm G G'->G' t=some (.lst (ns.map Z.str))->ns.length=4->(∀ s∈ns,nmOk s)->ns.Nodup->R (.ref t) G'
theorem b2B (h:a9L ws G R):ws.length=1:=by obtain⟨_,rfl,_⟩:=h;rfl
theorem b31 (F:Fns K a) (T:Txt K mg a):FnOk P w K mg base CX0 2 a.f25 a.d25 ["cell"] (lowP K a9L):=by
 have G_tumbled:=a3a (P:=P) (w:=w) (base:=base) F T;refine fn3 F.n25 sc_words (λws G R h=>(by exact b2B h)) (λcdv A outer s H E ws G R hr h=>?_);have hu:=a03 hr;refine⟨_,(a0m (z_set (i:=1) sc_words.nd rfl (ig rfl) a4f)
  (a0m (z_set (i:=2) sc_words.nd rfl (dR rfl) (q_bm PySem.F.plainAttrs_str PySem.F.slot_str_join PySem.F.type_str_join b7M a4f (a0b (q_lc (N₀:=["cell","letters","word","at","first","last","moved"]) (so:=a0i a6Q) (N':=["k","letters","cell"]) (cap:=[none,some 1,some 0]) (pt:=(.nm 0)) rfl rfl rfl (by decide +kernel) rfl (a23 rfl T.b_range (a0b (q_op a0N a0g (q_op a0T (a0s G_tumbled (hr.mono (by decide)) rfl T.m24 F.n24.kp (a0z F) (a0b (a0c (pv 0)) (a0b a0g a0h a0f) a0a) (he:=a0a) (hpl:=(a0j a0f a0k))) a0g)) a0h a0q)) (λ_ _ _ _=>(show QP _ _ (.nm 0) from (a0o (i:=0) c0F rfl (dR rfl)))) (λ_ _ _ _=>a4i) (λ_ _ _ _=>(q_ix x_ix (a0c (pv 1)) (q_op a0T (a0s G_tumbled (hr.mono (by decide)) rfl T.m24 F.n24.kp (a0z F) (a0b (a0c (pv 2)) (a0b (a0c (pv 0)) a0h a0a) a0a) (he:=a0a) (hpl:=(a0j a0a a0k))) a0g) (λ_ _=>rfl)))) a0h a05)))
  (a0m (z_set (i:=3) sc_words.nd rfl (dR rfl) (q_op a0T (a0s G_tumbled (hr.mono (by decide)) rfl T.m24 F.n24.kp (a0z F) (a0b (a0c (pv 0)) (a0b a0g a0h a0f) a0a) (he:=a0a) (hpl:=(a0j a0f a0k))) (a0B b_len rfl T.b_len PySem.boot_len (a0b (a0c (pv 2)) a0h a0a) (he:=a0a) (hpl:=a0k))))
  (a0m (z_set (i:=4) sc_words.nd rfl (dR rfl) (q_op a0T (a0s G_tumbled (hr.mono (by decide)) rfl T.m24 F.n24.kp (a0z F) (a0b (a0c (pv 0)) (a0b a0g a0h a0f) a0a) (he:=a0a) (hpl:=(a0j a0f a0k))) a0g))
  (a0m (z_set (i:=5) sc_words.nd rfl (dR rfl) (q_ix x_ix (a0c (pv 1)) (q_op a0T (q_op a0N (q_op a0N (a0c (pv 4)) a0g) (q_op a0T (a0s G_tumbled (hr.mono (by decide)) rfl T.m24 F.n24.kp (a0z F) (a0b (a0c (pv 0)) (a0b a0g a0h a0f) a0a) (he:=a0a) (hpl:=(a0j a0f a0k))) a0g)) a0g) (λ_ _=>rfl)))
  (a0m (z_set (i:=6) sc_words.nd rfl (dR rfl) (q_ix x_ix (a0c (pv 1)) (q_op a0T (q_op a0N (q_op a0N (q_bm PySem.F.plainAttrs_str PySem.F.slot_str_find PySem.F.type_str_find b8m (a0c (pv 1)) (a0b (q_ix x_ix (a0c (pv 2)) (a0c (pv 3)) (λ_ _=>rfl)) a0h a0d)) a0g) (q_op a0T (a0s G_tumbled (hr.mono (by decide)) rfl T.m24 F.n24.kp (a0z F) (a0b (a0c (pv 0)) (a0b a0g a0h a0f) a0a) (he:=a0a) (hpl:=(a0j a0f a0k))) a0g)) a0g) (λ_ _=>rfl)))
  (a0n (a0I (a1d (a0b (a0c (pv 2)) (a0b (q_op a0N (a0c (pv 2)) (a0c (pv 5))) (a0b (q_op a0N (q_ix x_ix (a0c (pv 1)) (a0c (pv 4)) (λ_ _=>rfl)) (a0c (pv 2))) (a0b (q_op a0N (q_op a0N (a1Q x_sl (a0c (pv 2)) a1K (a2k (a0c (pv 3)))) (a0c (pv 6))) (a1Q x_sl (a0c (pv 2)) (a2k (q_op a0N (a0c (pv 3)) a0g)) a1K)) a0h a0q) a0q) a0q) a0a)))))))))),?_⟩
 obtain⟨c,rfl,q⟩:=h;walk_at "go";refine⟨c,7,rfl,by decide,by decide,λr r0 r1=>?_⟩;walk_at "go";refine i_I (show (0:Int)<7 by decide) ?_;walk_at "go";have hn:1≤1+r % 7/\1+r % 7≤7:=by omega
 generalize 1+r % 7=n at hn ⊢;refine⟨by omega,by omega,?_⟩;intro D hD;refine b1x (λi ys G'=>∃ cs:List Nat,cs.length=i/\(∀ c∈cs,isL c)/\ys=cs.map (λc=>Z.str ⟨#[c]⟩)/\G'=put G D (.lst ys)) ⟨[],rfl,λc h=>by simp at h,rfl,rfl⟩ (by rintro _ _ _ _ _;exact True.intro) ?_ ?_
 ·rintro i x ys G' hx ⟨cs,hl,hc,rfl,rfl⟩;obtain⟨hi,rfl⟩:=a4g hx;refine⟨_,rfl,?_⟩;walk_at "go";refine⟨c,_,rfl,by omega,by omega,λf f0 f1=>?_⟩;walk_at "go";refine i_I (show (0:Int)<26 by decide) ?_;walk_at "go";refine b1I (lenK rfl) (a9K (by omega) (by omega)) ?_;refine⟨a0e,by rw[dQ];exact a0t (by omega),cs++[97+(f % 26).toNat],by simp[hl],λd hd=>?_,by rw[eA];rfl,by rw[a2R]⟩;rcases dU.mp hd with hd | hd
  ·exact hc d hd
  ·rw[dX.mp hd];unfold isL;omega
 ·rintro ys G' ⟨cs,hl,hc,rfl,rfl⟩;rw[a2m]at hl;walk_at "go";refine b75 (ys:=cs.map λc=>(⟨#[c]⟩:Str)) (by rw[a0e,gZ];rfl) (b0z cs (by omega)) ?_;have el:=c0O cs;generalize Txt.join (Str.ofString "") (cs.map λc=>(⟨#[c]⟩:Str))=s at el ⊢;have ls:s.cps.toList.length=cs.length:=by rw[el]
  have ws:nmOk s:=⟨by omega,by omega,λd hd=>by rw[el]at hd;exact hc d hd⟩;have w7:s.cps.toList.length≤7:=by omega
  walk_at "go";refine⟨c,8,rfl,by decide,by decide,λf f0 f1=>?_⟩;walk_at "go";refine b1J (b3Z ws) ?_;walk_at "go";refine i_I (show (0:Int)<(s.length:Int) by rw[a3B];omega) ?_;walk_at "go";have ha:0≤f % (s.length:Int)/\f % (s.length:Int)<(s.length:Int):=⟨fc _ (by rw[a3B];omega),fg _ (by rw[a3B];omega)⟩;generalize f % (s.length:Int)=at' at ha ⊢;obtain⟨p,rfl⟩:=fZ ha.1;have hp:p<s.cps.toList.length:=by rw[<- a3B];omega
  refine⟨c,9,rfl,by decide,by decide,λf2 f20 f21=>?_⟩;walk_at "go";refine i_I (show (0:Int)<26 by decide) ?_;walk_at "go";refine⟨c,10,rfl,by decide,by decide,λf3 f30 f31=>?_⟩;walk_at "go";refine i_I (show (0:Int)<25 by decide) ?_;walk_at "go";refine i_I (show (0:Int)<26 by decide) ?_;walk_at "go";refine b1I (lenK rfl) (a9K (by omega) (by omega)) ?_;walk_at "go";refine b1I (b3Z ws) (a1O (et hp)) ?_;walk_at "go";have hfd:=b30 (ws.2.2 _ (fm hp));have lsp:=ws.2.2 _ (fm hp);generalize b0j (Str.ofString "abcdefghijklmnopqrstuvwxyz") ⟨#[s.cps.toList[p]]⟩=fd at hfd ⊢;refine⟨c,11,rfl,by decide,by decide,λf4 f40 f41=>?_⟩;walk_at "go";refine i_I (show (0:Int)<25 by decide) ?_;walk_at "go";refine i_I (show (0:Int)<26 by decide) ?_;walk_at "go";refine b1I (lenK rfl) (a9K (by omega) (by omega)) ?_;have one:∀ k:Nat,k<26->nmOk (⟨#[97+k]⟩:Str):=λk hk=>⟨by simp,by simp,λd hd=>by
   have:d=97+k:=by simpa using hd
   unfold isL;omega⟩
  have app:∀ {x y:Str},nmOk x->(∀ d∈y.cps.toList,isL d)->x.cps.toList.length+y.cps.toList.length≤8->nmOk (x++y):=λ{x y} hx hy hl=>⟨by rw[a0F,dW];have:=hx.1;omega,by rw[a0F,dW];exact hl,λd hd=>by
   rw[a0F]at hd;rcases dU.mp hd with hd | hd
   ·exact hx.2.2 d hd
   ·exact hy d hd⟩
  have k1:((f2 % 26+1+f3 % 25) % 26).toNat<26:=by omega
  have k2:(f2 % 26).toNat<26:=by omega
  have k3:((fd+1+f4 % 25) % 26).toNat<26:=by omega
  have o1:=one _ k1;have o2:=one _ k2;have o3:=one _ k3;have d3:97+((fd+1+f4 % 25) % 26).toNat≠s.cps.toList[p]:=by unfold isL at lsp;omega
  have d1:97+((f2 % 26+1+f3 % 25) % 26).toNat≠97+(f2 % 26).toNat:=by omega
  have lone:∀ k:Nat,(⟨#[k]⟩:Str).length=1:=λ_=>rfl;have ltwo:∀ k:Nat,(⟨#[k]⟩:Str).cps.toList.length=1:=λ_=>rfl;generalize 97+((fd+1+f4 % 25) % 26).toNat=m3 at o3 d3 ⊢;walk_at "go";generalize 97+((f2 % 26+1+f3 % 25) % 26).toNat=m1 at o1 d1 ⊢;refine a89 (a1X (by rw[a3B,lone];omega)) ?_;walk_at "go";refine b1I (lenK rfl) (a9K (by omega) (by omega)) ?_;generalize 97+(f2 % 26).toNat=m2 at o2 d1 ⊢;walk_at "go";refine a89 (a1X (by rw[a3B s,lone];omega)) ?_;walk_at "go";refine b72 (b3Z ws) ?_;have e1:=c0N (s:=s) (p:=p) (by omega);have e2:=b6i (s:=s) (p:=p+1) (by omega);walk_at "go";refine a89 (a1X (by rw[a3B,e1,eG,lone];omega)) ?_;walk_at "go";refine b72 (b3Z ws) ?_;rw[show ((p:Int)+1)=((p+1:Nat):Int) by omega];walk_at "go";refine a89 (a1X (by rw[a3B,a0F,dW,e1,a3B,e2,eG,eS,ltwo];omega)) ?_;walk_at "go";refine⟨lenK rfl,λt ht=>?_⟩;refine q t [s,s++⟨#[m1]⟩,(⟨#[m2]⟩:Str)++s,Txt.slice s none (some (p:Int))++⟨#[m3]⟩++Txt.slice s (some ((p+1:Nat):Int)) none] _ ((Sm.new hD).free ht) ((Sm.new hD).trans (Sm.new ht)) a0e rfl (λw hw=>?_) ?_
  rotate_left
  ·have ne:∀ {x y:Str},x.cps.toList≠y.cps.toList->x≠y:=λh z=>h (by rw[z]);have e3:(Txt.slice s none (some (p:Int))++⟨#[m3]⟩++Txt.slice s (some ((p+1:Nat):Int)) none).cps.toList=s.cps.toList.take p++[m3]++s.cps.toList.drop (p+1):=by rw[a0F,a0F,e1,e2]
   have l3:(s.cps.toList.take p++[m3]++s.cps.toList.drop (p+1)).length=s.cps.toList.length:=by rw[dW,dW,eG,eS];simp only[eF,jK];omega
   have n13:s.cps.toList++[m1]≠m2::s.cps.toList:=λz=>d1 (a8e z);have n3:s.cps.toList≠s.cps.toList.take p++[m3]++s.cps.toList.drop (p+1):=λz=>d3 (by
    have h1:s.cps.toList[p]?=some m3:=by
     have hm:(s.cps.toList.take p).length=p:=by rw[eG];omega
     have h2:(s.cps.toList.take p++[m3]++s.cps.toList.drop (p+1))[p]?=some m3:=by
      rw[eO,fQ (by omega),hm,Nat.sub_self];rfl
     exact (congrArg (·[p]?) z).trans h2
    rw[et hp]at h1;injection h1 with h1
    exact h1.symm)
   refine e9.mpr ⟨?_,e9.mpr ⟨?_,e9.mpr ⟨?_,e9.mpr ⟨by simp,.nil⟩⟩⟩⟩
   ·simp only[dY,fw,or_false,not_or];refine⟨ne ?_,ne ?_,ne ?_⟩
    ·rw[a0F];exact λz=>absurd (congrArg eQ z) (by rw[dW,ltwo];omega)
    ·rw[a0F];exact λz=>absurd (congrArg eQ z) (by rw[dW,ltwo];omega)
    ·rw[e3];exact n3
   ·simp only[dY,fw,or_false,not_or];refine⟨ne ?_,ne ?_⟩
    ·rw[a0F,a0F];exact n13
    ·rw[a0F,e3];exact λz=>absurd (congrArg eQ z) (by rw[l3,dW,ltwo];omega)
   ·simp only[dY,fw,or_false];refine ne ?_;rw[a0F,e3];exact λz=>absurd (congrArg eQ z) (by rw[l3,dW,ltwo];omega)
  simp only[dY,fw,or_false]at hw;rcases hw with rfl | rfl | rfl | rfl
  ·exact ws
  ·exact app ws o1.2.2 (by rw[ltwo];omega)
  ·exact app o2 ws.2.2 (by rw[ltwo];omega)
  ·refine⟨by rw[a0F,a0F,dW,dW,ltwo];omega,by rw[a0F,a0F,dW,dW,ltwo,e1,e2,eG,eS];omega,λd hd=>?_⟩;rw[a0F,a0F,e1,e2]at hd;rcases dU.mp hd with hd | hd
   ·rcases dU.mp hd with hd | hd
    ·exact ws.2.2 d (fB hd)
    ·exact o3.2.2 d hd
   ·exact ws.2.2 d (ik hd)
theorem a9M {ns:List Str}(h:∀ s∈ns,nmOk s) (h0:0≤k) (h1:k<(ns.length:Int)):∃ s,atI (ns.map Z.str) k=some (.str s)/\s∈ns/\nmOk s:=by
 obtain⟨j,rfl⟩:=fZ h0;have a:j<ns.length:=by omega
 exact⟨ns[j],a1O (by simp_all),fm a,h _ (fm a)⟩
def a6s:P3:=λws G R=>∃ c:Int,ws=[.int c]/\∀ (b:Int) (e:Option Int) (G':Hq),Sm G G'->stOk b e->R (.tup [.int b,oz e]) G'
theorem a8R (h:a6s ws G R):ws.length=1:=by obtain⟨_,rfl,_⟩:=h;rfl
theorem b0A (F:Fns K a) (T:Txt K mg a):FnOk P w K mg base CX0 2 a.f26 a.d26 ["cell"] (lowP K a6s):=by
 have G_tumbled:=a3a (P:=P) (w:=w) (base:=base) F T;refine fn3 F.n26 sc_stretch (λws G R h=>(by exact a8R h)) (λcdv A outer s H E ws G R hr h=>?_);have hu:=a03 hr;refine⟨_,(a0m (z_set (i:=1) sc_stretch.nd rfl (dR rfl) (q_op a0T (a0s G_tumbled (hr.mono (by decide)) rfl T.m24 F.n24.kp (a0z F) (a0b (a0c (pv 0)) (a0b a0g a0h a0f) a0a) (he:=a0a) (hpl:=(a0j a0f a0k))) a0g))
  (a0m (z_set (i:=2) sc_stretch.nd rfl (dR rfl) (q_op a0T (a0s G_tumbled (hr.mono (by decide)) rfl T.m24 F.n24.kp (a0z F) (a0b (a0c (pv 0)) (a0b a0g a0h a0f) a0a) (he:=a0a) (hpl:=(a0j a0f a0k))) a0g))
  (a6F (z_if (a0v (o_eq hu) (a0c (pv 1)) a0g (a0p _))
  (a0n (z_set (i:=2) sc_stretch.nd rfl (dR rfl) (q_op a0T (q_op a7t (a0s G_tumbled (hr.mono (by decide)) rfl T.m24 F.n24.kp (a0z F) (a0b (a0c (pv 0)) (a0b a0g a0h a0f) a0a) (he:=a0a) (hpl:=(a0j a0f a0k))) a0g) (q_op a0N (q_op a4L a0g a0g) a0g))))
  a0V)
  (a6F (z_if (a0v (o_eq hu) (a0c (pv 1)) a0g (a0p _))
  (a0n (z_set (i:=2) sc_stretch.nd rfl (dR rfl) (q_ix x_ix (a1d (a0b (q_op a4L a0g a0g) (a0b (q_op a8t (q_op a4L a0g a0g) a0g) (a0b a0g (a0b (q_op a8t (q_op a4L a0g a0g) a0g) a0h a0q) a0f) a0q) a0q)) (q_op a0T (a0c (pv 2)) a0g) (λ_ _=>rfl))))
  a0V)
  (a0m (z_if (QW.qt (q_or (a0v (o_eq hu) (q_op a0T (a0s G_tumbled (hr.mono (by decide)) rfl T.m24 F.n24.kp (a0z F) (a0b (a0c (pv 0)) (a0b a0g a0h a0f) a0a) (he:=a0a) (hpl:=(a0j a0f a0k))) a0g) a0g (a0p _)) (a5h (a0v (o_eq hu) (a0c (pv 2)) (q_op a4L a0g a0g) (a0p _)))))
  (a0n (a0I (a2l (a0b (a0c (pv 2)) (a0b a1E a0h a0f) a0a))))
  a0V)
  (a0m (z_if (a0v (o_eq hu) (q_op a0T (a0s G_tumbled (hr.mono (by decide)) rfl T.m24 F.n24.kp (a0z F) (a0b (a0c (pv 0)) (a0b a0g a0h a0f) a0a) (he:=a0a) (hpl:=(a0j a0f a0k))) a0g) a0g (a0p _))
  (a0n (a0I (a2l (a0b (a0c (pv 2)) (a0b (q_op a0N (q_op a0N (a0c (pv 2)) a0g) (q_op a0T (q_op a7t (a0s G_tumbled (hr.mono (by decide)) rfl T.m24 F.n24.kp (a0z F) (a0b (a0c (pv 0)) (a0b a0g a0h a0f) a0a) (he:=a0a) (hpl:=(a0j a0f a0k))) a0g) (q_op a8t (q_op a4L a0g a0g) (a0c (pv 2))))) a0h a0q) a0a))))
  a0V)
  (a0n (a0I (a2l (a0b (a0c (pv 2)) (a0b (a0B (b_min rfl) rfl T.b_min rfl (a0b (q_op a4L a0g a0g) (a0b (q_op a0N (q_op a0N (a0c (pv 2)) a0g) (q_op a0T (a0s G_tumbled (hr.mono (by decide)) rfl T.m24 F.n24.kp (a0z F) (a0b (a0c (pv 0)) (a0b a0g a0h a0f) a0a) (he:=a0a) (hpl:=(a0j a0f a0k))) a0g)) a0h a0q) a0q) (he:=a0q) (hpl:=(a0j a0q a0k))) a0h a0L) a0a)))))))))),?_⟩
 obtain⟨c,rfl,q⟩:=h;walk_at "go";refine⟨c,20,rfl,by decide,by decide,λr r0 r1=>?_⟩;walk_at "go";refine i_I (show (0:Int)<8 by decide) ?_;walk_at "go";generalize r % 8=kind;refine⟨c,21,rfl,by decide,by decide,λr2 r20 r21=>?_⟩;walk_at "go";refine i_I (show (0:Int)<12 by decide) ?_;walk_at "go";have hb0:0≤r2 % 12/\r2 % 12<12:=by omega
 generalize r2 % 12=b0 at hb0 ⊢;refine a6I (fun σ' G'=>∃ b:Int,0≤b/\b≤1000000000000/\G'=G/\σ'=[some (.int c),some (.int kind),some (.int b)]) ?_ ?_
 ·walk_at "go";refine ifD (λ_=>?_) λ_=>?_
  ·walk_at "go";refine⟨c,21,rfl,by decide,by decide,λr3 r30 r31=>?_⟩;walk_at "go";refine i_I (.inl ⟨by omega,by omega⟩) ?_;walk_at "go";refine i_I ⟨by decide,by decide,by decide⟩ ?_;rw[a4x];walk_at "go";refine i_I (show (0:Int)<1000000000000+1 by decide) ?_;walk_at "go";exact⟨_,fc _ (by decide),by have:=fg (r3*1000) (show (0:Int)<1000000000000+1 by decide);omega,rfl,rfl⟩
  ·walk_at "go";exact⟨b0,by omega,by omega,rfl,rfl⟩
 ·rintro σ' G' ⟨b,h0,h1,rfl,rfl⟩;walk_at "go";refine a6I (fun σ' G''=>∃ b:Int,0≤b/\b≤1000000000000/\Sm G' G''/\σ'=[some (.int c),some (.int kind),some (.int b)]) ?_ ?_
  ·walk_at "go";refine ifD (λ_=>?_) λ_=>?_
   ·walk_at "go";refine i_I ⟨by decide,by decide,by decide⟩ ?_;rw[a4x];walk_at "go";refine i_I ⟨by decide,by decide,by decide⟩ ?_;rw[a4x];walk_at "go";refine i_I ⟨by decide,by decide,by decide⟩ ?_;rw[a4x];walk_at "go";refine⟨lenK rfl,λu hu=>?_⟩;walk_at "go";refine i_I (show (0:Int)<4 by decide) ?_;have hk:b % 4=0\/b % 4=1\/b % 4=2\/b % 4=3:=by omega
    obtain⟨b',eb,hb'⟩:∃ b':Int,atI [Z.int 1000000000000,.int (1000000000000 - 1),.int 0,.int (1000000000000 - 7)] (b % 4)=some (.int b')/\0≤b'/\b'≤1000000000000:=by
     rcases hk with e | e | e | e<;>rw[e]
     ·exact⟨_,rfl,by decide,by decide⟩
     ·exact⟨_,rfl,by decide,by decide⟩
     ·exact⟨_,rfl,by decide,by decide⟩
     ·exact⟨_,rfl,by decide,by decide⟩
    refine a1f a0e eb ?_;walk_at "go";exact⟨b',hb'.1,hb'.2,Sm.new hu,rfl⟩
   ·walk_at "go";exact⟨b,h0,h1,Sm.refl _,rfl⟩
  ·rintro σ' G'' ⟨b,h0,h1,s1,rfl⟩;have none_:R (.tup [.int b,.non]) G'':=q b none G'' s1 ⟨h0,h1,λx hx=>nomatch hx⟩;walk_at "go";refine⟨c,22,rfl,by decide,by decide,λr3 r30 r31=>?_⟩;walk_at "go";refine i_I (show (0:Int)<5 by decide) ?_;walk_at "go";refine ifD (λ_=>?_) λ_=>?_
   ·walk_at "go";exact⟨lenK rfl,none_⟩
   ·walk_at "go";refine i_I ⟨by decide,by decide,by decide⟩ ?_;rw[a4x];walk_at "go";refine ifD (λ_=>?_) λhne=>?_
    ·walk_at "go";exact⟨lenK rfl,none_⟩
    ·have hlt:b<1000000000000:=by omega
     walk_at "go";refine⟨c,22,rfl,by decide,by decide,λr4 r40 r41=>?_⟩;walk_at "go";refine i_I (show (0:Int)<5 by decide) ?_;walk_at "go";refine ifD (λ_=>?_) λ_=>?_
     ·walk_at "go";refine⟨c,23,rfl,by decide,by decide,λr5 r50 r51=>?_⟩;walk_at "go";refine i_I (.inl ⟨by omega,by omega⟩) ?_;walk_at "go";refine i_I ⟨by decide,by decide,by decide⟩ ?_;rw[a4x];walk_at "go";refine i_I (show (0:Int)<1000000000000 - b by omega) ?_;walk_at "go";refine⟨lenK rfl,?_⟩;have m0:=fc (r5*1000) (show (1000000000000 - b:Int)≠0 by omega);have m1:=fg (r5*1000) (show (0:Int)<1000000000000 - b by omega);exact q b (some (b+1+r5*1000 % (1000000000000 - b))) G'' s1 ⟨h0,h1,λx hx=>by cases hx;unfold T12;omega⟩
     ·walk_at "go";refine i_I ⟨by decide,by decide,by decide⟩ ?_;rw[a4x];walk_at "go";refine⟨c,23,rfl,by decide,by decide,λr5 r50 r51=>?_⟩;walk_at "go";refine i_I (show (0:Int)<6 by decide) ?_;walk_at "go";refine⟨lenK rfl,?_⟩;exact q b (some (if b+1+r5 % 6<1000000000000 then b+1+r5 % 6 else 1000000000000)) G'' s1 ⟨h0,h1,λx hx=>by cases hx;unfold T12;split<;>omega⟩
def a4I:P3:=λws G R=>Ex5 λ(c:Int) (ks wsA:Addr) (kn wn:List Str)=>ws=[.int c,.ref ks,.ref wsA]/\G ks=some (.lst (kn.map Z.str))/\G wsA=some (.lst (wn.map Z.str))/\kn.length=4/\wn.length=4/\(∀ s∈kn,nmOk s)/\(∀ s∈wn,nmOk s) /\
 ∀ τ,Tl.Ok τ->τ.key∈kn->R τ.z G
theorem a68 (h:a4I ws G R):ws.length=3:=by obtain⟨_,_,_,_,_,rfl,_⟩:=h;rfl
theorem a8f (F:Fns K a) (T:Txt K mg a):FnOk P w K mg base CX0 1 a.f27 a.d27 ["cell","keys","worths"] (lowP K a4I):=by
 refine fn3 F.n27 sc_by_digits (λws G R h=>(by exact a68 h)) (λcdv A outer s H E ws G R hr h=>?_);have hu:=a03 hr;refine⟨_,(a0m (z_set (i:=3) sc_by_digits.nd rfl (dR rfl) (q_op a0T (q_op a5i (a0c (pv 0)) a0g) (q_op a0N (q_op a4L a0g a0g) a0g)))
  (a0m (z_set (i:=4) sc_by_digits.nd rfl (dR rfl) (q_op a0N (a0c (pv 3)) (q_op a0T (q_op a5i (a0c (pv 0)) a0g) a0g)))
  (a6F (z_if (QW.qt (a5O (a0v (o_eq hu) (a0c (pv 4)) (q_op a0N (a0c (pv 3)) a0g) (a0p _)) (a4C (a0v o_lt (a0c (pv 3)) (q_op a4L a0g a0g) (a0p _)))))
  (a0n (z_set (i:=4) sc_by_digits.nd rfl (dR rfl) (q_op a0N (q_op a0N (a0c (pv 3)) a0g) (q_op a0T (q_op a5i (q_op a5i (a0c (pv 0)) a0g) (q_op a0N (q_op a4L a0g a0g) a0g)) (q_op a8t (q_op a4L a0g a0g) (a0c (pv 3)))))))
  a0V)
  (a6F (z_if (QW.qt (q_or (a0v (o_eq hu) (a0c (pv 4)) (a0c (pv 3)) (a0p _)) (a5h (a0v o_gt (a0c (pv 4)) (q_op a4L a0g a0g) (a0p _)))))
  (a0n (z_set (i:=4) sc_by_digits.nd rfl (dR rfl) a1E))
  a0V)
  (a0m (z_if (a0v (o_eq hu) (q_op a0T (q_op a5i (a0c (pv 0)) a0g) a0g) a0g (a0p _))
  (a0n (a0I (a2l (a0b a4f (a0b (q_ix x_ix (a0c (pv 1)) (q_op a0T (a0c (pv 0)) a0g) (λ_ _=>rfl)) (a0b (a0c (pv 3)) (a0b (a0c (pv 4)) a0h a0a) a0a) a0d) a0f))))
  a0V)
  (a0n (a0I (a2l (a0b a4f (a0b (q_ix x_ix (a0c (pv 1)) (q_op a0T (a0c (pv 0)) a0g) (λ_ _=>rfl)) (a0b (q_ix x_ix (a0c (pv 2)) (q_op a0T (q_op a5i (a0c (pv 0)) a0g) a0g) (λ_ _=>rfl)) (a0b (a0c (pv 3)) (a0b (a0c (pv 4)) a0h a0a) a0a) a0d) a0d) a0f))))))))),?_⟩
 obtain⟨c,ks,wsA,kn,wn,rfl,gk,gw,lk,lw,hk,hw,q⟩:=h;walk_at "go";refine i_I ⟨by decide,by decide⟩ ?_;walk_at "go";refine i_I ⟨by decide,by decide,by decide⟩ ?_;rw[a4x];walk_at "go";refine i_I (show (0:Int)<1000000000000+1 by decide) ?_;walk_at "go";have b0:=fc (c / 384) (show (1000000000000+1:Int)≠0 by decide);have b1:=fg (c / 384) (show (0:Int)<1000000000000+1 by decide);generalize c / 384 % (1000000000000+1)=b at b0 b1 ⊢;refine i_I ⟨by decide,by decide⟩ ?_;walk_at "go";refine i_I (show (0:Int)<8 by decide) ?_;walk_at "go";have e0:0≤c / 48 % 8/\c / 48 % 8<8:=by omega
 generalize c / 48 % 8=d at e0 ⊢;refine a6I (fun σ' G'=>∃ e:Int,b≤e/\G'=G/\σ'=[some (.int c),some (.ref ks),some (.ref wsA),some (.int b),some (.int e)]) ?_ ?_
 ·walk_at "go";refine ifD (λ_=>?_) λ_=>?_
  ·walk_at "go";refine i_I ⟨by decide,by decide,by decide⟩ ?_;rw[a4x];walk_at "go";refine ifD (λhlt=>?_) λ_=>?_
   ·walk_at "go";refine i_I ⟨by decide,by decide⟩ ?_;walk_at "go";refine i_I ⟨by decide,by decide,by decide⟩ ?_;rw[a4x];walk_at "go";refine i_I ⟨by decide,by decide⟩ ?_;walk_at "go";refine i_I ⟨by decide,by decide,by decide⟩ ?_;rw[a4x];walk_at "go";refine i_I (show (0:Int)<1000000000000 - b by omega) ?_;walk_at "go";have m0:=fc (c / 384 / (1000000000000+1)) (show (1000000000000 - b:Int)≠0 by omega);exact⟨_,by omega,rfl,rfl⟩
   ·walk_at "go";exact⟨_,by omega,rfl,rfl⟩
  ·walk_at "go";exact⟨_,by omega,rfl,rfl⟩
 ·rintro σ' G' ⟨e,he,rfl,rfl⟩;walk_at "go";refine a6I (fun σ' G''=>∃ e:Option Int,stOk b e/\G''=G'/\σ'=[some (.int c),some (.ref ks),some (.ref wsA),some (.int b),some (oz e)]) ?_ ?_
  ·walk_at "go";refine ifD (λ_=>?_) λhne=>?_
   ·walk_at "go";exact⟨none,⟨b0,by unfold T12;omega,λx hx=>nomatch hx⟩,rfl,rfl⟩
   ·walk_at "go";refine i_I ⟨by decide,by decide,by decide⟩ ?_;rw[a4x];walk_at "go";refine ifD (λ_=>?_) λhle=>?_
    ·walk_at "go";exact⟨none,⟨b0,by unfold T12;omega,λx hx=>nomatch hx⟩,rfl,rfl⟩
    ·walk_at "go";exact⟨some e,⟨b0,by unfold T12;omega,λx hx=>by cases hx;unfold T12;omega⟩,rfl,rfl⟩
  ·rintro σ' G'' ⟨e,hst,rfl,rfl⟩;obtain⟨kk,ekk,mkk,hkk⟩:=a9M hk (fc c (show (4:Int)≠0 by decide)) (by have:=fg c (show (0:Int)<4 by decide);omega);obtain⟨ww,eww,_,hww⟩:=a9M hw (fc (c / 16) (show (3:Int)≠0 by decide)) (by have:=fg (c / 16) (show (0:Int)<3 by decide);omega);walk_at "go";refine i_I ⟨by decide,by decide⟩ ?_;walk_at "go";refine i_I (show (0:Int)<4 by decide) ?_;walk_at "go";refine ifD (λ_=>?_) λ_=>?_
   ·walk_at "go";refine i_I (show (0:Int)<4 by decide) ?_;walk_at "go";refine a1f gk ekk ?_;walk_at "go";refine⟨lenK rfl,?_⟩;exact q ⟨kk,none,b,e⟩ ⟨hkk,(λs h=>nomatch h),hst⟩ mkk
   ·walk_at "go";refine i_I (show (0:Int)<4 by decide) ?_;walk_at "go";refine a1f gk ekk ?_;walk_at "go";refine i_I ⟨by decide,by decide⟩ ?_;walk_at "go";refine i_I (show (0:Int)<3 by decide) ?_;walk_at "go";refine a1f gw eww ?_;walk_at "go";refine⟨lenK rfl,?_⟩;exact q ⟨kk,some ww,b,e⟩ ⟨hkk,(λs h=>by cases h;exact hww),hst⟩ mkk
def a6t:P3:=λws G R=>Ex5 λ(c:Int) (ks wsA:Addr) (kn wn:List Str)=>ws=[.int c,.ref ks,.ref wsA]/\G ks=some (.lst (kn.map Z.str))/\G wsA=some (.lst (wn.map Z.str))/\kn.length=4/\wn.length=4/\(∀ s∈kn,nmOk s)/\(∀ s∈wn,nmOk s) /\
 ∀ τ G',Sm G G'->Tl.Ok τ->τ.key∈kn->R τ.z G'
theorem a8S (h:a6t ws G R):ws.length=3:=by obtain⟨_,_,_,_,_,rfl,_⟩:=h;rfl
theorem b0B (F:Fns K a) (T:Txt K mg a):FnOk P w K mg base CX0 3 a.f28 a.d28 ["cell","keys","worths"] (lowP K a6t):=by
 have G_stretch:=b0A (P:=P) (w:=w) (base:=base) F T;have G_by_digits:=a8f (P:=P) (w:=w) (base:=base) F T;have G_tumbled:=a3a (P:=P) (w:=w) (base:=base) F T;refine fn3 F.n28 sc_telling (λws G R h=>(by exact a8S h)) (λcdv A outer s H E ws G R hr h=>?_);have hu:=a03 hr;refine⟨_,(a0m (z_if (a0v (o_eq hu) (q_op a0T (a0c (pv 0)) a0g) a0g (a0p _))
  (a0n (a0I (a0s G_by_digits (hr.mono (by decide)) rfl T.m27 F.n27.kp (a7Z F) (a0b (q_op a5i (a0c (pv 0)) a0g) (a0b (a0c (pv 1)) (a0b (a0c (pv 2)) a0h a0a) a0a) a0q) (he:=a0q) (hpl:=(a0j a0a (a0j a0a a0k))))))
  a0V)
  (a0m (z_set (i:=3) sc_telling.nd rfl (dR rfl) (q_ix x_ix (a0c (pv 1)) (q_op a0T (a0s G_tumbled (hr.mono (by decide)) rfl T.m24 F.n24.kp (a0z F) (a0b (a0c (pv 0)) (a0b a0g a0h a0f) a0a) (he:=a0a) (hpl:=(a0j a0f a0k))) a0g) (λ_ _=>rfl)))
  (a0m (b7B (pt:=(.tp [4,5])) (a0s G_stretch (hr.mono (by decide)) rfl T.m26 F.n26.kp (b0u F) (a0b (a0c (pv 0)) a0h a0a) (he:=a0a) (hpl:=a0k)) (show QP _ _ (.tp [4,5]) from (a3H rfl (a0w (a0o (i:=4) sc_telling.nd rfl (dR rfl)) (a0w (a0o (i:=5) sc_telling.nd rfl (dR rfl)) a2s)))))
  (a0m (z_if (a0v (o_eq hu) (q_op a0T (a0s G_tumbled (hr.mono (by decide)) rfl T.m24 F.n24.kp (a0z F) (a0b (a0c (pv 0)) (a0b a0g a0h a0f) a0a) (he:=a0a) (hpl:=(a0j a0f a0k))) a0g) a0g (a0p _))
  (a0n (a0I (a2l (a0b a4f (a0b (a0c (pv 3)) (a0b (a0c (pv 4)) (a0b (a0c (pv 5)) a0h a0a) a0a) a0a) a0f))))
  a0V)
  (a0n (a0I (a2l (a0b a4f (a0b (a0c (pv 3)) (a0b (q_ix x_ix (a0c (pv 2)) (q_op a0T (a0s G_tumbled (hr.mono (by decide)) rfl T.m24 F.n24.kp (a0z F) (a0b (a0c (pv 0)) (a0b a0g a0h a0f) a0a) (he:=a0a) (hpl:=(a0j a0f a0k))) a0g) (λ_ _=>rfl)) (a0b (a0c (pv 4)) (a0b (a0c (pv 5)) a0h a0a) a0a) a0d) a0a) a0f)))))))),?_⟩
 obtain⟨c,ks,wsA,kn,wn,rfl,gk,gw,lk,lw,hk,hw,q⟩:=h;walk_at "go";refine i_I (show (0:Int)<2 by decide) ?_;walk_at "go";refine ifD (λ_=>?_) λ_=>?_
 ·walk_at "go";refine i_I ⟨by decide,by decide⟩ ?_;walk_at "go";exact⟨_,ks,wsA,kn,wn,rfl,gk,gw,lk,lw,hk,hw,fun τ ok mk=>q τ G (Sm.refl _) ok mk⟩
 ·walk_at "go";refine⟨c,24,rfl,by decide,by decide,λr r0 r1=>?_⟩;walk_at "go";refine i_I (show (0:Int)<4 by decide) ?_;obtain⟨kk,ekk,mkk,hkk⟩:=a9M hk (fc r (show (4:Int)≠0 by decide)) (by have:=fg r (show (0:Int)<4 by decide);omega);walk_at "go";refine a1f gk ekk ?_;walk_at "go";refine⟨c,rfl,λb e G1 s1 hst=>?_⟩;walk_at "go";refine⟨c,25,rfl,by decide,by decide,λr2 r20 r21=>?_⟩;walk_at "go";refine i_I (show (0:Int)<4 by decide) ?_;walk_at "go";refine ifD (λ_=>?_) λ_=>?_
  ·walk_at "go";refine⟨lenK rfl,?_⟩;exact q ⟨kk,none,b,e⟩ _ s1 ⟨hkk,(λs h=>nomatch h),hst⟩ mkk
  ·walk_at "go";refine⟨c,26,rfl,by decide,by decide,λr3 r30 r31=>?_⟩;walk_at "go";refine i_I (show (0:Int)<3 by decide) ?_;obtain⟨ww,eww,_,hww⟩:=a9M hw (fc r3 (show (3:Int)≠0 by decide)) (by have:=fg r3 (show (0:Int)<3 by decide);omega);walk_at "go";refine a1f (s1 _ _ gw) eww ?_;walk_at "go";refine⟨lenK rfl,?_⟩;exact q ⟨kk,some ww,b,e⟩ _ s1 ⟨hkk,(λs h=>by cases h;exact hww),hst⟩ mkk
local macro_rules | `(tactic| walk_at "go1")=>`(tactic| with_reducible (first | refine b8I ?_ | refine i_iD ?_))
theorem ShV.frz {C:Addr}{G:Hq}{p:Addr}{S:Addr->Prop}{T:List Tl}{n:Int}{dx d:Addr}{kvs:List (Key×Z)}(H:ShV C G p S T n dx d kvs):ShV C (put G d (.dF kvs)) p S T n dx d kvs:=by
 have k:∀ b o,b≠d->G b=some o->put G d (.dF kvs) b=some o:=λb o r e=>by rw[a0A r];exact e
 have f:∀ b i,G b=some (.lst i)->b≠d:=λb i e z=>by
  rw[z]at e;rcases H.dc with c | c<;>(rw[c]at e;cases e)
 refine⟨k _ _ (λz=>?_) H.ob,H.sp,H.sd,.inr a0e,H.len,H.no,λu z e=>?_,λb t=>?_,H.nd,H.sk⟩
 ·have e:=H.ob;rw[z]at e;rcases H.dc with c | c<;>(rw[c]at e;cases e)
 ·obtain⟨h,m,q,a⟩:=H.hs u z e;refine⟨h,m,q,a.s,k _ _ (f _ _ a.at_) a.at_,a.ix,a.ne,λe j=>?_⟩;obtain⟨l,L,g,v⟩:=a.ln e j;exact⟨l,L,k _ _ (f _ _ g) g,v⟩
 ·by_cases c:b=d
  ·rw[c];exact⟨_,a0e⟩
  ·obtain⟨o,e⟩:=H.al b t;exact⟨o,k b o c e⟩
def inR (T:List Tl) (q:Int):Prop:=0≤q/\q≤T.length
def a2K (a:Ad):PX3:=λws G R EE=>Ex5 λ(p:Addr) (S:Addr->Prop) (T:List Tl) (x:Z) (q:Int)=>ws=[.ref p,x,.int q]/\Sheet a.c_Sheet G p S T/\(∀ G'',Th G'' x)/\T.length≤200 /\
 ((inR T q/\∃ k,x=.str k/\nmOk k/\∀ t L G',G t=none->Sm G G'->G' t=some (.lst (L.map Rw.z))->IsLine (T.take q.toNat) k L->R (.ref t) G')\/(¬ inR T q/\∀ G',Sm G G'->EE a.x_NoKnowing G')\/(inR T q/\a3d x=false/\∀ G',Sm G G'->EE a.x_NoName G'))
theorem a4y {a:Ad}{ws:List Z}{G:Hq}{R:K3}{EE:Addr->Hq->Prop}(h:a2K a ws G R EE):ws.length=3:=by obtain⟨_,_,_,_,_,rfl,_⟩:=h;rfl
theorem a4X (F:Fns K a) (T:Txt K mg a):FnOk P w K mg base (CXx P w) 3 a.f16 a.d16 ["self","key","knowing"] (a3v K (a2K a)):=by
 have b:FnOk P w K mg base (CXx P w) 2 a.f13 a.d13 ["self","knowing"] _:=a1r F T;have f:FnOk P w K mg base (CXx P w) 2 a.f14 a.d14 ["thing"] _:=a2Z F T;have c:FnOk P w K mg base CX0 1 a.f15 a.d15 ["self","key","knowing"] _:=a09 F T;refine fn3x F.n16 a4O (λQ G R J h=>(by exact a4y h)) (λX A C s H E Q G R J i h o=>?_);have Y:=a03 i;refine⟨_,(a0m (a01 (a5r (a1y Outs.of) o.since (a0c (pv 0)) T.cl_Sheet T.mt13 b (i.mono (by decide)) (a1o F) (a0b (a0c (pv 2)) a0h a0a)))
  (a0m (a01 (a2B (a1y Outs.of) o.since f (i.mono (by decide)) rfl T.m14 F.n14.kp (a2W F) (a0b (a0c (pv 1)) a0h a0a)))
  (a0n (a0I (a9s (a0c (pv 0)) T.cl_Sheet T.mt15 c (i.mono (by decide)) (a07 F) (a0b (a0c (pv 1)) (a0b (a0c (pv 2)) a0h a0a) a0a)))))),?_⟩
 obtain⟨p,S,T',x,q,rfl,z,r,N,h⟩:=h;have y:=z;obtain⟨l,d,n,u⟩:=y;walk_at "go";refine⟨p,l,_,rfl,u.ob,a5Y (by decide +kernel) (by decide +kernel),?_⟩;walk_at "go";refine⟨p,S,T',q,rfl,z.v,?_⟩;rcases h with ⟨hq,k,rfl,hk,fin⟩ | ⟨hq,e⟩ | ⟨hq,hn,e⟩
 ·have B:0≤q/\q≤T'.length:=hq;rw[if_pos B];walk_at "go";refine⟨_,rfl,r _,λm g=>?_⟩;rw[nm_b hk];refine ifT ?_;have j:=u.keep (Sm.ks g);walk_at "go";refine⟨p,l,_,rfl,j.ob,a5Y (by decide +kernel) (by decide +kernel),?_⟩;walk_at "go";exact⟨p,S,T',k,q,_,l,d,n,rfl,j.v,hq.1,hq.2,N,λt L I D U M V=>fin t L I (g.free D) (g.trans U) M V⟩
 ·rw[if_neg (show ¬ (0≤q/\q≤T'.length) from hq)];exact e G (Sm.refl _)
 ·rw[if_pos (show 0≤q/\q≤T'.length from hq)];walk_at "go";refine⟨_,rfl,r _,λm g=>?_⟩;rw[hn];exact ifF (e m g)
def NE (T:List Tl) (k:Str):Prop:=∃ L,IsLine T k L/\L≠[]
structure KeysAt (T:List Tl) (ts:List Str):Prop where
 so:PyProof.Rows.sortedS ts=true
 nd:ts.Nodup
 is:∀ s,s∈ts↔NE T s
theorem IsLine.uniq (h:IsLine T k L) (g:IsLine T k M):L=M:=b2g h.can g.can λt=>by rw[h.v,g.v]
theorem a8T (h:ix T k=[]) (q:Nat):a0M (T.take q) k=[]:=a8c λi a=>by rw[h]at a;simp at a
def Few (T:List Tl):Prop:=T.length≤200/\∃ kn:List Str,kn.length≤63/\∀ τ∈T,τ.key∈kn
theorem b4N:∀ {xs ys:List Str},xs.Nodup->(∀ x∈xs,x∈ys)->xs.length≤ys.length
 | [],_,_,_=>eP _
 | x::xs,ys,h,m=>by
  rw[e9]at h;have b:=m x (.head _)
  have:=b4N (ys:=ys.erase x) h.2 λy a=>(jN (λz=>h.1 (by simp_all))).mpr (m y (.tail _ a))
  rw[jO b]at this
  have:=jP b
  rw[eF];omega
theorem b4O:∀ {T:List Tl}{k:Str}{n:Nat},ixF k n T≠[]->∃ τ∈T,τ.key=k
 | [],_,_,h=>absurd rfl h
 | τ::T,k,n,h=>by
  by_cases c:τ.key=k
  ·exact⟨τ,.head _,c⟩
  ·unfold ixF at h;rw[if_neg c,gT]at h;obtain⟨σ,b,a⟩:=b4O h;exact⟨σ,.tail _ b,a⟩
theorem b87 {ks:List Str}(h:kvs.map (·.1)=ks.map Sum.inr) (m:s∈ks):∃ z,valZ kvs (.inr s)=some z:=by
 unfold valZ;cases e2:kvs.find? λc=>decide (c.1=Sum.inr s) with
 | some q=>exact⟨_,rfl⟩
 | none=>
  have a:(Sum.inr s)∈kvs.map (·.1):=by rw[h];exact eY m
  obtain⟨q,b,d⟩:=eK.mp a
  have:=iZ.mp e2 q b
  simp[d]at this
def a2L (a:Ad):PX3:=λws G R EE=>Ex4 λ(p:Addr) (S:Addr->Prop) (T:List Tl) (q:Int)=>ws=[.ref p,.int q]/\Sheet a.c_Sheet G p S T/\Few T /\
 ((inR T q/\∀ t ts G',G t=none->Sm G G'->G' t=some (.lst (ts.map Z.str))->KeysAt (T.take q.toNat) ts->ts.length≤63->R (.ref t) G')\/(¬ inR T q/\∀ G',Sm G G'->EE a.x_NoKnowing G'))
theorem a4z {a:Ad}{ws:List Z}{G:Hq}{R:K3}{EE:Addr->Hq->Prop}(h:a2L a ws G R EE):ws.length=2:=by obtain⟨_,_,_,_,rfl,_⟩:=h;rfl
theorem a8g:∀ {kvs:List (Key×Z)},(∀ q∈kvs,∃ s,q.1=Sum.inr s)->∃ ks:List Str,kvs.map (·.1)=ks.map Sum.inr/\(kvs.map λq=>keyW q.1)=ks.map Z.str
 | [],_=>⟨[],rfl,rfl⟩
 | q::kvs,h=>by
  obtain⟨s,a⟩:=h q (.head _);obtain⟨e,c,d⟩:=a8g λq b=>h q (.tail _ b);exact⟨s::e,by rw[eE,eE,c,a],by rw[eE,eE,d,a];rfl⟩
theorem b2C {ks:List Str}(h:kvs.map (·.1)=ks.map Sum.inr) (e:valZ kvs (.inr s)=some z):s∈ks:=by
 unfold valZ at e;cases e2:kvs.find? λg=>decide (g.1=Sum.inr s) with
 | none=>rw[e2]at e;cases e
 | some q=>
  have a:=iz e2;have c:q.1=Sum.inr s:=by have:=jQ e2;simpa using this
  have:(Sum.inr s:Key)∈ks.map Sum.inr:=by rw[<- h,<- c];exact eY a
  obtain⟨x,b,d⟩:=eK.mp this;cases d;exact b
theorem a4Y (F:Fns K a) (T:Txt K mg a):FnOk P w K mg base (CXx P w) 3 a.f17 a.d17 ["self","knowing"] (a3v K (a2L a)):=by
 have G_Sheet_check_knowing:=a1r (P:=P) (w:=w) (base:=base) F T;have G_Sheet_known_line:=a09 (P:=P) (w:=w) (base:=base) F T;refine fn3x F.n17 a4P (λws G R EE h=>(by exact a4z h)) (λcdv A outer s H E ws G R EE hr h ux=>?_);have hu:=a03 hr;refine⟨_,(a0m (a01 (a5r (a1y Outs.of) ux.since (a0c (pv 0)) T.cl_Sheet T.mt13 G_Sheet_check_knowing (hr.mono (by decide)) (a1o F) (a0b (a0c (pv 1)) a0h a0a) (hst:=a0a) (hpl:=a0k)))
  (a0n (a0I (c0y (a0B a7P rfl T.b_sorted rfl (a0b (q_lc (N₀:=["self","knowing"]) (so:=a0i a1j) (N':=["key","knowing","self"]) (cap:=[none,some 1,some 0]) (pt:=(.nm 0)) rfl rfl rfl (by decide +kernel) rfl (b5X (a8F T.cl_Sheet T.na_kept (a0c (pv 0)))) (λ_ _ _ _=>(show QP _ _ (.nm 0) from (a0o (i:=0) c0D rfl (dR rfl)))) (λ_ _ _ _=>(a6G (b7t (a9s (a0c (pv 2)) T.cl_Sheet T.mt15 G_Sheet_known_line (hr.mono (by decide)) (a07 F) (a0b (a0c (pv 0)) (a0b (a0c (pv 1)) a0h a0a) a0a) (hst:=a0a) (hpl:=(a0j a0a a0k))) (λ_=>rfl)))) (λ_ _ _ _=>(a0c (pv 0)))) a0h a05) (he:=a05) (hpl:=a0k)))))),?_⟩
 obtain⟨p,S,T',q,rfl,sh,hT,h⟩:=h;have sh':=sh;obtain⟨dx,d,kvs,sm⟩:=sh';walk_at "go";refine⟨p,dx,_,rfl,sm.ob,a5Y (by decide +kernel) (by decide +kernel),?_⟩;walk_at "go";refine⟨p,S,T',q,rfl,sh.v,?_⟩;rcases h with ⟨hq,fin⟩ | ⟨hq,e⟩
 rotate_left
 ·rw[if_neg (show ¬ (0≤q/\q≤T'.length) from hq)];exact e G (Sm.refl _)
 rw[if_pos (show 0≤q/\q≤T'.length from hq)];walk_at "go";refine c0z sm.dc ?_;walk_at "go";refine⟨p,dx,_,_,rfl,sm.ob,a8P,?_⟩;walk_at "go";refine c0w (.inl sm.dc) ?_;have smF:=sm.v.frz;obtain⟨ks,hk1,hk2⟩:=a8g sm.sk;have hnd:ks.Nodup:=by
  have:=sm.nd
  rw[hk1]at this;exact (iY.mp this).imp λh z=>h (by rw[z])
 obtain⟨hT2,kn,kn1,kn2⟩:=hT;have hkl:ks.length≤63:=eD (b4N hnd λs hs=>by
  obtain⟨z,ez⟩:=b87 hk1 hs;obtain⟨h,es,_,hh⟩:=sm.hs s z ez;obtain⟨τ,t1,t2⟩:=b4O (T:=T') (k:=s) (n:=0) (λz=>hh.ne (by
   have:=hh.ix
   rw[show ix T' s=[] from z]at this;exact i3.mp this))
  rw[<- t2];exact kn2 τ t1) kn1
 rw[hk2];intro D hD;refine b1x (λi ys G'=>∃ ts:List Str,ys=ts.map Z.str/\ts.Nodup/\(∀ s,s∈ts↔s∈ks.take i/\NE (T'.take q.toNat) s)/\ts.length≤i/\Sm (put G d (.dF kvs)) G'/\G' D=some (.lst ys)) ⟨[],rfl,.nil,λs=>by simp,dS _,Sm.new hD,a0e⟩ (λ_ _ _ _ _=>True.intro) ?_ ?_
 ·rintro i x ys G' hx ⟨ts,rfl,hn,hm,hl,s,gD⟩;rw[er]at hx;cases hx':ks[i]? with
  | none=>rw[hx']at hx;cases hx
  | some k=>
  rw[hx']at hx;cases hx;have hi:=(eq.mp hx').1;have ht1:ks.take (i+1)=ks.take i++[k]:=by rw[fH,hx'];rfl
  have nk:k∉ks.take i:=λz=>by
   have h1:(ks.take (i+1)).Nodup:=hnd.sublist (gI _ _);rw[ht1,fO]at h1;exact h1.2.2 k z k (by simp) rfl
  have smA:=smF.keep (Sm.ks s);refine⟨_,rfl,?_⟩;walk_at "go";refine⟨p,dx,_,rfl,smA.ob,a5Y (by decide +kernel) (by decide +kernel),?_⟩;walk_at "go";refine⟨p,S,T',k,q,_,dx,d,kvs,rfl,smA,hq.1,hq.2,by omega,λt L G2 ht s2 gt il=>?_⟩;refine b4y gt ?_;cases hL:L with
  | nil=>
   walk_at "go";refine⟨ts,rfl,hn,λy=>?_,by omega,s.trans s2,s2 _ _ gD⟩;rw[hm,ht1,dU,dX]
   constructor
   ·exact λ⟨a1,a2⟩=>⟨.inl a1,a2⟩
   ·rintro⟨a1 | rfl,a2⟩
    ·exact⟨a1,a2⟩
    ·obtain⟨M,m1,m2⟩:=a2;exact absurd (m1.uniq il) (by rw[hL];exact m2)
  | cons r L'=>
   walk_at "go";refine⟨_,rfl,s2 _ _ gD,by rw[dQ];exact a0t (by omega),ts++[k],by rw[eA];rfl,?_,λy=>?_,by rw[dW];simp;omega,(s.trans s2).put hD,a0e⟩
   ·rw[fO];exact⟨hn,by simp,λa1 h1 b1 h2 z=>nk (by rw[<- dX.mp h2,<- z];exact ((hm a1).mp h1).1)⟩
   ·rw[dU,hm,ht1,dU,dX]
    constructor
    ·rintro (⟨a1,a2⟩ | rfl)
     ·exact⟨.inl a1,a2⟩
     ·exact⟨.inr rfl,L,il,by rw[hL];simp⟩
    ·rintro⟨a1 | rfl,a2⟩
     ·exact .inl ⟨a1,a2⟩
     ·exact .inr rfl
 ·rintro ys G' ⟨ts,rfl,hn,hm,hl,s,gD⟩;rw[dQ]at hm hl;rw[fF]at hm;walk_at "go";refine a7Q gD (by omega) λt us ht hp hs=>?_;have gd:G' d=some (.dF kvs):=s _ _ a0e;have td:t≠d:=Ne.symm (a0u gd ht);have fr:G t=none:=by
   have h1:=s.free ht;rw[a0A td]at h1;exact h1
  have sm2:Sm G (put (put G' t (.lst (us.map Z.str))) d (.dK kvs)):=λb o e=>by
   by_cases c:b=d
   ·rw[c,a0e,<- sm.dc,<- c];exact e
   ·rw[a0A c];exact a0l (s _ _ (by rw[a0A c];exact e)) ht
  refine⟨a0l gd ht,fin t us _ fr sm2 (by rw[a0A td];exact a0e) ⟨hs,hp.nodup_iff.mpr hn,λy=>?_⟩ (by rw[hp.length_eq];omega)⟩;rw[hp.mem_iff,hm]
  constructor
  ·exact λz=>z.2
  ·intro z;refine⟨?_,z⟩;cases e:valZ kvs (.inr y) with
   | some w=>exact b2C hk1 e
   | none=>
    obtain⟨L,l1,l2⟩:=z;exact absurd (l1.uniq (IsLine.nil (a8T (sm.no y e) _))) l2
def a3m:P3:=λws G R=>∃ (p:Addr) (rows:List Rw),ws=[.ref p]/\G p=some (.lst (rows.map Rw.z))/\One rows/\rows.length≤400/\∀ (t:Addr) (ms:List Int) (G':Hq),G t=none->Sm G G'->G' t=some (.lst (ms.map Z.int))->a6o rows ms->ms.length≤2*rows.length->R (.ref t) G'
theorem a5J (h:a3m ws G R):ws.length=1:=by obtain⟨_,_,rfl,_⟩:=h;rfl
theorem a8U (h:ms.Pairwise (·<·)) (q:∀ x,x∈ms↔x∈rows.filterMap (λr=>some r.b)++rows.filterMap (λr=>r.e)):a6o rows ms:=by
 refine⟨h,λx=>?_⟩;rw[q x,dU,fK,fK]
 constructor
 ·rintro (⟨r,a,e⟩ | ⟨r,a,e⟩)
  ·exact⟨r,a,.inl (by simpa using e.symm)⟩
  ·exact⟨r,a,.inr e⟩
 ·rintro⟨r,a,e | e⟩
  ·exact .inl ⟨r,a,by rw[e]⟩
  ·exact .inr ⟨r,a,e⟩
theorem a50 (F:Fns K a) (T:Txt K mg a):FnOk P w K mg base CX0 1 a.f8 a.d8 ["stretches"] (lowP K a3m):=by
 refine fn3 F.n8 sc_p_bounds_of (λws G R h=>(by exact a5J h)) (λcdv A outer s H E ws G R hr h=>?_);have hu:=a03 hr;refine⟨_,(a0m (a8s (i:=1) sc_p_bounds_of.nd rfl rfl (N₀:=["stretches","begins","ends"]) (so:=a0i a1h) (N':=["begin","end","worth"]) (cap:=[none,none,none]) (pt:=(.tp [0,1,2])) rfl rfl rfl (by decide +kernel) rfl (a02 (a0c (pv 0))) (λ_ _ _ _=>(show QP _ _ (.tp [0,1,2]) from (a3H rfl (a0w (a0o (i:=0) a6V rfl (dR rfl)) (a0w (a0o (i:=1) a6V rfl (dR rfl)) (a0w (a0o (i:=2) a6V rfl (dR rfl)) a2s)))))) (λ_ _ _ _=>a4i) (λ_ _ _ _=>(a0c (pv 0))))
  (a0m (a8s (i:=2) sc_p_bounds_of.nd rfl rfl (N₀:=["stretches","begins","ends"]) (so:=a0i a1h) (N':=["begin","end","worth"]) (cap:=[none,none,none]) (pt:=(.tp [0,1,2])) rfl rfl rfl (by decide +kernel) rfl (a02 (a0c (pv 0))) (λ_ _ _ _=>(show QP _ _ (.tp [0,1,2]) from (a3H rfl (a0w (a0o (i:=0) a6V rfl (dR rfl)) (a0w (a0o (i:=1) a6V rfl (dR rfl)) (a0w (a0o (i:=2) a6V rfl (dR rfl)) a2s)))))) (λ_ _ _ _=>(a6G (a0v a1R (a0c (pv 1)) a1E (a0p _)))) (λ_ _ _ _=>(a0c (pv 1))))
  (a0n (a0I (q_ss rfl rfl T.b_sorted rfl rfl T.b_set rfl (a0b (q_op a0N (a0c (pv 1)) (a0c (pv 2))) a0h a0q) (he:=a0q) (hpl:=a0k)))))),?_⟩
 obtain⟨p,rows,rfl,hp,h1,hz,q⟩:=h;walk_at "go";refine a3c hp ?_;intro D hD;refine a5E (g':=Z.int) (λr=>some r.b) (λys=>a0l hp hD) (by omega) ?_ ?_
 ·intro r hr ys K1 K2 k1 k2;obtain⟨x,hx⟩:=h1 r hr;obtain⟨b,e,w⟩:=r;cases hx;refine⟨_,rfl,?_⟩;walk_at "go";exact k1 _ rfl
 have nDp:p≠D:=a0u hp hD;walk_at "go";refine a3c (a0l hp hD) ?_;intro F hF;refine a5E (g':=Z.int) (λr=>r.e) (λys=>a0l (a0l hp hD) hF) (by omega) ?_ ?_
 ·intro r hr ys K1 K2 k1 k2;obtain⟨x,hx⟩:=h1 r hr;obtain⟨b,e,w⟩:=r;cases hx;refine⟨_,rfl,?_⟩;cases e with
  | none=>
   walk_at "go";exact k2 rfl
  | some e=>
   walk_at "go";exact k1 _ rfl
 walk_at "go";have l1:(rows.filterMap λr=>some r.b).length≤rows.length:=gB _ _;have l2:(rows.filterMap λr=>r.e).length≤rows.length:=gB _ _;refine a7v (a0l a0e hF) a0e (a1X (by rw[dQ,dQ];omega)) λc hc=>?_;walk_at "go";refine i_ss (ns:=(rows.filterMap λr=>some r.b)++(rows.filterMap λr=>r.e)) (by rw[a0e,eA]) (by rw[dW];omega) λt ks ht hpw hm hl=>?_;exact q t ks _ ((((Sm.new hD).trans (Sm.new hF)).trans (Sm.new hc)).free ht) ((((Sm.new hD).trans (Sm.new hF)).trans (Sm.new hc)).trans (Sm.new ht)) a0e (a8U hpw hm) (by rw[dW]at hl;omega)
theorem b6j {α:Type}{xs:List α}:cutZ xs (some 1) none=xs.drop 1:=by
 cases xs with
 | nil=>rfl
 | cons x xs=>
  unfold cutZ;simp[HT.sIx]
theorem b32 (hne:xss≠[]) (h:∀ xs∈xss,n≤xs.length) (h2:∃ xs∈xss,xs.length=n):(zipZ xss).length=n:=by
 have b:∀ i,(∃ w,_[i]?=some w)↔i<n:=λi=>by
  constructor
  ·rintro⟨w,d⟩;obtain⟨vs,rfl,e⟩:=(a26 xss hne i w).mp d;obtain⟨a,f,hl⟩:=h2
   have:a[i]?∈xss.map (·[i]?):=eY f
   rw[e]at this;obtain⟨v,_,k⟩:=eK.mp this
   have:=(eq.mp k.symm).1
   omega
  ·intro hi;refine⟨_,(a26 xss hne i _).mpr ⟨xss.map λa=>a.getD i .non,rfl,?_⟩⟩;rw[gZ];refine jF λa f=>?_
   have:=h a f
   rw[Function.comp,gM,et (by omega)]
   rfl
 have h2:=b n
 by_cases c:(zipZ xss).length<n
 ·grind
 ·by_cases c2:n<(zipZ xss).length
  ·simp_all
  ·omega
theorem zip4 {xs ys zs us:List Z}{i:Nat}{w:Z}(h:(zipZ [xs,ys,zs,us])[i]?=some w):Ex4 λa b c d=>w=.tup [a,b,c,d]/\xs[i]?=some a/\ys[i]?=some b/\zs[i]?=some c/\us[i]?=some d:=by
 obtain⟨f,rfl,e⟩:=(a26 [xs,ys,zs,us] (by simp) i w).mp h
 match f,e with
 | [],e=>simp at e
 | [_],e=>simp at e
 | [_,_],e=>simp at e
 | [_,_,_],e=>simp at e
 | [a,b,c,d],e=>
  simp at e;exact⟨a,b,c,d,rfl,e.1,e.2.1,e.2.2.1,e.2.2.2⟩
 | _::_::_::_::_::_,e=>simp at e
def a15 (l o:List Rw) (t:Int):Option (List Z):=if wz (val l t)=.non/\wz (val o t)=.non then none else some [wz (val l t),wz (val o t)]
theorem a37 (h:Plain l) (t:Int):flat 0 (wz (val l t))=true:=by
 unfold val;cases e:l.find? _ with
 | none=>rfl
 | some r=>
  obtain⟨x,a,f⟩:=h r (iz e)
  show flat 0 (r.w.headD .non)=true
  rw[a];exact f
theorem b33 (hl:Plain l) (ho:Plain o) (bs:List Int):OkR (pcs (a15 l o) bs):=λr a=>by
 obtain⟨_,e⟩:=a5C a;unfold a15 at e
 split at e
 ·grind
 ·rw[<- eZ.inj e];refine⟨by simp,by simp,?_⟩;rw[eU,eU,a1Y (by simp) (a37 hl r.b),a1Y (by simp) (a37 ho r.b)];rfl
def a2d:P3:=λws G R=>Ex4 λ(p q:Addr) (l o:List Rw)=>ws=[.ref p,.ref q]/\G p=some (.lst (l.map Rw.z))/\G q=some (.lst (o.map Rw.z))/\Rise l/\Plain l/\Rise o/\Plain o/\l.length≤150/\o.length≤150 /\
 ∀ (t:Addr) (bs:List Int) (G':Hq),G t=none->Sm G G'->a6o (l++o) bs->G' t=some (.lst ((join (pcs (a15 l o) bs)).map Rw.z))->R (.ref t) G'
theorem a3G (h:a2d ws G R):ws.length=2:=by obtain⟨_,_,_,_,rfl,_⟩:=h;rfl
theorem b6k {bs:List Int}(hi:i<bs.length):((bs.map Z.int).drop 1++[Z.non])[i]?=some (oz bs[i+1]?):=by
 by_cases c:i+1<bs.length
 ·rw[fR (by rw[eS,dQ];omega),gC,Nat.add_comm 1 i,er,et c];rfl
 ·have:i+1=bs.length:=by omega
  rw[fQ (by rw[eS,dQ];omega),eS,dQ,this,iR (dS _),show i - _=0 by omega]
  rfl
theorem a38 (F:Fns K a) (T:Txt K mg a):FnOk P w K mg base CX0 3 a.f11 a.d11 ["line","other"] (lowP K a2d):=by
 have G_p_bounds_of:=a50 (P:=P) (w:=w) (base:=base) F T;have G_p_worths_in:=a5W (P:=P) (w:=w) (base:=base) F T;have G_p_with_alike_joined:=a1p (P:=P) (w:=w) (base:=base) F T;refine fn3 F.n11 sc_p_laid_together (λws G R h=>(by exact a3G h)) (λcdv A outer s H E ws G R hr h=>?_);have hu:=a03 hr;refine⟨_,(a0m (z_set (i:=2) sc_p_laid_together.nd rfl (dR rfl) (a0s G_p_bounds_of (hr.mono (by decide)) rfl T.m8 F.n8.kp (a5U F) (a0b (q_op a0N (a0c (pv 0)) (a0c (pv 1))) a0h a0q) (he:=a0q) (hpl:=a0k)))
  (a0m (z_set (i:=3) sc_p_laid_together.nd rfl (dR rfl) (a0s G_p_worths_in (hr.mono (by decide)) rfl T.m10 F.n10.kp (a3i F) (a0b (a0c (pv 0)) (a0b (a0c (pv 2)) a0h a0a) a0a) (he:=a0a) (hpl:=(a0j a0a a0k))))
  (a0m (z_set (i:=4) sc_p_laid_together.nd rfl (dR rfl) (a0s G_p_worths_in (hr.mono (by decide)) rfl T.m10 F.n10.kp (a3i F) (a0b (a0c (pv 1)) (a0b (a0c (pv 2)) a0h a0a) a0a) (he:=a0a) (hpl:=(a0j a0a a0k))))
  (a0m (z_set (i:=5) sc_p_laid_together.nd rfl (dR rfl) (q_op a0N (a1Q x_sl (a0c (pv 2)) (a2k a0g) a1K) (a1d (a0b a1E a0h a0f))))
  (a0m (z_set (i:=6) sc_p_laid_together.nd rfl (dR rfl) (a1d a0h))
  (a0m (a3q (pt:=(.tp [7,8,9,10])) kj.never rfl (b5L (n:=4) zok4 (by decide) rfl T.b_zip (a0b (a0c (pv 2)) (a0b (a0c (pv 5)) (a0b (a0c (pv 3)) (a0b (a0c (pv 4)) a0h a0a) a0a) a0a) a0a) (he:=a0a) (hpl:=(a0j a0a (a0j a0a (a0j a0a a0k))))) (show QP _ _ (.tp [7,8,9,10]) from (a3H rfl (a0w (a0o (i:=7) sc_p_laid_together.nd rfl (dR rfl)) (a0w (a0o (i:=8) sc_p_laid_together.nd rfl (dR rfl)) (a0w (a0o (i:=9) sc_p_laid_together.nd rfl (dR rfl)) (a0w (a0o (i:=10) sc_p_laid_together.nd rfl (dR rfl)) a2s))))))
  (a0n (z_if (QW.qt (q_or (a0v a1R (a0c (pv 9)) a1E (a0p _)) (a5h (a0v a1R (a0c (pv 10)) a1E (a0p _)))))
  (a0n (a01 (q_bm PySem.F.plainAttrs_list PySem.F.slot_list_append PySem.F.type_list_append a1e (a0c (pv 6)) (a0b (a2l (a0b (a0c (pv 7)) (a0b (a0c (pv 8)) (a0b (a0c (pv 9)) (a0b (a0c (pv 10)) a0h a0a) a0a) a0a) a0a)) a0h a22))))
  a0V)))
  (a0n (a0I (a0s G_p_with_alike_joined (hr.mono (by decide)) rfl T.m5 F.n5.kp (a1n F) (a0b (a0c (pv 6)) a0h a0a) (he:=a0a) (hpl:=a0k)))))))))),?_⟩
 obtain⟨p,q,l,o,rfl,hp,hq,hl,pl,ho,po,zl,zo,fin⟩:=h;walk_at "go";refine a7v hp hq (a1X (by rw[dQ,dQ];omega)) λa ha=>?_;walk_at "go";have one:One (l++o):=λr hr=>(dU.mp hr).elim (pl.one r) (po.one r);refine⟨a,l++o,rfl,by rw[a0e,eA],one,by rw[dW];omega,λu bs G1 hu s1 gu hb hbl=>?_⟩;have s1:=(Sm.new ha).trans s1;rw[dW]at hbl;have hpw:bs.Pairwise (·≤·):=hb.1.imp λh=>by omega
 walk_at "go";refine⟨p,u,l,bs,rfl,s1 _ _ hp,gu,hl,pl.okR,by omega,hpw,by omega,λw hw=>?_⟩;walk_at "go";refine⟨q,u,o,bs,rfl,a0l (s1 _ _ hq) hw,a0l gu hw,ho,po.okR,by omega,hpw,by omega,λv hv=>?_⟩;walk_at "go";refine b5v (a0l (a0l gu hw) hv) λc hc=>?_;rw[b6j];walk_at "go";refine⟨lenK rfl,λd hd=>?_⟩;walk_at "go";refine a7v (a0l a0e hd) a0e (a1X (by rw[eS,dQ];show bs.length - 1+1≤1000;omega)) λe he=>?_;walk_at "go";refine⟨lenK rfl,λt ht=>?_⟩;have s2:Sm G1 (put (put (put (put (put (put G1 w (.lst (bs.map λm=>wz (val l m)))) v (.lst (bs.map λm=>wz (val o m)))) c (.lst ((bs.map Z.int).drop 1))) d (.lst [.non])) e (.lst ((bs.map Z.int).drop 1++[Z.non]))) t (.lst [])):=
  (((((Sm.new hw).trans (Sm.new hv)).trans (Sm.new hc)).trans (Sm.new hd)).trans (Sm.new he)).trans (Sm.new ht)
 have gw:=a0l (a0l (a0l (a0l (a0l (a0e (G:=G1) (a:=w) (o:=.lst (bs.map λm=>wz (val l m)))) hv) hc) hd) he) (o:=.lst []) ht;have gv:=a0l (a0l (a0l (a0l (a0e (G:=put G1 w (.lst (bs.map λm=>wz (val l m)))) (a:=v) (o:=.lst (bs.map λm=>wz (val o m)))) hc) hd) he) (o:=.lst []) ht;have ge:=a0l (a0e (G:=put (put (put (put G1 w (.lst (bs.map λm=>wz (val l m)))) v (.lst (bs.map λm=>wz (val o m)))) c (.lst ((bs.map Z.int).drop 1))) d (.lst [.non])) (a:=e) (o:=.lst ((bs.map Z.int).drop 1++[Z.non]))) (o:=.lst []) ht;have gt:=a0e (G:=put (put (put (put (put G1 w (.lst (bs.map λm=>wz (val l m)))) v (.lst (bs.map λm=>wz (val o m)))) c (.lst ((bs.map Z.int).drop 1))) d (.lst [.non])) e (.lst ((bs.map Z.int).drop 1++[Z.non]))) (a:=t) (o:=.lst []);have nu:=a0u (a0l (a0l (a0l (a0l (a0l gu hw) hv) hc) hd) he) ht;have nw:=a0u (a0l (a0l (a0l (a0l (a0e (G:=G1) (a:=w) (o:=.lst (bs.map λm=>wz (val l m)))) hv) hc) hd) he) ht;have nv:=a0u (a0l (a0l (a0l (a0e (G:=put G1 w (.lst (bs.map λm=>wz (val l m)))) (a:=v) (o:=.lst (bs.map λm=>wz (val o m)))) hc) hd) he) ht;have ne:=a0u (a0e (G:=put (put (put (put G1 w (.lst (bs.map λm=>wz (val l m)))) v (.lst (bs.map λm=>wz (val o m)))) c (.lst ((bs.map Z.int).drop 1))) d (.lst [.non])) (a:=e) (o:=.lst ((bs.map Z.int).drop 1++[Z.non]))) ht;have hGt:G t=none:=s1.free ((((((Sm.new hw).trans (Sm.new hv)).trans (Sm.new hc)).trans (Sm.new hd)).trans (Sm.new he)).free ht);generalize put (put (put (put (put (put G1 w (.lst (bs.map λm=>wz (val l m)))) v (.lst (bs.map λm=>wz (val o m)))) c (.lst ((bs.map Z.int).drop 1))) d (.lst [.non])) e (.lst ((bs.map Z.int).drop 1++[Z.non]))) t (.lst [])=G2 at s2 gw gv ge gt ⊢;have gu2:=s2 _ _ gu;have hsrc:∀ G':Hq,(∀ b ob,b≠t->G2 b=some ob->G' b=some ob)->[Z.ref u,Z.ref e,Z.ref w,Z.ref v].map (srcZ G')=[bs.map Z.int,(bs.map Z.int).drop 1++[Z.non],bs.map λm=>wz (val l m),bs.map λm=>wz (val o m)].map some:=λG' k=>by
  have k1:=k u _ nu gu2;have k2:=k e _ ne ge;have k3:=k w _ nw gw;have k4:=k v _ nv gv;simp only[eE,eT,srcZ,k1,k2,k3,k4]
 have hzl:(zipZ [bs.map Z.int,(bs.map Z.int).drop 1++[Z.non],bs.map λm=>wz (val l m),bs.map λm=>wz (val o m)]).length=bs.length:=
  b32 (by simp) (λxs hx=>by
   simp only[dY,fw,or_false]at hx;rcases hx with rfl | rfl | rfl | rfl
   ·simp
   ·simp;omega
   ·simp
   ·simp) ⟨_,.head _,by simp⟩
 walk_at "go";refine⟨[bs.map Z.int,(bs.map Z.int).drop 1++[Z.non],bs.map λm=>wz (val l m),bs.map λm=>wz (val o m)],hsrc G2 λb ob _ h=>h,by simp,rfl,?_⟩;refine a1D (λi σ G'=>Ex5 λ(told:List Rw) (v1 v2 v3 v4:Option Z)=>told++pcs (a15 l o) (bs.drop i)=pcs (a15 l o) bs/\told.length≤i/\G' t=some (.lst (told.map Rw.z))/\(∀ b ob,b≠t->G2 b=some ob->G' b=some ob)/\σ=[some (.ref p),some (.ref q),some (.ref u),some (.ref w),some (.ref v),some (.ref e),some (.ref t),v1,v2,v3,v4])
  ⟨[],_,_,_,_,rfl,dS _,gt,λb ob _ h=>h,rfl⟩ (by rintro i σ G' _ ⟨_,_,_,_,_,_,_,_,k,_⟩;exact hsrc G' k) ?_ ?_
 ·rintro i x σ G' hx ⟨told,v1,v2,v3,v4,hj,hlen,gt',k,rfl⟩;have hi:i<bs.length:=by have:=(eq.mp hx).1;omega
  obtain⟨x1,x2,x3,x4,rfl,e1,e2,e3,e4⟩:=zip4 hx;rw[b6k hi]at e2;rw[er,et hi]at e1 e3 e4;simp only[gx,eZ.injEq]at e1 e2 e3 e4;subst e1 e2 e3 e4;have hdr:bs.drop i=bs[i]::bs.drop (i+1):=gN hi;rw[hdr,pcs,jR]at hj;refine⟨_,rfl,?_⟩;have skip:wz (val l bs[i])=.non->wz (val o bs[i])=.non->told++pcs (a15 l o) (bs.drop (i+1))=pcs (a15 l o) bs:=λc1 c2=>by
   have:a15 l o bs[i]=none:=if_pos ⟨c1,c2⟩
   rw[this]at hj;exact hj
  have some_:¬ (wz (val l bs[i])=.non/\wz (val o bs[i])=.non)->(told++[⟨bs[i],bs[i+1]?,[wz (val l bs[i]),wz (val o bs[i])]⟩])++pcs (a15 l o) (bs.drop (i+1))=pcs (a15 l o) bs:=λc=>by
   have:a15 l o bs[i]=some [wz (val l bs[i]),wz (val o bs[i])]:=if_neg c
   rw[this]at hj;rw[eO];exact hj
  generalize bs[i]=b at skip some_ ⊢;generalize wz (val l b)=y1 at skip some_ ⊢;generalize wz (val o b)=y2 at skip some_ ⊢;generalize bs[i+1]?=en at some_ ⊢;walk_at "go";refine ifN (λc1=>?_) λc1=>?_
  ·walk_at "go";refine a2o gt' ?_;walk_at "go";refine⟨lenK rfl,?_⟩;walk_at "go";refine a00 gt' (by rw[dQ];exact a0t (by omega)) ⟨told++[⟨b,en,[y1,y2]⟩],_,_,_,_,some_ (λz=>c1 z.1),by rw[dW];show told.length+1≤i+1;omega,?_,λc ob nc h=>by rw[a0A nc];exact k c ob nc h,rfl⟩;rw[a0e,eA];rfl
  ·walk_at "go";refine ifN (λc2=>?_) λc2=>?_
   ·walk_at "go";refine a2o gt' ?_;walk_at "go";refine⟨lenK rfl,?_⟩;walk_at "go";refine a00 gt' (by rw[dQ];exact a0t (by omega)) ⟨told++[⟨b,en,[y1,y2]⟩],_,_,_,_,some_ (λz=>c2 z.2),by rw[dW];show told.length+1≤i+1;omega,?_,λc ob nc h=>by rw[a0A nc];exact k c ob nc h,rfl⟩;rw[a0e,eA];rfl
   ·walk_at "go";exact⟨told,_,_,_,_,skip c1 c2,by omega,gt',k,rfl⟩
 ·rintro σ G' ⟨told,v1,v2,v3,v4,hj,hlen,gt',k,rfl⟩;rw[hzl,jS,pcs,eL]at hj;subst hj;walk_at "go";refine⟨t,_,rfl,gt',b33 pl po bs,eD (a29 _ _) (by omega),λz hz=>?_⟩;have s3:Sm G G':=λb ob h=>k b ob (a0u h hGt) (s2 _ _ (s1 _ _ h));exact fin z bs _ (s3.free hz) (s3.trans (Sm.new hz)) hb a0e
theorem b6l (ok:OkT T) (h:NE T s):nmOk s:=by
 obtain⟨L,a,d⟩:=h
 by_cases c:∃ τ∈T,τ.key=s
 ·obtain⟨τ,f,e⟩:=c;rw[<- e];exact (ok τ f).k
 ·have:a0M T s=[]:=by
   unfold a0M;rw[i3,jT];intro τ b;simpa using λz=>c ⟨τ,b,z⟩
  exact absurd (a.uniq (IsLine.nil this)) d
def wAt (T:List Tl) (k:Str) (m:Int) (n:Nat):Z:=a0J (a0M (T.take n) k) m
theorem b34 {T:List Tl}{τ:Tl}{k:Str}{m:Int}{i:Nat}(h:T[i]?=some τ):wAt T k m (i+1)=if τ.key=k/\τ.rw.has m=true then τ.v else wAt T k m i:=by
 unfold wAt;have a:T.take (i+1)=T.take i++[τ]:=by rw[fH,h];rfl
 rw[a,a4s]
 by_cases c:τ.key=k
 ·rw[if_pos c,a5D]
  show (if τ.rw.has m=true then τ.v else _)=_
  simp only[c,true_and]
 ·simp_all
def b4P:P3:=λws G R=>∃ (τ:Tl) (m:Int),ws=[τ.z,.int m]/\R (.bl (τ.rw.has m)) G
theorem b6m (h:b4P ws G R):ws.length=2:=by obtain⟨_,_,rfl,_⟩:=h;rfl
theorem at_b {τ:Tl}:∃ ws,τ.z=.tup ws/\atI ws (-2)=some (.int τ.b)/\atI ws (-1)=some (oz τ.e):=by
 obtain⟨k,w,b,e⟩:=τ;cases w<;>exact⟨_,rfl,rfl,rfl⟩
theorem b88 (F:Fns K a) (T:Txt K mg a):FnOk P w K mg base CX0 1 a.f29 a.d29 ["telling","moment"] (lowP K b4P):=by
 refine fn3 F.n29 b8N (λd G R h=>(by exact b6m h)) (λn A g s H E d G R l h=>?_);have o:=a03 l;refine⟨_,(a0n (a0I (a7r (a7q o_le (q_ix x_ix (a0c (pv 0)) (q_un a2n a0g) (λ_ _=>rfl)) (a0c (pv 1)) (a0p _)) (a97 (b9J (a7q o_is (q_ix x_ix (a0c (pv 0)) (q_un a2n a0g) (λ_ _=>rfl)) a1E (a0p _)) (a97 (a7q o_lt (a0c (pv 1)) (q_ix x_ix (a0c (pv 0)) (q_un a2n a0g) (λ_ _=>rfl)) (a0p _)))))))),?_⟩;obtain⟨τ,m,rfl,q⟩:=h;obtain⟨d,j,i,f⟩:=@at_b τ;have k:τ.rw.has m=(decide (τ.b≤m)&&bef m τ.e):=rfl;rw[k]at q;rw[j];walk_at "go";refine a1S i ?_;walk_at "go";refine ifD (λc=>?_) λc=>?_
 ·rw[decide_eq_true c,fk]at q;walk_at "go";refine a1S f ?_;cases he:τ.e with
  | none=>
   rw[he]at q;walk_at "go";exact q
  | some e=>
   rw[he]at q;walk_at "go";refine a1S f ?_;rw[he];walk_at "go";exact q
 ·simp_all
def inT (x:Int):Prop:=0≤x/\x≤T12
theorem b35 {τ:Tl}:∃ ws x y,τ.z=.tup ws/\atI ws 2=some x/\atI ws 0=some (.str y)/\atI [.non,x] (if decide (y=Str.ofString "put")=true then 1 else 0)=some τ.v:=by
 obtain⟨k,w,b,e⟩:=τ;cases w with
 | none=>exact⟨_,_,_,rfl,rfl,rfl,by rw[if_neg (by rw[decide_eq_true_eq];exact b83)];rfl⟩
 | some w=>exact⟨_,_,_,rfl,rfl,rfl,by rw[if_pos (by rw[decide_eq_true_eq])];rfl⟩
theorem b89 {xs:List Int}{k:Int}(h0:0≤k) (h1:k<xs.length):∃ x,atI (xs.map Z.int) k=some (.int x)/\x∈xs:=by
 obtain⟨j,rfl⟩:=fZ h0;have a:j<xs.length:=by omega
 exact⟨xs[j],a1O (by simp_all),fm a⟩
def leS (a b:Str):Prop:=PySem.Spec.ltCps b.cps.toList a.cps.toList=false
theorem b2D {a b:Str}:leS a b↔¬ b.cps.toList<a.cps.toList:=by unfold leS;rw[PyProof.Rows.ltCps_eq];simp
theorem b2E {a b c:Str}(h:leS a b) (g:leS b c):leS a c:=by
 rw[b2D]at *;exact List.le_trans h g
theorem b36 {a b:Str}(h:leS a b) (g:leS b a):a=b:=by
 rw[b2D]at *;have e:=List.le_antisymm h g;cases a;cases b;simpa using e
theorem b9a:∀ {l:List Str}{p:Str},PyProof.Rows.risingS p l=true->(p::l).Pairwise leS
 | [],p,_=>iF _ _
 | x::r,p,h=>by
  unfold PyProof.Rows.risingS at h;rw[fM,Bool.not_eq_true']at h;have b:=b9a h.2;refine eH.mpr ⟨λy a=>?_,b⟩;rcases dY.mp a with rfl | a
  ·exact h.1
  ·exact b2E h.1 (i5 b a)
theorem b37:∀ {l:List Str},PyProof.Rows.sortedS l=true->l.Pairwise leS
 | [],_=>gi.nil
 | _::_,h=>b9a h
theorem a5K:∀ {xs ys:List Str},xs.Pairwise leS->ys.Pairwise leS->xs.Perm ys->xs=ys
 | [],ys,_,_,h=>(List.nil_perm.mp h).symm
 | x::xs,[],_,_,h=>by have:=h.length_eq;simp at this
 | x::xs,y::ys,h1,h2,h=>by
  have e:x=y:=by
   have c:=h.mem_iff.mp (ft);have b:=h.mem_iff.mpr (ft);rcases dY.mp c with e | c
   ·omega
   ·rcases dY.mp b with e | b
    ·simp_all
    ·exact b36 (i5 h1 b) (i5 h2 c)
  subst e;rw[a5K (eH.mp h1).2 (eH.mp h2).2 h.cons_inv]
structure Pts (T:List Tl) (ms:List Int):Prop where
 so:ms.Pairwise (·<·)
 z:0∈ms
 b:∀ τ∈T,τ.b∈ms
 e:∀ τ∈T,∀ e,τ.e=some e->e∈ms
theorem a9N (h:r∈a0M T k):∃ τ∈T,r.b=τ.b/\r.e=τ.e:=by
 obtain⟨τ,a,rfl⟩:=eK.mp h;exact⟨τ,(gg.mp a).1,rfl,rfl⟩
theorem a6u (P:Pts T ms) (k:Str) (hbt:b≤t) (hm:∀ c∈ms,c≤t->c≤b):a0J (a0M T k) t=a0J (a0M T k) b:=by
 unfold a0J;rw[a4p λr f=>?_];obtain⟨τ,a,g,d⟩:=a9N (by simpa using f);exact a9D hbt (λh=>by rw[g]at h ⊢;exact hm _ (P.b τ a) h) λe i h=>hm _ (P.e τ a e (by simp_all)) h
theorem b0C (ok:OkT T) (k:Str) (h:t<0):a0J (a0M T k) t=.non:=by
 unfold a0J
 have:(a0M T k).reverse.find? (·.has t)=none:=by
  rw[iZ];intro r b;obtain⟨τ,a,c,d⟩:=a9N (by simpa using b)
  have:=(ok τ a).st.1
  rw[a6n (by omega)]
  decide
 rw[this]
theorem b9b {ms:List Int}(h:ms[i]?=some m):pcs f (ms.drop i)=(match f m with | some w=>[(⟨m,ms[i+1]?,w⟩:Rw)] | none=>[])++pcs f (ms.drop (i+1)):=by
 rw[drop_get h]
 conv=>lhs;unfold pcs
 rw[jR]
theorem b6n (h:IsLine T k []) (m:Int):a0J (a0M T k) m=.non:=by
 have:=h.v m
 unfold optW at this
 split at this
 ·omega
 ·cases this
theorem b4Q {α:Type}{f:Str->List α}:∀ {ts:List Str},(∀ k∈ts,p k=false->f k=[])->ts.flatMap f=(ts.filter p).flatMap f
 | [],_=>rfl
 | k::ts,h=>by
  rw[i6,fS,b4Q λj a=>h j (.tail _ a)]
  by_cases c:p k=true
  ·rw[if_pos c,i6]
  ·rw[if_neg c,h k (.head _) (by simpa using c)];rfl
theorem b38 (hk:∀ τ∈T,τ.key∈kn) (nd:kn.Nodup) (hp:sk.Perm kn) (hs:PyProof.Rows.sortedS sk=true) (ka:KeysAt T ts):ts=sk.filter λk=>decide (k∈ts):=by
 have a:=hp.nodup_iff.mpr nd;refine a5K (b37 ka.so) ((b37 hs).sublist i7) ((List.perm_ext_iff_of_nodup ka.nd (a.sublist i7)).mpr λs=>?_);rw[gg,decide_eq_true_eq];refine⟨λh=>⟨hp.mem_iff.mpr ?_,h⟩,λh=>h.2⟩;obtain⟨L,e,f⟩:=(ka.is s).mp h
 by_cases c:∃ τ∈T,τ.key=s
 ·obtain⟨τ,b,d⟩:=c;rw[<- d];exact hk τ b
 ·have:a0M T s=[]:=by
   unfold a0M;rw[i3,jT];intro τ g;simpa using λz=>c ⟨τ,g,z⟩
  exact absurd (e.uniq (IsLine.nil this)) f
theorem b2F (k:Str):∀ {n:Nat}{T:List Tl},T.length=n->OkT T->∃ L,IsLine T k L
 | 0,T,h,_=>⟨[],by rw[fN.mp h];exact IsLine.nil rfl⟩
 | n+1,T,h,ok=>by
  obtain⟨U,τ,rfl⟩:∃ U τ,T=U++[τ]:=⟨T.dropLast,T.getLast (λz=>by rw[z]at h;cases h),(List.dropLast_concat_getLast _).symm⟩;obtain⟨L,a⟩:=b2F k (by simpa using h) fun σ b=>ok σ (eV _ b)
  by_cases c:τ.key=k
  ·subst c;exact⟨_,a.snoc (ok τ (by simp))⟩
  ·refine⟨L,a.can,a.pl,by have:=a.len;simp;omega,λt=>?_⟩;rw[a4s,if_neg c,eL];exact a.v t
theorem a9O (ok:OkT T) (ka:KeysAt T ts) (h:k∉ts):IsLine T k []:=by
 obtain⟨L,a⟩:=b2F k rfl ok
 by_cases c:L=[]
 ·simp_all
 ·exact absurd ((ka.is k).mpr ⟨L,a,c⟩) h
local macro_rules | `(tactic| walk_at "go1")=>`(tactic| first | refine i_I (show (0:Int)<_ by decide) ?_ | refine a1f (by assumption) (by with_unfolding_all rfl) ?_ | (refine i_I ⟨by decide,by decide,by decide⟩ ?_;rw[a4x]))
def a9P:P3:=λws G R=>Ex4 λ(p:Addr) (T:List Tl) (k:Str) (m:Int)=>ws=[.ref p,.str k,.int m]/\G p=some (.lst (T.map Tl.z))/\∀ G',Sm G G'->R (a0J (a0M T k) m) G'
theorem b2G (h:a9P ws G R):ws.length=3:=by obtain⟨_,_,_,_,rfl,_⟩:=h;rfl
theorem b39 (F:Fns K a) (T:Txt K mg a):FnOk P w K mg base CX0 2 a.f30 a.d30 ["tellings","key","moment"] (lowP K a9P):=by
 have G_has:=b88 (P:=P) (w:=w) (base:=base) F T;refine fn3 F.n30 sc_worth (λws G R h=>(by exact b2G h)) (λcdv A outer s H E ws G R hr h=>?_);have hu:=a03 hr;refine⟨_,(a0m (z_set (i:=3) sc_worth.nd rfl (dR rfl) a1E)
  (a0m (a3q (pt:=(.nm 4)) kj.never rfl (a02 (a0c (pv 0))) (show QP _ _ (.nm 4) from (a0o (i:=4) sc_worth.nd rfl (dR rfl)))
  (a0n (z_if (QW.qt (a5O (a0v (o_eq hu) (q_ix x_ix (a0c (pv 4)) a0g (λ_ _=>rfl)) (a0c (pv 1)) (a0p _)) (a4C (a3b (a0s G_has (hr.mono (by decide)) rfl T.m29 F.n29.kp (b8O F) (a0b (a0c (pv 4)) (a0b (a0c (pv 2)) a0h a0a) a0a) (he:=a0a) (hpl:=(a0j a0a a0k)))))))
  (a0n (z_set (i:=3) sc_worth.nd rfl (dR rfl) (q_ix x_ix (a1d (a0b a1E (a0b (q_ix x_ix (a0c (pv 4)) a0g (λ_ _=>rfl)) a0h a0d) a0f)) (a86 b8H rfl T.b_int rfl (a0b (a7q (o_eq hu) (q_ix x_ix (a0c (pv 4)) a0g (λ_ _=>rfl)) a4f (a0p _)) a0h a6a) (he:=a6a) (hpl:=a0k)) (λ_ _=>rfl))))
  a0V)))
  (a0n (a0I (a0c (pv 3)))))),?_⟩
 obtain⟨p,T',k,m,rfl,gp,q⟩:=h;walk_at "go";refine a3c gp ?_;refine a1D (λi σ G'=>∃ v:Option Z,Sm G G'/\σ=[some (.ref p),some (.str k),some (.int m),some (wAt T' k m i),v]) ⟨_,Sm.refl _,rfl⟩ (by rintro i σ G' _ ⟨_,s,_⟩;exact s _ _ gp) ?_ ?_
 ·rintro i u σ G' hu ⟨v,s,rfl⟩;rw[er]at hu;cases hu':T'[i]? with
  | none=>rw[hu']at hu;cases hu
  | some τ=>
  rw[hu']at hu;cases hu;have hw:=@b34 T' τ k m i hu';obtain⟨ws,ez,ek⟩:=@b4M τ;refine⟨_,rfl,?_⟩;walk_at "go";rw[ez];refine a1S ek ?_;walk_at "go";refine ifD (λc1=>?_) λc1=>?_
  rotate_left
  ·walk_at "go";rw[if_neg (λz=>c1 z.1)]at hw;exact⟨_,s,by rw[hw];rfl⟩
  walk_at "go";rw[<- ez];refine⟨τ,m,rfl,?_⟩;walk_at "go";refine ifB (λc2=>?_) λc2=>?_
  rotate_left
  ·walk_at "go";rw[if_neg (λz=>by rw[c2]at z;exact absurd z.2 (by decide))]at hw;exact⟨_,s,by rw[hw];rfl⟩
  rw[if_pos ⟨c1,c2⟩]at hw;obtain⟨ws2,fx,fy,ez2,e2,e0,ef⟩:=@b35 τ;rw[ez2];walk_at "go";refine a1S e2 ?_;walk_at "go";refine⟨lenK rfl,λl hl=>?_⟩;walk_at "go";refine a1S e0 ?_;walk_at "go";refine a1f a0e ef ?_;walk_at "go";exact⟨_,s.trans (Sm.new hl),by rw[hw];rfl⟩
 ·rintro σ G' ⟨v,s,rfl⟩;walk_at "go"
  have:=q G' s
  unfold wAt;rw[dQ,fF];exact this
def a8h:P3:=λws G R=>∃ (p:Addr) (T:List Tl),ws=[.ref p]/\G p=some (.lst (T.map Tl.z))/\OkT T/\T.length≤100/\∀ (t:Addr) (ms:List Int) (G':Hq),G t=none->Sm G G'->G' t=some (.lst (ms.map Z.int))->Pts T ms->(∀ x∈ms,inT x)->ms.length≤1+2*T.length->R (.ref t) G'
theorem b0D (h:a8h ws G R):ws.length=1:=by obtain⟨_,_,rfl,_⟩:=h;rfl
theorem b2H (F:Fns K a) (T:Txt K mg a):FnOk P w K mg base CX0 1 a.f31 a.d31 ["tellings"] (lowP K a8h):=by
 refine fn3 F.n31 sc_points (λws G R h=>(by exact b0D h)) (λcdv A outer s H E ws G R hr h=>?_);have hu:=a03 hr;refine⟨_,(a0m (z_set (i:=1) sc_points.nd rfl (dR rfl) (a1d (a0b a0g a0h a0f)))
  (a0m (a3q (pt:=(.nm 2)) kj.never rfl (a02 (a0c (pv 0))) (show QP _ _ (.nm 2) from (a0o (i:=2) sc_points.nd rfl (dR rfl)))
  (a0m (a01 (q_bm PySem.F.plainAttrs_list PySem.F.slot_list_append PySem.F.type_list_append a1e (a0c (pv 1)) (a0b (q_ix x_ix (a0c (pv 2)) (q_un a2n a0g) (λ_ _=>rfl)) a0h a0d)))
  (a0n (z_if (a0v a1R (q_ix x_ix (a0c (pv 2)) (q_un a2n a0g) (λ_ _=>rfl)) a1E (a0p _))
  (a0n (a01 (q_bm PySem.F.plainAttrs_list PySem.F.slot_list_append PySem.F.type_list_append a1e (a0c (pv 1)) (a0b (q_ix x_ix (a0c (pv 2)) (q_un a2n a0g) (λ_ _=>rfl)) a0h a0d))))
  a0V))))
  (a0n (a0I (q_ss rfl rfl T.b_sorted rfl rfl T.b_set rfl (a0b (a0c (pv 1)) a0h a0a) (he:=a0a) (hpl:=a0k)))))),?_⟩
 obtain⟨p,T',rfl,gp,ok,hT,q⟩:=h;walk_at "go";refine⟨lenK rfl,λf hf=>?_⟩;walk_at "go";refine a3c (a0l gp hf) ?_;refine a1D (λi σ G'=>∃ (ns:List Int) (v:Option Z),0∈ns/\(∀ x∈ns,inT x)/\ns.length≤1+2*i/\(∀ τ∈T'.take i,τ.b∈ns/\∀ e,τ.e=some e->e∈ns)/\Sm G G'/\G' f=some (.lst (ns.map Z.int))/\σ=[some (.ref p),some (.ref f),v]) ⟨[0],_,by simp,λx hx=>by rw[dX.mp hx];exact⟨by decide,by decide⟩,by simp,(fun τ h=>by simp at h),Sm.new hf,a0e,rfl⟩ (by rintro i σ G' _ ⟨_,_,_,_,_,_,s,_⟩;exact s _ _ gp) ?_ ?_
 ·rintro i u σ G' hu ⟨ns,v,h0,hn,hl,hb,s,gf,rfl⟩;rw[er]at hu;cases hu':T'[i]? with
  | none=>rw[hu']at hu;cases hu
  | some τ=>
  rw[hu']at hu;cases hu;have hi:=(eq.mp hu').1;have okτ:=ok τ (eI hu');obtain⟨b0,b1,be⟩:=okτ.st;obtain⟨ws,ez,e1,e2⟩:=@at_b τ;have mem1:∀ {ns:List Int}{x:Int},(∀ x∈ns,inT x)->inT x->∀ y∈ns++[x],inT y:=λ{ns x} h hx y hy=>by
   rcases dU.mp hy with hy | hy
   ·exact h y hy
   ·rw[dX.mp hy];exact hx
  have old:∀ {ms:List Int},(∀ x∈ns,x∈ms)->τ.b∈ms->(∀ e,τ.e=some e->e∈ms)->∀ σ∈T'.take (i+1),σ.b∈ms/\∀ e,σ.e=some e->e∈ms:=λh1 h2 h3 σ hσ=>by
   rw[take_snoc hu']at hσ;rcases dU.mp hσ with hσ | hσ
   ·exact⟨h1 _ (hb σ hσ).1,λe he=>h1 _ ((hb σ hσ).2 e he)⟩
   ·rw[dX.mp hσ];exact⟨h2,h3⟩
  rw[ez];refine⟨_,rfl,?_⟩;walk_at "go";refine a2o gf ?_;walk_at "go";refine a1S e1 ?_;walk_at "go";refine a00 gf (by rw[dQ];exact a0t (by omega)) ?_;have gf2:put G' f (.lst (ns.map Z.int++[.int τ.b])) f=some (.lst ((ns++[τ.b]).map Z.int)):=by rw[a0e,eA];rfl
  have s2:Sm G (put G' f (.lst (ns.map Z.int++[.int τ.b]))):=s.put hf;generalize put G' f (.lst (ns.map Z.int++[.int τ.b]))=G2 at gf2 s2 ⊢;walk_at "go";refine a1S e2 ?_;cases he:τ.e with
  | none=>
   walk_at "go";exact⟨_,_,eV _ h0,mem1 hn ⟨b0,b1⟩,by rw[dW];simp;omega,old (λx h=>eV _ h) (by simp) (λe h=>by rw[he]at h;cases h),s2,gf2,rfl⟩
  | some e=>
   obtain⟨l1,l2⟩:=be e he;walk_at "go";refine a2o gf2 ?_;walk_at "go";refine a1S e2 ?_;rw[he];walk_at "go";refine a00 gf2 (by rw[dQ,dW];exact a0t (by simp;omega)) ?_;refine⟨ns++[τ.b]++[e],_,eV _ (eV _ h0),mem1 (mem1 hn ⟨b0,b1⟩) ⟨by omega,l2⟩,by rw[dW,dW];simp;omega,old (λx h=>eV _ (eV _ h)) (by simp) (λe' h=>by rw[he]at h;cases h;simp),s2.put hf,?_,rfl⟩;rw[a0e,eA (l₂:=[e])];rfl
 ·rintro σ G' ⟨ns,v,h0,hn,hl,hb,s,gf,rfl⟩;rw[dQ]at hl hb;rw[fF]at hb;walk_at "go";refine⟨f,ns,rfl,gf,by omega,λt ks ht hs hm hle=>?_⟩;exact q t ks _ (s.free ht) (s.trans (Sm.new ht)) a0e ⟨hs,(hm 0).mpr h0,fun τ h=>(hm _).mpr (hb τ h).1,fun τ h e he=>(hm _).mpr ((hb τ h).2 e he)⟩ (λx hx=>hn x ((hm x).mp hx)) (by omega)
theorem b9c {ms:List Int}(h:i<ms.length):atI (ms.map Z.int++[.non]) ((i:Int)+1)=some (oz ms[i+1]?):=by
 refine a1O (j:=i+1) ?_
 by_cases c:i+1<ms.length
 ·rw[fR (by rw[dQ];exact c),er,et c];rfl
 ·simp_all
theorem b2I:join (ps++[x])=jn (join ps) x:=by simp[join]
theorem b4a (ps:List Rw):(join ps).length≤ps.length:=by
 have:=a46 ps []
 unfold join;simpa using this
def bF (T U:List Tl) (k:Str) (t:Int):Option (List Z):=if a0J (a0M T k) t=.non\/a0J (a0M U k) t=.non then none else some [a0J (a0M T k) t,a0J (a0M U k) t]
noncomputable def pW:List Z->Bool
 | [x,y]=>!decide (x=.non)&&!decide (y=.non)
 | _=>false
theorem a9Q:∀ {L:List Rw},Rise L->val (L.filter λr=>p r.w) t=(val L t).filter p
 | [],_=>rfl
 | r::L,h=>by
  have a:=a9Q (p:=p) (t:=t) h.tail;rw[fS,a0D]
  by_cases c:p r.w=true
  ·rw[if_pos c,a0D,a];cases r.has t
   ·rfl
   ·simp[c,i8]
  ·rw[if_neg c,a];cases e:r.has t with
   | false=>rfl
   | true=>
    rw[a28 λs b=>((eH.mp h.2).1 s b).has e];simp[i8,c]
theorem a8i {bs:List Int}(h:∀ r∈l,r.b∈bs/\∀ e,r.e=some e->e∈bs) (hbt:b≤t) (hm:∀ c∈bs,c≤t->c≤b):val l t=val l b:=by
 unfold val;rw[a4p λr a=>a9D hbt (λq=>hm _ (h r a).1 q) λe d q=>hm _ ((h r a).2 e d) q]
theorem b4b (hb:a6o (l++o) bs) (t:Int):val (join (pcs (a15 l o) bs)) t=a15 l o t:=by
 have j:∀ r∈l,r.b∈bs/\∀ e,r.e=some e->e∈bs:=λr a=>⟨(hb.2 _).mpr ⟨r,eV _ a,.inl rfl⟩,λe d=>(hb.2 _).mpr ⟨r,eV _ a,.inr d⟩⟩;have f:∀ r∈o,r.b∈bs/\∀ e,r.e=some e->e∈bs:=λr a=>⟨(hb.2 _).mpr ⟨r,e7 _ a,.inl rfl⟩,λe d=>(hb.2 _).mpr ⟨r,e7 _ a,.inr d⟩⟩;rw[(a2X (a2b _ hb.1)).2.1,a8L hb.1 λt b _ k g=>by unfold a15;rw[a8i j k g,a8i f k g]]
 split
 ·rfl
 ·next c=>
  have i:∀ {m:List Rw},(∀ r∈m,r.b∈bs/\∀ e,r.e=some e->e∈bs)->val m t=none:=λ{m} h=>a28 λr a=>a6n (by simp_all);unfold a15;rw[i j,i f];rfl
theorem b6o (P:Pts T ms) (Q:Pts U ms) (okT:OkT T) (il:IsLine T k l) (jl:IsLine U k o) (hb:a6o (l++o) bs):(join (pcs (a15 l o) bs)).filter (λr=>pW r.w)=join (pcs (bF T U k) ms):=by
 have a:=a2X (a2b (a15 l o) hb.1);have f:=a2X (a2b (bF T U k) P.so);refine b2g ⟨λr i=>a.1.1 r (gg.mp i).1,a.1.2.sublist i7⟩ f.1 λt=>?_;rw[a9Q a.1.rise,b4b hb,f.2.1,a8L P.so λt b _ d g=>by unfold bF;rw[a6u P k d g,a6u Q k d g]];unfold a15;rw[il.v,jl.v,b2u,b2u];have e:(if a0J (a0M T k) t=.non/\a0J (a0M U k) t=.non then none else some [a0J (a0M T k) t,a0J (a0M U k) t]).filter pW=bF T U k t:=by
  unfold bF
  by_cases c1:a0J (a0M T k) t=.non<;>by_cases c2:a0J (a0M U k) t=.non<;>simp[c1,c2,i8,pW]
 rw[e]
 split
 ·rfl
 ·next c=>
  unfold bF;rw[b0C okT k (by
   by_cases h:0≤t
   ·exact absurd (g9.mpr ⟨0,P.z,decide_eq_true h⟩) c
   ·omega)]
  exact if_pos (.inl rfl)
theorem a9R (h:∀ t,f t=none):∀ ms:List Int,pcs f ms=[]
 | []=>rfl
 | m::ms=>by unfold pcs;rw[h m,a9R h ms];rfl
def bK (T U:List Tl) (ms:List Int) (k:Str):List (Str×Rw):=(join (pcs (bF T U k) ms)).map λr=>(k,r)
theorem b9d (h:IsLine T k []):bK T U ms k=[]:=by
 unfold bK;rw[a9R λt=>by unfold bF;rw[b6n h];exact if_pos (.inl rfl)]
 rfl
theorem b9e (okT:OkT T) (hk:∀ τ∈T,τ.key∈kn) (nd:kn.Nodup) (hp:sk.Perm kn) (hs:PyProof.Rows.sortedS sk=true) (ka:KeysAt T ts):ts.flatMap (bK T U ms)=sk.flatMap (bK T U ms):=by
 rw[b4Q (p:=λk=>decide _) (ts:=sk) λk _ a=>b9d (a9O okT ka (by simpa using a))]
 conv=>lhs;rw[b38 hk nd hp hs ka]
def a2r (v:Str×Rw):Z:=.tup (.str v.1::.int v.2.b::oz v.2.e::v.2.w)
theorem bK_w (so:ms.Pairwise (·<·)) (h:v∈bK T U ms k):v.1=k/\∃ t,bF T U k t=some v.2.w:=by
 obtain⟨r,a,rfl⟩:=eK.mp h;obtain⟨d,c,e⟩:=(a2X (a2b _ so)).2.2.2 r a;exact⟨rfl,d.b,by rw[e];exact (a5C c).2⟩
theorem b9f:(bK T U ms k).length≤ms.length:=by
 unfold bK;exact eD (by have:=a46 (pcs (bF T U k) ms) [];unfold join;simpa using this) (a29 _ _)
theorem b2J:∀ {sk:List Str},(sk.flatMap (bK T U ms)).length≤sk.length*ms.length
 | []=>by simp
 | k::sk=>by
  have:=b2J (T:=T) (U:=U) (ms:=ms) (sk:=sk)
  have:=b9f (T:=T) (U:=U) (ms:=ms) (k:=k)
  rw[i6,dW,eF,Nat.add_mul];omega
structure TabD (G:Hq) (d:Addr) (T:List Tl) (ts:List Str) (kvs:List (Key×Z)):Prop where
 at_:G d=some (.dK kvs)
 ks:kvs.map (·.1)=ts.map (λs=>(Sum.inr s:Key))
 ka:KeysAt T ts
 ln:∀ k∈ts,∃ l L,valZ kvs (.inr k)=some (.ref l)/\G l=some (.lst (L.map Rw.z))/\IsLine T k L
 no:∀ k,k∉ts->valZ kvs (.inr k)=none
theorem TabD.keep (h:TabD G d T ts kvs) (s:Sm G G'):TabD G' d T ts kvs:=⟨s _ _ h.at_,h.ks,h.ka,λk e=>let ⟨l,L,a,b,c⟩:=h.ln k e;⟨l,L,a,s _ _ b,c⟩,h.no⟩
theorem b2K (nd:(rows.map (·.1)).Nodup):a4E [] rows=rows:=by
 have c:∀ a b,((b++a).map (·.1)).Nodup->a4E b a=b++a:=by
  intro a
  induction a with
  | nil=>intro b _;simp[a4E]
  | cons r a ih=>
   intro b h;have d:valZ b r.1=none:=by
    cases e:valZ b r.1 with
    | none=>rfl
    | some z=>
     unfold valZ at e;cases e2:b.find? λi=>decide (i.1=r.1) with
     | none=>rw[e2]at e;cases e
     | some q=>
      rw[eA,fO]at h;have f:=iz e2;have g:q.1=r.1:=by have:=jQ e2;simpa using this
      exact absurd g (h.2.2 q.1 (eY f) r.1 (by simp))
   show a4E (putZ b r.1 r.2) a=_
   rw[b2A d,ih _ (by simp_all)];simp
 simpa using c rows [] (by simp_all)
theorem b4c (nd:(kvs.map (·.1)).Nodup) (h:(k,z)∈kvs):valZ kvs k=some z:=by
 induction kvs with
 | nil=>simp at h
 | cons q kvs ih=>
  rw[eE,e9]at nd;unfold valZ;rw[fu];rcases dY.mp h with rfl | h
  ·simp
  ·have a:¬ q.1=k:=λb=>nd.1 (by rw[b];exact eY h);rw[decide_eq_false a];exact ih nd.2 h
def Two (l:List Rw):Prop:=∀ r∈l,∃ x y,r.w=[x,y]/\flat 0 x=true/\flat 0 y=true
theorem b4d (hl:Plain l) (ho:Plain o) (hb:bs.Pairwise (·<·)):Two (join (pcs (a15 l o) bs)):=λr c=>by
 obtain⟨d,a,b⟩:=(a2X (a2b _ hb)).2.2.2 r c;obtain⟨_,e⟩:=a5C a;unfold a15 at e
 split at e
 ·cases e
 ·exact⟨_,_,b.trans (eZ.inj e).symm,a37 hl _,a37 ho _⟩
theorem b4e (hb:bs.Pairwise (·<·)):(join (pcs (a15 l o) bs)).length≤bs.length:=eD (a2X (a2b _ hb)).2.2.1 (a29 _ _)
noncomputable def begs (ps:List Rw):List Int:=ps.map (·.b)++ps.filterMap (·.e)
theorem b4f (ps:List Rw):(begs ps).length≤2*ps.length:=by grind [begs]
theorem a9S (h:r∈ps):r.b∈begs ps/\∀ x,r.e=some x->x∈begs ps:=
 ⟨dU.mpr (.inl (eK.mpr ⟨r,h,rfl⟩)),λx a=>dU.mpr (.inr (fK.mpr ⟨r,h,a⟩))⟩
theorem b2L {α:Type}[BEq α] [LawfulBEq α]:∀ {l B:List α},l.Nodup->(∀ x∈l,x∈B)->l.length≤B.length
 | [],_,_,_=>eP _
 | x::l,B,h,q=>by
  obtain⟨c,d⟩:=e9.mp h;have a:=q x (.head _)
  have:=b2L d λy b=>(jN (show y≠x from λe=>c (e▸b))).mpr (q y (.tail _ b))
  rw[jO a]at this;have f:=jP a;rw[eF];omega
theorem b0E (h:a6o rows bs):bs.length≤2*rows.length:=by
 refine eD (b2L (h.1.imp λ{a b} q=>Int.ne_of_lt q) λx d=>?_) (b4f rows);obtain⟨r,c,e | e⟩:=(h.2 x).mp d
 ·rw[e];exact (a9S c).1
 ·exact (a9S c).2 x e
def a39 (a:Ad):PX3:=λws G R EE=>Ex4 λ(p:Addr) (S:Addr->Prop) (T:List Tl) (q:Int)=>ws=[.ref p,.int q]/\Sheet a.c_Sheet G p S T/\OkT T/\Few T /\
 ((inR T q/\∀ d ts kvs G',G d=none->Sm G G'->TabD G' d (T.take q.toNat) ts kvs->ts.length≤63->R (.ref d) G')\/(¬ inR T q/\∀ G',Sm G G'->EE a.x_NoKnowing G'))
theorem a51 {a:Ad}{ws:List Z}{G:Hq}{R:K3}{EE:Addr->Hq->Prop}(h:a39 a ws G R EE):ws.length=2:=by obtain⟨_,_,_,_,rfl,_⟩:=h;rfl
theorem Sheet.obj (h:Sheet C G p S T):∃ dx n d,G p=some (.ins C dx (shF n d)):=let ⟨dx,d,_,m⟩:=h;⟨dx,_,d,m.ob⟩
theorem Sheet.out (h:Sheet C G p S T) (e:G t=none):¬ S t:=λz=>by
 obtain⟨_,_,_,m⟩:=h;obtain⟨o,a⟩:=m.al t z;rw[e]at a;cases a
theorem a69 (F:Fns K a) (T:Txt K mg a):FnOk P w K mg base (CXx P w) 4 a.f18 a.d18 ["sheet","knowing"] (a3v K (a39 a)):=by
 have G_Sheet_line_at:=a4X (P:=P) (w:=w) (base:=base) F T;have G_Sheet_keys_at:=a4Y (P:=P) (w:=w) (base:=base) F T;refine fn3x F.n18 a6U (λws G R EE h=>(by exact a51 h)) (λcdv A outer s H E ws G R EE hr h ux=>?_);have hu:=a03 hr;refine⟨_,(a0n (a0I (a86 (b52 rfl) rfl T.b_dict rfl (a0b (c0u (b1i Outs.of) (N₀:=["sheet","knowing"]) (so:=a0i a2a) (N':=["key","knowing","sheet"]) (cap:=[none,some 1,some 0]) (pt:=(.nm 0)) rfl rfl rfl (by decide +kernel) rfl (a02 (a5r (a1y Outs.of) ux.since (a0c (pv 0)) T.cl_Sheet T.mt17 G_Sheet_keys_at (hr.mono (by decide)) (a4S F) (a0b (a0c (pv 1)) a0h a0a) (hst:=a0a) (hpl:=a0k))) (λ_ _ _ _=>(show QP _ _ (.nm 0) from (a0o (i:=0) c0E rfl (dR rfl)))) (λ_ _ _ _=>a4i) (λ_ _ _ _=>(a2l (a0b (a0c (pv 0)) (a0b (a5r b3g ux.since (a0c (pv 2)) T.cl_Sheet T.mt16 G_Sheet_line_at (hr.mono (by decide)) (a4R F) (a0b (a0c (pv 0)) (a0b (a0c (pv 1)) a0h a0a) a0a) (hst:=a0a) (hpl:=(a0j a0a a0k))) a0h a0L) a0a)))) a0h a05) (he:=a05) (hpl:=a0k)))),?_⟩;obtain⟨p,S,T',q,rfl,sh,ok,few,h⟩:=h;obtain⟨dx,n,d0,ob⟩:=sh.obj;walk_at "go";refine⟨p,dx,_,rfl,ob,a5Y (by decide +kernel) (by decide +kernel),?_⟩;walk_at "go";refine⟨p,S,T',q,rfl,sh,few,?_⟩;rcases h with ⟨hq,fin⟩ | ⟨hq,e⟩
 rotate_left
 ·exact .inr ⟨hq,e⟩
 refine .inl ⟨hq,λt ts G1 ht s1 gt ka hl=>?_⟩;walk_at "go";refine a3c gt ?_;intro D hD;have nd:(ts.map (λs=>(Sum.inr s:Key))).Nodup:=iY.mpr (ka.nd.imp λh z=>h (by injection z));refine b1x (λi ys G'=>∃ rows:List (Key×Z),ys=rows.map prZ/\rows.map (·.1)=(ts.take i).map (λs=>(Sum.inr s:Key))/\(∀ k∈ts.take i,∃ l L,((Sum.inr k:Key),Z.ref l)∈rows/\l≠D/\G' l=some (.lst (L.map Rw.z))/\IsLine (T'.take q.toNat) k L)/\Sm G1 G'/\G' D=some (.lst ys)) ⟨[],rfl,rfl,(λk h=>by simp at h),Sm.new hD,a0e⟩ (by rintro i ys G' _ ⟨_,_,_,_,s,_⟩;exact s _ _ gt) ?_ ?_
 ·rintro i x ys G' hx ⟨rows,rfl,hr,hln,s,gD⟩;rw[er]at hx;cases hx':ts[i]? with
  | none=>rw[hx']at hx;cases hx
  | some k=>
  rw[hx']at hx;cases hx;have hi:=(eq.mp hx').1;have hk:nmOk k:=b6l (fun τ hτ=>ok τ (fB hτ)) ((ka.is k).mp (eI hx'));have sh2:=sh.keep (Sm.ks (s1.trans s));obtain⟨dx2,n2,d2,ob2⟩:=sh2.obj;have hrl:rows.length≤63:=by have:=congrArg eQ hr;rw[dQ,dQ,eG]at this;omega
  refine⟨_,rfl,?_⟩;walk_at "go";refine⟨p,dx2,_,rfl,ob2,a5Y (by decide +kernel) (by decide +kernel),?_⟩;walk_at "go";refine⟨p,S,T',.str k,q,rfl,sh2,(λ_=>b3X hk),few.1,.inl ⟨hq,k,rfl,hk,λl L G2 hl2 s2 gl il=>?_⟩⟩;have nlD:l≠D:=Ne.symm (a0u gD hl2);walk_at "go";refine⟨lenK rfl,s2 _ _ gD,by rw[dQ];exact a0t (by omega),rows++[(.inr k,.ref l)],by rw[eA];rfl,by rw[eA,hr,take_snoc hx',eA];rfl,λj hj=>?_,(s.trans s2).put hD,a0e⟩;rw[take_snoc hx']at hj;rcases dU.mp hj with hj | hj
  ·obtain⟨l',L',m1,m2,m3,m4⟩:=hln j hj;exact⟨l',L',eV _ m1,m2,by rw[a0A m2];exact s2 _ _ m3,m4⟩
  ·rw[dX.mp hj];exact⟨l,L,by simp,nlD,by rw[a0A nlD];exact gl,il⟩
 ·rintro ys G2 ⟨rows,rfl,hr,hln,s,gD⟩;rw[dQ,fF]at hr hln;have hrl:rows.length=ts.length:=by have:=congrArg eQ hr;rw[dQ,dQ]at this;exact this
  have nd2:(rows.map (·.1)).Nodup:=by rw[hr];exact nd
  walk_at "go";refine b53 gD (by omega) λd hd=>?_;rw[b2K nd2];have s2:=s.trans (Sm.new (o:=.dK rows) hd);refine fin d ts rows _ (s1.free (s.free hd)) (s1.trans s2) ⟨a0e,hr,ka,λk hk=>?_,λk hk=>?_⟩ hl
  ·obtain⟨l,L,m1,m2,m3,m4⟩:=hln k hk;exact⟨l,L,b4c nd2 m1,a0l m3 hd,m4⟩
  ·cases e:valZ rows (.inr k) with
   | none=>rfl
   | some z=>exact absurd (b2C hr e) hk
def a5L (a:Ad):PX3:=λws G R EE=>Ex8 λ(p r:Addr) (S V:Addr->Prop) (T U:List Tl) (q u:Int)=>ws=[.ref p,.int q,.ref r,.int u]/\Sheet a.c_Sheet G p S T/\Sheet a.c_Sheet G r V U/\OkT T/\OkT U/\Few T/\Few U/\T.length≤63/\U.length≤63 /\
 ((inR T q/\inR U u/\∀ t ts vs G',G t=none->Sm G G'->KeysAt (T.take q.toNat) ts->ts.length≤63->(∀ ms,Pts (T.take q.toNat) ms->Pts (U.take u.toNat) ms->vs=ts.flatMap (bK (T.take q.toNat) (U.take u.toNat) ms))->G' t=some (.lst (vs.map a2r))->R (.ref t) G')\/(¬ (inR T q/\inR U u)/\∀ G',Sm G G'->EE a.x_NoKnowing G'))
theorem a8j {a:Ad}{ws:List Z}{G:Hq}{R:K3}{EE:Addr->Hq->Prop}(h:a5L a ws G R EE):ws.length=4:=by obtain⟨_,_,_,_,_,_,_,_,rfl,_⟩:=h;rfl
theorem a5M (F:Fns K a) (T:Txt K mg a):FnOk P w K mg base (CXx P w) 5 a.f19 a.d19 ["sheet","knowing","other","other_knowing"] (a3v K (a5L a)):=by
 have G_p_table_at:=a69 (P:=P) (w:=w) (base:=base) F T;have G_p_laid_together:=a38 (P:=P) (w:=w) (base:=base) F T;refine fn3x F.n19 sc_p_by_key (λws G R EE h=>(by exact a8j h)) (λcdv A outer s H E ws G R EE hr h ux=>?_);have hu:=a03 hr;refine⟨_,(a0m (z_set (i:=4) sc_p_by_key.nd rfl (dR rfl) (a2B (a1y Outs.of) ux.since G_p_table_at (hr.mono (by decide)) rfl T.m18 F.n18.kp (a3V F) (a0b (a0c (pv 0)) (a0b (a0c (pv 1)) a0h a0a) a0a) (he:=a0a) (hpl:=(a0j a0a a0k))))
  (a0m (z_set (i:=5) sc_p_by_key.nd rfl (dR rfl) (a2B (a1y Outs.of) ux.since G_p_table_at (hr.mono (by decide)) rfl T.m18 F.n18.kp (a3V F) (a0b (a0c (pv 2)) (a0b (a0c (pv 3)) a0h a0a) a0a) (he:=a0a) (hpl:=(a0j a0a a0k))))
  (a0m (z_set (i:=6) sc_p_by_key.nd rfl (dR rfl) (a1d a0h))
  (a0m (a3q (pt:=(.nm 7)) kj.leaving rfl (a02 (a0B (b2d rfl) rfl T.b_sorted rfl (a0b (a0c (pv 4)) a0h a0a) (he:=a0a) (hpl:=a0k))) (show QP _ _ (.nm 7) from (a0o (i:=7) sc_p_by_key.nd rfl (dR rfl)))
  (a0n (a3q (pt:=(.tp [8,9,10,11])) kj.leaving rfl (a02 (a0s G_p_laid_together (hr.mono (by decide)) rfl T.m11 F.n11.kp (a3U F) (a0b (q_ix c0q (a0c (pv 4)) (a0c (pv 7)) (λ_ _=>rfl)) (a0b (q_bm PySem.F.plainAttrs_dict PySem.F.slot_dict_get PySem.F.type_dict_get (b4F hu) (a0c (pv 5)) (a0b (a0c (pv 7)) (a0b (a1d a0h) a0h a04) a0a)) a0h a0L) a0d) (he:=a0d) (hpl:=(a0j a0L a0k)))) (show QP _ _ (.tp [8,9,10,11]) from (a3H rfl (a0w (a0o (i:=8) sc_p_by_key.nd rfl (dR rfl)) (a0w (a0o (i:=9) sc_p_by_key.nd rfl (dR rfl)) (a0w (a0o (i:=10) sc_p_by_key.nd rfl (dR rfl)) (a0w (a0o (i:=11) sc_p_by_key.nd rfl (dR rfl)) a2s))))))
  (a0n (z_if (QW.qt (a5O (a0v a1R (a0c (pv 10)) a1E (a0p _)) (a4C (a0v a1R (a0c (pv 11)) a1E (a0p _)))))
  (a0n (a01 (q_bm PySem.F.plainAttrs_list PySem.F.slot_list_append PySem.F.type_list_append a1e (a0c (pv 6)) (a0b (a2l (a0b (a0c (pv 7)) (a0b (a0c (pv 8)) (a0b (a0c (pv 9)) (a0b (a0c (pv 10)) (a0b (a0c (pv 11)) a0h a0a) a0a) a0a) a0a) a0a)) a0h a22))))
  a0V)))))
  (a0n (a0I (a0c (pv 6)))))))),?_⟩
 obtain⟨p,r,S,V,T',U',q,u,rfl,shp,shr,okT0,okU0,fewT,fewU,hT,hU,h⟩:=h;walk_at "go";refine⟨p,S,T',q,rfl,shp,okT0,fewT,?_⟩
 by_cases hq:inR T' q
 rotate_left
 ·rcases h with ⟨h1,_⟩ | ⟨_,e⟩
  ·exact absurd h1 hq
  ·exact .inr ⟨hq,e⟩
 refine .inl ⟨hq,λd ts kvs G1 hd s1 tab hl1=>?_⟩;walk_at "go";refine⟨r,V,U',u,rfl,shr.keep (Sm.ks s1),okU0,fewU,?_⟩
 by_cases hu:inR U' u
 rotate_left
 ·rcases h with ⟨_,h1,_⟩ | ⟨_,e⟩
  ·exact absurd h1 hu
  ·exact .inr ⟨hu,λG' s=>e G' (s1.trans s)⟩
 rcases h with ⟨_,_,fin⟩ | ⟨c,_⟩
 rotate_left
 ·exact absurd ⟨hq,hu⟩ c
 refine .inl ⟨hu,λd2 us kvs2 G2 hd2 s2 tab2 hl2=>?_⟩;have tab:=tab.keep s2;have s02:=s1.trans s2;have lT:(T'.take q.toNat).length≤63:=by rw[eG];omega
 have lU:(U'.take u.toNat).length≤63:=by rw[eG];omega
 have okU:OkT (U'.take u.toNat):=fun τ h=>okU0 τ (fB h);have okT:OkT (T'.take q.toNat):=fun τ h=>okT0 τ (fB h);generalize T'.take q.toNat=T at tab fin lT okT;generalize U'.take u.toNat=U at tab2 fin lU okU;clear s1 s2 hd hd2;walk_at "go";refine⟨lenK rfl,λW hW=>?_⟩;have gW:put G2 W (.lst []) W=some (.lst []):=a0e;have s23:Sm G2 (put G2 W (.lst [])):=Sm.new hW;have hWG:G W=none:=s02.free hW;generalize put G2 W (.lst [])=G3 at gW s23 ⊢;have tab:=tab.keep s23;have tab2:=tab2.keep s23;walk_at "go";refine b0r tab.at_ tab.ks (by omega) λQ sk hQ hperm hsort=>?_;have esk:sk=ts:=a5K (b37 hsort) (b37 tab.ka.so) hperm;subst esk;have gQ:put G3 Q (.lst (sk.map Z.str)) Q=some (.lst (sk.map Z.str)):=a0e;have gW4:=a0l (o:=.lst (sk.map Z.str)) gW hQ;have s34:Sm G3 (put G3 Q (.lst (sk.map Z.str))):=Sm.new hQ;have nQW:Q≠W:=Ne.symm (a0u gW hQ);generalize put G3 Q (.lst (sk.map Z.str))=G4 at gQ gW4 s34 ⊢;have tab:=tab.keep s34;have tab2:=tab2.keep s34;have s04:=s02.trans (s23.trans s34);have ndW:d≠W:=λz=>by rw[z]at tab;have:=tab.at_;rw[gW4]at this;cases this
 have nd2W:d2≠W:=λz=>by rw[z]at tab2;have:=tab2.at_;rw[gW4]at this;cases this
 clear s02 s23 s34 hQ gW hW;walk_at "go";refine a3c gQ ?_;refine a1D (λi σ G'=>Ex6 λ(vs:List (Str×Rw)) (v1 v2 v3 v4 v5:Option Z)=>(∀ ms,Pts T ms->Pts U ms->vs=(sk.take i).flatMap (bK T U ms))/\vs.length≤600*i/\Kq W G4 G'/\G' W=some (.lst (vs.map a2r))/\σ=[some (.ref p),some (.int q),some (.ref r),some (.int u),some (.ref d),some (.ref d2),some (.ref W),v1,v2,v3,v4,v5]) ⟨[],_,_,_,_,_,(λms _ _=>by simp),by simp,λ_ _ e _=>e,gW4,rfl⟩ (by rintro i σ G' _ ⟨_,_,_,_,_,_,_,_,k,_⟩;exact k _ _ gQ nQW) ?_ ?_
 ·rintro i x σ G5 hx ⟨vs,v1,v2,v3,v4,v5,hvs,hvl,kq,gW5,rfl⟩;rw[er]at hx;cases hx':sk[i]? with
  | none=>rw[hx']at hx;cases hx
  | some k=>
  rw[hx']at hx;cases hx;have hi:=(eq.mp hx').1;obtain⟨l,L,hv,gl,il⟩:=tab.ln k (eI hx');have nlW:l≠W:=λz=>by
   obtain⟨w,hw1,hw2⟩:∃ w,L=w/\w=L:=⟨L,rfl,rfl⟩;have hLe:L=[]:=by
    rw[z,gW4]at gl;simpa using gl.symm
   obtain⟨M,m1,m2⟩:=(tab.ka.is k).mp (eI hx');exact m2 (by rw[m1.uniq il];exact hLe)
  refine⟨_,rfl,?_⟩;walk_at "go";refine c0r (kq _ _ tab.at_ ndW) rfl hv ?_;walk_at "go";refine b8z (kq _ _ tab2.at_ nd2W) ?_;walk_at "go";refine⟨lenK rfl,λe he=>?_⟩;have ge:put G5 e (.lst []) e=some (.lst []):=a0e;have s56:Sm G5 (put G5 e (.lst [])):=Sm.new he;generalize put G5 e (.lst [])=G6 at ge s56 ⊢;walk_at "go";refine b8x (s56 _ _ (kq _ _ tab2.at_ nd2W)) rfl ?_;obtain⟨l2,L2,hval,gl2,jl⟩:∃ l2 L2,(valZ kvs2 (.inr k)).getD (.ref e)=.ref l2/\G6 l2=some (.lst (L2.map Rw.z))/\IsLine U k L2:=by
   by_cases c:k∈us
   ·obtain⟨l2,L2,e1,e2,e3⟩:=tab2.ln k c;have n2:l2≠W:=λz=>by
     have hLe:L2=[]:=by
      rw[z,gW4]at e2;simpa using e2.symm
     obtain⟨M,m1,m2⟩:=(tab2.ka.is k).mp c;exact m2 (by rw[m1.uniq e3];exact hLe)
    exact⟨l2,L2,by rw[e1];rfl,s56 _ _ (kq _ _ e2 n2),e3⟩
   ·exact⟨e,[],by rw[tab2.no k c];rfl,ge,a9O okU tab2.ka c⟩
  rw[hval];have len1:=il.len;have len2:=jl.len;walk_at "go";refine⟨l,l2,L,L2,rfl,s56 _ _ (kq _ _ gl nlW),gl2,il.can.rise,il.pl,jl.can.rise,jl.pl,by omega,by omega,λt bs G7 ht s67 hb gt=>?_⟩;have two:=b4d il.pl jl.pl hb.1;have Ml:=b4e (l:=L) (o:=L2) hb.1;have bl:=b0E hb;rw[dW]at bl;have eqM:∀ ms,Pts T ms->Pts U ms->(join (pcs (a15 L L2) bs)).filter (λr=>pW r.w)=join (pcs (bF T U k) ms):=λms P Q=>b6o P Q okT il jl hb;have gW7:=s67 _ _ (s56 _ _ gW5);have kq7:Kq W G4 G7:=λb o e1 nb=>s67 _ _ (s56 _ _ (kq b o e1 nb));have ntW:t≠W:=λz=>by rw[z]at ht;rw[s56 _ _ gW5]at ht;cases ht
  generalize join (pcs (a15 L L2) bs)=M at two Ml eqM gt;walk_at "go";refine a3c gt ?_;refine a1D (λj σ G'=>Ex4 λ(v2 v3 v4 v5:Option Z)=>Kq W G7 G'/\G' W=some (.lst ((vs++((M.take j).filter λr=>pW r.w).map λr=>(k,r)).map a2r))/\σ=[some (.ref p),some (.int q),some (.ref r),some (.int u),some (.ref d),some (.ref d2),some (.ref W),some (.str k),v2,v3,v4,v5]) ⟨_,_,_,_,λ_ _ e _=>e,by simpa using gW7,rfl⟩ (by rintro j σ G' _ ⟨_,_,_,_,k,_⟩;exact k _ _ gt ntW) ?_ ?_
  ·rintro j x σ G8 hx ⟨v2,v3,v4,v5,kq8,gW8,rfl⟩;rw[er]at hx;cases hr':M[j]? with
   | none=>rw[hr']at hx;cases hx
   | some m=>
   rw[hr']at hx;cases hx;have hj:=(eq.mp hr').1;obtain⟨x,y,ew,fx,fy⟩:=two m (eI hr');have hz:m.z=.tup [.int m.b,oz m.e,x,y]:=by unfold Rw.z;rw[ew]
   have lf:((M.take j).filter λr=>pW r.w).length≤600:=eD (jU _ _) (by rw[eG];omega);have tk:(M.take (j+1)).filter (λr=>pW r.w)=(M.take j).filter (λr=>pW r.w)++[m].filter (λr=>pW r.w):=by rw[take_snoc hr',List.filter_append]
   rw[hz];refine⟨_,rfl,?_⟩;walk_at "go"
   by_cases c1:x=.non
   ·subst c1;walk_at "go";refine⟨_,_,_,_,kq8,?_,rfl⟩;rw[tk];simpa[ew,pW]using gW8
   ·refine ifN (λ_=>?_) λz=>absurd z c1;walk_at "go"
    by_cases c2:y=.non
    ·subst c2;walk_at "go";refine⟨_,_,_,_,kq8,?_,rfl⟩;rw[tk];simpa[ew,pW]using gW8
    ·refine ifN (λ_=>?_) λz=>absurd z c2;walk_at "go";refine a2o gW8 ?_;walk_at "go";refine⟨lenK rfl,?_⟩;walk_at "go";refine a00 gW8 ?_ ?_
     ·rw[dQ,dW,dQ]
      have:600*i≤600*63:=jV (dS _) (by omega)
      exact eJ (by omega:_<40000) (by decide)
     refine⟨_,_,_,_,λb o e1 nb=>by rw[a0A nb];exact kq8 b o e1 nb,?_,rfl⟩;rw[a0e,tk];simp[ew,pW,c1,c2,a2r]
  ·rintro σ G8 ⟨v2,v3,v4,v5,kq8,gW8,rfl⟩;rw[dQ,fF]at gW8;have lf:(M.filter λr=>pW r.w).length≤600:=eD (jU _ _) (by omega);walk_at "go";refine⟨_,_,_,_,_,_,λms P Q=>?_,?_,λb o e1 nb=>kq8 b o (kq7 b o e1 nb) nb,gW8,rfl⟩
   ·rw[take_snoc hx',jW,<- hvs ms P Q,eqM ms P Q];simp[bK]
   ·rw[dW,dQ];omega
 ·rintro σ G5 ⟨vs,v1,v2,v3,v4,v5,hvs,hvl,kq,gW5,rfl⟩;rw[dQ,fF]at hvs;walk_at "go";exact fin W sk vs G5 hWG (λb o e=>kq b o (s04 _ _ e) (a0u e hWG)) tab.ka hl1 hvs gW5
def FiveOk (vs:List (Str×Rw)):Prop:=∀ v∈vs,nmOk v.1/\v.2.w.all (flat 0)=true
theorem a8k {vs:List (Str×Rw)}(h:FiveOk vs):(vs.map a2r).all (flat 8)=true:=by
 rw[fV];intro z a;obtain⟨v,c,rfl⟩:=eK.mp a;obtain⟨f,d⟩:=h v c
 show ((Z.str v.1::.int v.2.b::oz v.2.e::v.2.w).all _)=true
 rw[eU,eU,eU,b2t f,a60,b2k,a6Z (by simp) d];rfl
theorem FiveOk.snoc {vs:List (Str×Rw)}{v:Str×Rw}(h:FiveOk vs) (h1:nmOk v.1) (h2:v.2.w.all (flat 0)=true):FiveOk (vs++[v]):=λu a=>by
 rcases dU.mp a with a | a
 ·exact h u a
 ·rw[dX.mp a];exact⟨h1,h2⟩
theorem b4g {α β:Type}{A:List β}{f:α->β}{B:List α}{v:β}(h:(A++B.map f).getLast?=some v):(B=[]/\v∈A)\/∃ r,B.getLast?=some r/\v=f r:=by
 cases hB:B.getLast? with
 | none=>
  have:=iu.mp hB
  subst this;rw[eT,eL]at h;exact .inl ⟨rfl,iV h⟩
 | some r=>
  refine .inr ⟨r,rfl,?_⟩;rw[i9,iy,hB]at h;simpa using h.symm
theorem b6p (h:told.getLast?=some r):jn told p=if r.e=some p.b/\r.w=p.w then told.dropLast++[⟨r.b,p.e,p.w⟩] else told++[p]:=by
 unfold jn;rw[h]
def b4R:P3:=λws G R=>Ex6 λ(p r ks:Addr) (T U:List Tl) (kn:List Str)=>ws=[.ref p,.ref r,.ref ks]/\G p=some (.lst (T.map Tl.z))/\G r=some (.lst (U.map Tl.z))/\G ks=some (.lst (kn.map Z.str))/\kn.length≤20/\(∀ s∈kn,nmOk s)/\kn.Nodup/\OkT T/\OkT U/\T.length≤63/\U.length≤63 /\
 ∀ t ms sk G',G t=none->Sm G G'->Pts T ms->Pts U ms->sk.Perm kn->PyProof.Rows.sortedS sk=true->FiveOk (sk.flatMap (bK T U ms))->G' t=some (.lst ((sk.flatMap (bK T U ms)).map a2r))->R (.ref t) G'
theorem b6q (h:b4R ws G R):ws.length=3:=by obtain⟨_,_,_,_,_,_,rfl,_⟩:=h;rfl
theorem b9g (F:Fns K a) (T:Txt K mg a):FnOk P w K mg base CX0 3 a.f32 a.d32 ["one","other","keys"] (lowP K b4R):=by
 have G_worth:=b39 (P:=P) (w:=w) (base:=base) F T;have G_points:=b2H (P:=P) (w:=w) (base:=base) F T;refine fn3 F.n32 sc_due (λws G R h=>(by exact b6q h)) (λcdv A outer s H E ws G R hr h=>?_);have hu:=a03 hr;refine⟨_,(a0m (z_set (i:=3) sc_due.nd rfl (dR rfl) (q_ss rfl rfl T.b_sorted rfl rfl T.b_set rfl (a0b (q_op a0N (a0s G_points (hr.mono (by decide)) rfl T.m31 F.n31.kp (a70 F) (a0b (a0c (pv 0)) a0h a0a) (he:=a0a) (hpl:=a0k)) (a0s G_points (hr.mono (by decide)) rfl T.m31 F.n31.kp (a70 F) (a0b (a0c (pv 1)) a0h a0a) (he:=a0a) (hpl:=a0k))) a0h a0q) (he:=a0q) (hpl:=a0k)))
  (a0m (z_set (i:=4) sc_due.nd rfl (dR rfl) (a1d a0h))
  (a0m (a3q (pt:=(.nm 5)) kj.never rfl (a02 (a0B a7P rfl T.b_sorted rfl (a0b (a0c (pv 2)) a0h a0a) (he:=a0a) (hpl:=a0k))) (show QP _ _ (.nm 5) from (a0o (i:=5) sc_due.nd rfl (dR rfl)))
  (a0n (a3q (pt:=(.nm 6)) kj.never rfl (a23 rfl T.b_range (a0b (a0B b_len rfl T.b_len PySem.boot_len (a0b (a0c (pv 3)) a0h a0a) (he:=a0a) (hpl:=a0k)) a0h a0L)) (show QP _ _ (.nm 6) from (a0o (i:=6) sc_due.nd rfl (dR rfl)))
  (a0m (z_set (i:=7) sc_due.nd rfl (dR rfl) (a0s G_worth (hr.mono (by decide)) rfl T.m30 F.n30.kp (a9y F) (a0b (a0c (pv 0)) (a0b (a0c (pv 5)) (a0b (q_ix x_ix (a0c (pv 3)) (a0c (pv 6)) (λ_ _=>rfl)) a0h a0d) a0a) a0a) (he:=a0a) (hpl:=(a0j a0a (a0j a0d a0k)))))
  (a0m (z_set (i:=8) sc_due.nd rfl (dR rfl) (a0s G_worth (hr.mono (by decide)) rfl T.m30 F.n30.kp (a9y F) (a0b (a0c (pv 1)) (a0b (a0c (pv 5)) (a0b (q_ix x_ix (a0c (pv 3)) (a0c (pv 6)) (λ_ _=>rfl)) a0h a0d) a0a) a0a) (he:=a0a) (hpl:=(a0j a0a (a0j a0d a0k)))))
  (a0m (z_set (i:=9) sc_due.nd rfl (dR rfl) (q_ix x_ix (q_op a0N (a0c (pv 3)) (a1d (a0b a1E a0h a0f))) (q_op a0N (a0c (pv 6)) a0g) (λ_ _=>rfl)))
  (a0n (z_if (QW.qt (a5O (a0v a1R (a0c (pv 7)) a1E (a0p _)) (a4C (a0v a1R (a0c (pv 8)) a1E (a0p _)))))
  (a0m (z_set (i:=10) sc_due.nd rfl (dR rfl) (a2l (a0b (a0c (pv 5)) (a0b (q_ix x_ix (a0c (pv 3)) (a0c (pv 6)) (λ_ _=>rfl)) (a0b (a0c (pv 9)) (a0b (a0c (pv 7)) (a0b (a0c (pv 8)) a0h a0a) a0a) a0a) a0d) a0a)))
  (a6F (z_if (QW.qt (a5O (a0v (o_ne hu) (a0c (pv 4)) (a1d a0h) (a0p _)) (a5O (a0v (o_eq hu) (q_ix x_ix (q_ix x_ix (a0c (pv 4)) (q_un a2n a0g) (λ_ _=>rfl)) a0g (λ_ _=>rfl)) (a0c (pv 5)) (a0p _)) (a4C (a0v (o_eq hu) (a1Q x_sl (q_ix x_ix (a0c (pv 4)) (q_un a2n a0g) (λ_ _=>rfl)) (a2k a0g) a1K) (a2l (a0b (q_ix x_ix (a0c (pv 3)) (a0c (pv 6)) (λ_ _=>rfl)) (a0b (a0c (pv 7)) (a0b (a0c (pv 8)) a0h a0a) a0a) a0d)) (a0p _))))))
  (a0n (z_set (i:=10) sc_due.nd rfl (dR rfl) (a2l (a0b (a0c (pv 5)) (a0b (q_ix x_ix (b7w PySem.F.plainAttrs_list PySem.F.slot_list_pop PySem.F.type_list_pop c0A (a0c (pv 4))) a0g (λ_ _=>rfl)) (a0b (a0c (pv 9)) (a0b (a0c (pv 7)) (a0b (a0c (pv 8)) a0h a0a) a0a) a0a) a0d) a0a))))
  a0V)
  (a0n (a01 (q_bm PySem.F.plainAttrs_list PySem.F.slot_list_append PySem.F.type_list_append a1e (a0c (pv 4)) (a0b (a0c (pv 10)) a0h a0a))))))
  a0V))))))))
  (a0n (a0I (a0c (pv 4))))))),?_⟩
 obtain⟨p,r,ks,T',U',kn,rfl,gp,gr,gks,hkl,hkn,knd,okT,okU,lT,lU,fin⟩:=h;walk_at "go";refine⟨p,T',rfl,gp,okT,by omega,λt1 m1 G1 ht1 s1 gt1 P1 _ l1=>?_⟩;walk_at "go";refine⟨r,U',rfl,s1 _ _ gr,okU,by omega,λt2 m2 G2 ht2 s2 gt2 P2 _ l2=>?_⟩;walk_at "go";refine a7v (s2 _ _ gt1) gt2 (a1X (by rw[dQ,dQ];omega)) λt3 ht3=>?_;walk_at "go";refine⟨t3,m1++m2,rfl,by rw[a0e,eA],by rw[dW];omega,λpt ms hpt so mem lm=>?_⟩;have s3:Sm G (put (put G2 t3 (.lst (m1.map Z.int++m2.map Z.int))) pt (.lst (ms.map Z.int))):=((s1.trans s2).trans (Sm.new ht3)).trans (Sm.new hpt);have gpt:put (put G2 t3 (.lst (m1.map Z.int++m2.map Z.int))) pt (.lst (ms.map Z.int)) pt=some (.lst (ms.map Z.int)):=a0e;generalize put (put G2 t3 (.lst (m1.map Z.int++m2.map Z.int))) pt (.lst (ms.map Z.int))=G3 at s3 gpt ⊢;have P:Pts T' ms:=⟨so,(mem 0).mpr (eV _ P1.z),fun τ h=>(mem _).mpr (eV _ (P1.b τ h)),fun τ h e he=>(mem _).mpr (eV _ (P1.e τ h e he))⟩;have Q:Pts U' ms:=⟨so,(mem 0).mpr (eV _ P1.z),fun τ h=>(mem _).mpr (e7 _ (P2.b τ h)),fun τ h e he=>(mem _).mpr (e7 _ (P2.e τ h e he))⟩;have hml:ms.length≤254:=by rw[dW]at lm;omega
 clear s1 s2 gt1 gt2 ht1 ht2 ht3 hpt mem lm;walk_at "go";refine⟨lenK rfl,λf hf=>?_⟩;have hfG:G f=none:=s3.free hf;have gf3:put G3 f (.lst []) f=some (.lst []):=a0e;have s4:=s3.trans (Sm.new (o:=.lst []) hf);have gpt4:=a0l (o:=.lst []) gpt hf;have npf:pt≠f:=a0u gpt hf;generalize put G3 f (.lst [])=G4 at gf3 s4 gpt4 ⊢;clear s3 gpt hf;walk_at "go";refine a7Q (s4 _ _ gks) (by omega) λA sk hA hperm hsort=>?_;have gA:put G4 A (.lst (sk.map Z.str)) A=some (.lst (sk.map Z.str)):=a0e;have s5:=s4.trans (Sm.new (o:=.lst (sk.map Z.str)) hA);have gf5:=a0l (o:=.lst (sk.map Z.str)) gf3 hA;have gpt5:=a0l (o:=.lst (sk.map Z.str)) gpt4 hA;have nAf:A≠f:=Ne.symm (a0u gf3 hA);have hsl:=hperm.length_eq;have snd:sk.Nodup:=hperm.nodup_iff.mpr knd;generalize put G4 A (.lst (sk.map Z.str))=G5 at gA s5 gf5 gpt5 ⊢;clear s4 gf3 gpt4 hA;walk_at "go";refine a3c gA ?_;refine a1D (λi σ G'=>Ex6 λ(v1 v2 v3 v4 v5 v6:Option Z)=>FiveOk ((sk.take i).flatMap (bK T' U' ms))/\Kq f G5 G'/\G' f=some (.lst (((sk.take i).flatMap (bK T' U' ms)).map a2r))/\σ=[some (.ref p),some (.ref r),some (.ref ks),some (.ref pt),some (.ref f),v1,v2,v3,v4,v5,v6]) ⟨_,_,_,_,_,_,(λv h=>by simp at h),λ_ _ e _=>e,by simpa using gf5,rfl⟩ (by rintro i σ G' _ ⟨_,_,_,_,_,_,_,k,_⟩;exact k _ _ gA nAf) ?_ ?_
 ·rintro i x σ G6 hx ⟨v1,v2,v3,v4,v5,v6,fo,kq,gf,rfl⟩;rw[er]at hx;cases hx':sk[i]? with
  | none=>rw[hx']at hx;cases hx
  | some k=>
  rw[hx']at hx;cases hx;have hi:=(eq.mp hx').1;have hk:nmOk k:=hkn k (hperm.mem_iff.mp (eI hx'));have nk:∀ v∈(sk.take i).flatMap (bK T' U' ms),v.1≠k:=λv hv z=>by
   obtain⟨k',h1,h2⟩:=List.mem_flatMap.mp hv;have h3:=(bK_w so h2).1;have h4:(sk.take (i+1)).Nodup:=snd.sublist (gI _ _);rw[take_snoc hx',fO]at h4;exact h4.2.2 k' h1 k (by simp) (by rw[<- h3];exact z)
  have Al:((sk.take i).flatMap (bK T' U' ms)).length≤20*254:=by
   have h1:=b2J (T:=T') (U:=U') (ms:=ms) (sk:=sk.take i);have h2:(sk.take i).length≤20:=by rw[eG];omega
   exact eD h1 (jV h2 hml)
  have tkf:(sk.take (i+1)).flatMap (bK T' U' ms)=(sk.take i).flatMap (bK T' U' ms)++(join (pcs (bF T' U' k) ms)).map λr=>(k,r):=by
   rw[take_snoc hx',jW];simp[bK]
  generalize (sk.take i).flatMap (bK T' U' ms)=B at fo gf nk Al tkf;have s6:Sm G G6:=λb o e=>kq b o (s5 _ _ e) (a0u e hfG);have gpt6:=kq _ _ gpt5 npf;refine⟨_,rfl,?_⟩;walk_at "go";refine a7w gpt6 ?_;walk_at "go";rw[dQ];refine⟨by omega,by omega,?_⟩;rw[show ((ms.length:Int)).toNat=ms.length by omega];refine a1D (λj σ G'=>Ex6 λ(ps:List Rw) (v2 v3 v4 v5 v6:Option Z)=>ps++pcs (bF T' U' k) (ms.drop j)=pcs (bF T' U' k) ms/\(∀ w∈ps,w.w.all (flat 0)=true)/\ps.length≤j/\Kq f G6 G'/\G' f=some (.lst ((B++(join ps).map λr=>(k,r)).map a2r))/\σ=[some (.ref p),some (.ref r),some (.ref ks),some (.ref pt),some (.ref f),some (.str k),v2,v3,v4,v5,v6]) ⟨[],_,_,_,_,_,rfl,(λw h=>by simp at h),by simp,λ_ _ e _=>e,by simpa[join]using gf,rfl⟩ (λ_ _ _ _ _=>True.intro) ?_ ?_
  ·rintro j x σ G7 hx ⟨ps,v2,v3,v4,v5,v6,hps,hpw,hpl,kq7,gf7,rfl⟩;obtain⟨hj,rfl⟩:=a4g hx;rw[Int.zero_add];have hm:ms[j]?=some ms[j]:=et hj;generalize ms[j]=m at hm;have am:atI (ms.map Z.int) (j:Int)=some (.int m):=a1O (by rw[er,hm];rfl);have pa:=b9b (f:=bF T' U' k) hm;have jl:=b4a ps;have gpt7:=kq7 _ _ gpt6 npf;have gp7:=kq7 _ _ (s6 _ _ gp) (a0u gp hfG);refine⟨_,rfl,?_⟩;walk_at "go";refine a1f gpt7 am ?_;walk_at "go";refine⟨p,T',k,m,rfl,gp7,λG8 s8=>?_⟩;walk_at "go";refine a1f (s8 _ _ gpt7) am ?_;walk_at "go";refine⟨r,U',k,m,rfl,s8 _ _ (kq7 _ _ (s6 _ _ gr) (a0u gr hfG)),λG9 s9=>?_⟩;have fx:flat 0 (a0J (a0M T' k) m)=true:=a4H (a6p okT) _;have fy:flat 0 (a0J (a0M U' k) m)=true:=a4H (a6p okU) _;have eB:bF T' U' k m=if a0J (a0M T' k) m=.non\/a0J (a0M U' k) m=.non then none else some [a0J (a0M T' k) m,a0J (a0M U' k) m]:=rfl
   generalize a0J (a0M T' k) m=x at fx eB;generalize a0J (a0M U' k) m=y at fy eB;have s79:=s8.trans s9;walk_at "go";refine⟨lenK rfl,λn0 hn0=>?_⟩;have s10:=s79.trans (Sm.new (o:=.lst [.non]) hn0);refine a7v (s10 _ _ gpt7) a0e (a1X (by simp;omega)) λn1 hn1=>?_;have s11:=s10.trans (Sm.new (o:=.lst (ms.map Z.int++[.non])) hn1);have gn:put (put G9 n0 (.lst [.non])) n1 (.lst (ms.map Z.int++[.non])) n1=some (.lst (ms.map Z.int++[.non])):=a0e;generalize put (put G9 n0 (.lst [.non])) n1 (.lst (ms.map Z.int++[.non]))=G11 at s11 gn ⊢;walk_at "go";refine a1f gn (b9c hj) ?_;clear gn s10 s8 s9 s79 gp7 hn0 hn1;have gf11:=s11 _ _ gf7;have gpt11:=s11 _ _ gpt7;have kq11:Kq f G6 G11:=λb o e nb=>s11 _ _ (kq7 b o e nb);have hfne:∀ G',Kq f G6 G'->Sm G G':=λG' kk b o e=>kk b o (s6 _ _ e) (a0u e hfG);walk_at "go"
   by_cases cx:x=.non
   ·subst cx;walk_at "go";rw[eB,if_pos (.inl rfl)]at pa;exact⟨ps,_,_,_,_,_,by rw[<- hps,pa];rfl,hpw,by omega,kq11,gf11,rfl⟩
   refine ifN (λ_=>?_) λz=>absurd z cx;walk_at "go"
   by_cases cy:y=.non
   ·subst cy;walk_at "go";rw[eB,if_pos (.inr rfl)]at pa;exact⟨ps,_,_,_,_,_,by rw[<- hps,pa];rfl,hpw,by omega,kq11,gf11,rfl⟩
   refine ifN (λ_=>?_) λz=>absurd z cy;rw[eB,if_neg (by rw[not_or];exact⟨cx,cy⟩)]at pa;have jw:∀ w∈join ps,w.w.all (flat 0)=true:=λw hw=>by
    have key:∀ (qs told:List Rw),(∀ r∈told,r.w.all (flat 0)=true)->(∀ r∈qs,r.w.all (flat 0)=true)->∀ r∈qs.foldl jn told,r.w.all (flat 0)=true:=by
     intro qs
     induction qs with
     | nil=>exact λ_ h _=>h
     | cons z qs ih=>
      intro told ht hqs;refine ih (jn told z) (λr hr=>?_) λr hr=>hqs r (.tail _ hr)
      have:=hqs z (.head _)
      unfold jn at hr
      split at hr
      ·split at hr
       ·rcases dU.mp hr with hr | hr
        ·exact ht r (iU _ hr)
        ·rw[dX.mp hr];exact this
       ·rcases dU.mp hr with hr | hr
        ·exact ht r hr
        ·rw[dX.mp hr];exact this
      ·rcases dU.mp hr with hr | hr
       ·exact ht r hr
       ·rw[dX.mp hr];exact this
    exact key ps [] (λr hr=>by simp at hr) hpw w hw
   have fo7:FiveOk (B++(join ps).map λr=>(k,r)):=λv hv=>by
    rcases dU.mp hv with hv | hv
    ·exact fo v hv
    ·obtain⟨w,hw,rfl⟩:=eK.mp hv;exact⟨hk,jw w hw⟩
   have len7:(B++(join ps).map λr=>(k,r)).length≤6000:=by
    rw[dW,dQ];omega
   walk_at "go";refine a1f gpt11 am ?_;walk_at "go";refine⟨lenK rfl,?_⟩;walk_at "go";refine a6I (fun σ' G'=>∃ (F:List (Str×Rw)) (b:Int),F++[(k,⟨b,ms[j+1]?,[x,y]⟩)]=B++(jn (join ps) ⟨m,ms[j+1]?,[x,y]⟩).map (λr=>(k,r))/\F.length≤6000/\Kq f G6 G'/\G' f=some (.lst (F.map a2r))/\σ'=[some (.ref p),some (.ref r),some (.ref ks),some (.ref pt),some (.ref f),some (.str k),some (.int (j:Int)),some x,some y,some (oz ms[j+1]?),some (.tup [.str k,.int b,oz ms[j+1]?,x,y])]) ?_ ?_
   ·walk_at "go";refine⟨lenK rfl,λn2 hn2=>?_⟩;have s12:Sm G11 (put G11 n2 (.lst [])):=Sm.new hn2;have gn2:put G11 n2 (.lst []) n2=some (.lst []):=a0e;generalize put G11 n2 (.lst [])=G12 at s12 gn2 ⊢;have gf12:=s12 _ _ gf11;have gpt12:=s12 _ _ gpt11;have kq12:Kq f G6 G12:=λb o e nb=>s12 _ _ (kq11 b o e nb);refine b5u gf12 gn2 (a8k fo7) rfl ?_;have app:jn (join ps) ⟨m,ms[j+1]?,[x,y]⟩=join ps++[⟨m,ms[j+1]?,[x,y]⟩]->∃ (F:List (Str×Rw)) (b:Int),F++[(k,⟨b,ms[j+1]?,[x,y]⟩)]=B++(jn (join ps) ⟨m,ms[j+1]?,[x,y]⟩).map (λr=>(k,r))/\F.length≤6000/\Kq f G6 G12/\G12 f=some (.lst (F.map a2r))/\[some (Z.ref p),some (.ref r),some (.ref ks),some (.ref pt),some (.ref f),some (.str k),some (.int (j:Int)),some x,some y,some (oz ms[j+1]?),some (.tup [.str k,.int m,oz ms[j+1]?,x,y])]=[some (.ref p),some (.ref r),some (.ref ks),some (.ref pt),some (.ref f),some (.str k),some (.int (j:Int)),some x,some y,some (oz ms[j+1]?),some (.tup [.str k,.int b,oz ms[j+1]?,x,y])]:=λe=>⟨_,m,by rw[e];simp,len7,kq12,gf12,rfl⟩;cases hgl:(B++(join ps).map λr=>(k,r)).getLast? with
    | none=>
     have e0:=iu.mp hgl;have ej:join ps=[]:=by have:=List.append_eq_nil_iff.mp e0;simpa using this.2
     rw[show decide ((B++(join ps).map λr=>(k,r)).map a2r=[])=true from decide_eq_true (by rw[e0];rfl)];walk_at "go";refine ifF ?_;walk_at "go";exact app (by rw[ej];rfl)
    | some v=>
     have hne:(B++(join ps).map λr=>(k,r))≠[]:=λz=>by rw[z]at hgl;cases hgl
     rw[show decide ((B++(join ps).map λr=>(k,r)).map a2r=[])=false from decide_eq_false (by simpa using hne)];have al:atI ((B++(join ps).map λr=>(k,r)).map a2r) (-1)=some (a2r v):=a4r (by rw[iy,hgl];rfl);have hcase:=b4g hgl;walk_at "go";refine ifT ?_;walk_at "go";refine a1f gf12 al ?_;unfold a2r;walk_at "go";rcases hcase with ⟨ej,hv⟩ | ⟨w,hw,rfl⟩
     ·refine ifD (λz=>absurd z (nk v hv)) λ_=>?_;walk_at "go";exact app (by rw[ej];rfl)
     ·refine ifD (λ_=>?_) λz=>absurd rfl z;walk_at "go";refine a1f gf12 al ?_;unfold a2r;walk_at "go";refine b3R ?_;walk_at "go";refine a1f gpt12 am ?_;walk_at "go";refine⟨lenK rfl,?_⟩;have mw:=iV hw;refine b8U ?_ ?_ ?_
      ·show (oz w.e::w.w).all (flat 7)=true
       rw[eU,b2k,a6Z (by decide) (jw w mw)];rfl
      ·show ([.int m,x,y].all (flat 7))=true
       rw[eU,eU,eU,a60,a1Y (by decide) fx,a1Y (by decide) fy];rfl
      have ejn:=b6p (p:=⟨m,ms[j+1]?,[x,y]⟩) hw;walk_at "go";refine ifD (λce=>?_) λce=>?_
      ·have e1:w.e=some m/\w.w=[x,y]:=by
        injection ce with h1 h2
        exact⟨b8R (y:=some m) h1,h2⟩
       rw[if_pos e1]at ejn;walk_at "go";refine a2o gf12 ?_;refine c0B gf12 (y:=a2r (k,w)) (by rw[iy,hgl];rfl) ?_;unfold a2r;walk_at "go";refine⟨lenK rfl,?_⟩;walk_at "go";have hjne:join ps≠[]:=λz=>by rw[z]at hw;cases hw
       refine⟨B++((join ps).dropLast).map (λr=>(k,r)),w.b,by rw[ejn];simp,by rw[dW,dQ,jj];rw[dW,dQ]at len7;omega,λb o e nb=>by rw[a0A nb];exact kq12 b o e nb,?_,rfl⟩;rw[a0e]
       congr 2
       rw[<- iW]
       congr 1
       rw[List.dropLast_append_of_ne_nil (by simpa using hjne),iW]
      ·have e1:¬ (w.e=some m/\w.w=[x,y]):=λz=>ce (by rw[z.1,z.2]);rw[if_neg e1]at ejn;walk_at "go";exact app ejn
   ·rintro σ' G13 ⟨F,b,hF,hFl,kq13,gf13,rfl⟩;walk_at "go";refine a2o gf13 ?_;walk_at "go";refine a00 gf13 (by rw[dQ];exact ie hFl (by decide)) ?_;refine⟨ps++[⟨m,ms[j+1]?,[x,y]⟩],_,_,_,_,_,by rw[<- hps,pa,eO],λw hw=>?_,by rw[dW];simp;omega,λb o e nb=>by rw[a0A nb];exact kq13 b o e nb,?_,rfl⟩
    ·rcases dU.mp hw with hw | hw
     ·exact hpw w hw
     ·rw[dX.mp hw]
      show ([x,y].all (flat 0))=true
      rw[eU,eU,fx,fy];rfl
    ·rw[a0e,b2I,<- hF,eA];rfl
  ·rintro σ G7 ⟨ps,v2,v3,v4,v5,v6,hps,hpw,hpl,kq7,gf7,rfl⟩;rw[a2m,jS,show pcs (bF T' U' k) []=[] from rfl,eL]at hps;subst hps;walk_at "go";refine⟨_,_,_,_,_,_,?_,λb o e nb=>kq7 b o (kq b o e nb) nb,by rw[tkf];exact gf7,rfl⟩;rw[tkf];intro v hv;rcases dU.mp hv with hv | hv
   ·exact fo v hv
   ·obtain⟨w,hw,rfl⟩:=eK.mp hv;obtain⟨w',h2,h3⟩:=(a2X (a2b (bF T' U' k) so)).2.2.2 w hw;exact⟨hk,by rw[h3];exact hpw w' h2⟩
 ·rintro σ G6 ⟨v1,v2,v3,v4,v5,v6,fo,kq,gf,rfl⟩;rw[dQ,fF]at fo gf;walk_at "go";exact fin f ms sk G6 hfG (λb o e=>kq b o (s5 _ _ e) (a0u e hfG)) P Q hperm hsort fo gf
theorem a9T {α:Type}{xs:List α}{q:Int}(h0:0≤q) (h1:q≤xs.length):cutZ xs none (some q)=xs.take q.toNat:=by
 obtain⟨j,rfl⟩:=fZ h0;have a:j≤xs.length:=by omega
 unfold cutZ;rw[HT.sIx_none,HT.sIx_nat];simp[Nat.min_eq_left a]
theorem b4h {K:Fg}{C:Addr}:PySem.W.kitOne K (.ref C) (.ref C)=some true:=by
 unfold PySem.W.kitOne;rw[if_pos (by simp)]
structure TwoIn (a:Ad) (G:Hq) (p r:Addr) (S V:Addr->Prop) (T U:List Tl):Prop where
 sp:Sheet a.c_Sheet G p S T
 sr:Sheet a.c_Sheet G r V U
 okT:OkT T
 okU:OkT U
 fewT:Few T
 fewU:Few U
 lT:T.length≤63
 lU:U.length≤63
theorem TwoIn.keep {a:Ad}{G G':Hq}{p r:Addr}{S V:Addr->Prop}{T U:List Tl}(h:TwoIn a G p r S V T U) (s:Sm G G'):TwoIn a G' p r S V T U:=⟨h.sp.keep (Sm.ks s),h.sr.keep (Sm.ks s),h.okT,h.okU,h.fewT,h.fewU,h.lT,h.lU⟩
theorem TwoIn.swap {a:Ad}{G:Hq}{p r:Addr}{S V:Addr->Prop}{T U:List Tl}(h:TwoIn a G p r S V T U):TwoIn a G r p V S U T:=⟨h.sr,h.sp,h.okU,h.okT,h.fewU,h.fewT,h.lU,h.lT⟩
theorem TwoIn.one {a:Ad}{G:Hq}{p r:Addr}{S V:Addr->Prop}{T U:List Tl}(h:TwoIn a G p r S V T U):TwoIn a G p p S S T T:=⟨h.sp,h.sp,h.okT,h.okT,h.fewT,h.fewT,h.lT,h.lT⟩
def a9U (a:Ad):P3:=λws G R=>Ex15 λ(sA tA kA ks p r tp tr:Addr) (S V:Addr->Prop) (T U:List Tl) (q u:Int) (kn:List Str)=>ws=[.ref sA,.ref tA,.ref kA,.ref ks]/\G sA=some (.lst [.ref p,.ref r])/\G tA=some (.lst [.ref tp,.ref tr])/\G kA=some (.lst [.int q,.int u])/\G ks=some (.lst (kn.map Z.str))/\G tp=some (.lst (T.map Tl.z))/\G tr=some (.lst (U.map Tl.z))/\TwoIn a G p r S V T U/\kn.length≤20/\(∀ s∈kn,nmOk s)/\kn.Nodup/\(∀ τ∈T,τ.key∈kn)/\inR T q/\inR U u/\∀ G',Sm G G'->R (.bl true) G'
theorem b2M {a:Ad}{ws:List Z}{G:Hq}{R:K3}(h:a9U a ws G R):ws.length=4:=by obtain⟨_,_,_,_,_,_,_,_,_,_,_,_,_,_,_,rfl,_⟩:=h;rfl
theorem b4i (F:Fns K a) (T:Txt K mg a):FnOk P w K mg base CX0 6 a.f33 a.d33 ["sheets","tellings","knowings","keys"] (lowP K (a9U a)):=by
 have G_due:=b9g (P:=P) (w:=w) (base:=base) F T;have G_p_by_key:=a5M (P:=P) (w:=w) (base:=base) F T;refine fn3 F.n33 sc_right (λws G R h=>(by exact b2M h)) (λcdv A outer s H E ws G R hr h=>?_);have hu:=a03 hr;refine⟨_,(a0m (z_set (i:=4) sc_right.nd rfl (dR rfl) (a0s G_due (hr.mono (by decide)) rfl T.m32 F.n32.kp (b8P F) (a0b (a1Q x_sl (q_ix x_ix (a0c (pv 1)) a0g (λ_ _=>rfl)) a1K (a2k (q_ix x_ix (a0c (pv 2)) a0g (λ_ _=>rfl)))) (a0b (a1Q x_sl (q_ix x_ix (a0c (pv 1)) a0g (λ_ _=>rfl)) a1K (a2k (q_ix x_ix (a0c (pv 2)) a0g (λ_ _=>rfl)))) (a0b (a0c (pv 3)) a0h a0a) a0d) a0d) (he:=a0d) (hpl:=(a0j a0d (a0j a0a a0k)))))
  (a0m (z_set (i:=5) sc_right.nd rfl (dR rfl) (a2B a5q up0 G_p_by_key (hr.mono (by decide)) rfl T.m19 F.n19.kp (a3A F) (a0b (q_ix x_ix (a0c (pv 0)) a0g (λ_ _=>rfl)) (a0b (q_ix x_ix (a0c (pv 2)) a0g (λ_ _=>rfl)) (a0b (q_ix x_ix (a0c (pv 0)) a0g (λ_ _=>rfl)) (a0b (q_ix x_ix (a0c (pv 2)) a0g (λ_ _=>rfl)) a0h a0d) a0d) a0d) a0d) (he:=a0d) (hpl:=(a0j a0d (a0j a0d (a0j a0d a0k))))))
  (a0m (z_if (QW.qt (q_or (a2S (a3b (a0B a8v rfl T.b_isinstance rfl (a0b (a0c (pv 5)) (a0b (q_ty (a2O (v:=.ty "list") rfl T.b_list rfl rfl)) a0h a0a) a0a) (he:=a0a) (hpl:=(a0j a0a a0k))))) (a5h (a0v (o_ne hu) (a0c (pv 5)) (a0c (pv 4)) (a0p _)))))
  (a0n (a0I q_bl))
  a0V)
  (a0m (a3q (pt:=(.nm 6)) kj.never rfl (a02 (a0c (pv 5))) (show QP _ _ (.nm 6) from (a0o (i:=6) sc_right.nd rfl (dR rfl)))
  (a0n (z_if (QW.qt (q_or (a2S (a3b (a0B a8v rfl T.b_isinstance rfl (a0b (a0c (pv 6)) (a0b (q_ty (a2O (v:=.ty "tuple") rfl T.b_tuple rfl rfl)) a0h a0a) a0a) (he:=a0a) (hpl:=(a0j a0a a0k))))) (q_or (a3b (a0B a8v rfl T.b_isinstance rfl (a0b (q_ix x_ix (a0c (pv 6)) a0g (λ_ _=>rfl)) (a0b (q_ty (a2O (v:=.ty "bool") rfl T.b_bool rfl rfl)) a0h a0a) a0d) (he:=a0d) (hpl:=(a0j a0a a0k)))) (a5h (a3b (a0B a8v rfl T.b_isinstance rfl (a0b (q_ix x_ix (a0c (pv 6)) a0g (λ_ _=>rfl)) (a0b (q_ty (a2O (v:=.ty "bool") rfl T.b_bool rfl rfl)) a0h a0a) a0d) (he:=a0d) (hpl:=(a0j a0a a0k))))))))
  (a0n (a0I q_bl))
  a0V)))
  (a0m (a01 (b7w PySem.F.plainAttrs_list PySem.F.slot_list_clear PySem.F.type_list_clear b5s (a0c (pv 5))))
  (a0n (a0I (a7q (o_eq hu) (a2B a5q up0 G_p_by_key (hr.mono (by decide)) rfl T.m19 F.n19.kp (a3A F) (a0b (q_ix x_ix (a0c (pv 0)) a0g (λ_ _=>rfl)) (a0b (q_ix x_ix (a0c (pv 2)) a0g (λ_ _=>rfl)) (a0b (q_ix x_ix (a0c (pv 0)) a0g (λ_ _=>rfl)) (a0b (q_ix x_ix (a0c (pv 2)) a0g (λ_ _=>rfl)) a0h a0d) a0d) a0d) a0d) (he:=a0d) (hpl:=(a0j a0d (a0j a0d (a0j a0d a0k))))) (a0c (pv 4)) (a0p _))))))))),?_⟩
 obtain⟨sA,tA,kA,ks,p,r,tp,tr,S,V,T',U',q,u,kn,rfl,gs,gt,gk,gks,gtp,gtr,I,hkl,hkn,knd,km,hq,hu,fin⟩:=h;walk_at "go";refine b5v gtp λt1 ht1=>?_;have e1:put G t1 (.lst (cutZ (T'.map Tl.z) none (some q))) t1=some (.lst ((T'.take q.toNat).map Tl.z)):=by rw[a0e,a9T hq.1 (by rw[dQ];exact hq.2),iC]
 have s1:Sm G (put G t1 (.lst (cutZ (T'.map Tl.z) none (some q)))):=Sm.new ht1;generalize put G t1 (.lst (cutZ (T'.map Tl.z) none (some q)))=G1 at e1 s1 ⊢;have gt1:=s1 _ _ gt;have gk1:=s1 _ _ gk;walk_at "go";refine b5v (s1 _ _ gtr) λt2 ht2=>?_;have e2:put G1 t2 (.lst (cutZ (U'.map Tl.z) none (some u))) t2=some (.lst ((U'.take u.toNat).map Tl.z)):=by rw[a0e,a9T hu.1 (by rw[dQ];exact hu.2),iC]
 have s2:Sm G1 (put G1 t2 (.lst (cutZ (U'.map Tl.z) none (some u)))):=Sm.new ht2;generalize put G1 t2 (.lst (cutZ (U'.map Tl.z) none (some u)))=G2 at e2 s2 ⊢;have s02:=s1.trans s2;have okT:OkT (T'.take q.toNat):=fun τ h=>I.okT τ (fB h);have okU:OkT (U'.take u.toNat):=fun τ h=>I.okU τ (fB h);have kmT:∀ τ∈T'.take q.toNat,τ.key∈kn:=fun τ h=>km τ (fB h);have lT:=I.lT;have lU:=I.lU;walk_at "go";refine⟨t1,t2,ks,_,_,kn,rfl,s2 _ _ e1,e2,s02 _ _ gks,hkl,hkn,knd,okT,okU,by rw[eG];omega,by rw[eG];omega,λd ms sk G3 hd s3 P Q hperm hsort fo gd=>?_⟩;have fl:=a8k fo;have s03:=s02.trans s3;have I3:=I.keep s03;have gs3:=s03 _ _ gs;have gk3:=s03 _ _ gk;clear e1 e2 s1 s2 s3 ht1 ht2 gt1 gk1 hd;walk_at "go";refine⟨p,r,S,V,T',U',q,u,rfl,I3.sp,I3.sr,I3.okT,I3.okU,I3.fewT,I3.fewU,I3.lT,I3.lU,.inl ⟨hq,hu,λf ts vs G4 hf s4 ka hts hvs gf=>?_⟩⟩;have ev:vs=sk.flatMap (bK (T'.take q.toNat) (U'.take u.toNat) ms):=(hvs ms P Q).trans (b9e okT kmT knd hperm hsort ka);have nfd:f≠d:=λz=>by rw[z,gd]at hf;cases hf
 rw[ev]at gf;have gd4:=s4 _ _ gd;walk_at "go";refine b1K (n:="list") (b:=true) (by simp[tyN,gf]) (by decide +kernel) ?_;walk_at "go";refine ifF ?_;walk_at "go";refine b5u gf gd4 fl fl ?_;walk_at "go";refine ifN (λz=>absurd rfl z) λ_=>?_;walk_at "go";refine a3c gf ?_;refine a1D (λi σ G'=>∃ v:Option Z,G'=G4/\σ=[some (.ref sA),some (.ref tA),some (.ref kA),some (.ref ks),some (.ref d),some (.ref f),v]) ⟨_,rfl,rfl⟩ (by rintro i σ G' _ ⟨_,rfl,_⟩;exact gf) ?_ ?_
 ·rintro i x σ G' hx ⟨v,rfl,rfl⟩;rw[er]at hx;cases hx':(sk.flatMap (bK (T'.take q.toNat) (U'.take u.toNat) ms))[i]? with
  | none=>rw[hx']at hx;cases hx
  | some w=>
  rw[hx']at hx;cases hx;refine⟨_,rfl,?_⟩;unfold a2r;walk_at "go";refine b1K (n:="tuple") (b:=true) rfl (by decide +kernel) ?_;walk_at "go";refine ifF ?_;walk_at "go";refine b1K (n:="int") (b:=false) rfl rfl ?_;walk_at "go";cases w.2.e with
  | none=>
   refine b1K (n:="NoneType") (b:=false) rfl (by decide +kernel) ?_;walk_at "go";exact⟨_,rfl,rfl⟩
  | some e=>
   refine b1K (n:="int") (b:=false) rfl rfl ?_;walk_at "go";exact⟨_,rfl,rfl⟩
 ·rintro σ G' ⟨v,rfl,rfl⟩;walk_at "go";refine a2o gf ?_;refine⟨_,gf,?_⟩;have s5:Sm G (put G' f (.lst [])):=(s03.trans s4).put (s03.free hf);have gd5:put G' f (.lst []) d=some (.lst ((sk.flatMap (bK (T'.take q.toNat) (U'.take u.toNat) ms)).map a2r)):=by rw[a0A (Ne.symm nfd)];exact gd4
  have I5:=I.keep s5;have gs5:=s5 _ _ gs;have gk5:=s5 _ _ gk;generalize put G' f (.lst [])=G5 at s5 gd5 I5 gs5 gk5 ⊢;walk_at "go";refine⟨p,r,S,V,T',U',q,u,rfl,I5.sp,I5.sr,I5.okT,I5.okU,I5.fewT,I5.fewU,I5.lT,I5.lU,.inl ⟨hq,hu,λf2 ts2 vs2 G6 hf2 s6 ka2 hts2 hvs2 gf2=>?_⟩⟩;have ev2:vs2=sk.flatMap (bK (T'.take q.toNat) (U'.take u.toNat) ms):=(hvs2 ms P Q).trans (b9e okT kmT knd hperm hsort ka2);rw[ev2]at gf2;walk_at "go";refine b5u gf2 (s6 _ _ gd5) fl fl ?_;rw[decide_eq_true rfl];exact fin G6 (s5.trans s6)
def a6v (a:Ad):P3:=λws G R=>Ex10 λ(sA kA p r:Addr) (S V:Addr->Prop) (T U:List Tl) (q u:Int)=>ws=[.ref sA,.ref kA]/\G sA=some (.lst [.ref p,.ref r])/\G kA=some (.lst [.int q,.int u])/\TwoIn a G p r S V T U/\¬ (inR T q/\inR U u)/\∀ G',Sm G G'->R (.bl true) G'
theorem a8V {a:Ad}{ws:List Z}{G:Hq}{R:K3}(h:a6v a ws G R):ws.length=2:=by obtain⟨_,_,_,_,_,_,_,_,_,_,rfl,_⟩:=h;rfl
theorem b0F (F:Fns K a) (T:Txt K mg a):FnOk P w K mg base CX0 6 a.f34 a.d34 ["sheets","knowings"] (lowP K (a6v a)):=by
 have G_p_by_key:=a5M (P:=P) (w:=w) (base:=base) F T;refine fn3 F.n34 sc_refused (λws G R h=>(by exact a8V h)) (λcdv A outer s H E ws G R hr h=>?_);have hu:=a03 hr;refine⟨_,(a0m (z_set (i:=2) sc_refused.nd rfl (dR rfl) q_bl)
  (a0m (z_set (i:=3) sc_refused.nd rfl (dR rfl) q_bl)
  (a0m (b8K (i:=4) (λC=>C=a.x_NoKnowing) rfl rfl rfl G_p_by_key (hr.mono (by decide)) rfl T.m19 F.n19.kp (a3A F) (a0b (q_ix x_ix (a0c (pv 0)) a0g (λ_ _=>rfl)) (a0b (q_ix x_ix (a0c (pv 1)) a0g (λ_ _=>rfl)) (a0b (q_ix x_ix (a0c (pv 0)) a0g (λ_ _=>rfl)) (a0b (q_ix x_ix (a0c (pv 1)) a0g (λ_ _=>rfl)) a0h a0d) a0d) a0d) a0d) rfl T.x_TimesError (λC hC=>(by rcases hC with rfl;exact T.xm_NoKnowing_TimesError)) sc_refused.nd rfl rfl (λC ex oe hC hx1 hx2 hx3=>(a0m (z_set (i:=2) sc_refused.nd rfl (dR rfl) (a7r (a0B (b5V hx1 hx2 hx3 (by rcases hC with rfl;exact T.xk_NoKnowing)) rfl T.b_isinstance rfl (a0b (a0c (pv 4)) (a0b (a3R (a1N rfl T.x_NoKnowing)) a0h a0a) a0a) (he:=a0a) (hpl:=(a0j a0a a0k))) (a97 (a0B (b5V hx1 hx2 hx3 (by rcases hC with rfl;exact T.xk_NoKnowing)) rfl T.b_isinstance rfl (a0b (a0c (pv 4)) (a0b (q_ty (a2O (v:=.ty "ValueError") rfl T.b_ValueError rfl rfl)) a0h a0a) a0a) (he:=a0a) (hpl:=(a0j a0a a0k))))))
  (a0n (z_set (i:=3) sc_refused.nd rfl (dR rfl) (a0B (b5V hx1 hx2 hx3 (by rcases hC with rfl;exact T.xk_NoKnowing)) rfl T.b_isinstance rfl (a0b (a0c (pv 4)) (a0b (a2l (a0b (a3R (a1N rfl T.x_Broken)) (a0b (a3R (a1N rfl T.x_Forgotten)) (a0b (a3R (a1N rfl T.x_NoFit)) (a0b (a3R (a1N rfl T.x_NoLog)) (a0b (a3R (a1N rfl T.x_NoName)) (a0b (a3R (a1N rfl T.x_NoRow)) (a0b (a3R (a1N rfl T.x_NoSheet)) (a0b (a3R (a1N rfl T.x_NoStretch)) a0h a0a) a0a) a0a) a0a) a0a) a0a) a0a) a0a)) a0h a22) a0a) (he:=a0a) (hpl:=(a0j a22 a0k))))))) (he:=a0d) (hpl:=(a0j a0d (a0j a0d (a0j a0d a0k)))))
  (a0n (a0I (a7r (a0c (pv 2)) (a97 (b9K (a0c (pv 3)))))))))),?_⟩
 obtain⟨sA,kA,p,r,S,V,T',U',q,u,rfl,gs,gk,I,no,fin⟩:=h;walk_at "go";refine b8L ?_;walk_at "go";refine⟨p,r,S,V,T',U',q,u,rfl,I.sp,I.sr,I.okT,I.okU,I.fewT,I.fewU,I.lT,I.lU,.inr ⟨no,λG1 s1=>⟨rfl,λe=>?_⟩⟩⟩;walk_at "go";refine⟨_,true,rfl,.inl ⟨_,rfl,b4h⟩,?_⟩;walk_at "go";refine⟨_,true,rfl,.inr (.inl ⟨_,rfl,T.kt_NoKnowing_ValueError⟩),?_⟩;walk_at "go";refine⟨lenK rfl,?_⟩;refine⟨_,false,rfl,.inr (.inr ⟨[a.x_Broken,a.x_Forgotten,a.x_NoFit,a.x_NoLog,a.x_NoName,a.x_NoRow,a.x_NoSheet,a.x_NoStretch],rfl,T.ka_NoKnowing_0⟩),?_⟩;walk_at "go";exact fin G1 s1
structure LSt (a:Ad) (kn:List Str) (B:Hq) (Own:Addr->Prop) (p r t0 t1:Addr) (G:Hq) (S V:Addr->Prop) (T U:List Tl):Prop where
 sp:Sheet a.c_Sheet G p S T
 sr:Sheet a.c_Sheet G r V U
 dj:∀ x,S x->¬ V x
 hS:∀ x,S x->Own x\/B x=none
 hV:∀ x,V x->Own x\/B x=none
 kp:∀ x o,B x=some o->¬ Own x->G x=some o
 g0:G t0=some (.lst (T.map Tl.z))
 g1:G t1=some (.lst (U.map Tl.z))
 n0:¬ S t0/\¬ V t0/\Own t0
 n1:¬ S t1/\¬ V t1/\Own t1
 ne:t0≠t1
 okT:OkT T
 okU:OkT U
 kT:∀ τ∈T,τ.key∈kn
 kU:∀ τ∈U,τ.key∈kn
theorem LSt.swap {a:Ad}{kn:List Str}{B:Hq}{Own:Addr->Prop}{p r t0 t1:Addr}{G:Hq}{S V:Addr->Prop}{T U:List Tl}(L:LSt a kn B Own p r t0 t1 G S V T U):LSt a kn B Own r p t1 t0 G V S U T:=
 ⟨L.sr,L.sp,λx h q=>L.dj x q h,L.hV,L.hS,L.kp,L.g1,L.g0,⟨L.n1.2.1,L.n1.1,L.n1.2.2⟩,⟨L.n0.2.1,L.n0.1,L.n0.2.2⟩,Ne.symm L.ne,L.okU,L.okT,L.kU,L.kT⟩
theorem LSt.pt {a:Ad}{kn:List Str}{B:Hq}{Own:Addr->Prop}{p r t0 t1:Addr}{G Ga:Hq}{S V:Addr->Prop}{T U:List Tl}{o:O}(L:LSt a kn B Own p r t0 t1 G S V T U) (s:Sm G Ga):Sheet a.c_Sheet (put Ga t0 o) p S T/\Sheet a.c_Sheet (put Ga t0 o) r V U/\(∀ x o',B x=some o'->¬ Own x->put Ga t0 o x=some o'):=
 ⟨L.sp.keep λb o c e=>by rw[a0A λz=>L.n0.1 (by simp_all)];exact s _ _ e,L.sr.keep λb o c e=>by rw[a0A λz=>L.n0.2.1 (by simp_all)];exact s _ _ e,λx d e n=>by rw[a0A λz=>n (by rw[z];exact L.n0.2.2)];exact s _ _ (L.kp x d e n)⟩
theorem LSt.told {a:Ad}{kn:List Str}{B:Hq}{Own:Addr->Prop}{p r t0 t1:Addr}{G Ga Gb:Hq}{S S' V:Addr->Prop}{T U:List Tl}{τ:Tl}(L:LSt a kn B Own p r t0 t1 G S V T U) (s:Sm G Ga) (okτ:τ.Ok) (mk:τ.key∈kn)
  (i2:∀ b,S' b->S b\/put Ga t0 (.lst (T.map Tl.z++[τ.z])) b=none) (knb:KN S (put Ga t0 (.lst (T.map Tl.z++[τ.z]))) Gb) (sh:Sheet a.c_Sheet Gb p S' (T++[τ])):LSt a kn B Own p r t0 t1 Gb S' V (T++[τ]) U:=by
 obtain⟨_,i,d⟩:=L.pt s;have j:put Ga t0 (.lst (T.map Tl.z++[τ.z])) t1=some (.lst (U.map Tl.z)):=by rw[a0A (Ne.symm L.ne)];exact s _ _ L.g1
 have f:∀ {x o},put Ga t0 (.lst (T.map Tl.z++[τ.z])) x=some o->¬ S x->¬ S' x:=λ{x o} e n z=>by
  rcases i2 x z with w | w
  ·grind
  ·simp_all
 refine⟨sh,i.keep λb o k e=>knb b o (λz=>L.dj b z k) e,λx l g=>?_,λx h=>?_,L.hV,λx o e n=>knb x o (λz=>?_) (d x o e n),?_,knb _ _ L.n1.1 j,⟨f a0e L.n0.1,L.n0.2⟩,⟨f j L.n1.1,L.n1.2⟩,L.ne,λu c=>?_,L.okU,λu c=>?_,L.kU⟩
 ·rcases i2 x l with w | w
  ·exact L.dj x w g
  ·exact i.out w g
 ·rcases i2 x h with w | w
  ·exact L.hS x w
  ·by_cases n:Own x
   ·simp_all
   ·right
    cases e:B x with
    | none=>rfl
    | some o=>rw[d x o e n]at w;cases w
 ·rcases L.hS x z with w | w
  ·exact n w
  ·grind
 ·rw[knb _ _ L.n0.1 a0e,eA];rfl
 ·rcases dU.mp c with c | c
  ·exact L.okT u c
  ·simp_all
 ·rcases dU.mp c with c | c
  ·exact L.kT u c
  ·simp_all
theorem b4S {L x m:Int}(h:0≤L) (e:m=if L+1<9 then L+1 else 9):0<m/\0≤L - x % m/\L - x % m≤L:=by
 have a:0<m/\m≤L+1:=by grind
 have b:=fc x (show m≠0 by omega);have c:=fg x a.1;exact⟨a.1,by omega,by omega⟩
theorem b6r (h:a71 ws G R):ws.length=1:=by obtain⟨_,_,rfl,_⟩:=h;rfl
theorem b9h (F:Fns K a) (T:Txt K mg a):FnOk P w K mg base CX0 7 a.f38 a.d38 ["script"] (lowP K a71):=by
 have G_words:=b31 (P:=P) (w:=w) (base:=base) F T;have G_cell_at:=b0w (P:=P) (w:=w) (base:=base) F T;have G_Sheet___init__:=a4w (P:=P) (w:=w) (base:=base) F T;have G_Sheet_tell:=a67 (P:=P) (w:=w) (base:=base) F T;have G_tumbled:=a3a (P:=P) (w:=w) (base:=base) F T;have G_right:=b4i (P:=P) (w:=w) (base:=base) F T;have G_telling:=b0B (P:=P) (w:=w) (base:=base) F T;have G_refused:=b0F (P:=P) (w:=w) (base:=base) F T;refine fn3 F.n38 sc_law (λws G R h=>(by exact b6r h)) (λcdv A outer s H E ws G R hr h=>?_);have hu:=a03 hr;refine⟨_,(a0m (z_set (i:=1) sc_law.nd rfl (dR rfl) (a0s G_words (hr.mono (by decide)) rfl T.m25 F.n25.kp (a9x F) (a0b (a0s G_cell_at (hr.mono (by decide)) rfl T.m23 F.n23.kp (a4o F) (a0b (a0c (pv 0)) (a0b a0g a0h a0f) a0a) (he:=a0a) (hpl:=(a0j a0f a0k))) a0h a0L) (he:=a0L) (hpl:=a0k)))
  (a0m (z_set (i:=2) sc_law.nd rfl (dR rfl) (a0s G_words (hr.mono (by decide)) rfl T.m25 F.n25.kp (a9x F) (a0b (a0s G_cell_at (hr.mono (by decide)) rfl T.m23 F.n23.kp (a4o F) (a0b (a0c (pv 0)) (a0b a0g a0h a0f) a0a) (he:=a0a) (hpl:=(a0j a0f a0k))) a0h a0L) (he:=a0L) (hpl:=a0k)))
  (a0m (z_set (i:=3) sc_law.nd rfl (dR rfl) (a1d (a0b (b16 T.mk_Sheet G_Sheet___init__ (hr.mono (by decide)) rfl T.mg_Sheet (a2p F)) (a0b (b16 T.mk_Sheet G_Sheet___init__ (hr.mono (by decide)) rfl T.mg_Sheet (a2p F)) a0h a0L) a0L)))
  (a0m (z_set (i:=4) sc_law.nd rfl (dR rfl) (a1d (a0b (a1d a0h) (a0b (a1d a0h) a0h a04) a04)))
  (a0m (a3q (pt:=(.nm 5)) kj.never rfl (a02 (a1Q x_sl (a0c (pv 0)) (a2k a0g) (a2k a0g))) (show QP _ _ (.nm 5) from (a0o (i:=5) sc_law.nd rfl (dR rfl)))
  (a0m (z_set (i:=6) sc_law.nd rfl (dR rfl) (q_op a0T (a0s G_tumbled (hr.mono (by decide)) rfl T.m24 F.n24.kp (a0z F) (a0b (a0c (pv 5)) (a0b a0g a0h a0f) a0a) (he:=a0a) (hpl:=(a0j a0f a0k))) a0g))
  (a0m (a01 (q_bm PySem.F.plainAttrs_list PySem.F.slot_list_append PySem.F.type_list_append a1e (q_ix x_ix (a0c (pv 4)) (a0c (pv 6)) (λ_ _=>rfl)) (a0b (a0s G_telling (hr.mono (by decide)) rfl T.m28 F.n28.kp (b0v F) (a0b (a0c (pv 5)) (a0b (a0c (pv 1)) (a0b (a0c (pv 2)) a0h a0a) a0a) a0a) (he:=a0a) (hpl:=(a0j a0a (a0j a0a a0k)))) a0h a0L)))
  (a0n (a01 (a5r a5q up0 (q_ix x_ix (a0c (pv 3)) (a0c (pv 6)) (λ_ _=>rfl)) T.cl_Sheet T.mt37 G_Sheet_tell (hr.mono (by decide)) (a6X F) (a0b (q_ix x_ix (q_ix x_ix (a0c (pv 4)) (a0c (pv 6)) (λ_ _=>rfl)) (q_un a2n a0g) (λ_ _=>rfl)) a0h a0d) (hst:=a0d) (hpl:=a0k)))))))
  (a0m (a8s (i:=7) sc_law.nd rfl rfl (N₀:=["script","keys","worths","sheets","tellings","cell","at","xs","last","k","knowings","own","bad"]) (so:=a0i a6S) (N':=["k","script"]) (cap:=[none,some 0]) (pt:=(.nm 0)) rfl rfl rfl (by decide +kernel) rfl (a23 rfl T.b_range (a0b a0g a0h a0f)) (λ_ _ _ _=>(show QP _ _ (.nm 0) from (a0o (i:=0) c0G rfl (dR rfl)))) (λ_ _ _ _=>a4i) (λ_ _ _ _=>(a0s G_tumbled (hr.mono (by decide)) rfl T.m24 F.n24.kp (a0z F) (a0b (a0s G_cell_at (hr.mono (by decide)) rfl T.m23 F.n23.kp (a4o F) (a0b (a0c (pv 1)) (a0b a0g a0h a0f) a0a) (he:=a0a) (hpl:=(a0j a0f a0k))) (a0b (a0c (pv 0)) a0h a0a) a0L) (he:=a0L) (hpl:=(a0j a0a a0k)))))
  (a0m (z_set (i:=8) sc_law.nd rfl (dR rfl) (a1d (a0b (a0B b_len rfl T.b_len PySem.boot_len (a0b (q_ix x_ix (a0c (pv 4)) a0g (λ_ _=>rfl)) a0h a0d) (he:=a0d) (hpl:=a0k)) (a0b (a0B b_len rfl T.b_len PySem.boot_len (a0b (q_ix x_ix (a0c (pv 4)) a0g (λ_ _=>rfl)) a0h a0d) (he:=a0d) (hpl:=a0k)) a0h a0L) a0L)))
  (a0m (a3q (pt:=(.nm 9)) kj.never rfl (a23 rfl T.b_range (a0b a0g a0h a0f)) (show QP _ _ (.nm 9) from (a0o (i:=9) sc_law.nd rfl (dR rfl)))
  (a0m (z_set (i:=10) sc_law.nd rfl (dR rfl) (a0c (pv 8)))
  (a6F (z_if (a0v o_gt (a0c (pv 9)) a0g (a0p _))
  (a0n (z_set (i:=10) sc_law.nd rfl (dR rfl) (a1d (a0b (q_op a8t (q_ix x_ix (a0c (pv 8)) a0g (λ_ _=>rfl)) (q_op a0T (q_ix x_ix (a0c (pv 7)) (q_op a7t a0g (a0c (pv 9))) (λ_ _=>rfl)) (a0B (b_min rfl) rfl T.b_min rfl (a0b a0g (a0b (q_op a0N (q_ix x_ix (a0c (pv 8)) a0g (λ_ _=>rfl)) a0g) a0h a0q) a0f) (he:=a0f) (hpl:=(a0j a0q a0k))))) (a0b (q_op a8t (q_ix x_ix (a0c (pv 8)) a0g (λ_ _=>rfl)) (q_op a0T (q_ix x_ix (a0c (pv 7)) (q_op a0N (q_op a7t a0g (a0c (pv 9))) a0g) (λ_ _=>rfl)) (a0B (b_min rfl) rfl T.b_min rfl (a0b a0g (a0b (q_op a0N (q_ix x_ix (a0c (pv 8)) a0g (λ_ _=>rfl)) a0g) a0h a0q) a0f) (he:=a0f) (hpl:=(a0j a0q a0k))))) a0h a0q) a0q))))
  a0V)
  (a0n (z_if (a2S (a3b (a0s G_right (hr.mono (by decide)) rfl T.m33 F.n33.kp (a9z F) (a0b (a0c (pv 3)) (a0b (a0c (pv 4)) (a0b (a0c (pv 10)) (a0b (a0c (pv 1)) a0h a0a) a0a) a0a) a0a) (he:=a0a) (hpl:=(a0j a0a (a0j a0a (a0j a0a a0k)))))))
  (a0n (a0I q_bl))
  a0V)))))
  (a0m (z_set (i:=11) sc_law.nd rfl (dR rfl) (a1d (a0b (q_op a0T (q_ix x_ix (a0c (pv 7)) a0g (λ_ _=>rfl)) (q_op a0N (q_ix x_ix (a0c (pv 8)) a0g (λ_ _=>rfl)) a0g)) (a0b (q_op a0T (q_ix x_ix (a0c (pv 7)) a0g (λ_ _=>rfl)) (q_op a0N (q_ix x_ix (a0c (pv 8)) a0g (λ_ _=>rfl)) a0g)) a0h a0q) a0q)))
  (a0m (z_if (a2S (a3b (a0s G_right (hr.mono (by decide)) rfl T.m33 F.n33.kp (a9z F) (a0b (a1d (a0b (q_ix x_ix (a0c (pv 3)) a0g (λ_ _=>rfl)) (a0b (q_ix x_ix (a0c (pv 3)) a0g (λ_ _=>rfl)) a0h a0d) a0d)) (a0b (a1d (a0b (q_ix x_ix (a0c (pv 4)) a0g (λ_ _=>rfl)) (a0b (q_ix x_ix (a0c (pv 4)) a0g (λ_ _=>rfl)) a0h a0d) a0d)) (a0b (a0c (pv 11)) (a0b (a0c (pv 1)) a0h a0a) a0a) a04) a04) (he:=a04) (hpl:=(a0j a04 (a0j a0a (a0j a0a a0k)))))))
  (a0n (a0I q_bl))
  a0V)
  (a0m (a3q (pt:=(.nm 12)) kj.never rfl (a02 (a1d (a0b (q_un a2n a0g) (a0b (q_op a8t (q_un a2n a0g) (q_ix x_ix (a0c (pv 7)) a0g (λ_ _=>rfl))) (a0b (q_op a0N (q_ix x_ix (a0c (pv 8)) a0g (λ_ _=>rfl)) a0g) (a0b (q_op a0N (q_op a0N (q_ix x_ix (a0c (pv 8)) a0g (λ_ _=>rfl)) a0g) (q_ix x_ix (a0c (pv 7)) a0g (λ_ _=>rfl))) a0h a0q) a0q) a0q) a98))) (show QP _ _ (.nm 12) from (a0o (i:=12) sc_law.nd rfl (dR rfl)))
  (a0n (z_if (QW.qt (q_or (a2S (a3b (a0s G_refused (hr.mono (by decide)) rfl T.m34 F.n34.kp (a6l F) (a0b (a0c (pv 3)) (a0b (a1d (a0b (a0c (pv 12)) (a0b (q_ix x_ix (a0c (pv 8)) a0g (λ_ _=>rfl)) a0h a0d) a0a)) a0h a04) a0a) (he:=a0a) (hpl:=(a0j a04 a0k))))) (a5h (a2S (a3b (a0s G_refused (hr.mono (by decide)) rfl T.m34 F.n34.kp (a6l F) (a0b (a1d (a0b (q_ix x_ix (a0c (pv 3)) a0g (λ_ _=>rfl)) (a0b (q_ix x_ix (a0c (pv 3)) a0g (λ_ _=>rfl)) a0h a0d) a0d)) (a0b (a1d (a0b (q_ix x_ix (a0c (pv 8)) a0g (λ_ _=>rfl)) (a0b (a0c (pv 12)) a0h a0a) a0d)) a0h a04) a04) (he:=a04) (hpl:=(a0j a04 a0k))))))))
  (a0n (a0I q_bl))
  a0V)))
  (a0n (a0I q_bl))))))))))))),?_⟩
 obtain⟨sa,ns,rfl,hl,q⟩:=h;walk_at "go";refine⟨sa,ns,0,rfl,by decide,λc0=>?_⟩;walk_at "go";refine⟨c0,rfl,λks kn G1 hks s1 gks lk hk nd=>?_⟩;walk_at "go";refine⟨sa,ns,1,rfl,by decide,λc1=>?_⟩;walk_at "go";refine⟨c1,rfl,λwsA wn G2 hws s2 gws lw hw _=>?_⟩;have gks2:=s2 _ _ gks;clear s1 s2 hks hws gks;walk_at "go";intro p dx hp;refine⟨p,dx,rfl,a0e,λd G5 hd k5 sh5=>⟨rfl,?_⟩⟩;have s5:Sm G2 G5:=λx o e=>k5 x o (a0l e hp) (a0u e hp);clear k5;walk_at "go";intro r dx2 hr;refine⟨r,dx2,rfl,a0e,λd2 G6 hd2 k6 sh6=>⟨rfl,?_⟩⟩;have s6:Sm G5 G6:=λx o e=>k6 x o (a0l e hr) (a0u e hr);have fr:∀ x,(x=r\/x=d2)->G5 x=none:=λx hx=>by
  rcases hx with rfl | rfl
  ·exact hr
  ·exact (Sm.new hr).free hd2
 have dj:∀ x,(x=p\/x=d)->¬ (x=r\/x=d2):=λx h1 h2=>sh5.out (fr x h2) h1;have sh5:=sh5.keep (Sm.ks s6);have hS2:∀ {x o},G2 x=some o->¬ (x=p\/x=d)/\¬ (x=r\/x=d2):=λ{x o} e=>by
  refine⟨λz=>?_,λz=>?_⟩
  ·rcases z with rfl | rfl
   ·rw[e]at hp;cases hp
   ·rw[a0l e hp]at hd;cases hd
  ·have:=fr x z
   rw[s5 _ _ e]at this;cases this
 clear k6 hd2 fr;obtain⟨S0,V0,sh5,sh6,dj,hS2⟩:∃ S0 V0:Addr->Prop,Sheet a.c_Sheet G6 p S0 []/\Sheet a.c_Sheet G6 r V0 []/\(∀ x,S0 x->¬ V0 x)/\∀ x o,G2 x=some o->¬ S0 x/\¬ V0 x:=⟨_,_,sh5,sh6,dj,λx o=>hS2⟩;walk_at "go";refine⟨lenK rfl,λsA hsA=>?_⟩;have gs7:put G6 sA (.lst [.ref p,.ref r]) sA=some (.lst [.ref p,.ref r]):=a0e;have s7:Sm G6 (put G6 sA (.lst [.ref p,.ref r])):=Sm.new hsA;generalize put G6 sA (.lst [.ref p,.ref r])=G7 at gs7 s7 ⊢;walk_at "go";refine⟨lenK rfl,λt0 ht0=>?_⟩;have g08:put G7 t0 (.lst []) t0=some (.lst []):=a0e;have s8:Sm G7 (put G7 t0 (.lst [])):=Sm.new ht0;generalize put G7 t0 (.lst [])=G8 at g08 s8 ⊢;walk_at "go";refine⟨lenK rfl,λt1 ht1=>?_⟩;have g19:put G8 t1 (.lst []) t1=some (.lst []):=a0e;have s9:Sm G8 (put G8 t1 (.lst [])):=Sm.new ht1;generalize put G8 t1 (.lst [])=G9 at g19 s9 ⊢;walk_at "go";refine⟨lenK rfl,λtA htA=>?_⟩;have gt10:put G9 tA (.lst [.ref t0,.ref t1]) tA=some (.lst [.ref t0,.ref t1]):=a0e;have s10:Sm G9 (put G9 tA (.lst [.ref t0,.ref t1])):=Sm.new htA;generalize put G9 tA (.lst [.ref t0,.ref t1])=G10 at gt10 s10 ⊢;walk_at "go";refine b99 λc hc=>?_;have hcl:(cutZ ns (some 3) (some 123)).length≤63:=eD (a8u ..) hl;generalize cutZ ns (some 3) (some 123)=cs at hcl ⊢;have gc:put G10 c (.lst (cs.map Z.int)) c=some (.lst (cs.map Z.int)):=a0e;have s11:Sm G10 (put G10 c (.lst (cs.map Z.int))):=Sm.new hc;generalize put G10 c (.lst (cs.map Z.int))=B at gc s11 ⊢;have s97:=s8.trans s9;have s96:=s7.trans s97;have s911:=s10.trans s11;have sh5:=sh5;have out:∀ {x:Addr},G6 x=none->¬ S0 x/\¬ V0 x:=λh=>⟨sh5.out h,sh6.out h⟩;have o0:=out (s7.free ht0);have o1:=out (s7.free (s8.free ht1));have ne01:t0≠t1:=a0u g08 ht1;have old:∀ {x o},G6 x=some o->¬ S0 x->¬ V0 x->B x=some o/\¬ (S0 x\/V0 x\/x=t0\/x=t1):=λ{x o} e n1 n2=>⟨s911 _ _ (s96 _ _ e),λz=>by
  rcases z with z | z | z | z
  ·exact n1 z
  ·exact n2 z
  ·rw[<- z,s7 _ _ e]at ht0;cases ht0
  ·rw[<- z,s8 _ _ (s7 _ _ e)]at ht1;cases ht1⟩
 have pS:∀ {x o},G2 x=some o->¬ S0 x/\¬ V0 x:=hS2 _ _;have oks:=old (s6 _ _ (s5 _ _ gks2)) (pS gks2).1 (pS gks2).2;have ows:=old (s6 _ _ (s5 _ _ gws)) (pS gws).1 (pS gws).2;have osA:B sA=some (.lst [.ref p,.ref r])/\¬ (S0 sA\/V0 sA\/sA=t0\/sA=t1):=⟨s911 _ _ (s97 _ _ gs7),λz=>by
  rcases z with z | z | z | z
  ·exact (out hsA).1 z
  ·exact (out hsA).2 z
  ·rw[<- z,gs7]at ht0;cases ht0
  ·rw[<- z,s8 _ _ gs7]at ht1;cases ht1⟩
 have otA:B tA=some (.lst [.ref t0,.ref t1])/\¬ (S0 tA\/V0 tA\/tA=t0\/tA=t1):=⟨s11 _ _ gt10,λz=>by
  have z6:=out (s96.free htA);rcases z with z | z | z | z
  ·exact z6.1 z
  ·exact z6.2 z
  ·rw[z,s9 _ _ g08]at htA;cases htA
  ·rw[z,g19]at htA;cases htA⟩
 have oc:¬ (S0 c\/V0 c\/c=t0\/c=t1):=λz=>by
  have z6:=out (s96.free (s10.free hc));rcases z with z | z | z | z
  ·exact z6.1 z
  ·exact z6.2 z
  ·rw[z,s10 _ _ (s9 _ _ g08)]at hc;cases hc
  ·rw[z,s10 _ _ g19]at hc;cases hc
 have L0:LSt a kn B (λx=>S0 x\/V0 x\/x=t0\/x=t1) p r t0 t1 B S0 V0 [] []:=⟨sh5.keep (Sm.ks (s96.trans s911)),sh6.keep (Sm.ks (s96.trans s911)),dj,λx h=>.inl (.inl h),λx h=>.inl (.inr (.inl h)),λ_ _ e _=>e,s911 _ _ (s9 _ _ g08),s911 _ _ g19,⟨o0.1,o0.2,.inr (.inr (.inl rfl))⟩,⟨o1.1,o1.2,.inr (.inr (.inr rfl))⟩,ne01,(fun τ h=>by simp at h),(fun τ h=>by simp at h),(fun τ h=>by simp at h),(fun τ h=>by simp at h)⟩;obtain⟨Own,L0,oks,ows,osA,otA,oc⟩:∃ Own:Addr->Prop,LSt a kn B Own p r t0 t1 B S0 V0 [] []/\(B ks=some (.lst (kn.map Z.str))/\¬ Own ks)/\(B wsA=some (.lst (wn.map Z.str))/\¬ Own wsA)/\(B sA=some (.lst [.ref p,.ref r])/\¬ Own sA)/\(B tA=some (.lst [.ref t0,.ref t1])/\¬ Own tA)/\¬ Own c:=⟨_,L0,oks,ows,osA,otA,oc⟩;clear old pS out o0 o1 ne01 s911 s96 s97 s11 s10 s9 s8 s7 s6 s5 sh5 sh6 dj gs7 g08 g19 gt10 hsA ht0 ht1 htA hc hp hr gks2 gws;walk_at "go";refine a3c gc ?_;refine a1D (λi σ G'=>Ex6 λ(S V:Addr->Prop) (T U:List Tl) (v1 v2:Option Z)=>LSt a kn B Own p r t0 t1 G' S V T U/\T.length+U.length=i/\σ=[some (.scr sa ns),some (.ref ks),some (.ref wsA),some (.ref sA),some (.ref tA),v1,v2,none,none,none,none,none,none]) ⟨_,_,_,_,_,_,L0,rfl,rfl⟩ (by rintro i σ G' _ ⟨_,_,_,_,_,_,L,_⟩;exact L.kp _ _ gc oc) ?_ ?_
 ·rintro i x σ G' hx ⟨S,V,T1,U1,v1,v2,L,hTU,rfl⟩;rw[er]at hx;cases hx':cs[i]? with
  | none=>rw[hx']at hx;cases hx
  | some cl=>
  rw[hx']at hx;cases hx;have hi:=(eq.mp hx').1;refine⟨_,rfl,?_⟩;walk_at "go";refine⟨cl,50,rfl,by decide,by decide,λm m0 m1=>?_⟩;walk_at "go";have hz:m % 2=0\/m % 2=1:=by omega
  generalize m % 2=z at hz ⊢;have gtA:=L.kp _ _ otA.1 otA.2;rcases hz with rfl | rfl
  ·walk_at "go";refine a2o L.g0 ?_;walk_at "go";refine⟨_,ks,wsA,kn,wn,rfl,L.kp _ _ oks.1 oks.2,L.kp _ _ ows.1 ows.2,lk,lw,hk,hw,fun τ Ga sG okτ mk=>?_⟩;walk_at "go";refine a00 (sG _ _ L.g0) (by rw[dQ];exact a0t (by omega)) ?_;obtain⟨shX,_,kX⟩:=L.pt (o:=.lst (T1.map Tl.z++[τ.z])) sG;have told:=λS' Gb=>L.told (S':=S') (Gb:=Gb) sG okτ mk;have gX:put Ga t0 (.lst (T1.map Tl.z++[τ.z])) t0=some (.lst (T1.map Tl.z++[τ.z])):=a0e;generalize put Ga t0 (.lst (T1.map Tl.z++[τ.z]))=X at shX kX told gX ⊢;have gsX:=kX _ _ osA.1 osA.2;have gtX:=kX _ _ otA.1 otA.2;obtain⟨dx',n',d',ob⟩:=shX.obj;walk_at "go";refine⟨p,dx',_,rfl,ob,a5Y (by decide +kernel) (by decide +kernel),?_⟩;walk_at "go";refine a1f gX (a4r (by rw[i9];rfl)) ?_;walk_at "go";refine⟨p,S,T1,shX,.inl ⟨τ,rfl,okτ,by omega,λS' Gb i1 i2 knb shB=>?_⟩⟩;walk_at "go";exact⟨_,_,_,_,_,_,told S' Gb i2 knb shB,by rw[dW];simp;omega,rfl⟩
  ·walk_at "go";refine a2o L.g1 ?_;walk_at "go";refine⟨_,ks,wsA,kn,wn,rfl,L.kp _ _ oks.1 oks.2,L.kp _ _ ows.1 ows.2,lk,lw,hk,hw,fun τ Ga sG okτ mk=>?_⟩;walk_at "go";refine a00 (sG _ _ L.g1) (by rw[dQ];exact a0t (by omega)) ?_;obtain⟨shX,_,kX⟩:=L.swap.pt (o:=.lst (U1.map Tl.z++[τ.z])) sG;have told:=λS' Gb=>L.swap.told (S':=S') (Gb:=Gb) sG okτ mk;have gX:put Ga t1 (.lst (U1.map Tl.z++[τ.z])) t1=some (.lst (U1.map Tl.z++[τ.z])):=a0e;generalize put Ga t1 (.lst (U1.map Tl.z++[τ.z]))=X at shX kX told gX ⊢;have gsX:=kX _ _ osA.1 osA.2;have gtX:=kX _ _ otA.1 otA.2;obtain⟨dx',n',d',ob⟩:=shX.obj;walk_at "go";refine⟨r,dx',_,rfl,ob,a5Y (by decide +kernel) (by decide +kernel),?_⟩;walk_at "go";refine a1f gX (a4r (by rw[i9];rfl)) ?_;walk_at "go";refine⟨r,V,U1,shX,.inl ⟨τ,rfl,okτ,by omega,λS' Gb i1 i2 knb shB=>?_⟩⟩;walk_at "go";exact⟨_,_,_,_,_,_,(told S' Gb i2 knb shB).swap,by rw[dW];simp;omega,rfl⟩
 ·rintro σ G3 ⟨S,V,T',U',v1,v2,L,hTU,rfl⟩;rw[dQ]at hTU;have fT:Few T':=⟨by omega,kn,by omega,L.kT⟩;have fU:Few U':=⟨by omega,kn,by omega,L.kU⟩;have I:TwoIn a G3 p r S V T' U':=⟨L.sp,L.sr,L.okT,L.okU,fT,fU,by omega,by omega⟩;have gk3:=L.kp _ _ oks.1 oks.2;have gs3:=L.kp _ _ osA.1 osA.2;have gt3:=L.kp _ _ otA.1 otA.2;have g03:=L.g0;have g13:=L.g1;have kT:=L.kT;clear L oks ows osA otA oc gc L0;walk_at "go";refine⟨by decide,by decide,?_⟩;intro X hX;refine b1x (λi ys G'=>∃ xs:List Int,ys=xs.map Z.int/\xs.length=i/\(∀ x∈xs,0≤x/\x<1000000007)/\G'=put G3 X (.lst ys)) ⟨[],rfl,rfl,(λx h=>by simp at h),rfl⟩ (by rintro _ _ _ _ _;exact True.intro) ?_ ?_
  ·rintro i x ys G' hx ⟨xs,rfl,hxl,hxs,rfl⟩;obtain⟨hi,rfl⟩:=a4g hx;have hi:i<8:=hi;refine⟨_,rfl,?_⟩;walk_at "go";refine⟨sa,ns,2,rfl,by decide,λc2=>?_⟩;walk_at "go";refine⟨c2,_,rfl,by omega,by omega,λm m0 m1=>?_⟩;refine⟨a0e,by rw[dQ];exact a0t (by omega),xs++[m],by rw[eA];rfl,by rw[dW];simp;exact hxl,λy hy=>?_,by rw[a2R]⟩;rcases dU.mp hy with hy | hy
   ·exact hxs y hy
   ·rw[dX.mp hy];exact⟨m0,m1⟩
  ·rintro ys G7 ⟨xs,rfl,hxl,hxs,rfl⟩;rw[a2m]at hxl;have hxl:xs.length=8:=hxl;have gX:put G3 X (.lst (xs.map Z.int)) X=some (.lst (xs.map Z.int)):=a0e;have s4:Sm G3 (put G3 X (.lst (xs.map Z.int))):=Sm.new hX;generalize put G3 X (.lst (xs.map Z.int))=G4 at gX s4 ⊢;have gt4:=s4 _ _ gt3;walk_at "go";refine a7w (s4 _ _ g03) ?_;rw[dQ];walk_at "go";refine a7w (s4 _ _ g13) ?_;rw[dQ];walk_at "go";refine⟨lenK rfl,λlA hlA=>?_⟩;have gl:put G4 lA (.lst [.int T'.length,.int U'.length]) lA=some (.lst [.int T'.length,.int U'.length]):=a0e;have s5:Sm G4 (put G4 lA (.lst [.int T'.length,.int U'.length])):=Sm.new hlA;generalize put G4 lA (.lst [.int T'.length,.int U'.length])=G5 at gl s5 ⊢;have s35:=s4.trans s5;have I:=I.keep s35;have gk5:=s35 _ _ gk3;have gs5:=s35 _ _ gs3;have gt5:=s35 _ _ gt3;have g05:=s35 _ _ g03;have g15:=s35 _ _ g13;have gX5:=s5 _ _ gX;clear s35 s4 s5 gk3 gs3 gt3 g03 g13 gX gt4 hX hlA;have ix:∀ j:Int,0≤j->j<8->∃ x,atI (xs.map Z.int) j=some (.int x)/\0≤x:=λj h1 h2=>by
    obtain⟨x,h3,h4⟩:=b89 (xs:=xs) h1 (by omega);exact⟨x,h3,(hxs x h4).1⟩
   walk_at "go";refine⟨by decide,by decide,?_⟩;refine a1D (λi σ G'=>∃ (v3 v4:Option Z),Sm G5 G'/\σ=[some (.scr sa ns),some (.ref ks),some (.ref wsA),some (.ref sA),some (.ref tA),v1,v2,some (.ref X),some (.ref lA),v3,v4,none,none]) ⟨_,_,Sm.refl _,rfl⟩ (λ_ _ _ _ _=>True.intro) ?_ ?_
   ·rintro i x σ G6 hx ⟨v3,v4,s6,rfl⟩;obtain⟨hi,rfl⟩:=a4g hx;have hi:i<3:=hi;have gl6:=s6 _ _ gl;have gX6:=s6 _ _ gX5;obtain⟨x1,ex1,_⟩:=ix (2*(i:Int)) (by omega) (by omega);obtain⟨x2,ex2,_⟩:=ix (2*(i:Int)+1) (by omega) (by omega);obtain⟨p1,b1,b2⟩:=@b4S (T'.length:Int) x1 _ (by omega) rfl;obtain⟨p2,b3,b4⟩:=@b4S (U'.length:Int) x2 _ (by omega) rfl;rw[Int.zero_add];refine⟨_,rfl,?_⟩;walk_at "go";refine a6I (fun σ' G'=>∃ (kA:Addr) (q u:Int),Sm G6 G'/\G' kA=some (.lst [.int q,.int u])/\inR T' q/\inR U' u/\σ'=[some (.scr sa ns),some (.ref ks),some (.ref wsA),some (.ref sA),some (.ref tA),v1,v2,some (.ref X),some (.ref lA),some (.int (i:Int)),some (.ref kA),none,none]) ?_ ?_
    ·walk_at "go";refine ifD (λc=>?_) λc=>?_
     ·walk_at "go";refine i_I (.inl ⟨by omega,by omega⟩) ?_;walk_at "go";refine a1f gX6 ex1 ?_;walk_at "go";refine i_I p1 ?_;walk_at "go";refine i_I (.inl ⟨by omega,by omega⟩) ?_;walk_at "go";refine a1f gX6 ex2 ?_;walk_at "go";refine i_I p2 ?_;walk_at "go";refine⟨lenK rfl,λkA hkA=>?_⟩;walk_at "go";exact⟨kA,_,_,Sm.new hkA,a0e,⟨b1,b2⟩,⟨b3,b4⟩,rfl⟩
     ·walk_at "go";exact⟨lA,_,_,Sm.refl _,gl6,⟨by omega,fz _⟩,⟨by omega,fz _⟩,rfl⟩
    ·rintro σ' G8 ⟨kA,q1,u1,s8,gkA,hq,hu,rfl⟩;have s58:=s6.trans s8;walk_at "go";refine⟨sA,tA,kA,ks,p,r,t0,t1,S,V,T',U',q1,u1,kn,rfl,s58 _ _ gs5,s58 _ _ gt5,gkA,s58 _ _ gk5,s58 _ _ g05,s58 _ _ g15,I.keep s58,by omega,hk,nd,kT,hq,hu,λG9 s9=>?_⟩;walk_at "go";exact⟨_,_,s58.trans s9,rfl⟩
   ·rintro σ G6 ⟨v3,v4,s6,rfl⟩;have gl6:=s6 _ _ gl;have gX6:=s6 _ _ gX5;obtain⟨x0,ex0,h0⟩:=ix 0 (by omega) (by omega);obtain⟨x1,ex1,h1⟩:=ix 1 (by omega) (by omega);obtain⟨x6,ex6,_⟩:=ix 6 (by omega) (by omega);obtain⟨x7,ex7,_⟩:=ix 7 (by omega) (by omega);have md:∀ x:Int,inR T' (x % ((T'.length:Int)+1)):=λx=>⟨fc _ (by omega),by have:=fg x (show (0:Int)<(T'.length:Int)+1 by omega);omega⟩;walk_at "go";refine a1f gX6 ex6 ?_;walk_at "go";refine i_I (show (0:Int)<(T'.length:Int)+1 by omega) ?_;walk_at "go";refine a1f gX6 ex7 ?_;walk_at "go";refine i_I (show (0:Int)<(T'.length:Int)+1 by omega) ?_;walk_at "go";refine⟨lenK rfl,λoA hoA=>?_⟩;have go:put G6 oA (.lst [.int (x6 % ((T'.length:Int)+1)),.int (x7 % ((T'.length:Int)+1))]) oA=some (.lst [.int (x6 % ((T'.length:Int)+1)),.int (x7 % ((T'.length:Int)+1))]):=a0e;have s7:Sm G6 (put G6 oA (.lst [.int (x6 % ((T'.length:Int)+1)),.int (x7 % ((T'.length:Int)+1))])):=Sm.new hoA;generalize put G6 oA (.lst [.int (x6 % ((T'.length:Int)+1)),.int (x7 % ((T'.length:Int)+1))])=G7 at go s7 ⊢;have s57:=s6.trans s7;have gs7:=s57 _ _ gs5;walk_at "go";refine⟨lenK rfl,λaA haA=>?_⟩;have ga:put G7 aA (.lst [.ref p,.ref p]) aA=some (.lst [.ref p,.ref p]):=a0e;have s8:Sm G7 (put G7 aA (.lst [.ref p,.ref p])):=Sm.new haA;generalize put G7 aA (.lst [.ref p,.ref p])=G8 at ga s8 ⊢;have gt8:=s8 _ _ (s57 _ _ gt5);walk_at "go";refine⟨lenK rfl,λbA hbA=>?_⟩;have gb:put G8 bA (.lst [.ref t0,.ref t0]) bA=some (.lst [.ref t0,.ref t0]):=a0e;have s9:Sm G8 (put G8 bA (.lst [.ref t0,.ref t0])):=Sm.new hbA;generalize put G8 bA (.lst [.ref t0,.ref t0])=G9 at gb s9 ⊢;have s79:=s8.trans s9;have s59:=s57.trans s79;walk_at "go";refine⟨aA,bA,oA,ks,p,p,t0,t0,S,S,T',T',_,_,kn,rfl,s9 _ _ ga,gb,s79 _ _ go,s59 _ _ gk5,s59 _ _ g05,s59 _ _ g05,(I.keep s59).one,by omega,hk,nd,kT,md _,md _,λG10 s10=>?_⟩;have s510:=s59.trans s10;have gl10:=s510 _ _ gl;have gX10:=s510 _ _ gX5;have I:=I.keep s510;have gs10:=s510 _ _ gs5;clear s59 s79 s57 s10 s9 s8 s7 gb ga go gt8 gs7 gl6 gX6 s6;walk_at "go";refine ifF ?_;walk_at "go";refine a1f gX10 ex0 ?_;walk_at "go";refine a1f gX10 ex1 ?_;walk_at "go";refine⟨lenK rfl,λwA hwA=>?_⟩;have gw:put G10 wA (.lst [.int (-1),.int (-1 - x0),.int ((T'.length:Int)+1),.int ((T'.length:Int)+1+x1)]) wA=some (.lst (([-1,-1 - x0,(T'.length:Int)+1,(T'.length:Int)+1+x1]:List Int).map Z.int)):=a0e;have s11:Sm G10 (put G10 wA (.lst [.int (-1),.int (-1 - x0),.int ((T'.length:Int)+1),.int ((T'.length:Int)+1+x1)])):=Sm.new hwA;generalize put G10 wA (.lst [.int (-1),.int (-1 - x0),.int ((T'.length:Int)+1),.int ((T'.length:Int)+1+x1)])=G11 at gw s11 ⊢;have bad:∀ b∈([-1,-1 - x0,(T'.length:Int)+1,(T'.length:Int)+1+x1]:List Int),¬ inR T' b:=λb hb=>by
     simp only[dY,fw,or_false]at hb;unfold inR;omega
    generalize ([-1,-1 - x0,(T'.length:Int)+1,(T'.length:Int)+1+x1]:List Int)=bs at gw bad;walk_at "go";refine a3c gw ?_;refine a1D (λi σ G'=>∃ (v5:Option Z),Sm G11 G'/\σ=[some (.scr sa ns),some (.ref ks),some (.ref wsA),some (.ref sA),some (.ref tA),v1,v2,some (.ref X),some (.ref lA),v3,v4,some (.ref oA),v5]) ⟨_,Sm.refl _,rfl⟩ (by rintro i σ G' _ ⟨_,s,_⟩;exact s _ _ gw) ?_ ?_
    ·rintro i x σ G12 hx ⟨v5,s12,rfl⟩;rw[er]at hx;cases hx':bs[i]? with
     | none=>rw[hx']at hx;cases hx
     | some b=>
     rw[hx']at hx;cases hx;have hb:=bad b (eI hx');have s1012:=s11.trans s12;have gl12:=s1012 _ _ gl10;refine⟨_,rfl,?_⟩;walk_at "go";refine⟨lenK rfl,λkA hkA=>?_⟩;have gkA:put G12 kA (.lst [.int b,.int U'.length]) kA=some (.lst [.int b,.int U'.length]):=a0e;have n13:Sm G12 (put G12 kA (.lst [.int b,.int U'.length])):=Sm.new hkA;generalize put G12 kA (.lst [.int b,.int U'.length])=G13 at gkA n13 ⊢;have s13:=s1012.trans n13;walk_at "go";refine⟨sA,kA,p,r,S,V,T',U',b,_,rfl,s13 _ _ gs10,gkA,I.keep s13,λz=>hb z.1,λG14 n14=>?_⟩;have s14:=s13.trans n14;have gl14:=s14 _ _ gl10;have gs14:=s14 _ _ gs10;walk_at "go";refine ifF ?_;walk_at "go";refine⟨lenK rfl,λuA huA=>?_⟩;have gu:put G14 uA (.lst [.ref r,.ref p]) uA=some (.lst [.ref r,.ref p]):=a0e;have s15:Sm G14 (put G14 uA (.lst [.ref r,.ref p])):=Sm.new huA;generalize put G14 uA (.lst [.ref r,.ref p])=G15 at gu s15 ⊢;have gl15:=s15 _ _ gl14;walk_at "go";refine⟨lenK rfl,λmA hmA=>?_⟩;have gm:put G15 mA (.lst [.int U'.length,.int b]) mA=some (.lst [.int U'.length,.int b]):=a0e;have s16:Sm G15 (put G15 mA (.lst [.int U'.length,.int b])):=Sm.new hmA;generalize put G15 mA (.lst [.int U'.length,.int b])=G16 at gm s16 ⊢;walk_at "go";have s116:=s14.trans (s15.trans s16);refine⟨uA,mA,r,p,V,S,U',T',_,b,rfl,s16 _ _ gu,gm,(I.keep s116).swap,λz=>hb z.2,λG17 s17=>?_⟩;walk_at "go";exact⟨_,s12.trans (n13.trans (n14.trans (s15.trans (s16.trans s17)))),rfl⟩
    ·rintro σ G12 ⟨v5,s12,rfl⟩;walk_at "go";exact q _
theorem all_mk {l:PySem.W.OpenLaw}{w:World}{K:Fg}{h:Heap}{mg:Str->Option Value}{fa:Addr}(X:K.In h) (G:h.Ns j5 mg) (hfa:mg "law"=some (.ref fa))
  {bo a7 a2 aW bd ax bp bC a8 bq a9 aQ aO ag a3 ai aK aL be bD aR aS aX bI bJ ca bK br bL cQ cb b1 cR cc bM aI ak aY cS:Addr}
  {dx cZ:Option Addr}{dy:Array (Option Value)}{dz c0 c1 c2 cs c3:Value}
  {bx:Tok}
  {bH:Tok}
  {ad:Addr}
  (dc:PySem.W.nsIn K j5 "Sheet"=some (some (.ref ad))) (dd:PySem.W.plainGet K ad Str.empty=true) (de:PySem.W.hasDictIn K ad=true) (df:PySem.W.plainOver K ad=true) (dg:PySem.W.findIn K (.ref ad) "__setattr__"=some (some (.builtin "object.__setattr__")))
  (dh:PySem.W.makesIn K ad=true) (di:PySem.W.keepIn K (.ref ad)=true)
  (dq:PySem.W.findIn K (.ref ad) "last"=some none)
  (dr:PySem.W.findIn K (.ref ad) "kept"=some none)
  {ab:Addr}
  {bE:Addr}
  {a6:Addr}
  {ay:Addr}
  {b2:Addr}
  {bs:Addr}
  {cd:Addr}
  {ce:Addr}
  {cf:Addr}
  {bN:Addr}
  (ct:PySem.W.nsIn K j5 "NoKnowing"=some (some (.ref ab)))
  (c4:PySem.W.nsIn K j5 "NoName"=some (some (.ref bE)))
  (cu:PySem.W.nsIn K j5 "NoStretch"=some (some (.ref a6)))
  (cn:PySem.W.nsIn K j5 "TimesError"=some (some (.ref ay)))
  (c5:PySem.W.nsIn K j5 "Broken"=some (some (.ref b2)))
  (cv:PySem.W.nsIn K j5 "Forgotten"=some (some (.ref bs)))
  (dj:PySem.W.nsIn K j5 "NoFit"=some (some (.ref cd)))
  (dk:PySem.W.nsIn K j5 "NoLog"=some (some (.ref ce)))
  (dl:PySem.W.nsIn K j5 "NoRow"=some (some (.ref cf)))
  (cT:PySem.W.nsIn K j5 "NoSheet"=some (some (.ref bN)))
  (cw:PySem.W.excIn K ab veM "ValueError.__new__"=true)
  (c6:PySem.W.excIn K bE veM "ValueError.__new__"=true)
  (cx:PySem.W.excIn K a6 veM "ValueError.__new__"=true)
  (bj:PySem.W.subIn K (.ref ay) (.type "BaseException")=some true)
  (bk:PySem.W.typeIn K (.ref ay)=some (.type "type"))
  (bl:PySem.W.subIn K (.ref ab) (.ref ay)=some true)
  (bm:PySem.W.hasDictIn K ay=true)
  (cy:PySem.W.hasDictIn K ab=true)
  (cz:PySem.W.findIn K (.ref ab) "__getattribute__"=some (some (.builtin "BaseException.__getattribute__")))
  (cA:PySem.W.findIn K (.ref ab) "__getattr__"=some none)
  (cB:PySem.W.findIn K (.ref ab) "__class__"=some (some (.builtin "object.__class__")))
  (cC:PySem.W.specialIn K (.builtin "object.__class__") "__get__"=some (some (.builtin "getset_descriptor.__get__")))
  (cD:PySem.W.takesIn K (.builtin "object.__class__")=some true)
  (cE:PySem.W.mroIn K ab (.type "object")=some true)
  (cF:PySem.W.mroIn K ab (.type "BaseException")=some true)
  (bn:PySem.W.kitOne K (.ref ab) (.type "ValueError")=some true)
  (cg:PySem.W.kitAny K (.ref ab) [.ref b2,.ref bs,.ref cd,.ref ce,.ref bE,.ref cf,.ref bN,.ref a6]=some false)
  (cM:PySem.W.nsIn K j5 "is_name"=some (some (.ref bo))) (bt:FE K "is_name" "is_name" a2C bo)
  (co:PySem.W.nsIn K j5 "is_moment"=some (some (.ref a7))) (ba:FE K "is_moment" "is_moment" a2D a7)
  (ch:PySem.W.nsIn K j5 "is_stretch"=some (some (.ref a2))) (a4:FE K "is_stretch" "is_stretch" a2h a2)
  (b4:PySem.W.nsIn K j5 "earlier_end"=some (some (.ref aW))) (aZ:FE K "earlier_end" "earlier_end" a1U aW)
  (cG:PySem.W.nsIn K j5 "ahead_of"=some (some (.ref bd))) (bf:FE K "ahead_of" "ahead_of" a19 bd)
  (bz:PySem.W.nsIn K j5 "with_alike_joined"=some (some (.ref ax))) (az:FE K "with_alike_joined" "with_alike_joined" a0Y ax)
  (cN:PySem.W.nsIn K j5 "from_on"=some (some (.ref bp))) (bu:FE K "from_on" "from_on" a2E bp)
  (cU:PySem.W.nsIn K j5 "put_on"=some (some (.ref bC))) (bF:FE K "put_on" "put_on" a4l bC)
  (cp:PySem.W.nsIn K j5 "bounds_of"=some (some (.ref a8))) (bb:FE K "bounds_of" "bounds_of" a1h a8)
  (cO:PySem.W.nsIn K j5 "is_over"=some (some (.ref bq))) (bv:FE K "is_over" "is_over" a3w bq)
  (cq:PySem.W.nsIn K j5 "worths_in"=some (some (.ref a9))) (bc:FE K "worths_in" "worths_in" a2F a9)
  (bW:PySem.W.nsIn K j5 "laid_together"=some (some (.ref aQ))) (aT:FE K "laid_together" "laid_together" a1u aQ)
  (bO:PySem.W.nsIn K j5 "check_in_reach"=some (some (.ref aO))) (aP:FE K "check_in_reach" "check_in_reach" a1i aO)
  (bA:PySem.W.findIn K (.ref ad) "check_knowing"=some (some (.ref ag))) (bB:PySem.W.isFn K (.ref ag)=true) (ah:FE K "check_knowing" "Sheet.check_knowing" a0Z ag)
  (ci:PySem.W.nsIn K j5 "check_name"=some (some (.ref a3))) (a5:FE K "check_name" "check_name" a2i a3)
  (bP:PySem.W.findIn K (.ref ad) "known_line"=some (some (.ref ai))) (bQ:PySem.W.isFn K (.ref ai)=true) (aj:FE K "known_line" "Sheet.known_line" a0S ai)
  (b5:PySem.W.findIn K (.ref ad) "line_at"=some (some (.ref aK))) (b6:PySem.W.isFn K (.ref aK)=true) (aM:FE K "line_at" "Sheet.line_at" a1V aK)
  (b7:PySem.W.findIn K (.ref ad) "keys_at"=some (some (.ref aL))) (b8:PySem.W.isFn K (.ref aL)=true) (aN:FE K "keys_at" "Sheet.keys_at" a1j aL)
  (cH:PySem.W.nsIn K j5 "table_at"=some (some (.ref be))) (bg:FE K "table_at" "table_at" a2a be)
  (cV:PySem.W.nsIn K j5 "by_key"=some (some (.ref bD))) (bG:FE K "by_key" "by_key" a4m bD)
  (bX:PySem.W.nsIn K j5 "check_stretch"=some (some (.ref aR))) (aU:FE K "check_stretch" "check_stretch" a1v aR)
  (bY:PySem.W.nsIn K j5 "check_telling"=some (some (.ref aS))) (aV:FE K "check_telling" "check_telling" a1w aS)
  (b9:PySem.W.nsIn K j5 "line_behind"=some (some (.ref aX))) (a0:FE K "line_behind" "line_behind" a1W aX)
  (c7:PySem.W.nsIn K j5 "_law_cell_at"=some (some (.ref bI))) (bR:FE K "_law_cell_at" "_law_cell_at" a5u bI)
  (c8:PySem.W.nsIn K j5 "_law_tumbled"=some (some (.ref bJ))) (bS:FE K "_law_tumbled" "_law_tumbled" a5v bJ)
  (ds:PySem.W.nsIn K j5 "_law_words"=some (some (.ref ca))) (cj:FE K "_law_words" "_law_words" a6Q ca)
  (c9:PySem.W.nsIn K j5 "_law_stretch"=some (some (.ref bK))) (bT:FE K "_law_stretch" "_law_stretch" a5w bK)
  (cP:PySem.W.nsIn K j5 "_law_by_digits"=some (some (.ref br))) (bw:FE K "_law_by_digits" "_law_by_digits" a3x br)
  (da:PySem.W.nsIn K j5 "_law_telling"=some (some (.ref bL))) (bU:FE K "_law_telling" "_law_telling" a5x bL)
  (dD:PySem.W.nsIn K j5 "_law_has"=some (some (.ref cQ))) (cW:FE K "_law_has" "_law_has" b54 cQ)
  (dt:PySem.W.nsIn K j5 "_law_worth"=some (some (.ref cb))) (ck:FE K "_law_worth" "_law_worth" a8H cb)
  (dm:PySem.W.nsIn K j5 "_law_points"=some (some (.ref b1))) (b3:FE K "_law_points" "_law_points" a6R b1)
  (dE:PySem.W.nsIn K j5 "_law_due"=some (some (.ref cR))) (cX:FE K "_law_due" "_law_due" b55 cR)
  (du:PySem.W.nsIn K j5 "_law_right"=some (some (.ref cc))) (cl:FE K "_law_right" "_law_right" a8I cc)
  (db:PySem.W.nsIn K j5 "_law_refused"=some (some (.ref bM))) (bV:FE K "_law_refused" "_law_refused" a5y bM)
  (bh:PySem.W.findIn K (.ref ad) "__init__"=some (some (.ref aI))) (bi:PySem.W.isFn K (.ref aI)=true) (aJ:FE K "__init__" "Sheet.__init__" a1G aI)
  (bZ:PySem.W.findIn K (.ref ad) "keep_line"=some (some (.ref ak))) (b0:PySem.W.isFn K (.ref ak)=true) (ar:FE K "keep_line" "Sheet.keep_line" a1x ak)
  (cI:PySem.W.findIn K (.ref ad) "tell"=some (some (.ref aY))) (cJ:PySem.W.isFn K (.ref aY)=true) (a1:FE K "tell" "Sheet.tell" a2V aY)
  (dp:PySem.W.nsIn K j5 "law"=some (some (.ref cS))) (dF:K.lookup cS=some ⟨dz,dx,.func (PySem.W.fnOf "law" "law" (a3o a6S) (a2e a6S) (a0i a6S) .none c0 c1 c2 cZ cs c3),dy⟩) (dG:PySem.W.codeIn K cs "law"=true) (dH:PySem.W.keepIn K (.ref cS)=true)
  (dI:PySem.W.nsIn K j5 "all"=some none)
  (cK:PySem.W.nsIn K j5 "isinstance"=some none)
  (dJ:PySem.W.nsIn K j5 "str"=some none)
  (dK:PySem.W.nsIn K j5 "len"=some none)
  (dA:PySem.W.nsIn K j5 "bool"=some none)
  (dL:PySem.W.nsIn K j5 "int"=some none)
  (dM:PySem.W.nsIn K j5 "min"=some none)
  (dN:PySem.W.nsIn K j5 "max"=some none)
  (dn:PySem.W.nsIn K j5 "sorted"=some none)
  (dO:PySem.W.nsIn K j5 "set"=some none)
  (dP:PySem.W.nsIn K j5 "zip"=some none)
  (cY:PySem.W.nsIn K j5 "reversed"=some none)
  (dB:PySem.W.nsIn K j5 "dict"=some none)
  (dv:PySem.W.nsIn K j5 "range"=some none)
  (dC:PySem.W.nsIn K j5 "list"=some none)
  (dw:PySem.W.nsIn K j5 "tuple"=some none)
  (cL:PySem.W.nsIn K j5 "ValueError"=some none)
  (cm:PySem.W.nsIn K j5 "LONGEST_NAME"=some (some (.int 8 bx)))
  (cr:PySem.W.nsIn K j5 "LAST_MOMENT"=some (some (.int 1000000000000 bH))) :
  ∃ fd:j9,(∀ (s:Shared) (v:Value),lF s fd ⟨[v],[]⟩ [("script",v)])/\∀ base:Heap,K.In base->base.Ns j5 mg->FnOk l.prog w K mg base CX0 7 fa fd ["script"] (lowP K a71):=by
 have e:=hfa.symm.trans (PySem.W.mg_of X G dp);cases e;obtain⟨au,bt⟩:=bt;obtain⟨am,ba⟩:=ba;obtain⟨ae,a4⟩:=a4;obtain⟨aa,aZ⟩:=aZ;obtain⟨aq,bf⟩:=bf;obtain⟨u,az⟩:=az;obtain⟨av,bu⟩:=bu;obtain⟨aB,bF⟩:=bF;obtain⟨an,bb⟩:=bb;obtain⟨as,bv⟩:=bv;obtain⟨al,bc⟩:=bc;obtain⟨I,aT⟩:=aT;obtain⟨H,aP⟩:=aP;obtain⟨x,ah⟩:=ah;obtain⟨af,a5⟩:=a5;obtain⟨C,aj⟩:=aj;obtain⟨V,aM⟩:=aM;obtain⟨Y,aN⟩:=aN;obtain⟨ao,bg⟩:=bg;obtain⟨aA,bG⟩:=bG;obtain⟨L,aU⟩:=aU;obtain⟨J,aV⟩:=aV;obtain⟨ac,a0⟩:=a0;obtain⟨aC,bR⟩:=bR;obtain⟨aF,bS⟩:=bS;obtain⟨d_words,cj⟩:=cj;obtain⟨aG,bT⟩:=bT;obtain⟨aw,bw⟩:=bw;obtain⟨aE,bU⟩:=bU;obtain⟨d_has,cW⟩:=cW;obtain⟨d_worth,ck⟩:=ck;obtain⟨aH,b3⟩:=b3;obtain⟨d_due,cX⟩:=cX;obtain⟨d_right,cl⟩:=cl;obtain⟨aD,bV⟩:=bV;obtain⟨U,aJ⟩:=aJ;obtain⟨M,ar⟩:=ar;obtain⟨ap,a1⟩:=a1
 let a:Ad:=⟨bo,au,a7,am,a2,ae,aW,aa,bd,aq,ax,u,bp,av,bC,aB,a8,an,bq,as,a9,al,aQ,I,aO,H,ag,x,a3,af,ai,C,aK,V,aL,Y,be,ao,bD,aA,aR,L,aS,J,aX,ac,bI,aC,bJ,aF,ca,d_words,bK,aG,br,aw,bL,aE,cQ,d_has,cb,d_worth,b1,aH,cR,d_due,cc,d_right,bM,aD,aI,U,ak,M,aY,ap,fa,(PySem.W.fnOf "law" "law" (a3o a6S) (a2e a6S) (a0i a6S) .none c0 c1 c2 cZ cs c3),ad,ab,bE,a6,ay,b2,bs,cd,ce,cf,bN⟩
 have F:Fns K a:=⟨bt,ba,a4,aZ,bf,az,bu,bF,bb,bv,bc,aT,aP,ah,a5,aj,aM,aN,bg,bG,aU,aV,a0,bR,bS,cj,bT,bw,bU,cW,ck,b3,cX,cl,bV,aJ,ar,a1,b4o dF dG dH⟩;have T:Txt K mg a:=⟨PySem.W.mg_of X G cM,PySem.W.mg_of X G co,PySem.W.mg_of X G ch,PySem.W.mg_of X G b4,PySem.W.mg_of X G cG,PySem.W.mg_of X G bz,PySem.W.mg_of X G cN,PySem.W.mg_of X G cU,PySem.W.mg_of X G cp,PySem.W.mg_of X G cO,PySem.W.mg_of X G cq,PySem.W.mg_of X G bW,PySem.W.mg_of X G bO,⟨bA,bB,ah.kp⟩,PySem.W.mg_of X G ci,⟨bP,bQ,aj.kp⟩,⟨b5,b6,aM.kp⟩,⟨b7,b8,aN.kp⟩,PySem.W.mg_of X G cH,PySem.W.mg_of X G cV,PySem.W.mg_of X G bX,PySem.W.mg_of X G bY,PySem.W.mg_of X G b9,PySem.W.mg_of X G c7,PySem.W.mg_of X G c8,PySem.W.mg_of X G ds,PySem.W.mg_of X G c9,PySem.W.mg_of X G cP,PySem.W.mg_of X G da,PySem.W.mg_of X G dD,PySem.W.mg_of X G dt,PySem.W.mg_of X G dm,PySem.W.mg_of X G dE,PySem.W.mg_of X G du,PySem.W.mg_of X G db,⟨bh,bi,aJ.kp⟩,⟨bZ,b0,ar.kp⟩,⟨cI,cJ,a1.kp⟩,PySem.W.mg_of X G dp,PySem.W.mg_none_of X G dI,PySem.W.mg_none_of X G cK,PySem.W.mg_none_of X G dJ,PySem.W.mg_none_of X G dK,PySem.W.mg_none_of X G dA,PySem.W.mg_none_of X G dL,PySem.W.mg_none_of X G dM,PySem.W.mg_none_of X G dN,PySem.W.mg_none_of X G dn,PySem.W.mg_none_of X G dO,PySem.W.mg_none_of X G dP,PySem.W.mg_none_of X G cY,PySem.W.mg_none_of X G dB,PySem.W.mg_none_of X G dv,PySem.W.mg_none_of X G dC,PySem.W.mg_none_of X G dw,PySem.W.mg_none_of X G cL,⟨dd,de,df,dg⟩,PySem.W.mg_of X G dc,⟨dh,bh,bi,di⟩,dq,dr,PySem.W.mg_of X G ct,PySem.W.mg_of X G c4,PySem.W.mg_of X G cu,PySem.W.mg_of X G cn,PySem.W.mg_of X G c5,PySem.W.mg_of X G cv,PySem.W.mg_of X G dj,PySem.W.mg_of X G dk,PySem.W.mg_of X G dl,PySem.W.mg_of X G cT,cw,c6,cx,b8E bj bk bl bm,b8D cy cz cA cB cC cD cE cF,bn,cg,⟨bx,PySem.W.mg_of X G cm⟩,⟨bH,PySem.W.mg_of X G cr⟩⟩;exact⟨a.d38,λs v=>.of_eq rfl,λbase _ _=>b9h F T⟩
theorem walk {l:PySem.W.OpenLaw}{K:Params->Fg}(hn:l.most=some 63) (hdf:d.params.defaults=[])
  (hY:∀ (w:World) (h:Heap),YP w h->(K w.params).In h)
  (F:∀ (w:World) (mg:Str->Option Value) (fa:Addr) (h:Heap),(K w.params).In h->h.Ns j5 mg->mg d.name=some (.ref fa) ->
   ∃ fd:j9,(∀ (s:Shared) (u:Value),lF s fd ⟨[u],[]⟩ [("script",u)])/\∀ base:Heap,(K w.params).In base->base.Ns j5 mg->FnOk l.prog w (K w.params) mg base CX0 7 fa fd ["script"] (lowP (K w.params) a71)) :
  PySem.W.WalkO q loose XP YP l.row.toRowW d [] (λf vs=>PySem.call f vs):=
 L2.walk_of hn (by decide) hdf ⟨rfl,by decide,by decide⟩ hY F (λ_ _ a g b e c=>b2e a g b (Fz.of e c)) λ_ _ _ _ _ z=>z
end Lw
end
open PySem PySem.W PyProof.Rows
set_option maxRecDepth 100000 in
set_option maxHeartbeats 0 in
theorem PySem.Challenge.cw_twotimes_k41_joined_by_key_holds : PySem.Challenge.rw_twotimes_k41_joined_by_key.Holds := by
 w_on;o_law;k_head;(case hw=>w_witness2)
 k_fill
 refine Lw.walk (l:=PySem.Challenge.rw_twotimes_k41_joined_by_key) rfl rfl (fun w h Y=>PySem.W.kIn_of Y) ?F
 case F=>
  intro w mg fa h KX G hmg;refine' Lw.all_mk KX G hmg ?aa ?ab ?ac ?ad ?ae ?af ?ag ?ah ?ai ?aj ?ak ?al ?am ?an ?ao ?ap ?aq ?ar ?au ?av ?aw ?ax ?ay ?az ?aA ?aB ?aC ?aD ?aE ?aF ?aG ?aH ?aI ?aJ ?aK ?aL ?aM (Lw.fe_mk ?aN ?aO ?aP) ?aQ (Lw.fe_mk ?aR ?aS ?aT) ?aU (Lw.fe_mk ?aV ?aW ?aX) ?aY (Lw.fe_mk ?aZ ?a0 ?a1) ?a2 (Lw.fe_mk ?a3 ?a4 ?a5) ?a6 (Lw.fe_mk ?a7 ?a8 ?a9) ?ba (Lw.fe_mk ?bb ?bc ?bd) ?be (Lw.fe_mk ?bf ?bg ?bh) ?bi (Lw.fe_mk ?bj ?bk ?bl) ?bm (Lw.fe_mk ?bn ?bo ?bp) ?bq (Lw.fe_mk ?br ?bs ?bt) ?bu (Lw.fe_mk ?bv ?bw ?bx) ?bz (Lw.fe_mk ?bA ?bB ?bC) ?bD ?bE (Lw.fe_mk ?bF ?bG ?bH) ?bI (Lw.fe_mk ?bJ ?bK ?bL) ?bM ?bN (Lw.fe_mk ?bO ?bP ?bQ) ?bR ?bS (Lw.fe_mk ?bT ?bU ?bV) ?bW ?bX (Lw.fe_mk ?bY ?bZ ?b0) ?b1 (Lw.fe_mk ?b2 ?b3 ?b4) ?b5 (Lw.fe_mk ?b6 ?b7 ?b8) ?b9 (Lw.fe_mk ?ca ?cb ?cc) ?cd (Lw.fe_mk ?ce ?cf ?cg) ?ch (Lw.fe_mk ?ci ?cj ?ck) ?cl (Lw.fe_mk ?cm ?cn ?co) ?cp (Lw.fe_mk ?cq ?cr ?cs) ?ct (Lw.fe_mk ?cu ?cv ?cw) ?cx (Lw.fe_mk ?cy ?cz ?cA) ?cB (Lw.fe_mk ?cC ?cD ?cE) ?cF (Lw.fe_mk ?cG ?cH ?cI) ?cJ (Lw.fe_mk ?cK ?cL ?cM) ?cN (Lw.fe_mk ?cO ?cP ?cQ) ?cR (Lw.fe_mk ?cS ?cT ?cU) ?cV (Lw.fe_mk ?cW ?cX ?cY) ?cZ (Lw.fe_mk ?c0 ?c1 ?c2) ?c3 (Lw.fe_mk ?c4 ?c5 ?c6) ?c7 ?c8 (Lw.fe_mk ?c9 ?da ?db) ?dc ?dd (Lw.fe_mk ?de ?df ?dg) ?dh ?di (Lw.fe_mk ?dj ?dk ?dl) ?dm ?dn ?dp ?dq ?dr ?ds ?dt ?du ?dv ?dw ?dx ?dy ?dz ?dA ?dB ?dC ?dD ?dE ?dF ?dG ?dH ?dI ?dJ
  all_goals try k_is
  (case av=>k_exc)
  (case aw=>k_exc)
  (case ax=>k_exc)
  all_goals try k_is
  (case aK=>kit_is)
  (case aL=>kit_is)
  all_goals try k_is
