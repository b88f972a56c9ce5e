import PyProof.Rows.All
import Wide.All
import OpenK.AllK
import Wide.FinOn
import Lean
import PyProof.EqAt
import PyProof.EqKinds
import PyProof.TupleCall
import PyProof.CompFree
import PyProof.P3In
import PyProof.RaisesMany
import PyProof.StationsW
import PyProof.ExcClass3
import PyProof.ExcBaseAll.ValueError
import PyProof.RulesTry
import PyProof.RulesAs
import PyProof.NsDelKeeps
import KE.KTryMore
import PyProof.ExcArgs
import KE.RegKIsAll
import PyProof.Rows.EqDataRows
import KE.KIntText
import KE.KDictOf
import PyProof.StrBlockH
import KE.KWords
import PyProof.CallStr
import PyProof.StrLawsTight
import PyProof.StrLawsChain
import PyProof.AttrMissHeap
import KE.KSortTup
import Wide.Seal
import PySem.Challenge.RW_twotimes_k42_joined_by_worth
set_option Elab.async false
set_option linter.all false
set_option maxRecDepth 100000
set_option compiler.extract_closed false
set_option bootstrap.genMatcherCode false
noncomputable section
open List renaming length_map→dJ,mem_append→dN,length_append→dO,mem_singleton→dP,getElem?_map→dQ,map_append→dS,mem_cons→dU,getElem?_eq_some_iff→dX,length_take→dY,length_cons→ej,getElem?_eq_getElem→en,mem_map→eq,mem_of_getElem?→er,pairwise_cons→et,map_cons→eu,append_assoc→eD,take_length→eE,length→eF,pairwise_append→eG,Perm→eH,mem_append_left→eJ,map_nil→eK,all_cons→eL,append_nil→eO,nodup_cons→eQ,mem_append_right→eT,length_drop→eU,Nodup→eV,mem_cons_of_mem→eX,size_toArray→eZ,Pairwise→e7,filter_cons→e8,mem_of_mem_take→fc,mem_map_of_mem→ff,mem_filter→fg,mem_cons_self→fh,find?_cons→fi,lookup_cons→fj,range→fq,mem_filterMap→ft,not_mem_nil→fu,take_of_length_le→fv,take_add_one→fA,getElem_mem→fB,pairwise_map→fD,filterMap_cons→fF,all_eq_true→fI,getElem?_of_mem→fJ,map_map→fK,cons→fN,length_filterMap_le→fO,length_eq_zero_iff→fP,reverse_append→fQ,length_pos_iff→fR,getElem?_append_right→fW,getElem?_append_left→fX,any_cons→fY,reverse_singleton→gh,take_append_drop→gj,nodup_append→gq,pairwise_flatMap→gv,getElem?_set_ne→gy,take_sublist→gC,reverse_cons→gG,getElem?_drop→gI,pairwise_iff_getElem→gJ,nil_append→gM,cons_append→gN,any_eq_true→gO,filter_eq_nil_iff→gQ,flatMap_cons→gR,length_filter_le→gT,flatMap_append→gU,filter_append→gY,getElem?_set_self→gZ,lookup→g9,replicate→hZ,lookup_append→ic,getD_eq_getElem?_getD→ie,drop_eq_getElem_cons→ii,perm_middle→ij,drop_eq_nil_of_le→ik,mem_of_mem_drop→im,extract_eq_take_drop→io,getElem?_take→iq,take_append_of_le_length→iu,mem_of_find?_eq_some→iy,map_eq_nil_iff→iz,mem_flatMap→iA,mem_range→iB,of_mem_zip→iC,map_take→iE,pairwise_singleton→iF,drop_sublist→iG,singleton_append→iH,drop_append→iK,eraseIdx_cons_succ→iM,ext_getElem?→iN,getLast?_eq_none_iff→iO,dropLast_subset→iP,getLast?_map→iQ,take_succ_cons→iR,find?_eq_none→iU,map_singleton→iV,getElem?_eq_none_iff→iX,getElem_inj→iZ,any_eq_false→i3,filterMap_map→i6,length_singleton→i8,length_set→jd,filterMap_append→je,perm_append_comm→jf,mem_iff_getElem→jg,drop_append_of_le_length→ji,flatten_cons→jj,countP_cons→jp,pairwise_lt_range→jq,length_range→jt,getElem?_eq_none→ju,ext_getElem→jv,length_reverse→jw,find?_append→jx,head?_cons→jz,length_nil→jA,mem_of_getLast?→jB,map_dropLast→jC,cons_lt_cons_iff→jD,find?_isSome→jE,mem_erase_of_ne→jF,length_erase_of_mem→jG,length_pos_of_mem→jH,find?_some→jI,dropLast_concat_getLast→jJ,pairwise_filterMap→jK,mem_reverse→jL,nil_perm→jM,rel_of_pairwise_cons→jN,filter_sublist→jO,getLast?_append→jP
open Or renaming inl→dL,inr→fH
open Nat renaming le_refl→dM,le_trans→dW,ne_of_lt→ei,lt_of_lt_of_le→eA,zero_le→eI,lt_irrefl→eM,le_of_lt→fw,le_of_eq→fG,le_succ→fL,lt_succ_of_lt→fM,ne_of_gt→fV,lt_trans→fZ,le_of_succ_le→gg,mul_le_mul→gx,lt_succ_self→hG,lt_of_le_of_lt→h9,zero_add→ir,add_sub_cancel→iI,add_zero→iJ,le_of_ble_eq_true→ja,add_assoc→jk
open False renaming elim→dR
open Bool renaming false_ne_true→eN,true_and→e9,and_eq_true→fz,false_eq_true→gi,eq_iff_iff→gz,and_false→h8,and_true→iw,false_or→i9,false_and→jy
open Int renaming le_trans→eP,emod_nonneg→eS,emod_lt_of_pos→eW,le_refl→fb,le_of_lt→fk,eq_ofNat_of_zero_le→fS,not_lt→ip,zero_add→iW
open Array renaming toList_push→eR,length_toList→e4,getElem?_toList→fm,getElem?_eq_getElem→fE,Perm→gK,getElem?_eq_some_iff→ib,perm_iff_toList_perm→ig,append_assoc→iY,mem_toList_iff→i5,toList_extract→jh,getElem?_modify→jm,size_map→jo,getD_eq_getD_getElem?→jr,getElem?_eq_none→js
open Option renaming some→eY,map_some→gH,isSome_iff_exists→h7,getD_none→i7,bind_some→jc
open PySem renaming wpAny_bind→jQ,wpAny_pure→jR,sizeLine→jS,starEach→jU,mainGlobals→jW,SetTable→jX,Program→jY,FuncData→jZ,Builtin→j1,NameKind→j3,compareOp→j5,cellsFrom→j6,wpAny_mono→j7,PassesOwn→j9,binaryOp→kb,wpAny_holding→ke,sizeLine_eq→kf,intKind→ki,holding→kj,codeAny→kl,pickOrder→kz,sysModules→kB,bootBuiltins→kC,swapsWith→kD,standAt→kE,wpAny_call_entry→kF,scanBound→kG,wpAny_rule→kH,wpAny_truthy_bool→kI,assignEach→kJ,foldedSetIterable→kK,codeAny_mono→kL,wpAny_newObj_type→kM,wpAny_setField→kO,wpAny_attempt→kP,codeAny_builtin→kQ,attributeBase→kR,typeIs_str→kS,sliceBounds→kW,callerA→kZ,noteFrame→k7,compEnvC→lb,plainId_quiet→lc,behindInMarks→le,BindsTo→lf,wpAny_call→lj,wpAny_field→lq,valueAt→lr,notedBy→lu,relayAll→lE,wpAny_setState_of→lF,wpAny_ite_split→lG,wpAny_execs_nil→lH,wpAny_load→lI,wpAny_passesOwn→lJ,getMethod→lK,wpAny_Call_Name_kw→lM,backToKw→lN,keywordEach→lO,Keyword→lP,getItem→lQ,wpAny_setEntries_of→lS,tupleKind→lV,wpAny_pyIter_list→lW,unaryOp→lY,inplaceOp→lZ,leaving→l4,wpAny_typeOf→l5,PlainAttrs→l6,call_meets→l7,CellsOk→l8,wpAny_getItem_str_slice→l9,post_val_or_str→ma,unsupported→me,wpAny_newList→mh,GenState→mj,entryFor→ml,setNext→mm,wpAny_fieldsOf→mn,builtinsNs→mq,wpAny_Name→mw,wpAny_execs_cons→my,wpAny_standAt→mz,swapsWithSole→mB,swappedStores→mC,letOwnedTupleGo→mD,DictEntry→mE,callWith→mF,seqIndex_of→mG,seqIndex_neg→mH,call_meetsIn→mJ,compPost→mK,checkBuiltinCall→mL,wpAny_newTuple→mR,intKind_is→mS,storeSet→mT,wpAny_askSetting→mU,isSubtype_type→mV
open PyProof.Rows renaming wpS_bind→jT,wpS_pure→jV,pendingOf→j0,IntsAre→j8,wpS_forRange→kc,wpS_mono→kg,failedOf→kh,SortKind→ko,wpS_get→kr,wpS_modify→kt,AllBare→ku,pairsOf→kx,reverseSlice'→lz,listUpdate_at→lC,seqEpoch_at→lD,setPending→lR,sortedHeap→mf,pairsOf_toList→mi,subscriptTail_builtinR→mI,gallopOf→mN,wpS_lift→mO,mergeAt'→mQ
abbrev Fg:=PySem.W.Frag
namespace PySem.W.Fast
def tw3940726407931505853:=0
def tw15207768381406512446:=0
def tw1452703047697163400:=0
def tw13390332596807657207:=0
def tw16255537894338831789:=0
def tw4830561934764765897:=0
def tw8169296656533960011:=0
def tw12876253687473155090:=0
def tw4703820487901270293:=0
def tw4804886813247255857:=0
def tw1012989320162541849:=0
def tw5374704511742519764:=0
def tw8831848495685461606:=0
def tw4825569080208373841:=0
def tw9437086702553683453:=0
def tw7955264859174928020:=0
def tw15749366135034864740:=0
def tw11033101598359511433:=0
def tw7000231902000750515:=0
def tw1523770071860543876:=0
def tw17420770480717874120:=0
def tw843163061783033276:=0
def tw3668743519308485301:=0
def tw11648803879781891732:=0
def tw12894873417496015940:=0
def tw18209784058321299065:=0
def tw8320862746749995324:=0
def tw8820005393578524947:=0
def tw1831585960226894771:=0
def tw1985828480419160594:=0
def tw11024814675867482705:=0
def tw2811948213699237616:=0
def tw17076117750214945141:=0
def tw11763153845972732643:=0
def tw13384995045600608585:=0
def tw13589698033082253872:=0
def tw15602168731000637733:=0
def tw13191507864590889753:=0
def tw12797919565205579636:=0
def tw2603231056411885345:=0
def tw9666645630999033680:=0
def tw3000326473099905787:=0
def tw2839470171817842855:=0
def tw11196456113947572646:=0
def tw10669749327067804821:=0
def tw6265585694077174063:=0
def tw2009382278673338919:=0
def tw14451201154404591289:=0
def tw8784129499711305573:=0
def tw10334022677581040392:=0
def tw3574974729370310927:=0
def tw12282060672245201556:=0
def tw15281871609596248782:=0
def tw8521350750219430971:=0
def tw17857322416904169273:=0
def tw16835871616346197754:=0
def tw2722811210518733358:=0
def tw12135282721938104772:=0
def tw4084269989710451979:=0
def tw3847395162207583417:=0
def tw13215001436303060599:=0
def tw6508129998498461556:=0
def tw13657468909188259956:=0
def tw2406721414168432092:=0
def tw8056550869683175322:=0
def tw14967845195511763817:=0
def tw7815674892896813177:=0
def tw13905257394827012928:=0
def tw2958165144161800328:=0
def tw8934307108529813348:=0
def tw4863143353924841317:=0
def tw12178856064012597025:=0
def tw9923557501609596364:=0
def tw1370172834978573451:=0
def tw12169440846546171510:=0
def tw12399451787462212961:=0
def tw7778957214204544383:=0
def tw13306646660882553866:=0
def tw4479786886275607462:=0
def tw18062769851168543319:=0
def tw13187049352607483775:=0
def tw8951279637996921081:=0
def tw172383081255211321:=0
def tw5627169830624258674:=0
def tw11677091441617227607:=0
def tw10043161515105741060:=0
def tw13290269875359176048:=0
def tw13491579829934234122:=0
def tw4701902182506951603:=0
def tw9718853463680759861:=0
def tw5457432668206467165:=0
def tw1244481228527189701:=0
def tw16908630797717513733:=0
def tw18144150822475567522:=0
def tw17972902299547433287:=0
def tw17071057893630281678:=0
def tw13237505167247091273:=0
def tw10704030944915701892:=0
def tw15602479004502299759:=0
def tw6811650823342771386:=0
def tw11958602500974299254:=0
def tw1522416498805015797:=0
def tw17118168032015092647:=0
def tw12131471394686704568:=0
def tw18267259751493294611:=0
def tw4992283284290292495:=0
def tw7630850542993026685:=0
def tw17242532996001469892:=0
def tw2109267059836299855:=0
def tw14891755236326011809:=0
def tw13285971750659998794:=0
def tw17022644783950936580:=0
def tw13789653655933476238:=0
def tw14035355216108314521:=0
def tw8530290870726985865:=0
def tw2572914904178409967:=0
def tw6896850637719232916:=0
def tw6328411049754316292:=0
def tw7223196252930157090:=0
def tw13710879137085290270:=0
def tw11663357456614721877:=0
def tw16622470411462568881:=0
def tw7900564464622018525:=0
def tw11415499594953786716:=0
def tw12101723158944927969:=0
def tw694911971380328587:=0
def tw2647087229555979350:=0
def tw2873748107213700097:=0
def tw4416143815531276256:=0
def tw17324083720771690479:=0
def tw8492701010483800708:=0
def tw9533175915423639243:=0
def tw1587621994342700691:=0
def tw2400116198989349677:=0
def tw16599958519496357590:=0
def tw10790309070185858033:=0
def tw17883666268985948877:=0
def tw14942861160464674157:=0
def tw16529537726263851668:=0
def tw10809657776906205849:=0
def tw15331238400641314249:=0
def tw6761785203312416701:=0
def tw5265406059123363380:=0
def tw16020191993123224393:=0
def tw4897121223462477485:=0
def tw2030914899860451866:=0
def tw17473028536221415076:=0
def tw15379996162943864548:=0
def tw16968824895687890652:=0
def tw7112436473494995244:=0
def tw16725183166435780888:=0
def tw5571500017872040882:=0
def tw10085602038567446604:=0
def tw10472385885069302496:=0
def tw11035204915449961167:=0
def tw11795651121581045561:=0
def tw12758209524144934269:=0
def tw8442566496056942467:=0
def tw1481181718259351452:=0
def tw13706141783697063824:=0
def tw18375952455281933634:=0
def tw8464249485344581818:=0
def tw10908367582874599404:=0
def tw6506905764255861953:=0
def tw9475171288276212475:=0
def tw16089953160885803037:=0
def tw5578125837762627244:=0
def tw1685776521581467091:=0
def tw7661788822891775383:=0
def tw7161096061386692481:=0
def tw12766791896855785906:=0
def tw5458708639062229316:=0
def tw11907048116523754981:=0
def tw13014453647962331307:=0
def tw5848683563015405765:=0
def tw1557761882191745547:=0
def tw13701845391386169957:=0
def tw15382498505331542140:=0
def tw11932060081195437054:=0
def tw5422665046286319187:=0
def tw4726458918958175807:=0
def tw6038144398040133691:=0
def tw15003348234280981250:=0
def tw9461275188558336464:=0
def tw8424284776315172950:=0
def tw5628163953739502578:=0
def tw13178780318228342812:=0
def tw14020916356926625638:=0
def tw2619232826407663229:=0
def tw3801728593586480018:=0
def tw9390900319209616527:=0
def tw17144167306904333712:=0
def tw10565405514016619949:=0
def tw1885228764168259729:=0
def tw13165331553549083570:=0
def tw15937116945995361428:=0
def tw6936925395172968051:=0
def tw17385297892935949734:=0
def tw1255882412208346578:=0
def tw5956107113332919559:=0
def tw6992231846880618833:=0
def tw9529480289678383074:=0
def tw5018418219914797669:=0
def tw6676211275500702692:=0
def tw7704173653519877017:=0
def tw17829846706899943353:=0
def tw4993167102247206794:=0
def tw10445701686785024101:=0
def tw15156071243818034777:=0
def tw12319009878709617268:=0
def tw5262930141829147632:=0
def tw15658478145971724596:=0
def tw10706028714974489227:=0
def tw6728563143362221976:=0
def tw7248273140266390500:=0
def tw9022020939443124901:=0
def tw17745550242044037520:=0
def tw24159450014173055:=0
def tw11194445917501146592:=0
def tw12159854090455833988:=0
def tw12827027940603348114:=0
def tw3304609195283306409:=0
def tw5953089108091272335:=0
def tw7882960951413353905:=0
def tw10033345982254739212:=0
def tw9241330392272428201:=0
def tw16027910002979998741:=0
def tw5036841386883070468:=0
def tw11378221750316758183:=0
def tw1567247490109006511:=0
def tw14712749751915692398:=0
def tw12482771051418739877:=0
def tw11068171545517289981:=0
def tw15890391218073135347:=0
def tw13786463345815998832:=0
def tw4748036014987713069:=0
def tw3171915707188469279:=0
def tw3852341456642059827:=0
def tw3252887974479099366:=0
def tw14459484801247958492:=0
def tw2523796478076403628:=0
def tw4486669131860283654:=0
def tw12599175741277365365:=0
def tw2725999342363996646:=0
def tw13732433918868160171:=0
def tw3042049970187733259:=0
def tw17271596116908972164:=0
def tw15994926117156738716:=0
def tw17405180400221130678:=0
def tw11097471443788958127:=0
def tw6199241645684414410:=0
def tw15304344816091348661:=0
def tw5073614822943308192:=0
def tw14004639126120560205:=0
def tw9388131743965951219:=0
def tw1285753972462798209:=0
def tw1837603249464856922:=0
def tw11277323624450348776:=0
def tw9545625172943134943:=0
def tw2766506202457042502:=0
def tw14919384853808485237:=0
def tw4229287789920996665:=0
def tw6809431771094490890:=0
def tw13634027405266894081:=0
def tw7410009985450120665:=0
def tw6286802505588202821:=0
def tw6016266122732360174:=0
def tw7671190555157198729:=0
def tw9070344660598105455:=0
def tw14283756028615319889:=0
def tw8558126982242995117:=0
def tw9603976349017471610:=0
def tw2925210401952614703:=0
def tw2433781723194817013:=0
def tw3423828021247728970:=0
def tw15876536939994934237:=0
def tw3232752706147772620:=0
def tw3232478516513553162:=0
def tw17541941204109001732:=0
def tw17416103802422169879:=0
def tw5351268312873947561:=0
def tw5136473934498622973:=0
def tw12266054544117006497:=0
def tw4755455322829016156:=0
def tw7848849416099141047:=0
def tw17191552611203456574:=0
def tw7443573226406597028:=0
def tw17989282969470420761:=0
def tw14639942340969942430:=0
def tw7891980804881770493:=0
def tw6323189529785510213:=0
def tw12843310387958177140:=0
def tw9854411361138856144:=0
def tw11104916306507198782:=0
def tw2467283810742538309:=0
def tw9699281383148062197:=0
def tw22713017936117450:=0
def tw7741673268071787415:=0
def tw9807536584852963501:=0
def tw9347063650009073261:=0
def tw4973165188277353001:=0
def tw7076054278635270896:=0
def tw6540426735405329828:=0
def tw9584606562784683116:=0
def tw3515119200153059466:=0
def tw3697170531742191597:=0
def tw9222212460003544477:=0
def tw9757510776457264524:=0
def tw17075868845591126107:=0
def tw7457623271723138528:=0
def tw15005405632132065986:=0
def tw17247434825739056041:=0
def tw7224426606334116777:=0
def tw12895769961952855760:=0
def tw12678186931867592228:=0
def tw8302523702471972314:=0
def tw8605067628597219158:=0
def tw785120960569369753:=0
def tw4977583522340531843:=0
def tw16699987948474011644:=0
def tw12083544636822766242:=0
def tw14217116644831546074:=0
def tw15575295182703804081:=0
def tw6972571900431950476:=0
def tw6528382192156911611:=0
def tw20645461133546412:=0
def tw464816611003734410:=0
def tw8811308567975228366:=0
def tw8055243482792632919:=0
def tw4658791266434730799:=0
def tw15521732548970326054:=0
def tw4615897259489276372:=0
def tw7099069325678497793:=0
def tw8509908634335627476:=0
def tw17224576377837405397:=0
def tw236343110433887495:=0
def tw10798643203539205340:=0
def tw2369271710548782313:=0
def tw4526044156405995384:=0
def tw9763157405750848607:=0
def tw14340639615878866323:=0
def tw7272997625439051773:=0
def tw3111594705786234406:=0
def tw16970148092069759426:=0
def tw1539396412784472317:=0
def tw6502157199236928247:=0
def tw1936491441956884934:=0
def tw5343763208691991811:=0
def tw7495385832326571359:=0
def tw17593970494664969033:=0
def tw7547676378974512548:=0
def tw2230668585539744939:=0
def tw18112927351226329455:=0
def tw4773195194242013019:=0
def tw18049917411062644623:=0
def tw16133651495282630489:=0
def tw11287201925405705971:=0
def tw546748383253488091:=0
def tw5696019267649533663:=0
def tw12285726651595110960:=0
def tw3161420133185175112:=0
def tw11117476740709842045:=0
def tw359387763131189325:=0
def tw17380943797259134876:=0
def tw11852024159419923374:=0
def tw6184916701697660713:=0
def tw7483755903564778610:=0
def tw7518276103306068287:=0
def tw280724214378696653:=0
def tw5084445271246337199:=0
def tw15465005917271576816:=0
def tw4672118926453695625:=0
def tw1572035374035330674:=0
def tw14180366743263520854:=0
def tw13935096647098388010:=0
def tw15331906517187400807:=0
def tw10927448823778059082:=0
def tw4510177664518349912:=0
def tw2059195348024261941:=0
def tw6498155460884678000:=0
def tw13964932825488565820:=0
def tw15648052547680216551:=0
def tw3135839351066301173:=0
def tw14925220896614154815:=0
def tw9127958561455317018:=0
def tw18391131295322984032:=0
def tw14390357278808660498:=0
def tw7271375560518948772:=0
def tw7919462606092966915:=0
def tw3618309852216814833:=0
def tw5849159301866236292:=0
def tw11899659669726839830:=0
def tw1074320072836794270:=0
def tw17963099921714468228:=0
def tw17594885587899258072:=0
def tw1359268513172090442:=0
def tw12250764977002278065:=0
def tw7673389546379551486:=0
def tw6740553751301494601:=0
def tw11953273055566355857:=0
def tw5393911698544521357:=0
def tw754618397370076683:=0
def tw3021211129327232356:=0
def tw9055710721515397574:=0
def tw11551093873554448574:=0
def tw9513641126463844592:=0
def tw6392239243573557531:=0
def tw14318839558465339797:=0
def tw2918631586621648624:=0
def tw578398951923924604:=0
def tw9840164936119333497:=0
def tw7777179891498019286:=0
def tw3413912971551680760:=0
def tw11334579130146268998:=0
def tw1355076988750423994:=0
def tw15634601545879623325:=0
def tw6040289639983480211:=0
def tw17421297634811876844:=0
def tw10337642108519481480:=0
def tw8667557949429306824:=0
def tw3357175203343859324:=0
def tw1237000142963258818:=0
def tw12313438056578684193:=0
def tw3922909690529394404:=0
def tw11716508375850063230:=0
def tw5357317042010654671:=0
def tw13736213980873787450:=0
def tw16733823244213661128:=0
def tw11685992222789080466:=0
def tw9741406652320299789:=0
def tw5317982078164396067:=0
def tw7406120494250205244:=0
def tw2271928811914077927:=0
def tw14480601970829101002:=0
def tw5377533882786410112:=0
def tw17620660350693176414:=0
def tw15601440739816456921:=0
def tw8939604890498869258:=0
def tw4354031669211938191:=0
def tw11516104189446410698:=0
end PySem.W.Fast
namespace L2
open PySem PySem.Spec PyProof.Rows
abbrev Key:=Sum (Option Int) Str
noncomputable def b9g:Value->Bool
 | .none=>true
 | _=>false
noncomputable def a9P:Key->Value->Bool
 | .inl (some k),v=>Value.isInt k v
 | .inl none,v=>b9g v
 | .inr x,v=>Value.isStrOf x v
noncomputable def keyH (w:World):Key->Int
 | .inl (some k)=>hashInt k
 | .inl none=>reduceHash 0xFCA86420
 | .inr x=>hashStr w x
theorem a0J:∀ {k:Key}{v:Value},a9P k v=true->(∃ i t,k=Sum.inl (some i)/\v=Value.int i t)\/(∃ x t,k=Sum.inr x/\v=Value.str x t)\/(k=Sum.inl none/\v=Value.none)
 | .inl (some i),v,h=>by
  obtain⟨t,e⟩:=Value.isInt_shape h;exact .inl ⟨i,t,rfl,e⟩
 | .inl none,v,h=>by
  cases v<;>first | exact .inr (.inr ⟨rfl,rfl⟩) | cases h
 | .inr x,v,h=>by
  obtain⟨t,e⟩:=Value.isStrOf_shape h;exact .inr (.inl ⟨x,t,rfl,e⟩)
theorem b0C (i:Int) (t:Tok):a9P (.inl (some i)) (.int i t)=true:=by simp[a9P,Value.isInt]
theorem b0D (x:Str) (t:Tok):a9P (.inr x) (.str x t)=true:=by simp[a9P,Value.isStrOf]
theorem b6t (a b:Int):decide ((Sum.inl (some a):Key)=Sum.inl (some b))=(a==b):=by
 by_cases e:a=b
 ·simp_all
 ·simp_all
theorem b6u (a b:Str):decide ((Sum.inr a:Key)=Sum.inr b)=decide (a=b):=by simp
theorem a5R {a b:Key}(h:a≠b):decide (a=b)=false:=decide_eq_false h
noncomputable def a0Q (prog:jY) (w:World):PySem.KeyKind prog w Key where
 is:=a9P
 hash:=keyH w
 inj:=λv a b ha hb=>by
  rcases a0J ha with ⟨i,t,rfl,rfl⟩ | ⟨x,t,rfl,rfl⟩ | ⟨rfl,rfl⟩
  ·rcases a0J hb with ⟨j,u,rfl,e⟩ | ⟨y,u,rfl,e⟩ | ⟨rfl,e⟩
   ·injection e with e1 _;rw[e1]
   ·exact nomatch e
   ·exact nomatch e
  ·rcases a0J hb with ⟨j,u,rfl,e⟩ | ⟨y,u,rfl,e⟩ | ⟨rfl,e⟩
   ·exact nomatch e
   ·injection e with e1 _;rw[e1]
   ·exact nomatch e
  ·rcases a0J hb with ⟨j,u,rfl,e⟩ | ⟨y,u,rfl,e⟩ | ⟨rfl,e⟩
   ·exact nomatch e
   ·exact nomatch e
   ·rfl
 byValue:=λk v h=>by
  rcases a0J h with ⟨i,t,rfl,rfl⟩ | ⟨x,t,rfl,rfl⟩ | ⟨rfl,rfl⟩<;>rfl
 pyHash:=λhv h=>by
  rcases a0J hv with ⟨i,t,rfl,rfl⟩ | ⟨x,t,rfl,rfl⟩ | ⟨rfl,rfl⟩
  ·exact wpAny_pyHash_int h
  ·exact wpAny_pyHash_str h
  ·exact PySem.W.pyHash_slot (T:="NoneType") rfl F.slot_NoneType_hash F.entry_NoneType_hash (F.args_NoneType_hash_1 _) (beq_builtin_none _) (.inl rfl) (jQ (jR (jQ (wpAny_mkInt (jR ⟨_,_,rfl,h⟩)))))
 eqBool:=λhu hv h=>by
  rcases a0J hu with ⟨i,t,rfl,rfl⟩ | ⟨x,t,rfl,rfl⟩ | ⟨rfl,rfl⟩
  ·rcases a0J hv with ⟨j,u,rfl,rfl⟩ | ⟨y,u,rfl,rfl⟩ | ⟨rfl,rfl⟩
   ·rw[b6t]at h;exact wpAny_eqBool_int h
   ·rw[show decide ((Sum.inl (some i):Key)=Sum.inr y)=false from a5R (by simp)]at h;exact SeqAt.EqAt.int_str i t y u _ _ _ _ h
   ·rw[show decide ((Sum.inl (some i):Key)=Sum.inl none)=false from a5R (by simp)]at h;exact SeqAt.EqAt.int_none i t _ _ _ _ h
  ·rcases a0J hv with ⟨j,u,rfl,rfl⟩ | ⟨y,u,rfl,rfl⟩ | ⟨rfl,rfl⟩
   ·rw[show decide ((Sum.inr x:Key)=Sum.inl (some j))=false from a5R (by simp)]at h;exact SeqAt.EqAt.str_int x t j u _ _ _ _ h
   ·rw[b6u]at h;exact wpAny_eqBool_str h
   ·rw[show decide ((Sum.inr x:Key)=Sum.inl none)=false from a5R (by simp)]at h;exact SeqAt.EqAt.str_none x t _ _ _ _ h
  ·rcases a0J hv with ⟨j,u,rfl,rfl⟩ | ⟨y,u,rfl,rfl⟩ | ⟨rfl,rfl⟩
   ·rw[show decide ((Sum.inl none:Key)=Sum.inl (some j))=false from a5R (by simp)]at h;exact SeqAt.EqAt.none_int j u _ _ _ _ h
   ·rw[show decide ((Sum.inl none:Key)=Sum.inr y)=false from a5R (by simp)]at h;exact SeqAt.EqAt.none_str y u _ _ _ _ h
   ·rw[decide_eq_true rfl]at h;unfold PySem.eqBool;refine ke ?_;exact lG (λ_=>jQ (kH (jR h))) λhab=>absurd rfl hab
 «strs»:=λk x t v h=>by
  rcases a0J h with ⟨i,u,rfl,e⟩ | ⟨y,u,rfl,e⟩ | ⟨rfl,e⟩
  ·exact nomatch e
  ·injection e with e1 _
   subst e1;cases v<;>rfl
  ·exact nomatch e
theorem a8d (prog:jY) (w:World) (i:Int) (t:Tok):(a0Q prog w).is (.inl (some i)) (.int i t)=true:=b0C i t
theorem a8e (prog:jY) (w:World) (x:Str) (t:Tok):(a0Q prog w).is (.inr x) (.str x t)=true:=b0D x t
end L2
namespace L2
open PySem PySem.Spec PyProof.Rows
inductive V where
 | non | bl (b:Bool) | int (i:Int) | str (x:Str) | byt (b:Array UInt8) | flt (b:UInt64) | ref (a:Addr) | ty (n:String)
 deriving DecidableEq
def RelV:V->Value->Prop
 | .non,u=>u=Value.none
 | .bl b,u=>u=Value.bool b
 | .int i,u=>∃ t,u=Value.int i t
 | .str x,u=>∃ t,u=Value.str x t
 | .byt b,u=>∃ t,u=Value.bytes b t
 | .flt b,u=>∃ t,u=Value.float b t
 | .ref a,u=>u=Value.ref a
 | .ty n,u=>u=Value.type n
abbrev Vals:List V->List Value->Prop:=Paired RelV
theorem Vals.length (r:Vals xs us):xs.length=us.length:=Paired.length r
theorem Vals.get:∀ {xs:List V}{us:List Value}{i:Nat}{x:V},Vals xs us->xs[i]?=some x->∃ u,us[i]?=some u/\RelV x u
 | _,_,_,_,.nil,e=>by simp at e
 | _,_,0,_,.cons r _,e=>by simp at e;subst e;exact⟨_,rfl,r⟩
 | _,_,i+1,x,.cons _ t,e=>by
  obtain⟨u,b,a⟩:=Vals.get t (by simpa using e);exact⟨u,by simpa using b,a⟩
theorem Vals.set (r:RelV x u):∀ {xs:List V}{us:List Value}(i:Nat),Vals xs us->Vals (xs.set i x) (us.set i u)
 | _,_,_,.nil=>.nil
 | _,_,0,.cons _ t=>.cons r t
 | _,_,i+1,.cons q t=>.cons q (Vals.set r i t)
theorem Vals.append:∀ {xs ys:List V}{us ws:List Value},Vals xs us->Vals ys ws->Vals (xs++ys) (us++ws)
 | _,_,_,_,.nil,s=>s
 | _,_,_,_,.cons r t,s=>.cons r (Vals.append t s)
theorem Vals.take:∀ {xs:List V}{us:List Value}(n:Nat),Vals xs us->Vals (xs.take n) (us.take n)
 | _,_,0,_=>.nil
 | _,_,_+1,.nil=>.nil
 | _,_,n+1,.cons r t=>.cons r (Vals.take n t)
theorem Vals.drop:∀ {xs:List V}{us:List Value}(n:Nat),Vals xs us->Vals (xs.drop n) (us.drop n)
 | _,_,0,r=>r
 | _,_,_+1,.nil=>.nil
 | _,_,n+1,.cons _ t=>Vals.drop n t
theorem Vals.none_of:∀ {xs:List V}{us:List Value}{i:Nat},Vals xs us->xs[i]?=none->us[i]?=none:=λ{a d i} r e=>by
 have b:=r.length;have c:=iX.mp e;exact iX.mpr (by omega)
def RelO:Option V->Option Value->Prop
 | some v,some u=>RelV v u
 | none,none=>True
 | _,_=>False
def KV {κ:Type}:List (κ×V)->List (κ×Value)->Prop:=Paired λ(p:κ×V) (q:κ×Value)=>p.1=q.1/\RelV p.2 q.2
noncomputable def kV:Key->V
 | .inl (some i)=>.int i
 | .inl none=>.non
 | .inr x=>.str x
inductive HO where
 /-- a list -/
 | lst (xs:List V)
 /-- a tuple (never changes) -/
 | tup (xs:List V)
 /-- a dict whose keys are ints and texts;one whose keys are tuples of ints and texts (the empty one is both) -/
 | dK (kvs:List (Key×V)) | dT (kvs:List (List Key×V))
 /-- a set of ints: its members,its size -/
 | set (S:Int->Bool) (n:Nat)
 /-- an instance of the class at C,its dict at dx,its attributes -/
 | ins (C dx:Addr) (fs:List (Str×V))
 /-- the dict of the instance at x -/
 | own (x:Addr)
 /-- the dict of an exception -/
 | xd (fs:List (Str×V))
 /-- a bound method,f of x -/
 | met (f x:Addr)
 /-- a range object lo,lo+1,.. below hi -/
 | rng (lo hi:Int)
 /-- a thing that is known to the object (the script;a dict while a loop walks it): read,never written while it is so -/
 | frz (o:Obj) (u:HO)
 /-- a code object's table -/
 | tbl (ps:Array Value)
 /-- any other thing,by what is true of its one object (a def of one's own: SetO a S n:=HO.ext λh=>..) -/
 | ext (φ:Heap->Prop)
abbrev Hp:=Addr->Option HO
noncomputable def upd (H:Hp) (a:Addr) (o:HO):Hp:=λb=>if b=a then some o else H b
theorem a0A:upd H a o a=some o:=by unfold upd;rw[if_pos rfl]
theorem a0w (h:b≠a):upd H a o b=H b:=by unfold upd;rw[if_neg h]
theorem a2h {H:Hp}(h:H a=some o) (h':H b=none):a≠b:=by
 intro e;subst e;rw[h]at h';cases h'
section
variable (P:jY) (w:World)
def ObjOk (H:Hp) (h:Heap) (a:Addr):HO->Prop
 | .lst xs=>xs.length≤jS/\∃ (its:List Value) (n:Nat),Vals xs its/\h.get? a=some { cls:=.type "list",data:=.seq its.toArray n }
 | .tup xs=>xs.length≤jS/\∃ its:List Value,Vals xs its/\IsTup h a its.toArray
 | .dK kvs=>kvs.length≤jS/\(a==kB)=false/\∃ vs,KV kvs vs/\h.DictOf (a0Q P w) a vs
 | .dT kvs=>kvs.length≤jS/\(a==kB)=false/\∃ xs:List (List Key×Addr×Value),
   Paired (λ(p:List Key×V) (q:List Key×Addr×Value)=>p.1=q.1/\H q.2.1=some (.tup (p.1.map kV))/\RelV p.2 q.2.2) kvs xs /\
   ∃ o es ep,h.get? a=some o/\o.ExactDict/\o.data=.dict es ep/\es.toList=xs.map (entryOfKey (lV (a0Q P w)))/\(xs.map (·.1)).Nodup
 | .set S n=>h.SetOf (ki P w) a S n
 | .ins C dx fs=>H dx=some (.own a)/\fs.length≤1000/\dx≠a/\h.get? a=some (PySem.W.instObj C dx) /\
   ∃ mA,h.Ns1 dx mA/\(∀ f,RelO (fs.lookup f) (mA f))/\PySem.Within mA (fs.map (·.1))
 | .own _=>∃ o,h.get? a=some o
 | .xd fs=>∃ mA,h.Ns1 a mA/\∀ f,RelO (fs.lookup f) (mA f)
 | .rng lo hi=>∃ t u v,h.get? a=some { cls:=.type "range",data:=.fields #[.int lo t,.int hi u,.int 1 v] }
 | .frz o u=>h.get? a=some o/\ObjOk H h a u
 | .tbl ps=>h.get? a=some { cls:=.none,data:=.fields ps }
 | .met f x=>h.get? a=some (PySem.W.methodObj (.ref f) (.ref x))
 | .ext φ=>φ h/\(∃ o,h.get? a=some o)/\∀ h1 h2:Heap,φ h1->(∀ o,h1.get? a=some o->h2.get? a=some o)->φ h2
def HOk (H:Hp) (h:Heap):Prop:=∀ a o,H a=some o->ObjOk P w H h a o
end
section
variable {P:jY}{w:World}{H H':Hp}{h h':Heap}{a:Addr}{o:HO}
theorem ObjOk.lt (x:ObjOk P w H h a o):a<h.objs.size:=by
 cases o with
 | lst xs=>obtain⟨_,_,_,_,e⟩:=x;exact Heap.lt_size e
 | tup xs=>obtain⟨_,_,_,p⟩:=x;exact p.lt
 | dK kvs=>obtain⟨_,_,_,_,o,_,_,e,_⟩:=x;exact Heap.lt_size e
 | dT kvs=>obtain⟨_,_,_,_,o,_,_,e,_⟩:=x;exact Heap.lt_size e
 | set S n=>obtain⟨o,_,_,_,e,_⟩:=x;exact Heap.lt_size e
 | ins C dx fs=>obtain⟨_,_,_,e,_⟩:=x;exact Heap.lt_size e
 | own y=>obtain⟨_,e⟩:=x;exact Heap.lt_size e
 | xd fs=>obtain⟨_,⟨_,_,_,e,_⟩,_⟩:=x;exact Heap.lt_size e
 | rng lo hi=>obtain⟨_,_,_,e⟩:=x;exact Heap.lt_size e
 | frz ob u=>obtain⟨e,_⟩:=x;exact Heap.lt_size e
 | tbl ps=>exact Heap.lt_size (x)
 | met f y=>exact Heap.lt_size (x)
 | ext φ=>obtain⟨_,⟨_,e⟩,_⟩:=x;exact Heap.lt_size e
theorem Paired.mapP {α β:Type}{F G:α->β->Prop}:∀ {l₁:List α}{l₂:List β},Paired F l₁ l₂->(∀ a b,F a b->G a b)->Paired G l₁ l₂
 | _,_,.nil,_=>.nil
 | _,_,.cons r t,f=>.cons (f _ _ r) (Paired.mapP t f)
theorem ObjOk.stay (x:ObjOk P w H h a o) (k:∀ b u,(b=a\/H b=some (.own a))->h.get? b=some u->h'.get? b=some u)
  (ho:∀ b,H b=some (.own a)->H' b=some (.own a)) (ht:∀ b xs,H b=some (.tup xs)->H' b=some (.tup xs)):ObjOk P w H' h' a o:=by
 induction o with
 | lst s=>obtain⟨z,l,n,r,e⟩:=x;exact⟨z,l,n,r,k _ _ (.inl rfl) e⟩
 | tup s=>obtain⟨z,l,r,g,e,c⟩:=x;exact⟨z,l,r,g,k _ _ (.inl rfl) e,c⟩
 | dK kvs=>obtain⟨z,y,F,r,g,i,j,e,c⟩:=x;exact⟨z,y,F,r,g,i,j,k _ _ (.inl rfl) e,c⟩
 | dT kvs=>
  obtain⟨z,y,s,r,g,i,j,e,c⟩:=x;exact⟨z,y,s,Paired.mapP r λp q z=>⟨z.1,ht _ _ z.2.1,z.2.2⟩,g,i,j,k _ _ (.inl rfl) e,c⟩
 | set S n=>obtain⟨g,i,j,t,e,c⟩:=x;exact⟨g,i,j,t,k _ _ (.inl rfl) e,c⟩
 | ins C dx fs=>
  obtain⟨d,z,D,e,A,⟨m,i,j,E,c⟩,r⟩:=x;exact⟨ho _ d,z,D,k _ _ (.inl rfl) e,A,⟨m,i,j,k _ _ (.inr d) E,c⟩,r⟩
 | own y=>obtain⟨g,e⟩:=x;exact⟨g,k _ _ (.inl rfl) e⟩
 | xd fs=>obtain⟨A,⟨m,i,j,e,c⟩,r⟩:=x;exact⟨A,⟨m,i,j,k _ _ (.inl rfl) e,c⟩,r⟩
 | rng lo hi=>obtain⟨t,u,v,e⟩:=x;exact⟨t,u,v,k _ _ (.inl rfl) e⟩
 | frz g u ih=>obtain⟨e,q⟩:=x;exact⟨k _ _ (.inl rfl) e,ih q⟩
 | tbl ps=>
  have e:=x;exact k a _ (.inl rfl) e
 | met f y=>
  have e:=x;exact k a _ (.inl rfl) e
 | ext φ=>obtain⟨p,⟨o,e⟩,B⟩:=x;exact⟨B _ _ p λo q=>k _ _ (.inl rfl) q,⟨o,k _ _ (.inl rfl) e⟩,B⟩
theorem HOk.lt (x:HOk P w H h) (e:H a=some o):a<h.objs.size:=(x a o e).lt
theorem HOk.fresh (x:HOk P w H h) (e:h.objs.size≤a):H a=none:=by
 cases q:H a with
 | none=>rfl
 | some u=>exact absurd (eA (x.lt q) e) (eM _)
theorem HOk.kept (x:HOk P w H h) (k:∀ b u,h.get? b=some u->h'.get? b=some u):HOk P w H h':=λa o e=>
 (x a o e).stay (λb u _ q=>k b u q) (λ_ q=>q) λ_ _ q=>q
theorem HOk.laid (x:HOk P w H h) (k:∀ b u,h.get? b=some u->h'.get? b=some u) (hp:h.objs.size≤a) (new:ObjOk P w (upd H a o) h' a o):HOk P w (upd H a o) h':=λb u e=>by
 have d:=x.fresh hp
 by_cases hb:b=a
 ·subst hb;rw[a0A]at e;cases e;exact new
 ·rw[a0w hb]at e;exact (x b u e).stay (λc v _ q=>k c v q) (λc q=>by rw[a0w (a2h q d)];exact q) λc f q=>by rw[a0w (a2h q d)];exact q
end
def Rd (H:Hp) (a:Addr) (u:HO):Prop:=H a=some u\/∃ o,H a=some (.frz o u)
theorem Rd.of (h:H a=some u):Rd H a u:=.inl h
theorem Rd.ok (r:Rd H a u) (x:HOk P w H h):ObjOk P w H h a u:=by
 rcases r with r | ⟨o,r⟩
 ·exact x a u r
 ·obtain⟨_,q⟩:=x a _ r;exact q
def Mut:Option HO->Prop
 | some (.lst _)=>True
 | some (.dK _)=>True
 | some (.dT _)=>True
 | some (.set _ _)=>True
 | some (.ins _ _ _)=>True
 | some (.ext _)=>True
 | _=>False
section
variable {P:jY}{w:World}{H:Hp}{h h':Heap}{x e:Addr}{o':HO}
theorem HOk.write (ok:HOk P w H h) (mu:Mut (H x)) (he:e=x\/H e=some (.own x)) (k:∀ b u,b≠e->h.get? b=some u->h'.get? b=some u) (heo:∃ u,h'.get? e=some u)
  (new:ObjOk P w (upd H x o') h' x o'):HOk P w (upd H x o') h':=λb u q=>by
 have a:∀ c y,H c=some (.own y)->c≠x:=λc y r z=>by subst z;rw[r]at mu;exact mu
 have g:∀ c d,H c=some (.tup d)->c≠x:=λc d r z=>by subst z;rw[r]at mu;exact mu
 by_cases hb:b=x
 ·subst hb;rw[a0A]at q;cases q;exact new
 ·rw[a0w hb]at q
  by_cases hbe:b=e
  ·have i:H b=some (.own x):=by
    rcases he with z | z
    ·exact absurd (hbe.trans z) hb
    ·rw[hbe];exact z
   rw[q]at i;cases i;obtain⟨v,j⟩:=heo;exact⟨v,by rw[hbe];exact j⟩
  ·refine (ok b u q).stay (λc v f r=>k c v ?_ r) (λc r=>by rw[a0w (a c b r)];exact r) λc d r=>by rw[a0w (g c d r)];exact r
   rcases f with rfl | f
   ·omega
   ·grind
end
structure Un (fs ex:List Addr) (H H':Hp) (h h':Heap):Prop where
 keep:∀ b o,h.get? b=some o->H b=none->b∉fs->b∉ex->h'.get? b=some o
 slot:∀ b o,h.get? b=some o->H b=none->b∈fs->b∉ex->∃ sl,h'.get? b=some { o with slots:=sl }
 free:∀ b o,h.get? b=some o->H b=none->b∉ex->H' b=none
 there:∀ b o,h.get? b=some o->b∉ex->∃ o',h'.get? b=some o'
 tups:∀ b xs,H b=some (.tup xs)->H' b=some (.tup xs)
 frzs:∀ b o u,H b=some (.frz o u)->H' b=some (.frz o u)
 tbls:∀ b ps,H b=some (.tbl ps)->∃ more,H' b=some (.tbl (ps++more))
section
variable {fs fs' ex ex':List Addr}{H H1 H2:Hp}{h h1 h2 h':Heap}{a x e:Addr}{o:HO}
theorem Un.any (u:Un fs ex H H1 h h1) (q:h.get? b=some ob) (n:H b=none) (hx:b∉ex):∃ sl,h1.get? b=some { ob with slots:=sl }:=by
 by_cases hb:b∈fs
 ·exact u.slot b ob q n hb hx
 ·exact⟨ob.slots,u.keep b ob q n hb hx⟩
theorem Un.trans (a:Un fs ex H H1 h h1) (b:Un fs ex H1 H2 h1 h2):Un fs ex H H2 h h2 where
 keep:=λc ob q n hc hx=>b.keep c ob (a.keep c ob q n hc hx) (a.free c ob q n hx) hc hx
 slot:=λc ob q n hc hx=>by
  obtain⟨sl,e1⟩:=a.slot c ob q n hc hx;obtain⟨sl',e2⟩:=b.slot c _ e1 (a.free c ob q n hx) hc hx;exact⟨sl',e2⟩
 free:=λc ob q n hx=>by
  obtain⟨o',e1⟩:=a.there c ob q hx;exact b.free c o' e1 (a.free c ob q n hx) hx
 there:=λc ob q hx=>by
  obtain⟨o',e1⟩:=a.there c ob q hx;exact b.there c o' e1 hx
 tups:=λc xs q=>b.tups c xs (a.tups c xs q)
 frzs:=λc ob xs q=>b.frzs c ob xs (a.frzs c ob xs q)
 tbls:=λc ps q=>by
  obtain⟨m1,e1⟩:=a.tbls c ps q;obtain⟨m2,e2⟩:=b.tbls c _ e1;exact⟨m1++m2,by rw[e2,iY]⟩
theorem Un.kept (k:∀ b u,h.get? b=some u->h'.get? b=some u):Un fs ex H H h h':=
 ⟨λb a q _ _ _=>k b a q,λb a q _ _ _=>⟨a.slots,k b a q⟩,λ_ _ _ n _=>n,λb a q _=>⟨a,k b a q⟩,λ_ _ q=>q,λ_ _ _ q=>q,λ_ c q=>⟨#[],by rw[q];simp⟩⟩
theorem Un.refl:Un fs ex H H h h:=Un.kept λ_ _ q=>q
theorem Un.laid (k:∀ b u,h.get? b=some u->h'.get? b=some u) (hp:h.objs.size≤a) (hn:H a=none):Un fs ex H (upd H a o) h h' where
 keep:=λb u q _ _ _=>k b u q
 slot:=λb u q _ _ _=>⟨u.slots,k b u q⟩
 free:=λb u q n _=>by rw[a0w (ei (eA (Heap.lt_size q) hp))];exact n
 there:=λb u q _=>⟨u,k b u q⟩
 tups:=λb xs q=>by rw[a0w (a2h q hn)];exact q
 frzs:=λb u xs q=>by rw[a0w (a2h q hn)];exact q
 tbls:=λb ps q=>⟨#[],by rw[a0w (a2h q hn),q];simp⟩
theorem Un.write (mu:Mut (H x)) (he:e=x\/H e=some (.own x)) (k:∀ b u,b≠e->h.get? b=some u->h'.get? b=some u) (heo:∃ u,h'.get? e=some u):Un fs ex H (upd H x o) h h':=by
 have d:∀ b,H b=none->b≠x:=λb n z=>by subst z;rw[n]at mu;exact mu
 have c:∀ b,H b=none->b≠e:=λb n z=>by simp_all
 have a:∀ b u,H b=some u->¬ Mut (some u)->b≠x:=λb u q g z=>by subst z;rw[q]at mu;exact g mu
 refine⟨λb u q n _ _=>k b u (c b n) q,λb u q n _ _=>⟨u.slots,k b u (c b n) q⟩,λb u q n _=>by rw[a0w (d b n)];exact n,λb u q _=>?_,
  λb f q=>by rw[a0w (a b _ q λz=>z)];exact q,λb u f q=>by rw[a0w (a b _ q λz=>z)];exact q,λb i q=>⟨#[],by rw[a0w (a b _ q λz=>z),q];simp⟩⟩
 by_cases hbe:b=e
 ·grind
 ·exact⟨u,k b u hbe q⟩
theorem Un.mono (u:Un fs ex H H1 h h1) (hs:∀ b∈fs,b∈fs') (hx:∀ b∈ex,b∈ex'):Un fs' ex' H H1 h h1:=
 ⟨λb c q n d a=>u.keep b c q n (λz=>d (hs b z)) λz=>a (hx b z),λ_ _ q n _ a=>u.any q n λz=>a (hx _ z),λb c q n a=>u.free b c q n λz=>a (hx b z),λb c q a=>u.there b c q λz=>a (hx b z),u.tups,u.frzs,u.tbls⟩
end
noncomputable def trk (h:Heap) (H:Hp):List Addr:=(fq h.objs.size).filter λa=>(H a).isSome
noncomputable def hidT (h:Heap) (H:Hp):Heap:=PySem.W.hideAll h (trk h H)
theorem b0E (h:Heap) (H:Hp):(hidT h H).objs.size=h.objs.size:=PySem.W.hideAll_size _ _
theorem b2R (e:h.get? b=some o) (n:H b=none):(hidT h H).get? b=some o:=
 PySem.W.hideAll_get _ e λa=>by
  have q:=(fg.mp a).2;rw[n]at q;simp at q
theorem b4S (e:(hidT h H).get? b=some o):h.get? b=some o/\H b=none:=by
 have a:=PySem.W.of_hideAll _ e;refine⟨a,?_⟩;cases q:H b with
 | none=>rfl
 | some x=>
  have c:b∈trk h H:=fg.mpr ⟨iB.mpr (Heap.lt_size a),by simp[q]⟩;have z:(hidT h H).get? b=none:=PySem.W.hideAll_none _ c;rw[z]at e;cases e
noncomputable def b4T (g h:Heap) (L:Addr):List (Addr×Obj):=(fq h.objs.size).filterMap λa=>if a=L\/(g.get? a).isSome=true then none else (h.get? a).map λo=>(a,o)
noncomputable def rest (g h:Heap) (L d:Addr):List (Addr×Obj):=(b4T g h L).filter λp=>decide (p.1≠d)
end L2
namespace L2
open PySem PySem.Spec PyProof.Rows
structure Mod (K:Fg) (mg:Str->Option Value) (base:Heap):Prop where
 kin:K.In base
 glob:base.Ns jW mg
 blt:∃ mb,base.Ns mq mb/\∀ x:Str,x≠"__name__"->mb x=kC x
 nolimit:base.NoLimit
structure Cx where
 prog:jY
 w:World
 K:Fg
 mg:Str->Option Value
 base:Heap
 A:Around
 N:List Str
 s₀:Shared
 H₀:Hp
 env:Env
 outer:List Env
 stack:List Env
 ex:List Addr
 fn:Str->Bool
 calm:Bool
 pn:List (Addr×Obj)
 xe:Value->Shared->Prop
noncomputable def frs (l:List Env):List Addr:=l.filterMap (·.frame)
abbrev Cx.fs (X:Cx):List Addr:=frs X.outer
def Vis (sc:Scope) (x:Str):Prop:=sc.names.lookup x=some .local\/sc.names.lookup x=some .cell\/sc.names.lookup x=some .free
def Loc (sc:Scope) (x:Str):Prop:=sc.names.lookup x=some .local\/sc.names.lookup x=some .cell
def Look (env:Env) (h:Heap) (m:Str->Option Value) (x:Str) (u:Value):Prop:=
 (env.kindOf x=some .local/\m x=some u)\/((env.kindOf x=some .cell\/env.kindOf x=some .free)/\∃ c,env.cells.lookup x=some c/\h.IsCell c (some u))
structure Cx.Ok (X:Cx):Prop where
 mod:Mod X.K X.mg X.base
 kind:X.env.scope.kind=.function
 glob:X.env.globals=jW
 blt:X.env.builtins=mq
 above:X.s₀.heap.objs.size≤X.env.locals
 inj:∀ x y c,X.env.cells.lookup x=some c->X.env.cells.lookup y=some c->x=y
 has:∀ x,(X.env.kindOf x=some .cell\/X.env.kindOf x=some .free)->∃ c,X.env.cells.lookup x=some c
 cab:∀ x c,X.fn x=true->X.env.cells.lookup x=some c->X.s₀.heap.objs.size≤c
 hd:X.calm=true->X.A.handled=none
 frames:X.A.frames=some X.stack
 stk:X.stack=X.outer\/(X.stack=X.env::X.outer/\X.env.frame=some X.env.locals)
 exf:∀ b∈X.ex,b≠X.env.locals/\∀ x c,X.env.cells.lookup x=some c->c≠b
 bs:∀ b o,X.base.get? b=some o->X.s₀.heap.get? b=some o/\X.H₀ b=none
 bsz:X.base.objs.size≤X.s₀.heap.objs.size
 noex:∀ b o,X.base.get? b=some o->b∉X.ex
 exfs:∀ b∈X.ex,b∉X.fs
 funs:X.s₀.heap.FunFrames X.base X.outer
 frf:∀ b∈X.fs,X.H₀ b=none
structure Inv (X:Cx) (pins:List (Addr×Obj)) (σ:List (Option V)) (H:Hp) (s:Shared):Prop where
 ok:X.Ok
 os:s.os=X.s₀.os
 bare:ku s.gens
 base:Un X.fs X.ex X.H₀ H X.s₀.heap s.heap
 loc:∃ m,s.heap.Ns X.env.locals m/\∀ (i:Nat) (x:Str) (v:V),X.N[i]?=some x->σ[i]?=some (some v)->Vis X.env.scope x->∃ u,RelV v u/\Look X.env s.heap m x u
 cell:∀ x c,X.env.cells.lookup x=some c->∃ v,s.heap.IsCell c v
 free:H X.env.locals=none
 freeC:∀ x c,X.env.cells.lookup x=some c->H c=none
 pin:∀ p∈X.pn++pins,s.heap.get? p.1=some p.2/\H p.1=none/\p.1≠X.env.locals/\p.1∉X.fs/\∀ v,p.2.data≠.cell v
 hok:HOk X.prog X.w H s.heap
 len:σ.length=X.N.length
section
variable {X:Cx}{pins:List (Addr×Obj)}{σ:List (Option V)}{H H':Hp}{s:Shared}{h':Heap}
theorem Cx.Ok.nofr (ok:X.Ok) (e:X.base.get? b=some o):b∉X.fs:=λa=>by
 have:=(ok.funs.mem a).1
 rw[e]at this;cases this
theorem Inv.bs (I:Inv X pins σ H s):∀ b o,X.base.get? b=some o->s.heap.get? b=some o/\H b=none:=λb o e=>
 ⟨I.base.keep b o (I.ok.bs b o e).1 (I.ok.bs b o e).2 (I.ok.nofr e) (I.ok.noex b o e),I.base.free b o (I.ok.bs b o e).1 (I.ok.bs b o e).2 (I.ok.noex b o e)⟩
theorem Inv.bk (I:Inv X pins σ H s):∀ b o,X.base.get? b=some o->s.heap.get? b=some o:=λb o e=>(I.bs b o e).1
theorem Inv.mod (I:Inv X pins σ H s):Mod X.K X.mg X.base:=I.ok.mod
theorem Inv.kIn (I:Inv X pins σ H s):X.K.In s.heap:=I.ok.mod.kin.keeps I.bk
theorem Inv.nolimit (I:Inv X pins σ H s):s.heap.NoLimit:=I.ok.mod.nolimit.keeps I.bk
theorem Inv.fr (I:Inv X pins σ H s):∃ m,Fr X.base X.env.locals s.heap m:=
 let ⟨m,hn,_⟩:=I.loc
 ⟨m,hn,I.bk,dW I.ok.bsz I.ok.above⟩
theorem Inv.lt (I:Inv X pins σ H s):X.env.locals<s.heap.objs.size:=let ⟨_,hn,_⟩:=I.loc;hn.lt
theorem Inv.sz (I:Inv X pins σ H s):X.s₀.heap.objs.size≤s.heap.objs.size:=dW I.ok.above (fw I.lt)
theorem Inv.nofs (I:Inv X pins σ H s) (h:s.heap.objs.size≤a):a∉X.fs:=λc=>by
 obtain⟨_,o,b,_⟩:=I.ok.funs.mem c;exact absurd (eA (Heap.lt_size b) (dW I.sz h)) (eM _)
theorem Inv.cne (I:Inv X pins σ H s):∀ x c,X.env.cells.lookup x=some c->c≠X.env.locals:=λx c e z=>by
 obtain⟨v,o,d,b⟩:=I.cell x c e;obtain⟨m,⟨i,g,h,a,f,_⟩,_⟩:=I.loc;rw[z,a]at d;cases d;rw[f]at b;cases b
theorem Inv.funs (I:Inv X pins σ H s):s.heap.FunFrames X.base X.outer:=by
 have g:∀ l,(∀ b∈frs l,b∈X.fs)->X.s₀.heap.FunFrames X.base l->s.heap.FunFrames X.base l:=by
  intro l
  induction l with
  | nil=>intro _ _;trivial
  | cons env r ih=>
   intro f h;obtain⟨k,⟨L,o,c,n,m,j⟩,i⟩:=h;have d:=f L (by unfold frs;rw[fF,c];exact fh);obtain⟨p,e⟩:=I.base.slot L o m (I.ok.frf L d) d λz=>I.ok.exfs L z d;exact⟨k,⟨L,_,c,n,e,j⟩,ih (λb a=>f b (by unfold frs;rw[fF,c];exact eX _ a)) i⟩
 exact g X.outer (λ_ a=>a) I.ok.funs
theorem Inv.stack (I:Inv X pins σ H s):s.heap.FunFrames X.base X.stack:=by
 rcases I.ok.stk with e | ⟨e,hf⟩
 ·rw[e];exact I.funs
 ·rw[e];obtain⟨m,a,_⟩:=I.loc;refine .cons (by rw[I.ok.kind];decide) hf a ?_ I.funs;exact Heap.get?_none_of_le (dW I.ok.bsz I.ok.above)
theorem Inv.stkSub (I:Inv X pins σ H s):∀ b∈frs X.stack,b∈X.env.locals::X.fs:=λb a=>by
 rcases I.ok.stk with e | ⟨e,hf⟩
 ·rw[e]at a;exact eX _ a
 ·rw[e]at a;unfold frs at a;rw[fF,hf]at a;exact a
theorem Inv.stkFree (I:Inv X pins σ H s):∀ b∈frs X.stack,H b=none:=λb a=>by
 rcases dU.mp (I.stkSub b a) with e | a
 ·rw[e];exact I.free
 ·obtain⟨_,o,c,_⟩:=I.ok.funs.mem a;exact I.base.free b o c (I.ok.frf b a) λz=>I.ok.exfs b z a
theorem Inv.step {ch:List Addr}(I:Inv X pins σ H s)
  (hch:∀ b∈ch,(b∈X.ex\/X.s₀.heap.objs.size≤b)/\b≠X.env.locals/\(∀ x c,X.env.cells.lookup x=some c->c≠b)/\∀ p∈X.pn++pins,p.1≠b)
  (keep:∀ b o,b≠X.env.locals->b∉X.fs->b∉ch->s.heap.get? b=some o->H b=none->h'.get? b=some o)
  (slot:∀ b o,b≠X.env.locals->b∈X.fs->b∉ch->s.heap.get? b=some o->H b=none->∃ sl,h'.get? b=some { o with slots:=sl }) (free:∀ b o,b∉ch->s.heap.get? b=some o->H b=none->H' b=none)
  (there:∀ b o,b∉ch->s.heap.get? b=some o->∃ o',h'.get? b=some o')
  (tups:∀ b xs,H b=some (.tup xs)->H' b=some (.tup xs)) (frzs:∀ b o u,H b=some (.frz o u)->H' b=some (.frz o u)) (tbls:∀ b ps,H b=some (.tbl ps)->∃ more,H' b=some (.tbl (ps++more)))
  (ns:∀ m,s.heap.Ns X.env.locals m->h'.Ns X.env.locals m) (hok:HOk X.prog X.w H' h') (hg:ku g') :
  Inv X pins σ H' { s with heap:=h',gens:=g',drawn:=d',toks:=t' }:=by
 have C:∀ b o,X.s₀.heap.get? b=some o->b≠X.env.locals:=λb o e=>ei (eA (Heap.lt_size e) I.ok.above);have j:∀ b o,X.s₀.heap.get? b=some o->b∉X.ex->b∉ch:=λb o e a h=>by
  rcases (hch b h).1 with z | z
  ·grind
  ·exact absurd (eA (Heap.lt_size e) z) (eM _)
 have t:∀ x c,X.env.cells.lookup x=some c->∀ v,s.heap.IsCell c v->h'.IsCell c v:=λx c e v ⟨o,y,E⟩=>by
  have g:=λz=>(hch c z).2.2.1 x c e rfl
  by_cases hc:c∈X.fs
  ·obtain⟨S,q⟩:=slot c o (I.cne x c e) hc g y (I.freeC x c e);exact⟨_,q,E⟩
  ·exact⟨o,keep c o (I.cne x c e) hc g y (I.freeC x c e),E⟩
 refine⟨I.ok,I.os,hg,⟨λb o e n h a=>?_,λb o e n h a=>?_,λb o e n a=>?_,λb o e a=>?_,λb B e=>tups b B (I.base.tups b B e),λb o B e=>frzs b o B (I.base.frzs b o B e),λb Q e=>?_⟩,?_,λx c e=>?_,?_,λx c e=>?_,λp L=>?_,hok,I.len⟩
 ·exact keep b o (C b o e) h (j b o e a) (I.base.keep b o e n h a) (I.base.free b o e n a)
 ·obtain⟨S,f⟩:=I.base.slot b o e n h a;obtain⟨F,A⟩:=slot b _ (C b o e) h (j b o e a) f (I.base.free b o e n a);exact⟨F,A⟩
 ·obtain⟨D,f⟩:=I.base.there b o e a;exact free b D (j b o e a) f (I.base.free b o e n a)
 ·obtain⟨D,f⟩:=I.base.there b o e a;exact there b D (j b o e a) f
 ·obtain⟨N,f⟩:=I.base.tbls b Q e;obtain⟨U,A⟩:=tbls b _ f;exact⟨N++U,by rw[A,iY]⟩
 ·obtain⟨m,T,M⟩:=I.loc;refine⟨m,ns m T,λi x v f A R=>?_⟩;obtain⟨u,r,l⟩:=M i x v f A R;refine⟨u,r,?_⟩;rcases l with l | ⟨k,c,e,z⟩
  ·exact .inl l
  ·exact .inr ⟨k,c,e,t x c e _ z⟩
 ·obtain⟨v,z⟩:=I.cell x c e;exact⟨v,t x c e v z⟩
 ·obtain⟨m,⟨o,_,_,y,_⟩,_⟩:=I.loc;exact free _ o (λz=>(hch _ z).2.1 rfl) y I.free
 ·obtain⟨v,o,y,E⟩:=I.cell x c e;exact free c o (λz=>(hch c z).2.2.1 x c e rfl) y (I.freeC x c e)
 ·obtain⟨e,n,G,J,d⟩:=I.pin p L;have g:=λz=>(hch p.1 z).2.2.2 p L rfl;exact⟨keep p.1 p.2 G J g e n,free p.1 p.2 g e n,G,J,d⟩
theorem Inv.un (I:Inv X pins σ H s) (u:Un X.fs [] H H' s.heap h') (hok:HOk X.prog X.w H' h'):Inv X pins σ H' { s with heap:=h',toks:=t' }:=by
 obtain⟨m,⟨o,k,q,g,r⟩,_⟩:=id I.loc;obtain⟨l,j⟩:=u.any g I.free (by simp);exact I.step (ch:=[]) (λ_ z=>nomatch z) (λb o _ c _ e n=>u.keep b o e n c (by simp)) (λb o _ c _ e n=>u.slot b o e n c (by simp)) (λb o _ e n=>u.free b o e n (by simp)) (λb o _ e=>u.there b o e (by simp)) u.tups u.frzs u.tbls (λt h=>by
  obtain⟨p,d,f,a,i⟩:=h;rw[g]at a;cases a;exact⟨_,d,f,j,i⟩) hok I.bare
theorem Inv.call (I:Inv X pins σ H s) (u:Un (frs X.stack) ch H H' s.heap h') (hok:HOk X.prog X.w H' h') (hg:ku g')
  (hch:∀ b∈ch,(b∈X.ex\/X.s₀.heap.objs.size≤b)/\b≠X.env.locals/\(∀ x c,X.env.cells.lookup x=some c->c≠b)/\∀ p∈X.pn++pins,p.1≠b) :
  Inv X pins σ H' { s with heap:=h',gens:=g',drawn:=d',toks:=t' }:=by
 obtain⟨m,⟨o,q,y,i,r⟩,_⟩:=id I.loc;obtain⟨t,f⟩:=u.any i I.free λz=>(hch _ z).2.1 rfl;exact I.step hch (λb o f l a e n=>u.keep b o e n (λz=>(dU.mp (I.stkSub b z)).elim f l) a) (λb o _ _ a e n=>u.any e n a) (λb o a e n=>u.free b o e n a) (λb o a e=>u.there b o e a) u.tups u.frzs u.tbls (λA j=>by
  obtain⟨v,g,h,d,k⟩:=j;rw[i]at d;cases d;exact⟨_,g,h,f,k⟩) hok hg
theorem Inv.turned (I:Inv X pins σ H s) (k:∀ b o,b≠it->s.heap.get? b=some o->h'.get? b=some o) (hn:H it=none) (hL:it≠X.env.locals)
  (h1:it∈X.ex\/X.s₀.heap.objs.size≤it) (h2:∀ x c,X.env.cells.lookup x=some c->c≠it) (h3:∀ p∈X.pn++pins,p.1≠it):Inv X pins σ H { s with heap:=h',toks:=t' }:=by
 have d:∀ b u,H b=some u->b≠it:=λb u e z=>by rw[z,hn]at e;cases e
 refine I.step (ch:=[it]) (λb i=>?_) (λb o _ _ a e _=>k b o (λz=>a (by simp[z])) e) (λb o _ _ a e _=>⟨o.slots,k b o (λz=>a (by simp[z])) e⟩) (λ_ _ _ _ n=>n)
  (λb o a e=>⟨o,k b o (λz=>a (by simp[z])) e⟩) (λ_ _ e=>e) (λ_ _ _ e=>e) (λb l e=>⟨#[],by rw[e];simp⟩) (λm h=>?_) (λb u e=>?_) I.bare
 ·have e:b=it:=by simpa using i
  subst e;exact⟨h1,hL,h2,h3⟩
 ·obtain⟨o,f,j,g,r⟩:=h;exact⟨o,f,j,k _ o (Ne.symm hL) g,r⟩
 ·refine (I.hok b u e).stay (λc v a q=>k c v ?_ q) (λ_ q=>q) λ_ _ q=>q;rcases a with z | z
  ·rw[z];exact d b u e
  ·exact d c _ z
theorem Inv.tok (I:Inv X pins σ H s) (t:Nat):Inv X pins σ H { s with toks:=t }:=I.un Un.refl I.hok
theorem Inv.kept (I:Inv X pins σ H s) (k:∀ b u,s.heap.get? b=some u->h'.get? b=some u):Inv X pins σ H { s with heap:=h',toks:=t' }:=I.un (Un.kept k) (I.hok.kept k)
theorem Inv.laid (I:Inv X pins σ H s) (k:∀ b u,s.heap.get? b=some u->h'.get? b=some u) (hp:s.heap.objs.size≤a) (new:ObjOk X.prog X.w (upd H a o) h' a o) :
  Inv X pins σ (upd H a o) { s with heap:=h',toks:=t' }:=I.un (Un.laid k hp (I.hok.fresh hp)) (I.hok.laid k hp new)
theorem Inv.write (I:Inv X pins σ H s) (mu:Mut (H x)) (he:e=x\/H e=some (.own x)) (k:∀ b u,b≠e->s.heap.get? b=some u->h'.get? b=some u) (heo:∃ u,h'.get? e=some u)
  (new:ObjOk X.prog X.w (upd H x o) h' x o):Inv X pins σ (upd H x o) { s with heap:=h',toks:=t' }:=I.un (Un.write mu he k heo) (I.hok.write mu he k heo new)
theorem Inv.weak (I:Inv X pins σ H s) (hl:σ'.length=σ.length) (w:∀ (i:Nat) v,σ'[i]?=some (some v)->σ[i]?=some (some v)):Inv X pins σ' H s:=
 ⟨I.ok,I.os,I.bare,I.base,let ⟨m,hn,hl'⟩:=I.loc;⟨m,hn,λi x v b c a=>hl' i x v b (w i v c) a⟩,I.cell,I.free,I.freeC,I.pin,I.hok,hl.trans I.len⟩
theorem Inv.pins_of (I:Inv X pins σ H s) (h:∀ p∈pins',s.heap.get? p.1=some p.2/\H p.1=none/\p.1≠X.env.locals/\p.1∉X.fs/\∀ v,p.2.data≠.cell v):Inv X pins' σ H s:=
 ⟨I.ok,I.os,I.bare,I.base,I.loc,I.cell,I.free,I.freeC,λp a=>(dN.mp a).elim (λz=>I.pin p (eJ _ z)) (h p),I.hok,I.len⟩
theorem a8Y {N:List Str}(hN:N.Nodup) {i j:Nat}(a:N[i]?=some x) (b:N[j]?=some x):i=j:=by
 obtain⟨f,c⟩:=dX.mp a;obtain⟨e,d⟩:=dX.mp b;exact (iZ hN).mp (c.trans d.symm)
theorem a68 (I:Inv X pins σ H s) (hN:X.N.Nodup) (hi:X.N[i]?=some x) (hx:Loc X.env.scope x) (r:RelV v u)
  (h:∀ s',Inv X pins (σ.set i (some v)) H s'->(∃ a,Heap.SameBut a s.heap s'.heap/\(a=X.env.locals\/X.env.cells.lookup x=some a))->Q () s') (hf:X.fn x=true\/X.env.scope.names.lookup x=some .local:=by first | exact .inl rfl | exact .inr rfl | assumption):wpAny M A (storeName X.env x u) Q E s:=by
 obtain⟨m,hn,hl⟩:=id I.loc;have hcls:(X.env.scope.kind==.class||(X.env.scope.kind==.module&&X.env.locals != X.env.globals))=false:=by rw[I.ok.kind];rfl
 have U:i<σ.length:=by rw[I.len];exact (dX.mp hi).1
 have J:=I.cne;have B:∀ {a:Addr}{G:Heap},(∃ o,s.heap.get? a=some o/\H a=none)->Heap.SameBut a s.heap G->HOk X.prog X.w H G:=λ{a G} ha f b ob e=>by
  obtain⟨_,_,F⟩:=ha;refine (I.hok b ob e).stay (λc R l q=>(f.2 c ?_).trans q) (λ_ q=>q) λ_ _ q=>q;rintro rfl;rcases l with rfl | l
  ·rw[F]at e;cases e
  ·rw[F]at l;cases l
 rcases hx with hk | hk
 ·refine wpAny_storeName_local hk hn (λG hn' f=>?_) hcls;obtain⟨oL,_,_,hoL,_⟩:=id hn;refine h _ ⟨I.ok,I.os,I.bare,⟨λb o e n D hx=>?_,λb o e n D hx=>?_,I.base.free,λb o e hx=>?_,I.base.tups,I.base.frzs,I.base.tbls⟩,⟨_,hn',λj y v' g C e3=>?_⟩,λy c e=>?_,I.free,I.freeC,λp hp=>?_,B ⟨oL,hoL,I.free⟩ f,by simpa using I.len⟩ ⟨_,f,.inl rfl⟩
  ·exact (f.2 b (ei (eA (Heap.lt_size e) I.ok.above))).trans (I.base.keep b o e n D hx)
  ·obtain⟨sl,g⟩:=I.base.slot b o e n D hx;exact⟨sl,(f.2 b (ei (eA (Heap.lt_size e) I.ok.above))).trans g⟩
  ·obtain⟨o',g⟩:=I.base.there b o e hx;exact⟨o',(f.2 b (ei (eA (Heap.lt_size e) I.ok.above))).trans g⟩
  ·by_cases hj:j=i
   ·subst hj;rw[hi]at g;cases g;rw[gZ U]at C;cases C;exact⟨u,r,.inl ⟨hk,by simp⟩⟩
   ·rw[gy (Ne.symm hj)]at C;obtain⟨u',r',q⟩:=hl j y v' g C e3;refine⟨u',r',?_⟩;rcases q with ⟨k,e⟩ | ⟨k,c,e,z⟩
    ·refine .inl ⟨k,?_⟩
     have:y≠x:=λe=>hj (a8Y hN g (e▸hi))
     simp[this,e]
    ·exact .inr ⟨k,c,e,z.sameBut f (J y c e)⟩
  ·obtain⟨R,z⟩:=I.cell y c e;exact⟨R,z.sameBut f (J y c e)⟩
  ·obtain⟨e,n,S,nf,d⟩:=I.pin p hp;exact⟨(f.2 p.1 S).trans e,n,S,nf,d⟩
 ·have L:X.fn x=true:=by
   rcases hf with z | z
   ·exact z
   ·rw[z]at hk;cases hk
  obtain⟨c,l⟩:=I.ok.has x (.inl hk);obtain⟨R,z⟩:=I.cell x c l;refine wpAny_storeName_cell I.ok.kind hk l z (λG Y f=>?_);obtain⟨oc,W,hocd⟩:=id z;refine h { s with heap:=G } ⟨I.ok,I.os,I.bare,⟨λb o e n D hx=>?_,λb o e n D hx=>?_,I.base.free,λb o e hx=>?_,I.base.tups,I.base.frzs,I.base.tbls⟩,⟨m,hn.sameBut f (Ne.symm (J x c l)),λj y v' g C e3=>?_⟩,λy T e=>?_,I.free,I.freeC,λp hp=>?_,B ⟨oc,W,I.freeC x c l⟩ f,by simpa using I.len⟩ ⟨c,f,.inr l⟩
  ·exact (f.2 b (ei (eA (Heap.lt_size e) (I.ok.cab x c L l)))).trans (I.base.keep b o e n D hx)
  ·obtain⟨sl,g⟩:=I.base.slot b o e n D hx;exact⟨sl,(f.2 b (ei (eA (Heap.lt_size e) (I.ok.cab x c L l)))).trans g⟩
  ·obtain⟨o',g⟩:=I.base.there b o e hx;exact⟨o',(f.2 b (ei (eA (Heap.lt_size e) (I.ok.cab x c L l)))).trans g⟩
  ·by_cases hj:j=i
   ·subst hj;rw[hi]at g;cases g;rw[gZ U]at C;cases C;exact⟨u,r,.inr ⟨.inl hk,c,l,Y⟩⟩
   ·rw[gy (Ne.symm hj)]at C;obtain⟨u',r',q⟩:=hl j y v' g C e3;refine⟨u',r',?_⟩;rcases q with q | ⟨k,T,e,z'⟩
    ·exact .inl q
    ·refine .inr ⟨k,T,e,z'.sameBut f ?_⟩;rintro rfl;exact hj (a8Y hN g (I.ok.inj _ _ _ e l▸hi))
  ·by_cases hcc:T=c
   ·subst hcc;exact⟨_,Y⟩
   ·obtain⟨w2,z2⟩:=I.cell y T e;exact⟨w2,z2.sameBut f hcc⟩
  ·obtain⟨e,n,S,nf,d⟩:=I.pin p hp;refine⟨(f.2 p.1 ?_).trans e,n,S,nf,d⟩;intro q;rw[q,W]at e;have q':=eY.inj e;exact d R (by rw[<- q'];exact hocd)
theorem a6o (I:Inv X pins σ H s) (hN:X.N.Nodup) (hi:X.N[i]?=some x) (hx:Loc X.env.scope x) (r:RelV v u)
  (h:∀ s',Inv X pins (σ.set i (some v)) H s'->Q () s') (hf:X.fn x=true\/X.env.scope.names.lookup x=some .local:=by first | exact .inl rfl | exact .inr rfl | assumption):wpAny M A (storeName X.env x u) Q E s:=
 a68 I hN hi hx r (λa b _=>h a b) hf
theorem Inv.call' (I:Inv X pins σ H s) (ho:s'.os=s.os) (u:Un (frs X.stack) ch H H' s.heap s'.heap) (hok:HOk X.prog X.w H' s'.heap) (hg:ku s'.gens)
  (hch:∀ b∈ch,(b∈X.ex\/X.s₀.heap.objs.size≤b)/\b≠X.env.locals/\(∀ x c,X.env.cells.lookup x=some c->c≠b)/\∀ p∈X.pn++pins,p.1≠b):Inv X pins σ H' s':=by
 obtain⟨h',g',d',t',g⟩:=s';have e:=ho;subst e;exact I.call u hok hg hch
end
abbrev XK:=Value->Option Addr->Hp->Prop
abbrev St:=List (Option V)
abbrev VK:=V->Hp->Prop
abbrev TE:=St->Hp->VK->Prop
abbrev TT:=St->Hp->(Bool->Hp->Prop)->Prop
abbrev TA:=St->Hp->(List V->Hp->Prop)->Prop
structure Ends where
 nx:St->Hp->Prop
 rt:VK
 bk:St->Hp->Prop:=λ_ _=>False
 ct:St->Hp->Prop:=λ_ _=>False
abbrev TS:=Ends->St->Hp->Prop
def EP (X:Cx) (pins:List (Addr×Obj)) (σ:St) (Q:VK) (u:Value) (s':Shared):Prop:=∃ v H',Inv X pins σ H' s'/\RelV v u/\Q v H'
def TP (X:Cx) (pins:List (Addr×Obj)) (σ:St) (Q:Bool->Hp->Prop) (b:Bool) (s':Shared):Prop:=∃ H',Inv X pins σ H' s'/\Q b H'
def AP (X:Cx) (pins:List (Addr×Obj)) (σ:St) (Q:List V->Hp->Prop) (us:List Value) (s':Shared):Prop:=∃ vs H',Inv X pins σ H' s'/\Vals vs us/\Q vs H'
def SP (X:Cx) (pins:List (Addr×Obj)) (D:Ends) (f:Flow) (s':Shared):Prop:=
 match f with
 | .next=>∃ σ' H',Inv X pins σ' H' s'/\D.nx σ' H'
 | .brk=>∃ σ' H',Inv X pins σ' H' s'/\D.bk σ' H'
 | .cont=>∃ σ' H',Inv X pins σ' H' s'/\D.ct σ' H'
 | .ret u=>∃ v σ' H',Inv X pins σ' H' s'/\RelV v u/\D.rt v H'
def PE (X:Cx) (e:Expr) (t:TE):Prop:=
 ∀ (pins:List (Addr×Obj)) (s:Shared) (σ:St) (H:Hp) (Q:VK),Inv X pins σ H s->t σ H Q->wpAny (model X.prog X.w) X.A (eval e X.env) (EP X pins σ Q) X.xe s
def PT (X:Cx) (e:Expr) (t:TT):Prop:=
 ∀ (pins:List (Addr×Obj)) (s:Shared) (σ:St) (H:Hp) (Q:Bool->Hp->Prop),Inv X pins σ H s->t σ H Q->wpAny (model X.prog X.w) X.A (isTrue e X.env (eval e X.env)) (TP X pins σ Q) X.xe s
def PW (X:Cx) (e:Expr) (t:TT):Prop:=
 ∀ (whole:Sem Value) (pins:List (Addr×Obj)) (s:Shared) (σ:St) (H:Hp) (Q:Bool->Hp->Prop),Inv X pins σ H s->t σ H Q->wpAny (model X.prog X.w) X.A (isTrue e X.env whole) (TP X pins σ Q) X.xe s
theorem PW.pt (h:PW X e t):PT X e t:=h _
def PA (X:Cx) (es:List Expr) (t:TA):Prop:=
 ∀ (pos:Pos) (pins:List (Addr×Obj)) (s:Shared) (σ:St) (H:Hp) (Q:List V->Hp->Prop),Inv X pins σ H s->t σ H Q->wpAny (model X.prog X.w) X.A (spliced (backTo pos (jU es X.env))) (AP X pins σ Q) X.xe s
def PS (X:Cx) (st:Stmt) (t:TS):Prop:=
 ∀ (pins:List (Addr×Obj)) (s:Shared) (σ:St) (H:Hp) (D:Ends),Inv X pins σ H s->t D σ H->wpAny (model X.prog X.w) X.A (exec st X.env) (SP X pins D) X.xe s
def PSs (X:Cx) (st:List Stmt) (t:TS):Prop:=
 ∀ (pins:List (Addr×Obj)) (s:Shared) (σ:St) (H:Hp) (D:Ends),Inv X pins σ H s->t D σ H->wpAny (model X.prog X.w) X.A (execs st X.env) (SP X pins D) X.xe s
theorem thn {α:Type}{t:Sem α}{Q Q':α->Shared->Prop}(h:wpAny M A t Q E s) (hQ:∀ a s,Q a s->Q' a s):wpAny M A t Q' E s:=j7 h hQ λ_ _ x=>x
end L2
namespace L2
open PySem PySem.Spec PyProof.Rows
section
variable {X:Cx}
def tVar (i:Nat):TE:=fun σ H Q=>∃ v,σ[i]?=some (some v)/\Q v H
def tC (v:V):TE:=λ_ H Q=>Q v H
theorem b6v (hN:X.N[i]?=some x) (hv:Vis X.env.scope x) (hd:(x==("__debug__":Str))=false:=by decide) (hcd:(x==("__classdict__":Str))=false:=by decide):PE X (.Name x pos) (tVar i):=by
 intro b s σ H Q I h;obtain⟨v,e,h⟩:=h;obtain⟨m,f,d⟩:=I.loc;obtain⟨u,r,l⟩:=d i x v hN e hv;have a:EP X b σ Q u s:=⟨v,H,I,r,h⟩;rcases l with ⟨hk,hm⟩ | ⟨hk,c,hc,hcell⟩
 ·exact mw (wpAny_loadName_local I.ok.kind hk f hm a) hd
 ·rcases hk with hk | hk
  ·exact mw (wpAny_loadName_cell I.ok.kind hk hc hcell a) hd
  ·exact mw (wpAny_loadName_free I.ok.kind hk hc hcell a hcd) hd
theorem b6w:PE X (.Constant (.int i) j pos) (tC (.int i)):=λ_ _ _ H _ I h=>wpAny_Constant_int ⟨.int i,H,I.tok _,⟨_,rfl⟩,h⟩
theorem b9h:PE X (.Constant (.bool b) j pos) (tC (.bl b)):=λ_ _ _ H _ I h=>Constant_bool ⟨.bl b,H,I,rfl,h⟩
theorem b6x:PE X (.Constant .none j pos) (tC .non):=λ_ _ _ H _ I h=>Constant_none ⟨.non,H,I,rfl,h⟩
theorem b6y:PE X (.Constant (.str x) j pos) (tC (.str x)):=λ_ _ _ H _ I h=>Calls.Constant_str ⟨.str x,H,I.tok _,⟨_,rfl⟩,h⟩
def Gl (X:Cx) (x:Str):Prop:=X.env.kindOf x=some .globalImplicit
theorem a38 (I:Inv X pins σ H s) (hg:Gl X x) (hm:X.mg x=some u) (h:Q u s)
  (hd:(x==("__debug__":Str))=false:=by decide):wpAny (model X.prog X.w) X.A (eval (.Name x pos) X.env) Q E s:=
 Calls.Name_function_global I.ok.kind hg (Calls.loadGlobal_global (by rw[I.ok.glob];exact I.mod.glob.keeps I.bk) hm h) hd
theorem a69 (I:Inv X pins σ H s) (hg:Gl X x) (hm:X.mg x=none) (hv:kC x=some u) (h:Q u s)
  (hn:x≠"__name__":=by decide) (hd:(x==("__debug__":Str))=false:=by decide):wpAny (model X.prog X.w) X.A (eval (.Name x pos) X.env) Q E s:=by
 obtain⟨c,b,a⟩:=I.mod.blt;exact Calls.Name_function_global I.ok.kind hg (Calls.loadGlobal_builtin (by rw[I.ok.glob];exact I.mod.glob.keeps I.bk) hm (by rw[I.ok.blt];exact b.keeps I.bk) ((a x hn).trans hv) h) hd
theorem b0F (hg:Gl X x) (hm:X.mg x=some u) (r:RelV v u) (hd:(x==("__debug__":Str))=false:=by decide):PE X (.Name x pos) (tC v):=
 λ_ _ _ H _ I h=>a38 I hg hm ⟨v,H,I,r,h⟩ hd
theorem a2Z (hg:Gl X x) (hm:X.mg x=none) (hv:kC x=some u) (r:RelV v u) (hn:x≠"__name__":=by decide) (hd:(x==("__debug__":Str))=false:=by decide):PE X (.Name x pos) (tC v):=
 λ_ _ _ H _ I h=>a69 I hg hm hv ⟨v,H,I,r,h⟩ hn hd
variable {a b:Expr}{ta tb:TE}{pos:Pos}
def PC (X:Cx) (op:CmpOp) (a b:Expr) (t:TE):Prop:=
 ∀ (pins:List (Addr×Obj)) (s:Shared) (σ:St) (H:Hp) (Q:VK),Inv X pins σ H s->t σ H Q ->
  wpAny (model X.prog X.w) X.A (eval a X.env) (λv s₁=>wpAny (model X.prog X.w) X.A (eval b X.env) (λu s₂=>wpAny (model X.prog X.w) X.A (j5 op v u) (EP X pins σ Q) X.xe s₂) X.xe s₁) X.xe s
def tB (t:TE):TT:=fun σ H Q=>t σ H λx H1=>∃ c,x=.bl c/\Q c H1
theorem b6z (h:PE X e t) (he:∀ whole,isTrue e X.env whole=(do let v <- whole;kE e.pos;kj [v] (truthy v)):=by intro _;rfl):PT X e (tB t):=by
 intro a s σ H Q I f;refine isTrue_plain (thn (h a s σ H _ I f) λv j ⟨x,b,i,g,c⟩=>?_) (he _);obtain⟨d,rfl,q⟩:=c;cases g;exact kI ⟨b,i,q⟩
variable {tA tB':TT}{rest:List Expr}
def tAnd (t u:TT):TT:=fun σ H Q=>t σ H λc H1=>if c=true then u σ H1 Q else Q false H1
def tOr (t u:TT):TT:=fun σ H Q=>t σ H λc H1=>if c=true then Q true H1 else u σ H1 Q
def tNot (t:TT):TT:=fun σ H Q=>t σ H λc H1=>Q (!c) H1
theorem b4U (ha:PT X a tA):PW X (.BoolOp .And [a] pos) tA:=by
 intro f b s σ H Q I h;refine isTrue_and (thn (ha b s σ H Q I h) λc d e=>?_);cases c with
 | true=>exact isTrue_and_nil e
 | false=>exact e
theorem b6A (ha:PT X a tA):PW X (.BoolOp .Or [a] pos) tA:=by
 intro f b s σ H Q I h;refine isTrue_or (thn (ha b s σ H Q I h) λc d e=>?_);cases c with
 | false=>exact isTrue_or_nil e
 | true=>exact e
theorem b6B (ha:PT X a tA) (hb:PW X (.BoolOp .And (b::rest) pos) tB'):PW X (.BoolOp .And (a::b::rest) pos) (tAnd tA tB'):=by
 intro j d s σ H Q I h;refine isTrue_and (thn (ha d s σ H _ I h) λc i ⟨e,g,f⟩=>?_);cases c with
 | true=>exact hb j d i σ e Q g f
 | false=>exact⟨e,g,f⟩
theorem b9i (ha:PT X a tA) (hb:PW X (.BoolOp .Or (b::rest) pos) tB'):PW X (.BoolOp .Or (a::b::rest) pos) (tOr tA tB'):=by
 intro j d s σ H Q I h;refine isTrue_or (thn (ha d s σ H _ I h) λc i ⟨g,e,f⟩=>?_);cases c with
 | true=>exact⟨g,e,f⟩
 | false=>exact hb j d i σ g Q e f
theorem b6C (ha:PT X a tA):PT X (.UnaryOp .Not a pos) (tNot tA):=by
 intro b s σ H Q I h;exact isTrue_not (ha b s σ H _ I h)
def b9j (ta tb:TE):TE:=fun σ H Q=>ta σ H λx H1=>∃ c,x=.bl c/\if c=true then tb σ H1 Q else Q (.bl false) H1
def tOrV (ta tb:TE):TE:=fun σ H Q=>ta σ H λx H1=>∃ c,x=.bl c/\if c=true then Q (.bl true) H1 else tb σ H1 Q
def b9k (ta:TE):TE:=fun σ H Q=>ta σ H λx H1=>∃ c,x=.bl c/\Q (.bl (!c)) H1
theorem b6D (h:PE X a t):PE X (.BoolOp op [a] pos) t:=λb s σ H Q I c=>BoolOp_one (h b s σ H Q I c)
theorem b6E (ha:PE X a ta) (hb:PE X (.BoolOp .And (b::rest) pos) tb):PE X (.BoolOp .And (a::b::rest) pos) (b9j ta tb):=by
 intro d s σ H Q I h;refine BoolOp_and (thn (ha d s σ H _ I h) λv j ⟨x,f,g,i,e⟩=>?_);obtain⟨c,rfl,e⟩:=e;cases i;refine kI ?_;cases c with
 | true=>exact hb d j σ f Q g e
 | false=>exact⟨.bl false,f,g,rfl,e⟩
theorem b9l (ha:PE X a ta) (hb:PE X (.BoolOp .Or (b::rest) pos) tb):PE X (.BoolOp .Or (a::b::rest) pos) (tOrV ta tb):=by
 intro d s σ H Q I h;refine BoolOp_or (thn (ha d s σ H _ I h) λv i ⟨x,g,f,j,e⟩=>?_);obtain⟨c,rfl,e⟩:=e;cases j;refine kI ?_;cases c with
 | false=>exact hb d i σ g Q f e
 | true=>exact⟨.bl true,g,f,rfl,e⟩
theorem b6F (ha:PE X a ta):PE X (.UnaryOp .Not a pos) (b9k ta):=by
 intro b s σ H Q I h;refine UnaryOp_ (thn (ha b s σ H _ I h) λv i ⟨x,g,f,e,d⟩=>?_);obtain⟨c,rfl,d⟩:=d;cases e;exact not_of (kI ⟨.bl (!c),g,f,rfl,d⟩)
def tIf (t:TT) (ta tb:TE):TE:=fun σ H Q=>t σ H λc H1=>if c=true then ta σ H1 Q else tb σ H1 Q
theorem b2S (hc:PT X c tA) (ha:PE X a ta) (hb:PE X b tb):PE X (.IfExp c a b pos) (tIf tA ta tb):=by
 intro e s σ H Q I h;refine wpAny_IfExp (thn (hc e s σ H _ I h) λd j ⟨i,f,g⟩=>?_);cases d with
 | true=>exact ha e j σ i Q f g
 | false=>exact hb e j σ i Q f g
end
end L2
namespace L2
open PySem PySem.Spec PyProof.Rows
def SqL (K:Fg) (H:Hp) (a:Addr) (xs:List V):Prop:=
 Rd H a (.lst xs) \/
  ∃ (o:Obj) (its:Array Value) (n:Nat),K.lookup a=some o/\o.cls=.type "list"/\o.dict=none/\o.data=.seq its n/\its.size≤jS/\Vals xs its.toList
def SqT (K:Fg) (H:Hp) (a:Addr) (xs:List V):Prop:=
 Rd H a (.tup xs) \/
  ∃ (o:Obj) (its:Array Value) (n:Nat),K.lookup a=some o/\o.cls=.type "tuple"/\o.data=.seq its n/\its.size≤jS/\Vals xs its.toList
noncomputable def absV:Value->Option V
 | .none=>some .non
 | .bool b=>some (.bl b)
 | .int i _=>some (.int i)
 | .str x _=>some (.str x)
 | .bytes b _=>some (.byt b)
 | .float b _=>some (.flt b)
 | .ref a=>some (.ref a)
 | .type n=>some (.ty n)
 | _=>none
theorem RelV.abs (r:RelV x u):absV u=some x:=by
 cases x with
 | non=>cases r;rfl
 | bl _=>cases r;rfl
 | int _=>obtain⟨t,rfl⟩:=r;rfl
 | str _=>obtain⟨t,rfl⟩:=r;rfl
 | byt _=>obtain⟨t,rfl⟩:=r;rfl
 | flt _=>obtain⟨t,rfl⟩:=r;rfl
 | ref _=>cases r;rfl
 | ty _=>cases r;rfl
theorem RelV.inj (r:RelV x u) (q:RelV y u):x=y:=eY.inj (r.abs.symm.trans q.abs)
theorem Vals.inj:∀ {xs ys:List V}{us:List Value},Vals xs us->Vals ys us->xs=ys
 | _,_,_,.nil,.nil=>rfl
 | _,_,_,.cons r t,.cons r' t'=>by rw[r.inj r',Vals.inj t t']
section
variable {X:Cx}{pins:List (Addr×Obj)}{σ:St}{H:Hp}{s:Shared}{a:Addr}{xs ys:List V}
theorem SqL.of {K:Fg}(h:H a=some (.lst xs)):SqL K H a xs:=.inl (.inl h)
theorem SqT.of {K:Fg}(h:H a=some (.tup xs)):SqT K H a xs:=.inl (.inl h)
theorem Inv.list (I:Inv X pins σ H s) (h:SqL X.K H a xs):∃ its:List Value,Vals xs its/\PlainL s.heap a its.toArray/\xs.length≤sizeLine:=by
 rcases h with h | ⟨o,b,n,hk,hc,hd,hs,hz,r⟩
 ·obtain⟨z,b,n,r,e⟩:=h.ok I.hok;exact⟨b,r,⟨_,n,e,rfl,rfl,rfl⟩,z⟩
 ·refine⟨b.toList,r,⟨o,n,I.kIn a o hk,hc,hd,by simpa using hs⟩,?_⟩;have e:=r.length;simp at e;omega
theorem Inv.tuple (I:Inv X pins σ H s) (h:SqT X.K H a xs):∃ its:List Value,Vals xs its/\IsTup s.heap a its.toArray/\xs.length≤sizeLine:=by
 rcases h with h | ⟨o,b,n,hk,hc,hs,hz,r⟩
 ·obtain⟨z,b,r,p⟩:=h.ok I.hok;exact⟨b,r,p,z⟩
 ·refine⟨b.toList,r,⟨o,I.kIn a o hk,hc,n,by simpa using hs⟩,?_⟩;have e:=r.length;simp at e;omega
theorem Inv.list_inj (I:Inv X pins σ H s) (h:SqL X.K H a xs) (h':SqL X.K H a ys):xs=ys:=by
 obtain⟨f,r,⟨o,n,e,_,_,d⟩,_⟩:=I.list h;obtain⟨b,i,⟨j,k,c,_,_,g⟩,_⟩:=I.list h'
 have:f=b:=by grind
 subst this;exact r.inj i
theorem Inv.tuple_inj (I:Inv X pins σ H s) (h:SqT X.K H a xs) (h':SqT X.K H a ys):xs=ys:=by
 obtain⟨f,r,⟨o,e,_,n,d⟩,_⟩:=I.tuple h;obtain⟨b,i,⟨j,c,_,k,g⟩,_⟩:=I.tuple h'
 have:f=b:=by grind
 subst this;exact r.inj i
end
abbrev Cx.wish (X:Cx) (E:Value->Shared->Prop):Cx:={ X with xe:=E }
abbrev Cx.nox (X:Cx):Cx:=X.wish λ_ _=>False
theorem Cx.Ok.wish {X:Cx}(ok:X.Ok) (E:Value->Shared->Prop):(X.wish E).Ok:=
 ⟨ok.mod,ok.kind,ok.glob,ok.blt,ok.above,ok.inj,ok.has,ok.cab,ok.hd,ok.frames,ok.stk,ok.exf,ok.bs,ok.bsz,ok.noex,ok.exfs,ok.funs,ok.frf⟩
theorem Cx.Ok.unwish {X:Cx}(ok:(X.wish E).Ok):X.Ok:=
 ⟨ok.mod,ok.kind,ok.glob,ok.blt,ok.above,ok.inj,ok.has,ok.cab,ok.hd,ok.frames,ok.stk,ok.exf,ok.bs,ok.bsz,ok.noex,ok.exfs,ok.funs,ok.frf⟩
section
variable {X:Cx}{pins:List (Addr×Obj)}{σ:St}{H:Hp}{s:Shared}{E:Value->Shared->Prop}
theorem Inv.wish (I:Inv X pins σ H s) (E:Value->Shared->Prop):Inv (X.wish E) pins σ H s:=⟨I.ok.wish E,I.os,I.bare,I.base,I.loc,I.cell,I.free,I.freeC,I.pin,I.hok,I.len⟩
theorem Inv.unwish (I:Inv (X.wish E) pins σ H s):Inv X pins σ H s:=⟨I.ok.unwish,I.os,I.bare,I.base,I.loc,I.cell,I.free,I.freeC,I.pin,I.hok,I.len⟩
theorem SP.unwish (h:SP (X.wish E) pins D f s'):SP X pins D f s':=by
 cases f with
 | next=>obtain⟨σ',H',I,q⟩:=h;exact⟨σ',H',I.unwish,q⟩
 | brk=>obtain⟨σ',H',I,q⟩:=h;exact⟨σ',H',I.unwish,q⟩
 | cont=>obtain⟨σ',H',I,q⟩:=h;exact⟨σ',H',I.unwish,q⟩
 | ret u=>obtain⟨v,σ',H',I,r,q⟩:=h;exact⟨v,σ',H',I.unwish,r,q⟩
theorem PE.nox (h:PE X.nox e t):PE X e t:=λa s σ H Q I d=>
 j7 (h a s σ H Q (I.wish _) d) (λ_ _ ⟨v,b,c,r,q⟩=>⟨v,b,c.unwish,r,q⟩) λ_ _ z=>dR z
theorem PT.nox (h:PT X.nox e t):PT X e t:=λa s σ H Q I d=>
 j7 (h a s σ H Q (I.wish _) d) (λ_ _ ⟨c,b,q⟩=>⟨c,b.unwish,q⟩) λ_ _ z=>dR z
theorem PSs.nox {st:List Stmt}(h:PSs X.nox st t):PSs X st t:=λa s σ H D I b=>
 j7 (h a s σ H D (I.wish _) b) (λ_ _ q=>q.unwish) λ_ _ z=>dR z
end
section
variable {X:Cx}{st:Stmt}{rest:List Stmt}{t u:TS}{e:Expr}{te:TE}{pos:Pos}
def b9m:TS:=λD σ H=>D.nx σ H
def tSeq (t u:TS):TS:=λD σ H=>t { D with nx:=u D } σ H
theorem b4V:PSs X [] b9m:=λ_ _ σ H _ I h=>lH ⟨σ,H,I,h⟩
theorem a8Z (h1:PS X st t) (h2:PSs X rest u):PSs X (st::rest) (tSeq t u):=by
 intro a s σ H D I h;refine my (thn (h1 a s σ H { D with nx:=u D } I h) λf b q=>?_);cases f with
 | next=>
  obtain⟨σ',H',I',q⟩:=q;exact h2 a b σ' H' D I' q
 | ret v=>exact q
 | brk=>exact q
 | cont=>exact q
theorem b4W (h1:PS X st t):PSs X [st] t:=by
 intro a s σ H D I h;refine my (thn (h1 a s σ H D I h) λf b q=>?_);cases f with
 | next=>exact lH q
 | ret v=>exact q
 | brk=>exact q
 | cont=>exact q
theorem Inv.quiet (I:Inv X pins σ H s):interactive X.env=false:=by simp[interactive,I.ok.kind]
def b9n (te:TE):TS:=λD σ H=>te σ H λ_ H1=>D.nx σ H1
theorem b4X (he:PE X e te) (hs:kD e none pos.line X.env=pure false:=by rfl):PS X (.Expr e pos) (b9n te):=by
 intro a s σ H D I h;exact wpAny_Expr_any (thn (he a s σ H _ I h) λv f ⟨x,d,c,g,b⟩=>⟨σ,d,c,b⟩) I.quiet hs
def tRet (te:TE):TS:=λD σ H=>te σ H D.rt
theorem b6G (he:PE X e te):PS X (.Return (some e) pos) (tRet te):=by
 intro a s σ H D I h;exact wpAny_Return_some (thn (he a s σ H _ I h) λv g ⟨x,c,b,f,d⟩=>⟨x,σ,c,b,f,d⟩)
def tIfS (c:TT) (t u:TS):TS:=λD σ H=>c σ H λb H1=>if b=true then t D σ H1 else u D σ H1
theorem b9o (hc:PT X c tc) (ha:PSs X a t) (hb:PSs X b u):PS X (.If c a b pos) (tIfS tc t u):=by
 intro e s σ H D I h;refine wpAny_If (thn (hc e s σ H _ I h) λd f ⟨g,i,j⟩=>?_);cases d with
 | true=>exact ha e f σ g D i j
 | false=>exact hb e f σ g D i j
end
abbrev TG:=V->St->Hp->(St->Hp->Prop)->Prop
abbrev TGs:=List V->St->Hp->(St->Hp->Prop)->Prop
def PG (X:Cx) (target:Expr) (t:TG):Prop:=
 ∀ (pins:List (Addr×Obj)) (s:Shared) (σ:St) (H:Hp) (v:V) (u:Value) (Q:St->Hp->Prop),Inv X pins σ H s->RelV v u->t v σ H Q ->
  wpAny (model X.prog X.w) X.A (assign target X.env u) (λ_ s'=>∃ σ' H',Inv X pins σ' H' s'/\Q σ' H') X.xe s
def PGs (X:Cx) (ts:List Expr) (t:TGs):Prop:=
 ∀ (pins:List (Addr×Obj)) (s:Shared) (σ:St) (H:Hp) (vs:List V) (us:List Value) (Q:St->Hp->Prop),Inv X pins σ H s->Vals vs us->t vs σ H Q ->
  wpAny (model X.prog X.w) X.A (assignInOrder ((kJ ts X.env).map (·.2)) us) (λ_ s'=>∃ σ' H',Inv X pins σ' H' s'/\Q σ' H') X.xe s
abbrev TSet:=V->V->V->Hp->(Hp->Prop)->Prop
def PSet (X:Cx) (t:TSet):Prop:=
 ∀ (pins:List (Addr×Obj)) (s:Shared) (σ:St) (H:Hp) (o i v:V) (ov iv u:Value) (Q:Hp->Prop),Inv X pins σ H s->RelV o ov->RelV i iv->RelV v u->t o i v H Q ->
  wpAny (model X.prog X.w) X.A (setItem ov iv u) (λ_ s'=>∃ H',Inv X pins σ H' s'/\Q H') X.xe s
section
variable {X:Cx}{pos:Pos}
def b0G (i:Nat):TG:=λv σ H Q=>Q (σ.set i (some v)) H
theorem a0m (hN:X.N.Nodup) (hi:X.N[i]?=some x) (hx:Loc X.env.scope x) (hf:X.fn x=true\/X.env.scope.names.lookup x=some .local:=by first | exact .inl rfl | exact .inr rfl | assumption):PG X (.Name x pos) (b0G i):=by
 intro b s σ H v u Q I r h;exact wpAny_assign_Name (a6o I hN hi hx r (λc a=>⟨_,H,a,h⟩) hf)
def gNil:TGs:=λvs σ H Q=>vs=[]/\Q σ H
def b6H (t:TG) (u:TGs):TGs:=λvs σ H Q=>∃ v r,vs=v::r/\t v σ H fun σ' H'=>u r σ' H' Q
theorem a2q:PGs X [] gNil:=by
 intro a s σ H b c Q I r h;obtain⟨e,h⟩:=h;subst e;exact assignInOrder_nil ⟨σ,H,I,h⟩
theorem a0y (h1:PG X e t) (h2:PGs X es u)
  (hs:(kJ (e::es) X.env).map (·.2)=assign e X.env::(kJ es X.env).map (·.2):=by rfl):PGs X (e::es) (b6H t u):=by
 intro a s σ H k i Q I r h;obtain⟨v,j,g,h⟩:=h;subst g;cases r with
 | cons r rr=>
  rw[hs];refine assignInOrder_cons (thn (h1 a s σ H _ _ _ I r h) λ_ f ⟨σ1,d,b,c⟩=>?_);exact h2 a f σ1 d _ _ Q b rr c
def gTup (K:Fg) (n:Nat) (t:TGs):TG:=λv σ H Q=>∃ a xs,v=.ref a/\SqT K H a xs/\xs.length=n/\t xs σ H Q
theorem a3G (hc:X.calm=true) (h:PGs X es t)
  (hn:(kJ es X.env).length=n:=by rfl) (hst:(kJ es X.env).findIdx? (·.1)=none:=by rfl):PG X (.Tuple es k pos) (gTup X.K n t):=by
 intro c s σ H v u Q I r d;obtain⟨a,i,q,m,l,d⟩:=d;subst q;cases r;obtain⟨x,f,p,y⟩:=I.tuple m;refine assign_Tuple_tuple (I.ok.hd hc) p (by simp[hn,<- l,f.length]) hst λw j=>?_;have g:=I.kept (t':=s.toks) λb o e=>j b o (ei (Heap.lt_size e)) e;exact h c _ σ H i _ Q g (by omega) d
def gSub (to ti:TE) (t:TSet):TG:=λv σ H Q=>to σ H λo H1=>ti σ H1 λi H2=>t o i v H2 λH3=>Q σ H3
theorem b6I (ho:PE X o to) (hi:PE X i ti) (hs:PSet X t)
  (ha:∀ v,assign (.Subscript o i pos) X.env v=(do
   let ov <- kj [v] (eval o X.env)
   let iv <- kj [v,ov] (eval i X.env)
   kE pos
   kj [v,ov,iv] (setItem ov iv v)
   release [v,ov,iv] []):=by intro _;rfl):PG X (.Subscript o i pos) (gSub to ti t):=by
 intro a s σ H v u Q I r h;rw[ha];refine jQ (ke (thn (ho a s σ H _ I h) λl n ⟨x,c,e,g,p⟩=>?_));refine jQ (ke (thn (hi a n σ c _ e p) λm q ⟨y,f,w,b,k⟩=>?_));refine jQ (mz (jQ (ke (thn (hs a q σ f x y v l m u _ w g b r k) λ_ A ⟨j,z,d⟩=>?_))));exact wpAny_release ⟨σ,j,z,d⟩
def tAsg (te:TE) (g:TG):TS:=λD σ H=>te σ H λx H1=>g x σ H1 D.nx
theorem b4a (he:PE X e te) (hg:PG X tg g) (hs:mB [tg] e pos.line X.env=pure false:=by rfl) (hw:mC [tg] e X.env=pure none:=by rfl)
  (h1:(kJ [tg] X.env).map (·.2)=[assign tg X.env]:=by rfl):PS X (.Assign [tg] e pos) (tAsg te g):=by
 intro a s σ H D I h;refine wpAny_Assign_stores (thn (he a s σ H _ I h) λv c ⟨x,d,b,i,f⟩=>?_) hs hw;rw[h1];exact thn (hg a c σ d x v _ b i f) λ_ j q=>q
theorem b6J (hN:X.N.Nodup) (hi:X.N[i]?=some x) (hx:Loc X.env.scope x) (he:PE X e te) (hs:kD e (some (.Name x pos')) pos.line X.env=pure false:=by rfl) (hf:X.fn x=true\/X.env.scope.names.lookup x=some .local:=by first | exact .inl rfl | exact .inr rfl | assumption) :
  PS X (.Assign [.Name x pos'] e pos) (tAsg te (b0G i)):=by
 intro a s σ H D I h;refine wpAny_Assign_Name (thn (he a s σ H _ I h) λv j ⟨y,f,d,c,g⟩=>?_) hs;exact a6o d hN hi hx c (λk b=>⟨_,f,b,g⟩) hf
end
section
variable {X:Cx}{pos:Pos}
end
structure It where
 go:Nat->Hp->Prop
 yld:Nat->Hp->V->Hp->Prop
 stop:Nat->Hp->Prop
def FpOk (X:Cx) (pins:List (Addr×Obj)) (H:Hp) (b:Addr):Prop:=
 H b=none/\b≠X.env.locals/\b∉X.fs/\(b∈X.ex\/X.s₀.heap.objs.size≤b)/\(∀ x c,X.env.cells.lookup x=some c->c≠b)/\∀ p∈X.pn++pins,p.1≠b
theorem Inv.fpOk (I:Inv X pins σ H s) (hb:s.heap.objs.size≤b) (hn:H' b=none):FpOk X pins H' b:=by
 refine⟨hn,fV (eA I.lt hb),I.nofs hb,.inr (dW I.sz hb),λx c e z=>?_,λp a z=>?_⟩
 ·obtain⟨v,q⟩:=I.cell x c e;exact absurd (eA q.lt (by simp_all)) (eM _)
 ·exact absurd (eA (Heap.lt_size (I.pin p a).1) (by simp_all)) (eM _)
structure Turn (P:jY) (w:World) (K:Fg) (tg:Expr) (J:It) (fp:List Addr) (it:Addr) (tn:Nat->Heap->Prop):Prop where
 mem:it∈fp
 obj:∀ i h,tn i h->∀ b∈fp,∃ o,h.get? b=some o/\∀ v,o.data≠.cell v
 keep:∀ i h h',tn i h->(∀ b∈fp,∀ o,h.get? b=some o->h'.get? b=some o)->tn i h'
 item:∀ (X:Cx),X.prog=P->X.w=w->X.K=K->X.calm=true->∀ (i:Nat) (pins:List (Addr×Obj)) (s:Shared) (σ:St) (H:Hp) (E:Value->Shared->Prop),Inv X pins σ H s->(∀ b∈fp,FpOk X pins H b)->tn i s.heap->J.go i H ->
  wpAny (model P w) X.A (pyNext (.ref it)) (λr s1=>∃ u,r=some u /\
   wpAny (model P w) X.A (mD tg (.ref it) u) (λ_ s2=>∃ x H',Inv X pins σ H' s2/\RelV x u/\J.yld i H x H'/\tn (i+1) s2.heap/\∀ b∈fp,H' b=none) E s1) E s
 done:∀ (X:Cx),X.prog=P->X.w=w->X.K=K->X.calm=true->∀ (i:Nat) (pins:List (Addr×Obj)) (s:Shared) (σ:St) (H:Hp) (E:Value->Shared->Prop),Inv X pins σ H s->(∀ b∈fp,FpOk X pins H b)->tn i s.heap->J.stop i H ->
  wpAny (model P w) X.A (pyNext (.ref it)) (λr s1=>r=none/\Inv X pins σ H s1) E s
 self:∀ (A:Around) (i:Nat) (s:Shared) (Q:Value->Shared->Prop) (E:Value->Shared->Prop),tn i s.heap->Q (.ref it) s->wpAny (model P w) A (pyIter (.ref it)) Q E s
abbrev TI:=St->Hp->(It->Hp->Prop)->Prop
def PIE (X:Cx) (pins:List (Addr×Obj)) (σ:St) (tg:Expr) (R:It->Hp->Prop) (itv:Value) (s2:Shared):Prop:=
 ∃ (it:Addr) (fp:List Addr) (tn:Nat->Heap->Prop) (J:It) (H':Hp),itv=.ref it/\Inv X pins σ H' s2/\Turn X.prog X.w X.K tg J fp it tn/\tn 0 s2.heap/\(∀ b∈fp,FpOk X pins H' b)/\R J H'
def PI (X:Cx) (tg iter:Expr) (wi:TI):Prop:=
 ∀ (pins:List (Addr×Obj)) (s:Shared) (σ:St) (H:Hp) (R:It->Hp->Prop),Inv X pins σ H s->wi σ H R ->
  wpAny (model X.prog X.w) X.A (eval iter X.env) (λv s1=>wpAny (model X.prog X.w) X.A (pyIter v) (PIE X pins σ tg R) X.xe s1) X.xe s
theorem a9Q (ho:s.heap.get? it=some o) (hc:o.cls=.type n) (hd:o.data=.fields vs)
    (hn:["enumerate","zip","dict_itemiterator","dict_reverseitemiterator","odict_iterator","itertools.zip_longest","itertools.pairwise"].contains n=false) (hQ:Q () s):wpAny M A (mD tg (.ref it) u) Q E s:=by
  cases tg<;>first
    | exact jR hQ
    | (cases u<;>first
        | exact jR hQ
        | (refine jQ (lI ho ?_)
           rw[hc,hd]
           show wpAny M A (if _=true then _ else _) Q E s
           rw[if_neg (by grind)];exact jR hQ))
noncomputable def Itl (K:Fg) (a:Addr):It:=
 ⟨λi H=>∃ xs x,SqL K H a xs/\xs[i]?=some x,λi H x H'=>H'=H/\∀ xs,SqL K H a xs->xs[i]?=some x,λi H=>∃ xs,SqL K H a xs/\xs.length≤i⟩
noncomputable def Itt (K:Fg) (a:Addr):It:=
 ⟨λi H=>∃ xs x,SqT K H a xs/\xs[i]?=some x,λi H x H'=>H'=H/\∀ xs,SqT K H a xs->xs[i]?=some x,λi H=>∃ xs,SqT K H a xs/\xs.length≤i⟩
noncomputable def Itr (lo:Int) (n:Nat):It:=⟨λi _=>i<n,λi H x H'=>H'=H/\x=.int (lo+i),λi _=>n≤i⟩
theorem b0H {P:jY}{w:World}{K:Fg}{tg:Expr}(a it:Addr):Turn P w K tg (Itl K a) [it] it (λi h=>h.IsListIter it a i) where
 mem:=by simp
 obj:=λi h st b hb=>by
  have e:b=it:=by simpa using hb
  subst e;obtain⟨o,e,c,d⟩:=st;exact⟨o,e,λv z=>by rw[d]at z;cases z⟩
 keep:=λi h h' st k=>st.at λo e=>k it (by simp) o e
 item:=by
  intro X hP hw hK hc i pins s σ H E I hf st hg;subst hP hw hK;obtain⟨xs,x,hq,hx⟩:=hg;obtain⟨its,rv,p,hz⟩:=I.list hq;obtain⟨u,hu,ru⟩:=rv.get hx;obtain⟨f0,f1,f2,f3,f4,f5⟩:=hf it (by simp);refine wpAny_pyNext_list_item st p.isList (x:=u) (by simpa using hu) λh' st' sb=>?_;have I1:Inv X pins σ H { s with heap:=h' }:=I.turned (t':=s.toks) (λb o hb e=>(sb.2 b hb).trans e) f0 f1 f3 f4 f5;obtain⟨o,e,c,d⟩:=id st';exact⟨u,rfl,a9Q (s:={ s with heap:=h' }) e c d (by decide) ⟨x,H,I1,ru,⟨rfl,λys hy=>by rw[I.list_inj hy hq];exact hx⟩,st',λb hb=>(hf b hb).1⟩⟩
 done:=by
  intro X hP hw hK hc i pins s σ H E I hf st hg;subst hP hw hK;obtain⟨xs,hq,hx⟩:=hg;obtain⟨its,rv,p,hz⟩:=I.list hq;obtain⟨f0,f1,f2,f3,f4,f5⟩:=hf it (by simp);have hl:=rv.length;exact wpAny_pyNext_list_end (I.ok.hd hc) st p.isList (by simp;omega) λh' eb=>⟨rfl,I.turned (t':=s.toks) (λb o hb e=>eb b o hb e) f0 f1 f3 f4 f5⟩
 self:=λ_ _ _ _ _ st h=>wpAny_pyIter_listiter st h
theorem a9R {P:jY}{w:World}{K:Fg}{tg:Expr}(a it:Addr):Turn P w K tg (Itt K a) [it] it (λi h=>h.IsTupleIter it a i) where
 mem:=by simp
 obj:=λi h st b hb=>by
  have e:b=it:=by simpa using hb
  subst e;obtain⟨o,e,c,d⟩:=st;exact⟨o,e,λv z=>by rw[d]at z;cases z⟩
 keep:=λi h h' st k=>st.at λo e=>k it (by simp) o e
 item:=by
  intro X hP hw hK hc i pins s σ H E I hf st hg;subst hP hw hK;obtain⟨xs,x,hq,hx⟩:=hg;obtain⟨its,rv,p,hz⟩:=I.tuple hq;obtain⟨u,hu,ru⟩:=rv.get hx;obtain⟨f0,f1,f2,f3,f4,f5⟩:=hf it (by simp);refine wpAny_pyNext_tuple_item st (show s.heap.IsTuple a its.toArray from p) (x:=u) (by simpa using hu) λh' st' sb=>?_;have I1:Inv X pins σ H { s with heap:=h' }:=I.turned (t':=s.toks) (λb o hb e=>(sb.2 b hb).trans e) f0 f1 f3 f4 f5;obtain⟨o,e,c,d⟩:=id st';exact⟨u,rfl,a9Q (s:={ s with heap:=h' }) e c d (by decide) ⟨x,H,I1,ru,⟨rfl,λys hy=>by rw[I.tuple_inj hy hq];exact hx⟩,st',λb hb=>(hf b hb).1⟩⟩
 done:=by
  intro X hP hw hK hc i pins s σ H E I hf st hg;subst hP hw hK;obtain⟨xs,hq,hx⟩:=hg;obtain⟨its,rv,p,hz⟩:=I.tuple hq;obtain⟨f0,f1,f2,f3,f4,f5⟩:=hf it (by simp);have hl:=rv.length;exact wpAny_pyNext_tuple_end (I.ok.hd hc) st (show s.heap.IsTuple a its.toArray from p) (by simp;omega) λh' eb=>⟨rfl,I.turned (t':=s.toks) (λb o hb e=>eb b o hb e) f0 f1 f3 f4 f5⟩
 self:=λ_ _ _ _ _ st h=>wpAny_pyIter_tupleiter st h
theorem a9S {P:jY}{w:World}{K:Fg}{tg:Expr}(it:Addr) (lo:Int) (n:Nat):Turn P w K tg (Itr lo n) [it] it (λi h=>IsRangeIter h it (lo+(i:Nat)*1) ((n:Int) - (i:Nat)) 1) where
 mem:=by simp
 obj:=λi h st b hb=>by
  have e:b=it:=by simpa using hb
  subst e;exact⟨_,st,λv z=>by
   have z':Data.fields _=Data.cell v:=z;cases z'⟩
 keep:=λi h h' st k=>k it (by simp) _ st
 item:=by
  intro X hP hw hK hc i pins s σ H E I hf st hg;subst hP hw hK;obtain⟨f0,f1,f2,f3,f4,f5⟩:=hf it (by simp);have W:=Walks.range (prog:=X.prog) (w:=X.w) (I.ok.hd hc) it lo 1 n;refine W.item i s _ _ hg st λv h' tk hv st' kk=>?_;obtain⟨t,rfl⟩:=hv;have I1:Inv X pins σ H { s with heap:=h',toks:=tk }:=I.turned (λb o hb e=>kk b o (by simpa using hb) e) f0 f1 f3 f4 f5;refine⟨_,rfl,a9Q (s:={ s with heap:=h',toks:=tk }) (n:="range_iterator") st' rfl rfl (by decide) ⟨.int (lo+i),H,I1,⟨t,?_⟩,⟨rfl,rfl⟩,st',λb hb=>(hf b hb).1⟩⟩;rw[Int.mul_one]
 done:=by
  intro X hP hw hK hc i pins s σ H E I hf st hg;subst hP hw hK;obtain⟨f0,f1,f2,f3,f4,f5⟩:=hf it (by simp);exact wpAny_pyNext_range_end (I.ok.hd hc) st (by have:n≤i:=hg;omega) λh' eb=>⟨rfl,I.turned (t':=s.toks) (λb o hb e=>eb b o hb e) f0 f1 f3 f4 f5⟩
 self:=λ_ _ _ _ _ st h=>wpAny_pyIter_rangeiter st h
end L2
namespace L2
open PySem PySem.Spec PyProof.Rows
section
variable {X:Cx}{tg:Expr}
def b9p (K:Fg) (tl:TE):TI:=fun σ H R=>tl σ H λx H1=>∃ a,x=.ref a/\(∃ xs,SqL K H1 a xs)/\R (Itl K a) H1
def iTup (K:Fg) (tl:TE):TI:=fun σ H R=>tl σ H λx H1=>∃ a,x=.ref a/\(∃ xs,SqT K H1 a xs)/\R (Itt K a) H1
theorem b4Y (hl:PE X l tl):PI X tg l (b9p X.K tl):=by
 intro f s σ H R I h;refine thn (hl f s σ H _ I h) λv d ⟨x,m,c,g,i⟩=>?_;obtain⟨a,e,⟨r,j⟩,q⟩:=i;subst e;cases g;obtain⟨n,u,p,t⟩:=c.list j;refine lW p.isList ?_;refine⟨d.heap.objs.size,[d.heap.objs.size],_,_,m,rfl,c.kept λb o e=>Heap.get?_push_of_some _ e,b0H a _,⟨_,Heap.get?_push_size _ rfl,rfl,rfl⟩,λb k=>?_,q⟩;have e:b=d.heap.objs.size:=by simp_all
 subst e;exact c.fpOk (dM _) (c.hok.fresh (dM _))
theorem b6K (hl:PE X l tl):PI X tg l (iTup X.K tl):=by
 intro f s σ H R I h;refine thn (hl f s σ H _ I h) λv c ⟨x,m,d,k,j⟩=>?_;obtain⟨a,e,⟨u,n⟩,q⟩:=j;subst e;cases k;obtain⟨g,t,p,r⟩:=d.tuple n;refine wpAny_pyIter_tuple (p) ?_;refine⟨c.heap.objs.size,[c.heap.objs.size],_,_,m,rfl,d.kept λb o e=>Heap.get?_push_of_some _ e,a9R a _,⟨_,Heap.get?_push_size _ rfl,rfl,rfl⟩,λb i=>?_,q⟩;have e:b=c.heap.objs.size:=by simp_all
 subst e;exact d.fpOk (dM _) (d.hok.fresh (dM _))
theorem b2T {lo hi:Int}(I:Inv X pins σ H s) (h1:-(2 ^ 62)≤lo) (h2:lo<2 ^ 62) (h3:-(2 ^ 62)≤hi) (h4:hi<2 ^ 62)
  (q:R (Itr lo (hi - lo).toNat) H):wpAny (model X.prog X.w) X.A (pyIter (.ref s.heap.objs.size)) (PIE X pins σ tg R) E { s with heap:=s.heap.push { cls:=.type "range",data:=.fields #[.int lo t,.int hi u,.int 1 v] },toks:=tk }:=by
 refine wpAny_pyIter_range (IsRange.new ..) (small_one h1 h2 h3 h4) ?_;have a:Inv X pins σ H { s with heap:=s.heap.push { cls:=.type "range",data:=.fields #[.int lo t,.int hi u,.int 1 v] },toks:=tk }:=I.kept λb o e=>Heap.get?_push_of_some _ e;refine⟨(s.heap.push { cls:=.type "range",data:=.fields #[.int lo t,.int hi u,.int 1 v] }).objs.size,[(s.heap.push { cls:=.type "range",data:=.fields #[.int lo t,.int hi u,.int 1 v] }).objs.size],_,_,H,rfl,
  a.kept λb o e=>Heap.get?_push_of_some _ e,a9S _ lo (hi - lo).toNat,?_,λb d=>?_,q⟩
 ·have c:lo+((0:Nat))*1=lo:=by simp
  have f:(((hi - lo).toNat)) - ((0:Nat))=j1.Range.rangeSize lo hi 1:=by rw[rangeSize_one];split<;>omega
  rw[c,f];exact Heap.get?_push_size _ rfl
 ·have e:b=(s.heap.push { cls:=.type "range",data:=.fields #[.int lo t,.int hi u,.int 1 v] }).objs.size:=by simpa using d
  subst e;exact a.fpOk (dM _) (a.hok.fresh (dM _))
def b6L (ta:TA):TI:=fun σ H R=>ta σ H λvs H1=>∃ j:Int,vs=[.int j]/\-(2 ^ 62)≤j/\j<2 ^ 62/\R (Itr 0 j.toNat) H1
theorem b0I (hg:Gl X "range") (hm:X.mg "range"=none) (ha:PA X [a] ta) (hs:jU [a] X.env=[(false,eval a X.env)]:=by rfl):PI X tg (.Call (.Name "range" p) [a] [] pos) (b6L ta):=by
 intro b s σ H R I h;refine Call_ (a69 I hg hm boot_range (PyProof.Rows.callWith_type1 (thn (ha pos b s σ H _ I h) λl k ⟨i,m,d,f,c⟩=>?_) hs rfl));obtain⟨j,e,c,g,q⟩:=c;subst e;cases f with
 | cons r rr=>
  cases rr;obtain⟨t,rfl⟩:=r;exact call_range_1 (b2T d (by simp) (by simp) c g (by grind))
def tFor (wi:TI) (g:TG) (tb:TS):TS:=λD σ H=>wi σ H λJ H1=>∃ W:Nat->Nat->St->Hp->Prop,(∃ m,W 0 m σ H1)/\∀ i m σ H,W i m σ H ->
 (J.stop i H/\D.nx σ H)\/(J.go i H/\∃ N:St->Hp->Prop,(∀ σ' H',N σ' H'->∃ m',m'<m/\W (i+1) m' σ' H')/\∀ x H',J.yld i H x H'->g x σ H' fun σ2 H2=>tb { D with nx:=N,ct:=N,bk:=D.nx } σ2 H2)
noncomputable def a80 (fp:List Addr) (h:Heap):List (Addr×Obj):=fp.filterMap λb=>(h.get? b).map λo=>(b,o)
theorem a3a (hb:b∈fp) (e:h.get? b=some o):(b,o)∈a80 fp h:=ft.mpr ⟨b,hb,by rw[e];rfl⟩
theorem b0J (hp:p∈a80 fp h):p.1∈fp/\h.get? p.1=some p.2:=by
 obtain⟨b,a,e⟩:=ft.mp hp;cases q:h.get? b with
 | none=>rw[q]at e;cases e
 | some o=>
  rw[q]at e;have c:=eY.inj e;subst c;exact⟨a,q⟩
theorem Inv.pinned (I:Inv X pins σ H s) (hf:∀ b∈fp,FpOk X pins H b) (ho:∀ b∈fp,∃ o,s.heap.get? b=some o/\∀ v,o.data≠.cell v):Inv X (pins++a80 fp s.heap) σ H s:=
 I.pins_of λp h=>(dN.mp h).elim (λz=>I.pin p (eT _ z)) λz=>by
  obtain⟨a,e⟩:=b0J z;obtain⟨g,f,i,_⟩:=hf p.1 a;obtain⟨o,c,d⟩:=ho p.1 a;rw[e]at c;cases c;exact⟨e,g,f,i,d⟩
theorem Inv.unpinned (I:Inv X (pins++pl) σ H s):Inv X pins σ H s:=I.pins_of λp a=>I.pin p (eT _ (eJ _ a))
theorem b6M (hp:j9 (model X.prog X.w) X.A X.env X.xe) (hc:X.calm=true) (hi:PI X tg iter wi) (hg:PG X tg g) (hb:PSs X body tb)
  (hs:∀ x,kK iter X.env x=pure x:=by intro _;rfl):PS X (.For tg iter body [] pos) (tFor wi g tb):=by
 intro a s σ H D I h;refine wpAny_For (thn (hi a s σ H _ I h) λv s1 h1=>thn h1 λitv s2 h2=>?_) hs;obtain⟨it,z,Q,J,H2,e,I2,T,st2,S,W,⟨m0,w0⟩,F⟩:=h2;subst e;have p:∀ {H':Hp},(∀ b∈z,H' b=none)->∀ b∈z,FpOk X a H' b:=λhn b hb=>⟨hn b hb,(S b hb).2⟩;refine codeAny_forLoop_any (λn Y=>∃ i σ' H',Inv X a σ' H' Y/\Q i Y.heap/\(∀ b∈z,H' b=none)/\W i n σ' H') ?_ m0 ⟨0,σ,H2,I2,st2,λb hb=>(S b hb).1,w0⟩;rintro n U ⟨i,σ3,B,R,E,C,w3⟩;rcases F i n σ3 B w3 with ⟨stop,qn⟩ | ⟨go,N,hN,step⟩
 ·refine lJ hp (thn (T.done X rfl rfl rfl hc i a U σ3 B X.xe R (p C) E stop) λr s4 ⟨G,I4⟩=>?_);subst G;exact lH ⟨σ3,B,I4,qn⟩
 ·refine lJ hp (thn (T.item X rfl rfl rfl hc i a U σ3 B X.xe R (p C) E go) λr s4 ⟨u,G,h4⟩=>?_);subst G;refine lJ hp (thn h4 λ_ s5 ⟨x,H5,I5,r5,y5,y,M⟩=>?_);have V:=I5.pinned (p M) (T.obj _ _ y);refine lJ hp (thn (hg _ s5 σ3 H5 x u _ V r5 (step x H5 y5)) λ_ s6 ⟨σ6,H6,I6,q6⟩=>?_);refine lJ hp (thn (hb _ s6 σ6 H6 _ I6 q6) λf L l=>?_);have q:∀ {σ7:St}{j:Hp},Inv X _ σ7 j L->N σ7 j->∃ m,m<n/\∃ i σ' H',Inv X a σ' H' L/\Q i L.heap/\(∀ b∈z,H' b=none)/\W i m σ' H':=λ{σ7 j} c t=>by
   obtain⟨m',hm,w7⟩:=hN σ7 j t;refine⟨m',hm,i+1,σ7,j,c.unpinned,T.keep _ _ _ y λb hb o e=>(c.pin _ (eT _ (eT _ (a3a hb e)))).1,λb hb=>?_,w7⟩;obtain⟨o,e,d⟩:=T.obj _ _ y b hb;exact (c.pin _ (eT _ (eT _ (a3a hb e)))).2.1
  cases f with
  | next=>obtain⟨σ7,j,c,t⟩:=l;exact q c t
  | cont=>obtain⟨σ7,j,c,t⟩:=l;exact q c t
  | brk=>obtain⟨σ7,j,c,l⟩:=l;exact⟨σ7,j,c.unpinned,l⟩
  | ret v=>obtain⟨x7,σ7,j,c,r7,l⟩:=l;exact⟨x7,σ7,j,c.unpinned,r7,l⟩
end
end L2
namespace L2
open PySem PySem.Spec PyProof.Rows
abbrev R2:=V->V->Hp->VK->Prop
def OpR (X:Cx) (f:Value->Value->Sem Value) (r:R2):Prop:=
 ∀ (pins:List (Addr×Obj)) (s:Shared) (σ:St) (H:Hp) (x y:V) (v u:Value) (Q:VK),Inv X pins σ H s->RelV x v->RelV y u->r x y H Q ->
  wpAny (model X.prog X.w) X.A (f v u) (EP X pins σ Q) X.xe s
def UnR (X:Cx) (f:Value->Sem Value) (r:V->Hp->VK->Prop):Prop:=
 ∀ (pins:List (Addr×Obj)) (s:Shared) (σ:St) (H:Hp) (x:V) (v:Value) (Q:VK),Inv X pins σ H s->RelV x v->r x H Q ->
  wpAny (model X.prog X.w) X.A (f v) (EP X pins σ Q) X.xe s
def CallR (X:Cx) (f:Value) (r:List V->Hp->VK->Prop):Prop:=
 ∀ (pins:List (Addr×Obj)) (s:Shared) (σ:St) (H:Hp) (xs:List V) (us:List Value) (Q:VK),Inv X pins σ H s->Vals xs us->r xs H Q ->
  wpAny (model X.prog X.w) X.A (call f us) (EP X pins σ Q) X.xe s
def TruR (X:Cx) (r:V->Hp->(Bool->Hp->Prop)->Prop):Prop:=
 ∀ (pins:List (Addr×Obj)) (s:Shared) (σ:St) (H:Hp) (x:V) (v:Value) (Q:Bool->Hp->Prop),Inv X pins σ H s->RelV x v->r x H Q ->
  wpAny (model X.prog X.w) X.A (truthy v) (TP X pins σ Q) X.xe s
def tOp (r:R2) (ta tb:TE):TE:=fun σ H Q=>ta σ H λx H1=>tb σ H1 λy H2=>r x y H2 Q
def tUn (r:V->Hp->VK->Prop) (ta:TE):TE:=fun σ H Q=>ta σ H λx H1=>r x H1 Q
def rI (C:Int->Int->Prop) (g:Int->Int->V):R2:=λx y H Q=>∃ i j,x=.int i/\y=.int j/\C i j/\Q (g i j) H
def rI0 (g:Int->Int->V):R2:=λx y H Q=>∃ i j,x=.int i/\y=.int j/\Q (g i j) H
def rU (g:Int->V):V->Hp->VK->Prop:=λx H Q=>∃ i,x=.int i/\Q (g i) H
section
variable {X:Cx}{a b c:Expr}{ta tb tc:TE}{pos:Pos}
theorem binT (ha:PE X a ta) (hb:PE X b tb) {R:V->V->Hp->Prop}(I:Inv X pins σ H s)
  (h:ta σ H λx H1=>tb σ H1 λy H2=>R x y H2) {f:Value->Value->Sem Value}
  (hf:∀ v u s2 x y H2,Inv X pins σ H2 s2->RelV x v->RelV y u->R x y H2->wpAny (model X.prog X.w) X.A (f v u) Q X.xe s2) :
  wpAny (model X.prog X.w) X.A (eval a X.env) (λv s₁=>wpAny (model X.prog X.w) X.A (eval b X.env) (λu s₂=>wpAny (model X.prog X.w) X.A (f v u) Q X.xe s₂) X.xe s₁) X.xe s:=by
 refine thn (ha pins s σ H _ I h) λv c ⟨x,j,i,g,n⟩=>?_;refine thn (hb pins c σ j _ i n) λu e ⟨y,m,d,k,l⟩=>?_;exact hf v u e x y m d g k l
theorem b9q (ho:OpR X (kb op) r) (ha:PE X a ta) (hb:PE X b tb):PE X (.BinOp a op b pos) (tOp r ta tb):=by
 intro c s σ H Q I h;exact wpAny_BinOp (binT ha hb I h λv u i x y f e d g q=>ho c i σ f x y v u Q e d g q)
theorem b9r (ho:UnR X (lY op) r) (ha:PE X a ta):PE X (.UnaryOp op a pos) (tUn r ta):=by
 intro b s σ H Q I h;exact UnaryOp_ (thn (ha b s σ H _ I h) λv d ⟨x,e,c,g,f⟩=>ho b d σ e x v Q c g f)
theorem opI {g:Int->Int->Int}
  (rule:∀ (i j:Int) (t u:Tok) (s:Shared) (Q:Value->Shared->Prop) (E:Value->Shared->Prop),C i j->Q (.int (g i j) s.toks) { s with toks:=s.toks+1 }->wpAny (model X.prog X.w) X.A (f (.int i t) (.int j u)) Q E s) :
  OpR X f (rI C λi j=>.int (g i j)):=by
 intro b s σ H x y v u Q I a d h;obtain⟨i,j,rfl,rfl,e,q⟩:=h;obtain⟨t,rfl⟩:=a;obtain⟨c,rfl⟩:=d;exact rule i j t c s _ _ e ⟨.int _,H,I.tok _,⟨_,rfl⟩,q⟩
theorem opI0 {g:Int->Int->Int}
  (rule:∀ (i j:Int) (t u:Tok) (s:Shared) (Q:Value->Shared->Prop) (E:Value->Shared->Prop),Q (.int (g i j) s.toks) { s with toks:=s.toks+1 }->wpAny (model X.prog X.w) X.A (f (.int i t) (.int j u)) Q E s) :
  OpR X f (rI0 λi j=>.int (g i j)):=by
 intro a s σ H x y v u Q I d b h;obtain⟨i,j,rfl,rfl,q⟩:=h;obtain⟨t,rfl⟩:=d;obtain⟨c,rfl⟩:=b;exact rule i j t c s _ _ ⟨.int _,H,I.tok _,⟨_,rfl⟩,q⟩
theorem opB0 {g:Int->Int->Bool}
  (rule:∀ (i j:Int) (t u:Tok) (s:Shared) (Q:Value->Shared->Prop) (E:Value->Shared->Prop),Q (.bool (g i j)) s->wpAny (model X.prog X.w) X.A (f (.int i t) (.int j u)) Q E s) :
  OpR X f (rI0 λi j=>.bl (g i j)):=by
 intro d s σ H x y v u Q I c a h;obtain⟨i,j,rfl,rfl,q⟩:=h;obtain⟨t,rfl⟩:=c;obtain⟨b,rfl⟩:=a;exact rule i j t b s _ _ ⟨.bl _,H,I,rfl,q⟩
def CPow (i j:Int):Prop:=0≤j/\j≤1000000/\i.natAbs<2 ^ 64
def CMul (i j:Int):Prop:=(-(2 ^ 64)<i/\i<2 ^ 64)\/(-(2 ^ 64)<j/\j<2 ^ 64)
theorem CMul.ok (h:CMul i j):IntMulOk i j:=by
 rcases h with ⟨h1,h2⟩ | ⟨h1,h2⟩
 ·exact .of_left (intBits_le_64 h1 h2)
 ·exact .of_right (intBits_le_64 h1 h2)
theorem op_add:OpR X (kb .Add) (rI0 λi j=>.int (i+j)):=opI0 λ_ _ _ _ _ _ _ q=>add_int q
theorem b6N:OpR X (kb .Sub) (rI0 λi j=>.int (i - j)):=opI0 λ_ _ _ _ _ _ _ q=>sub_int q
theorem b6O:OpR X (kb .Mult) (rI CMul λi j=>.int (i*j)):=opI λ_ _ _ _ _ _ _ a q=>mul_int q a.ok
theorem b6P:OpR X (kb .Mod) (rI (λ_ j=>0<j) λi j=>.int (i % j)):=opI λi j _ _ _ _ _ a q=>by
 have b:(0:Int)<j:=a;exact mod_int' (by omega) (by rw[Int.fmod_eq_emod_of_nonneg i (by omega)];exact q)
theorem b6Q:OpR X (kb .Pow) (rI CPow λi j=>.int (i ^ j.toNat)):=opI λ_ _ _ _ _ _ _ a q=>pow_int_small a.1 a.2.1 a.2.2 q
theorem b4Z:OpR X (lZ .Add) (rI0 λi j=>.int (i+j)):=opI0 λ_ _ _ _ _ _ _ q=>iadd_int q
theorem unI {g:Int->Int}
  (rule:∀ (i:Int) (t:Tok) (s:Shared) (Q:Value->Shared->Prop) (E:Value->Shared->Prop),Q (.int (g i) s.toks) { s with toks:=s.toks+1 }->wpAny (model X.prog X.w) X.A (f (.int i t)) Q E s) :
  UnR X f (rU λi=>.int (g i)):=by
 intro b s σ H x v Q I a h;obtain⟨i,rfl,q⟩:=h;obtain⟨t,rfl⟩:=a;exact rule i t s _ _ ⟨.int _,H,I.tok _,⟨_,rfl⟩,q⟩
theorem b6R:UnR X (lY .USub) (rU λi=>.int (-i)):=unI λ_ _ _ _ _ q=>neg_int q
end
noncomputable def scal:V->V->Bool
 | .non,.non=>true | .non,.int _=>true | .int _,.non=>true | .non,.bl _=>true | .bl _,.non=>true | .non,.str _=>true | .str _,.non=>true
 | .int _,.int _=>true | .bl _,.bl _=>true | .str _,.str _=>true | .byt _,.byt _=>true
 | .int _,.str _=>true | .str _,.int _=>true | .bl _,.str _=>true | .str _,.bl _=>true
 | _,_=>false
def rEq:R2:=λx y H Q=>scal x y=true/\Q (.bl (decide (x=y))) H
def rNe:R2:=λx y H Q=>scal x y=true/\Q (.bl (!decide (x=y))) H
theorem b0K:decide (V.int i=V.int j)=(i==j):=by
 rw[gz];simp
theorem b0L:decide (V.bl i=V.bl j)=(i==j):=by
 rw[gz];simp
theorem b0M:decide (V.str i=V.str j)=(i==j):=by
 rw[gz];simp
theorem b0N:decide (V.byt i=V.byt j)=(i.toList==j.toList):=by
 rw[gz];cases i;cases j;simp
section
variable {X:Cx}{a b c:Expr}{ta tb tc:TE}{pos:Pos}
theorem a0D (I:Inv X pins σ H s) (q:Q (.bl k) H) (e:k=k'):EP X pins σ Q (.bool k') s:=by
 subst e;exact⟨.bl k,H,I,rfl,q⟩
theorem op_eq:OpR X (j5 .Eq) rEq:=by
 intro pins s σ H x y v u Q I rx ry h;obtain⟨hs,q⟩:=h;cases x with
 | non=>
  cases rx;cases y with
  | non=>cases ry;exact PySem.EqNone.eq_none_none (a0D I q (by simp))
  | bl j=>cases ry;exact PySem.EqNone.eq_none_bool (a0D I q (by simp))
  | int j=>obtain⟨t',rfl⟩:=ry;exact PySem.EqNone.eq_none_int (a0D I q (by simp))
  | str j=>obtain⟨t',rfl⟩:=ry;exact PySem.EqNone.eq_none_str (a0D I q (by simp))
  | _=>exact absurd (show false=true from hs) eN
 | bl i=>
  cases rx;cases y with
  | non=>cases ry;exact PySem.EqNone.eq_bool_none (a0D I q (by simp))
  | bl j=>cases ry;exact eq_bool (a0D I q b0L)
  | str j=>obtain⟨t',rfl⟩:=ry;exact PySem.EqMixed.eq_bool_str (a0D I q (by simp))
  | _=>exact absurd (show false=true from hs) eN
 | int i=>
  obtain⟨t,rfl⟩:=rx;cases y with
  | non=>cases ry;exact PySem.EqNone.eq_int_none (a0D I q (by simp))
  | int j=>obtain⟨t',rfl⟩:=ry;exact eq_int (a0D I q b0K)
  | str j=>obtain⟨t',rfl⟩:=ry;exact PySem.EqMixed.eq_int_str (a0D I q (by simp))
  | _=>exact absurd (show false=true from hs) eN
 | str i=>
  obtain⟨t,rfl⟩:=rx;cases y with
  | non=>cases ry;exact PySem.EqNone.eq_str_none (a0D I q (by simp))
  | bl j=>cases ry;exact PySem.EqMixed.eq_str_bool (a0D I q (by simp))
  | int j=>obtain⟨t',rfl⟩:=ry;exact PySem.EqMixed.eq_str_int (a0D I q (by simp))
  | str j=>obtain⟨t',rfl⟩:=ry;exact eq_str (a0D I q b0M)
  | _=>exact absurd (show false=true from hs) eN
 | byt i=>
  obtain⟨t,rfl⟩:=rx;cases y with
  | byt j=>obtain⟨t',rfl⟩:=ry;exact PySem.W.eq_bytes (a0D I q b0N)
  | _=>exact absurd (show false=true from hs) eN
 | _=>cases y<;>exact absurd (show false=true from hs) eN
theorem op_ne:OpR X (j5 .NotEq) rNe:=by
 intro e s σ H x y v u Q I d a h;obtain⟨c,q⟩:=h;cases x with
 | non=>
  cases d;cases y with
  | non=>cases a;exact PySem.EqNone.ne_none_none (a0D I q (by simp))
  | bl j=>cases a;exact PySem.EqNone.ne_none_bool (a0D I q (by simp))
  | int j=>obtain⟨b,rfl⟩:=a;exact PySem.EqNone.ne_none_int (a0D I q (by simp))
  | str j=>obtain⟨b,rfl⟩:=a;exact PySem.EqNone.ne_none_str (a0D I q (by simp))
  | _=>exact absurd (show false=true from c) eN
 | bl i=>
  cases d;cases y with
  | non=>cases a;exact PySem.EqNone.ne_bool_none (a0D I q (by simp))
  | bl j=>cases a;exact ne_bool (a0D I q (congrArg not b0L))
  | str j=>obtain⟨b,rfl⟩:=a;exact PySem.EqMixed.ne_bool_str (a0D I q (by simp))
  | _=>exact absurd (show false=true from c) eN
 | int i=>
  obtain⟨t,rfl⟩:=d;cases y with
  | non=>cases a;exact PySem.EqNone.ne_int_none (a0D I q (by simp))
  | int j=>obtain⟨b,rfl⟩:=a;exact ne_int (a0D I q (congrArg not b0K))
  | str j=>obtain⟨b,rfl⟩:=a;exact PySem.EqMixed.ne_int_str (a0D I q (by simp))
  | _=>exact absurd (show false=true from c) eN
 | str i=>
  obtain⟨t,rfl⟩:=d;cases y with
  | non=>cases a;exact PySem.EqNone.ne_str_none (a0D I q (by simp))
  | bl j=>cases a;exact PySem.EqMixed.ne_str_bool (a0D I q (by simp))
  | int j=>obtain⟨b,rfl⟩:=a;exact PySem.EqMixed.ne_str_int (a0D I q (by simp))
  | str j=>obtain⟨b,rfl⟩:=a;exact ne_str (a0D I q (congrArg not b0M))
  | _=>exact absurd (show false=true from c) eN
 | byt i=>
  obtain⟨t,rfl⟩:=d;cases y with
  | byt j=>obtain⟨b,rfl⟩:=a;exact PySem.W.ne_bytes (a0D I q (congrArg not b0N))
  | _=>exact absurd (show false=true from c) eN
 | _=>cases y<;>exact absurd (show false=true from c) eN
theorem b9s:OpR X (j5 .Lt) (rI0 λi j=>.bl (decide (i<j))):=opB0 λ_ _ _ _ _ _ _ q=>lt_int q
theorem b9t:OpR X (j5 .LtE) (rI0 λi j=>.bl (decide (i≤j))):=opB0 λ_ _ _ _ _ _ _ q=>le_int q
theorem b9u:OpR X (j5 .Gt) (rI0 λi j=>.bl (decide (j<i))):=opB0 λ_ _ _ _ _ _ _ q=>gt_int q
theorem b0O:OpR X (j5 .Lt) (λx y H Q=>∃ i j,x=.str i/\y=.str j/\Q (.bl (decide (i.cps.toList<j.cps.toList))) H):=by
 intro b s σ H x y v u Q I a c h;obtain⟨i,j,rfl,rfl,q⟩:=h;obtain⟨t,rfl⟩:=a;obtain⟨d,rfl⟩:=c;exact lt_str (a0D I q rfl)
theorem op_isN:OpR X (j5 .Is) (λx y H Q=>y=.non/\Q (.bl (decide (x=.non))) H):=by
 intro b s σ H x y v u Q I a c h;obtain⟨rfl,q⟩:=h;cases c;refine is_none_gen (a0D I q ?_);cases x<;>first
  | (cases a;rfl)
  | (obtain⟨t,rfl⟩:=a;rfl)
theorem b40:OpR X (j5 .IsNot) (λx y H Q=>y=.non/\Q (.bl (!decide (x=.non))) H):=by
 intro c s σ H x y v u Q I a b h;obtain⟨rfl,q⟩:=h;cases b;refine isnot_none_gen (a0D I q ?_);cases x<;>first
  | (cases a;rfl)
  | (obtain⟨t,rfl⟩:=a;rfl)
theorem OpR.or (h:OpR X f r) (h':OpR X f r'):OpR X f (λx y H Q=>r x y H Q\/r' x y H Q):=by
 intro a s σ H x y v u Q I c b q;rcases q with q | q
 ·exact h a s σ H x y v u Q I c b q
 ·exact h' a s σ H x y v u Q I c b q
theorem a0u (b:Expr) (h:op≠.In:=by decide) (h2:op≠.NotIn:=by decide):le op b=false:=by
 have a:(op==CmpOp.In)=false:=by grind
 have c:(op==CmpOp.NotIn)=false:=by grind
 cases b<;>simp[le,a,c]
theorem b41 (ho:OpR X (j5 op) r) (ha:PE X a ta) (hb:PE X b tb) (hm:le op b=false):PE X (.Compare a [op] [b] pos) (tOp r ta tb):=by
 intro c s σ H Q I h;exact wpAny_Compare1 (binT ha hb I h λv u d x y f g i e q=>ho c d σ f x y v u Q g i e q) hm
def b9v (t:TE):TT:=fun σ H Q=>t σ H λx H'=>∃ k,x=.bl k/\Q k H'
theorem b42 (ho:OpR X (j5 op) r) (ha:PE X a ta) (hb:PE X b tb) (hm:le op b=false):PT X (.Compare a [op] [b] pos) (b9v (tOp r ta tb)):=by
 intro d s σ H Q I h;refine wpAny_isTrue_Compare1 (thn (ha d s σ H _ I h) λv l ⟨x,w,f,n,B⟩=>thn (hb d l σ w _ f B) λu t ⟨y,m,i,j,A⟩=>
  thn (ho d t σ m x y v u _ i n j A) λc C ⟨z,q,p,o,k,e,g⟩=>?_) hm
 subst e;cases o;exact kI ⟨q,p,g⟩
def b4b (r r':R2) (ta tb tc:TE):TE:=fun σ H Q=>ta σ H λx H1=>tb σ H1 λy H2=>r x y H2 λz H3=>∃ k,z=.bl k /\
 (if k=true then tc σ H3 λw' H4=>r' y w' H4 Q else Q (.bl false) H3)
theorem b2U (ho:OpR X (j5 op) r) (ho':OpR X (j5 op') r') (ha:PE X a ta) (hb:PE X b tb) (hc:PE X c tc)
  (hm:lastMarks [op,op'] [b,c]=false:=by with_unfolding_all rfl):PE X (.Compare a [op,op'] [b,c] pos) (b4b r r' ta tb tc):=by
 intro f s σ H Q I h;refine Compare_chain (thn (ha f s σ H _ I h) λv m ⟨x,t,J,p,N⟩=>chain_link (thn (hb f m σ t _ J N) λu o ⟨y,C,F,j,L⟩=>
  thn (ho f o σ C x y v u _ F p j L) λd A ⟨z,i,g,n,k,e,l⟩=>?_)) hm
 subst e;cases n;refine kI ?_;cases k with
 | false=>exact ite_ff ⟨.bl false,i,g,rfl,l⟩
 | true=>exact ite_tt (chain_last (thn (hc f A σ i _ g l) λM w ⟨D,q,B,G,E⟩=>ho' f w σ q y D u M Q B j G E))
def TruV (K:Fg) (x:V) (H:Hp) (k:Bool):Prop:=
 match x with
 | .non=>k=false
 | .bl b=>k=b
 | .int i=>k=(i != 0)
 | .str y=>y.length≤jS/\k=((y.length:Int) != 0)
 | .byt y=>y.size≤jS/\k=((y.size:Int) != 0)
 | .ref p=>(∃ xs,SqL K H p xs/\k=!xs.isEmpty)\/(∃ xs,SqT K H p xs/\k=!xs.isEmpty)\/∃ kvs,H p=some (.dK kvs)/\k=!kvs.isEmpty
 | _=>False
theorem a9T {κ:Type}{kvs:List (κ×V)}{vs:List (κ×Value)}(r:KV kvs vs):(!vs.isEmpty)=!kvs.isEmpty:=by
 cases r<;>rfl
theorem a5S (r:Vals xs its):(!its.toArray.isEmpty)=!xs.isEmpty:=by
 cases r<;>simp
theorem a7a:(jS:Nat)<2 ^ 63:=by rw[kf];decide
theorem b6S:TruR X (λx H Q=>∃ k,TruV X.K x H k/\Q k H):=by
 intro u s σ H x v Q I c h;obtain⟨k,e,q⟩:=h;have z:=a7a;have A:jS=16777216:=kf;cases x with
 | non=>
  cases c;have a:k=false:=e;subst a;exact truthy_none ⟨H,I,q⟩
 | bl b=>
  cases c;have a:k=b:=e;subst a;exact kI ⟨H,I,q⟩
 | int i=>
  obtain⟨t,rfl⟩:=c;have a:k=(i != 0):=e;subst a;exact PySem.P.truthy_int ⟨H,I,q⟩
 | str y=>
  obtain⟨t,rfl⟩:=c;obtain⟨o,a⟩:=e;subst a;exact PySem.P.truthy_str (by omega) ⟨H,I.tok _,q⟩
 | byt y=>
  obtain⟨t,rfl⟩:=c;obtain⟨o,a⟩:y.size≤jS/\k=((y.size:Int) != 0):=e;subst a;exact PySem.W.truthy_bytes (by omega) ⟨H,I.tok _,q⟩
 | ref p=>
  cases c;have a:=e;rcases a with ⟨xs,hx,a⟩ | ⟨xs,hx,a⟩ | ⟨kvs,hx,a⟩
  ·subst a;obtain⟨l,r,g,j⟩:=I.list hx;have d:=r.length;exact wpAny_truthy_list g.isList (by simp only[eZ];omega) ⟨H,I.tok _,by rw[a5S r];exact q⟩
  ·subst a;obtain⟨l,r,g,j⟩:=I.tuple hx;have d:=r.length;exact truthy_tuple g (by simp only[eZ];omega) ⟨H,I.tok _,by rw[a5S r];exact q⟩
  ·subst a;obtain⟨j,n,f,r,m⟩:=I.hok p _ hx;have d:kvs.length=f.length:=Paired.length r;exact wpAny_truthy_dict n m (by omega) ⟨H,I.tok _,by rw[a9T r];exact q⟩
 | _=>exact (show False from e).elim
theorem b2V (ha:PE X a ta) (he:∀ whole,isTrue a X.env whole=(do let v <- whole;kE a.pos;kj [v] (truthy v))) :
  PT X a (fun σ H Q=>ta σ H λx H'=>∃ k,TruV X.K x H' k/\Q k H'):=by
 intro b s σ H Q I h;exact isTrue_plain (thn (ha b s σ H _ I h) λv e ⟨x,f,d,g,c⟩=>b6S b e σ f x v Q d g c) (he _)
theorem op_add_str:OpR X (kb .Add) (λx y H Q=>∃ i j,x=.str i/\y=.str j/\i.length+j.length≤jS/\Q (.str (i++j)) H):=by
 intro b s σ H x y v u Q I a d h;obtain⟨i,j,rfl,rfl,e,q⟩:=h;obtain⟨t,rfl⟩:=a;obtain⟨c,rfl⟩:=d;exact add_str (λc f=>⟨.str (i++j),H,I.tok _,⟨_,rfl⟩,q⟩) e
theorem a20 (r:Vals [x] us):∃ u,us=[u]/\RelV x u:=by
 cases r with
 | cons r1 r2=>cases r2;exact⟨_,rfl,r1⟩
theorem a9U (r:Vals [x,y] us):∃ u w',us=[u,w']/\RelV x u/\RelV y w':=by
 cases r with
 | cons r1 r2=>
  cases r2 with
  | cons r3 r4=>cases r4;exact⟨_,_,rfl,r1,r3⟩
theorem b0P (hc:X.calm=true):CallR X (.builtin "max") (λxs H Q=>∃ i j,xs=[.int i,.int j]/\Q (.int (if j > i then j else i)) H):=by
 intro a s σ H d e Q I r h;obtain⟨i,j,rfl,q⟩:=h;obtain⟨u,f,rfl,⟨t,rfl⟩,⟨b,rfl⟩⟩:=a9U r;refine max_two_ints (I.ok.hd hc) λg c k=>⟨_,H,I.kept k,?_,q⟩
 by_cases hj:j > i
 ·rw[if_pos hj,if_pos hj];exact⟨_,rfl⟩
 ·rw[if_neg hj,if_neg hj];exact⟨_,rfl⟩
theorem b0Q (hc:X.calm=true):CallR X (.builtin "min") (λxs H Q=>∃ i j,xs=[.int i,.int j]/\Q (.int (if j<i then j else i)) H):=by
 intro a s σ H d f Q I r h;obtain⟨i,j,rfl,q⟩:=h;obtain⟨u,g,rfl,⟨t,rfl⟩,⟨c,rfl⟩⟩:=a9U r;refine min_two_ints (I.ok.hd hc) λb e k=>⟨_,H,I.kept k,?_,q⟩
 by_cases hj:j<i
 ·rw[if_pos hj,if_pos hj];exact⟨_,rfl⟩
 ·rw[if_neg hj,if_neg hj];exact⟨_,rfl⟩
def LenV (K:Fg) (x:V) (H:Hp) (n:Nat):Prop:=
 match x with
 | .str y=>y.length≤jS/\n=y.length
 | .byt y=>y.size≤jS/\n=y.size
 | .ref p=>(∃ xs,SqL K H p xs/\n=xs.length)\/∃ xs,SqT K H p xs/\n=xs.length
 | _=>False
theorem b2W:CallR X (.builtin "len") (λxs H Q=>∃ x n,xs=[x]/\LenV X.K x H n/\Q (.int n) H):=by
 intro j s σ H a v Q I r h;obtain⟨x,n,rfl,e,q⟩:=h;obtain⟨u,rfl,d⟩:=a20 r;have o:=kf;cases x with
 | str y=>
  obtain⟨t,rfl⟩:=d;obtain⟨k,b⟩:=e;subst b;exact len_str (by omega) ⟨.int _,H,I.tok _,⟨_,rfl⟩,q⟩
 | byt y=>
  obtain⟨t,rfl⟩:=d;obtain⟨k,b⟩:=e;subst b;exact PySem.W.len_bytes (by omega) ⟨.int _,H,I.tok _,⟨_,rfl⟩,q⟩
 | ref p=>
  cases d;have b:=e;rcases b with ⟨a,hx,b⟩ | ⟨a,hx,b⟩
  ·subst b;obtain⟨i,g,f,l⟩:=I.list hx;have c:=g.length;exact Calls.call_len_list f.isList (by grind) ⟨.int a.length,H,I.tok _,⟨_,by simp only[eZ];rw[c]⟩,q⟩
  ·subst b;obtain⟨i,g,f,l⟩:=I.tuple hx;have c:=g.length;exact len_tuple f (by grind) ⟨.int a.length,H,I.tok _,⟨_,by simp only[eZ];rw[c]⟩,q⟩
 | _=>exact (e).elim
end
end L2
namespace L2
open PySem PySem.Spec PyProof.Rows
structure ObjM (h:Heap) (x dx C:Addr) (mA:Str->Option Value):Prop where
 obj:h.get? x=some (PySem.W.instObj C dx)
 ns:h.Ns1 dx mA
 ne:dx≠x
theorem b0R {h:Heap}(n:h.Ns1 dx mA):∃ od,h.get? dx=some od/\∀ name,PySem.W.lookIn name od=some (mA name):=by
 obtain⟨o,d,m,l,j,f,_,g⟩:=n;refine⟨o,l,λc=>?_⟩;have e:=g c;unfold nsFind findBy at e;rw[<- Array.find?_toList]at e;unfold PySem.W.lookIn;rw[j];dsimp only
 split
 ·simp_all
 ·rename_i q
  rw[q]at e;have a:d.toList.any (·.refKey)=false:=by
   rw[i3];intro y k;obtain⟨z,t,b⟩:=f y (i5.mp k);simp[mE.refKey,b]
  have i:¬ d.toList.any (·.refKey)=true:=by rw[a];exact eN
  rw[if_neg i];exact congrArg some e
theorem ObjM.look (I:ObjM h x dx C mA):∃ od,PySem.W.InstAt h x (PySem.W.instObj C dx) C (some od)/\∀ name,PySem.W.lookIn name od=some (mA name):=
 let ⟨od,ho,hl⟩:=b0R I.ns
 ⟨od,⟨I.obj,rfl,rfl,ho⟩,hl⟩
section
variable {prog:jY}{w:World}{A:Around}{E:Value->Shared->Prop}{s:Shared}{K:Fg}{x dx C f:Addr}{mA:Str->Option Value}{name:Str}{v:Value}
theorem b43 (X:K.In s.heap) (I:ObjM s.heap x dx C mA) (hg:PySem.W.plainGet K C name=true) (hh:PySem.W.hasDictIn K C=true)
  (ha:PySem.W.findIn K (.ref C) name=some none) (hv:mA name=some v) (hv':PySem.W.handedIn v=true) (h:Q v { s with toks:=s.toks+1 }) :
  wpAny (model prog w) A (getAttr (.ref x) name expr) Q E s:=by
 obtain⟨b,J,a⟩:=I.look;exact PySem.W.get_value X J (PySem.W.plainGet_of hg).1 (PySem.W.findObj_own hh ha rfl (by simp_all)) hv' h
theorem b2X (X:K.In s.heap) (I:ObjM s.heap x dx C mA) (hg:PySem.W.plainGet K C name=true)
  (hf:PySem.W.findIn K (.ref C) name=some (some (.ref f))) (ht:PySem.W.isFn K (.ref f)=true) (hv:mA name=none) (h:Q (.ref f,[.ref x]) s) :
  wpAny (model prog w) A (lK (.ref x) name pl) Q E s:=by
 obtain⟨b,J,a⟩:=I.look;exact PySem.W.method_fn X J (PySem.W.plainGet_of hg).1 (PySem.W.plainGet_of hg).2 hf (beq_iff_eq.mp ht) (by show (PySem.W.lookIn name b).map _=some false;rw[a,hv];rfl) h
theorem b44 (X:K.In s.heap) (I:ObjM s.heap x dx C mA)
  (hs:PySem.W.findIn K (.ref C) "__setattr__"=some (some (.builtin "object.__setattr__"))) (hp:PySem.W.plainOver K C=true) (ht:PySem.W.takerIn K C name=some none) (hh:PySem.W.hasDictIn K C=true)
  (hw:PySem.Within mA ns) (hsz:ns.length≤jS)
  (h:∀ h',ObjM h' x dx C (λy=>if y=name then some v else mA y)->Heap.SameBut dx s.heap h'->Q () { s with heap:=h',toks:=s.toks+2 }) :
  wpAny (model prog w) A (setAttr (.ref x) name v) Q E s:=by
 obtain⟨p,J,n⟩:=I.look;refine PySem.W.set_plain X J hs (PySem.W.osa_open X J hp ht λb=>?_);obtain⟨o,j,i⟩:=PySem.W.any_some hh;have k:=I.obj;refine jQ (jR (jQ (jQ (wpAny_loadPart k (jQ (PySem.W.Looks.here (PySem.W.looks_clsIn X j) ?_))))));rw[i];refine jR (jQ (jR (jQ ?_)));refine wpAny_nsSet1 I.ns λt d c=>?_;obtain⟨q,l,m,f,g,e⟩:=d.count (PySem.Within.cons name v hw);refine jQ (wpAny_lookBehind f (by rw[g];exact pastItsLine_dict (dW e (by grind))) ?_);exact jR (h _ ⟨(c.2 _ (Ne.symm I.ne)).trans I.obj,d,I.ne⟩ c)
theorem b2Y (X:K.In s.heap) (hm:PySem.W.makesIn K C=true)
  (hi:PySem.W.findIn K (.ref C) "__init__"=some (some (.ref f))) (hf:PySem.W.typeIn K (.ref f)=some (.type "function"))
  (h:kl (model prog w) (A.under (.builtin "type.__call__" ⟨.ref C::vs,kw⟩)) (.call (.ref f) ⟨.ref (s.heap.objs.size+1)::vs,kw⟩) (PySem.W.InitBack (s.heap.objs.size+1) R)
   { s with heap:=(s.heap.push PySem.W.emptyDict).push (PySem.W.instObj C s.heap.objs.size) }) :
  kl (model prog w) A (.call (.ref C) ⟨vs,kw⟩) R s:=PySem.W.make_core (PySem.W.makes_of X hm) (PySem.W.looks_findIn X hi) (λa=>PySem.W.bind_fn X a hf) (.inl rfl) h
end
noncomputable def putF (f:Str) (v:V):List (Str×V)->List (Str×V)
 | []=>[(f,v)]
 | (g,x)::r=>if g=f then (g,v)::r else (g,x)::putF f v r
theorem a44 (f g:Str) (v:V):∀ fs:List (Str×V),(putF f v fs).lookup g=if g=f then some v else fs.lookup g
 | []=>by
  show g9 g [_]=_
  by_cases h:g=f
  ·simp_all
  ·simp_all
 | (k,x)::r=>by
  have b:=a44 f g v r;rw[show putF f v _=(if k=f then _::r else (k,x)::putF f v r) from rfl]
  by_cases hk:k=f
  ·rw[if_pos hk]
   by_cases h:g=k
   ·simp_all
   ·have a:=beq_eq_false_iff_ne.mpr h;simp only[g9,a,if_neg (λe:g=f=>h (e.trans hk.symm))]
  ·rw[if_neg hk]
   by_cases h:g=k
   ·simp_all
   ·have a:=beq_eq_false_iff_ne.mpr h;simp only[g9,a];exact b
theorem a45 (f:Str) (v:V):∀ fs:List (Str×V),f∈(putF f v fs).map (·.1)/\∀ g,g∈fs.map (·.1)->g∈(putF f v fs).map (·.1)
 | []=>⟨by simp[putF],λg h=>by simp at h⟩
 | (k,x)::r=>by
  obtain⟨a,b⟩:=a45 f v r;rw[show putF f v _=(if k=f then _::r else (k,x)::putF f v r) from rfl]
  by_cases hk:k=f
  ·grind
  ·rw[if_neg hk];refine⟨?_,λg h=>?_⟩
   ·rw[eu];exact eX _ a
   ·rw[eu]at h ⊢;rcases dU.mp h with e | e
    ·exact dU.mpr (.inl e)
    ·exact eX _ (b g e)
theorem a46 (f:Str) (v:V):∀ fs:List (Str×V),(putF f v fs).length≤fs.length+1
 | []=>by simp[putF]
 | (k,x)::r=>by
  have a:=a46 f v r;rw[show putF f v _=(if k=f then _::r else (k,x)::putF f v r) from rfl]
  by_cases hk:k=f
  ·grind
  ·grind
theorem RelO.some_of (r:RelO (some v) o):∃ u,o=some u/\RelV v u:=by
 cases o with
 | none=>exact (r).elim
 | some u=>exact⟨u,rfl,r⟩
theorem RelO.none_of (r:RelO none o):o=none:=by
 cases o with
 | none=>rfl
 | some u=>exact (r).elim
theorem b0S (r:RelV v u):PySem.W.handedIn u=true:=by
 cases v with
 | non=>cases (r);rfl
 | bl b=>cases (r);rfl
 | int i=>obtain⟨t,e⟩:=(r);cases e;rfl
 | str x=>obtain⟨t,e⟩:=(r);cases e;rfl
 | byt b=>obtain⟨t,e⟩:=(r);cases e;rfl
 | flt b=>obtain⟨t,e⟩:=(r);cases e;rfl
 | ref a=>cases (r);rfl
 | ty n=>cases (r);rfl
section
variable {P:jY}{w:World}{H H':Hp}{h h':Heap}{a C dx:Addr}{fs fs':List (Str×V)}
theorem a6p (hok:HOk P w H h) (e:H a=some (.ins C dx fs)):∃ mA,ObjM h a dx C mA/\(∀ f,RelO (fs.lookup f) (mA f))/\PySem.Within mA (fs.map (·.1))/\fs.length≤1000/\H dx=some (.own a):=by
 obtain⟨d,z,c,g,b,n,r,q⟩:=(hok a _ e);exact⟨b,⟨g,n,c⟩,r,q,z,d⟩
end
structure Cls (K:Fg) (C:Addr):Prop where
 pg:PySem.W.plainGet K C Str.empty=true
 hd:PySem.W.hasDictIn K C=true
 po:PySem.W.plainOver K C=true
 sa:PySem.W.findIn K (.ref C) "__setattr__"=some (some (.builtin "object.__setattr__"))
theorem Cls.get {K:Fg}(c:Cls K C) (f:Str):PySem.W.plainGet K C f=true:=c.pg
def NoAttr (K:Fg) (C:Addr) (f:Str):Prop:=PySem.W.findIn K (.ref C) f=some none
theorem NoAttr.taker {K:Fg}(n:NoAttr K C f):PySem.W.takerIn K C f=some none:=by
 unfold PySem.W.takerIn;rw[n]
 rfl
structure Meth (K:Fg) (C:Addr) (m:Str) (f:Addr):Prop where
 at_:PySem.W.findIn K (.ref C) m=some (some (.ref f))
 fn:PySem.W.isFn K (.ref f)=true
 kp:PySem.W.keepIn K (.ref f)=true
section
variable {X:Cx}{pins:List (Addr×Obj)}{σ:St}{H:Hp}{s:Shared}{a C dx:Addr}{fs:List (Str×V)}{f:Str}{v:V}{A:Around}{E:Value->Shared->Prop}
theorem a5T (I:Inv X pins σ H s) (e:H a=some (.ins C dx fs)) (c:Cls X.K C) (n:NoAttr X.K C f) (l:fs.lookup f=some v)
  (h:∀ u s',Inv X pins σ H s'->RelV v u->Q u s'):wpAny (model X.prog X.w) A (getAttr (.ref a) f b) Q E s:=by
 obtain⟨i,O,r,_,_,_⟩:=a6p I.hok e;obtain⟨u,g,d⟩:=RelO.some_of (by rw[<- l];exact r f);exact b43 I.kIn O (c.get f) c.hd n g (b0S d) (h u _ (I.tok _) d)
theorem a9V (I:Inv X pins σ H s) (e:H a=some (.ins C dx fs)) (c:Cls X.K C) (k:Meth X.K C m g) (l:fs.lookup m=none)
  (h:Q (.ref g,[.ref a]) s):wpAny (model X.prog X.w) A (lK (.ref a) m pl) Q E s:=by
 obtain⟨b,O,r,_,_,_⟩:=a6p I.hok e;have d:=RelO.none_of (by rw[<- l];exact r m);exact b2X I.kIn O (c.get m) k.at_ k.fn d h
theorem a5U (I:Inv X pins σ H s) (e:H a=some (.ins C dx fs)) (c:Cls X.K C) (n:NoAttr X.K C f) (hl:fs.length<1000) (ry:RelV y u)
  (h:∀ s',Inv X pins σ (upd H a (.ins C dx (putF f y fs))) s'->Q () s'):wpAny (model X.prog X.w) A (setAttr (.ref a) f u) Q E s:=by
 obtain⟨i,O,r,j,_,k⟩:=a6p I.hok e;have v:(fs.map (·.1)).length≤sizeLine:=by rw[dJ,kf];omega
 refine b44 I.kIn O c.sa c.po n.taker c.hd j v λm d l=>h _ ?_;have t:∃ o,m.get? dx=some o:=let ⟨o,_,_,e',_⟩:=d.ns;⟨o,e'⟩
 refine I.write (by rw[e];exact True.intro) (.inr k) (λb q p z=>(l.2 b p).trans z) t ?_;refine⟨by rw[a0w O.ne];exact k,?_,O.ne,d.obj,_,d.ns,λg=>?_,λg B=>?_⟩
 ·have:=a46 f y fs;omega
 ·show RelO _ _
  rw[a44]
  by_cases q:g=f
  ·rw[if_pos q,if_pos q];exact ry
  ·simp_all
 ·by_cases q:g=f
  ·rw[q];exact (a45 f y fs).1
  ·refine (a45 f y fs).2 g (j g λz=>B ?_)
   show (if g=f then some u else i g)=none
   rw[if_neg q];exact z
theorem Inv.made (I:Inv X pins σ H s):Inv X pins σ (upd (upd H s.heap.objs.size (.own (s.heap.objs.size+1))) (s.heap.objs.size+1) (.ins C s.heap.objs.size []))
  { s with heap:=(s.heap.push PySem.W.emptyDict).push (PySem.W.instObj C s.heap.objs.size) }:=by
 have c:(s.heap.push PySem.W.emptyDict).get? s.heap.objs.size=some PySem.W.emptyDict:=Heap.get?_push_size s.heap rfl;have i:((s.heap.push PySem.W.emptyDict).push (PySem.W.instObj C s.heap.objs.size)).get? (s.heap.objs.size+1)=some (PySem.W.instObj C s.heap.objs.size):=by
  have:=Heap.get?_push_size (s.heap.push PySem.W.emptyDict) (o:=PySem.W.instObj C s.heap.objs.size) rfl
  rwa [Heap.size_push]at this
 have g:(s.heap.push PySem.W.emptyDict).Ns s.heap.objs.size _:=⟨PySem.W.emptyDict,#[],_,c,rfl,(λe h=>absurd h (by simp)),λ_=>rfl⟩;have j:=I.laid (o:=.own (s.heap.objs.size+1)) (t':=s.toks) (λb u q=>Heap.get?_push_of_some _ q) (dM _) ⟨_,c⟩;refine j.laid (t':=s.toks) (λb u q=>Heap.get?_push_of_some _ q) (fG (Heap.size_push _ _)) ?_;have d:s.heap.objs.size≠s.heap.objs.size+1:=ei (hG _);refine⟨by rw[a0w d,a0A],eI _,d,i,λ_=>none,(Heap.Ns1.of_empty g).at λo q=>Heap.get?_push_of_some _ q,λ_=>True.intro,λy f=>absurd rfl f⟩
theorem b45 (hb:kR e f env (eval e env)=eval e env)
  (h:wpAny (model prog w) A (eval e env) (λo s₁=>wpAny (model prog w) A (getAttr o f true) Q E s₁) E s):wpAny (model prog w) A (eval (.Attribute e f pos) env) Q E s:=
 Attribute_any_ h (by rw[arm_eval_Attribute,hb])
end
def tFld (K:Fg) (ta:TE) (f:Str):TE:=fun σ H Q=>ta σ H λx H1=>∃ a C dx fs v,x=.ref a/\H1 a=some (.ins C dx fs)/\Cls K C/\NoAttr K C f/\fs.lookup f=some v/\Q v H1
def sFld (K:Fg) (ta tv:TE) (f:Str):TS:=λD σ H=>tv σ H λy H1=>ta σ H1 λx H2=>∃ a C dx fs,x=.ref a/\H2 a=some (.ins C dx fs)/\Cls K C/\NoAttr K C f/\fs.length<1000 /\
 D.nx σ (upd H2 a (.ins C dx (putF f y fs)))
def InOp (X:Cx) (op:Operator) (rd:V->V->Hp->VK->Prop):Prop:=
 ∀ (pins:List (Addr×Obj)) (s:Shared) (σ:St) (H:Hp) (x y:V) (u v:Value) (Q:VK),Inv X pins σ H s->RelV x u->RelV y v->rd x y H Q->wpAny (model X.prog X.w) X.A (lZ op u v) (EP X pins σ Q) X.xe s
def b46 (K:Fg) (ta tv:TE) (rd:V->V->Hp->VK->Prop) (f:Str):TS:=λD σ H=>ta σ H λx H1=>∃ a C dx fs v,x=.ref a/\H1 a=some (.ins C dx fs)/\Cls K C/\NoAttr K C f/\fs.lookup f=some v /\
 tv σ H1 λy H2=>rd v y H2 λz H3=>∃ dx' fs',H3 a=some (.ins C dx' fs')/\fs'.length<1000/\D.nx σ (upd H3 a (.ins C dx' (putF f z fs')))
section
variable {X:Cx}{o e value:Expr}{f:Str}{pos pos' tpos:Pos}{ta tv:TE}
theorem b6T (he:PE X e ta) (hb:kR e f X.env (eval e X.env)=eval e X.env):PE X (.Attribute e f pos) (tFld X.K ta f):=by
 intro b s σ H Q I h;refine b45 hb (thn (he b s σ H _ I h) λu p ⟨x,d,i,j,a,C,r,w,v,g,m,c,n,l,q⟩=>?_);subst g;obtain rfl:u=Value.ref a:=j;exact a5T i m c n l λy t o k=>⟨v,d,o,k,q⟩
theorem b6U (ha:PE X o ta) (hv:PE X value tv) (hs:kD value (some (.Attribute o f pos')) pos.line X.env=pure false):PS X (.Assign [.Attribute o f pos'] value pos) (sFld X.K ta tv f):=by
 intro b s σ H D I h;refine plainObj_wpAny_Assign_Attribute (thn (hv b s σ H _ I h) λu g ⟨y,d,k,v,q⟩=>thn (ha b g σ d _ k q) λj A ⟨x,B,r,p,a,C,z,E,i,t,c,n,l,m⟩=>?_) hs;subst i;obtain rfl:j=Value.ref a:=p;exact a5U r t c n l v λw e=>⟨σ,_,e,m⟩
theorem b0T (ha:PE X o ta) (hv:PE X value tv) (hop:InOp X op rd):PS X (.AugAssign (.Attribute o f tpos) op value pos) (b46 X.K ta tv rd f):=by
 intro b s σ H D I h;refine wpAny_AugAssign_AttributeAny (thn (ha b s σ H _ I h) λj T ⟨x,e,k,M,a,C,dx,fs,v,B,p,c,n,l,q⟩=>?_);subst B;obtain rfl:j=Value.ref a:=M;refine a5T k p c n l λu J r m=>thn (hv b J σ e _ r q) λi E ⟨y,t,g,w,L⟩=>thn (hop b E σ t v y u i _ g m w L) λU Y ⟨z,H3,N,A,R,S,d,Q,F⟩=>?_;exact a5U N d c n Q A λW G=>⟨σ,_,G,F⟩
end
section
variable {X:Cx}{pins:List (Addr×Obj)}{σ:St}{H:Hp}{s:Shared}{A:Around}{E:Value->Shared->Prop}{Q:Value->Shared->Prop}{c:Value}{b:Bool}
inductive TyOf (K:Fg) (H:Hp):V->Value->Prop where
 | non:TyOf K H .non (.type "NoneType")
 | bl (x:Bool):TyOf K H (.bl x) (.type "bool")
 | int (i:Int):TyOf K H (.int i) (.type "int")
 | str (x:Str):TyOf K H (.str x) (.type "str")
 | flt (x:UInt64):TyOf K H (.flt x) (.type "float")
 | lst {a:Addr} {xs:List V} (e:H a=some (.lst xs)):TyOf K H (.ref a) (.type "list")
 | frz {a:Addr} {o:Obj} {xs:List V} (e:H a=some (.frz o (.lst xs))):TyOf K H (.ref a) (.type "list")
 | tup {a:Addr} {xs:List V} (e:H a=some (.tup xs)):TyOf K H (.ref a) (.type "tuple")
 | dK {a:Addr} {kvs:List (Key×V)} (e:H a=some (.dK kvs)):TyOf K H (.ref a) (.type "dict")
 | dT {a:Addr} {kvs:List (List Key×V)} (e:H a=some (.dT kvs)):TyOf K H (.ref a) (.type "dict")
 | ins {a C dx:Addr} {fs:List (Str×V)} (e:H a=some (.ins C dx fs)) (cl:Cls K C) (ha:PySem.W.findIn K (.ref C) "__class__"=some (some (.builtin "object.__class__")))
   (hn:PySem.W.specialIn K (.builtin "object.__class__") "__get__"=some (some (.builtin "getset_descriptor.__get__"))) (htk:PySem.W.takesIn K (.builtin "object.__class__")=some true)
   (hm:PySem.W.mroIn K C (.type "object")=some true):TyOf K H (.ref a) (.ref C)
theorem b0U (I:Inv X pins σ H s) (rx:RelV x u) (ty:TyOf X.K H x t) (e:PySem.W.kitOne X.K t c=some b) (h:∀ tk,Q (.bool b) { s with toks:=tk }) :
  wpAny (model X.prog X.w) A (call (.builtin "isinstance") [u,c]) Q E s:=by
 cases ty with
 | non=>cases (rx);exact PySem.W.kia_one PySem.W.kitx_none I.kIn True.intro e (λz=>nomatch z) h
 | bl y=>cases (rx);exact PySem.W.kia_one PySem.W.kitx_bool I.kIn True.intro e (λz=>nomatch z) h
 | int i=>obtain⟨t,q⟩:=(rx);cases q;exact PySem.W.kia_one PySem.W.kitx_int I.kIn True.intro e (λz=>nomatch z) h
 | str y=>obtain⟨t,q⟩:=(rx);cases q;exact PySem.W.kia_one PySem.W.kitx_str I.kIn True.intro e (λz=>nomatch z) h
 | flt y=>obtain⟨t,q⟩:=(rx);cases q;exact PySem.W.kia_one PySem.W.kitx_float I.kIn True.intro e (λz=>nomatch z) h
 | @lst a f ea=>
  cases (rx);obtain⟨_,_,n,_,d⟩:=(I.hok a _ ea);exact PySem.W.kia_one PySem.W.kitx_list I.kIn ⟨_,d,rfl⟩ e (λz=>nomatch z) h
 | @frz a ob f ea=>
  cases (rx);obtain⟨_,_,_,n,_,d⟩:=(I.hok a _ ea);exact PySem.W.kia_one PySem.W.kitx_list I.kIn ⟨_,d,rfl⟩ e (λz=>nomatch z) h
 | @tup a f ea=>
  cases (rx);obtain⟨_,_,_,p⟩:=(I.hok a _ ea);obtain⟨o,d,g,_⟩:=p;exact PySem.W.kia_one PySem.W.kitx_tuple I.kIn ⟨o,d,g⟩ e (λz=>nomatch z) h
 | @dK a kvs ea=>
  cases (rx);obtain⟨_,_,l,_,p⟩:=(I.hok a _ ea);obtain⟨o,j,k,d,g,_⟩:=p;exact PySem.W.kia_one PySem.W.kitx_dict I.kIn ⟨o,d,g.1⟩ e (λz=>nomatch z) h
 | @dT a kvs ea=>
  cases (rx);obtain⟨_,_,f,_,o,j,k,d,g,_⟩:=(I.hok a _ ea);exact PySem.W.kia_one PySem.W.kitx_dict I.kIn ⟨o,d,g.1⟩ e (λz=>nomatch z) h
 | @ins a C dx fs ea cl ha hn htk hm=>
  cases (rx);obtain⟨r,O,_⟩:=a6p I.hok ea;obtain⟨m,J,_⟩:=O.look;exact PySem.W.kia_one (PySem.W.kitx_own (cl.get _) cl.hd ha hn htk hm) I.kIn J e (λz=>nomatch z) h
end
end L2
namespace L2
open PySem PySem.Spec PyProof.Rows
structure Room (k:Nat) (A:Around):Prop where
 hd:A.handled=none
 dp:A.depth+3*k+5<recursionLimit
 un:A.units+16*k+200<cLine
theorem Room.mono (r:Room k A) (h:j≤k):Room j A:=⟨r.hd,by have:=r.dp;omega,by have:=r.un;omega⟩
theorem Room.deeper (r:Room (k+1) A) (env:Env):Room k (A.deeper env):=
 ⟨r.hd,by have:=r.dp;show A.depth+1+3*k+5<_;omega,by have:=r.un;show A.units+3+16*k+200<_;omega⟩
theorem Room.in1 (r:Room (k+1) A):Room k A.in1:=
 ⟨r.hd,by have:=r.dp;show A.depth+3*k+5<_;omega,by have:=r.un;show A.units+1+16*k+200<_;omega⟩
theorem a9W {A:Around}:(A.under (.builtin "type.__call__" ⟨.ref C::us,kw⟩)).depth=A.depth+1:=rfl
theorem a9X {A:Around}:(A.under (.builtin "type.__call__" ⟨.ref C::us,kw⟩)).units=A.units+1:=rfl
theorem Room.make (r:Room (k+1) A) (C:Addr) (us:List Value) (kw:List (Str×Value)):Room k (A.under (.builtin "type.__call__" ⟨.ref C::us,kw⟩)):=
 ⟨r.hd,by have:=r.dp;rw[a9W];omega,by have:=r.un;rw[a9X];omega⟩
theorem Room.depth (r:Room k A):A.depth<recursionLimit:=by have:=r.dp;omega
theorem Room.units (r:Room k A):A.units+64<cLine:=by have:=r.un;omega
def tNil:TA:=λ_ H Q=>Q [] H
def b9w (ta:TE) (tr:TA):TA:=fun σ H Q=>ta σ H λx H1=>tr σ H1 λxs H2=>Q (x::xs) H2
section
variable {X:Cx}{e:Expr}{es:List Expr}{te:TE}{t:TA}{pos:Pos}
theorem b4c:PA X [] tNil:=λ_ _ _ _ H Q I h=>Calls.spliced_nil ⟨[],H,I,.nil,h⟩
theorem b0V (ha:PE X e te) (hr:PA X es t) (hs:jU (e::es) X.env=(false,eval e X.env)::jU es X.env:=by rfl):PA X (e::es) (b9w te t):=by
 intro b a s σ H Q I h;rw[hs];refine Calls.spliced_cons (thn (ha a s σ H _ I h) λu j ⟨x,d,k,c,g⟩=>?_);exact thn (hr b a j σ d _ k g) λp o ⟨i,f,l,m,n⟩=>⟨x::i,f,l,.cons c m,n⟩
def tTup (t:TA):TE:=fun σ H Q=>t σ H λxs H1=>xs.length≤jS/\∀ p,H1 p=none->Q (.ref p) (upd H1 p (.tup xs))
def tLst (t:TA):TE:=fun σ H Q=>t σ H λxs H1=>xs.length≤jS/\∀ p,H1 p=none->Q (.ref p) (upd H1 p (.lst xs))
theorem b6V (h:PA X es t):PE X (.Tuple es x1 pos) (tTup t):=by
 intro c s σ H Q I i;refine wpAny_Tuple_spliced (thn (h pos c s σ H _ I i) λk a ⟨g,d,f,r,z,q⟩=>⟨by rw[<- r.length];exact z,?_⟩);have j:=f.hok.fresh (dM _);refine⟨.ref a.heap.objs.size,upd d a.heap.objs.size _,f.laid (λb u e=>Heap.get?_push_of_some _ e) (dM _) ?_,rfl,q _ j⟩;exact⟨z,k,r,⟨_,Heap.get?_push_size _ rfl,rfl,_,rfl⟩⟩
theorem b6W (h:PA X es t):PE X (.List es pos) (tLst t):=by
 intro c s σ H Q I j;refine wpAny_List_spliced (thn (h pos c s σ H _ I j) λi a ⟨k,d,f,r,z,q⟩=>⟨by rw[<- r.length];exact z,?_⟩);have g:=f.hok.fresh (dM _);refine⟨.ref a.heap.objs.size,upd d a.heap.objs.size _,f.laid (λb u e=>Heap.get?_push_of_some _ e) (dM _) ?_,rfl,q _ g⟩;exact⟨z,i,0,r,Heap.get?_push_size _ rfl⟩
end
abbrev Sp:=List V->Hp->VK->XK->Prop
abbrev CXT:=List Env->Hp->Shared->XK->Value->Shared->Prop
structure Env0 (P:jY) (w:World) (K:Fg) (mg:Str->Option Value) (base:Heap) (A:Around) (outer:List Env) (s:Shared) (H:Hp):Prop where
 frames:A.frames=some outer
 mod:Mod K mg base
 bs:∀ b o,base.get? b=some o->s.heap.get? b=some o/\H b=none
 bsz:base.objs.size≤s.heap.objs.size
 funs:s.heap.FunFrames base outer
 frf:∀ b∈frs outer,H b=none
 hok:HOk P w H s.heap
 bare:ku s.gens
def CE (outer:List Env) (P:jY) (w:World) (H:Hp) (s:Shared) (Q:VK) (u:Value) (s':Shared):Prop:=
 ∃ v H',s'.os=s.os/\ku s'.gens/\Un (frs outer) [] H H' s.heap s'.heap/\HOk P w H' s'.heap/\RelV v u/\Q v H'
def CR (CX:CXT) (outer:List Env) (P:jY) (w:World) (H:Hp) (s:Shared) (Q:VK) (E:XK) (r:Result) (s':Shared):Prop:=
 match r with
 | .ok (.ret u)=>CE outer P w H s Q u s'
 | .ok _=>False
 | .error e=>CX outer H s E e s'
structure FnOk (P:jY) (w:World) (K:Fg) (mg:Str->Option Value) (base:Heap) (CX:CXT) (k:Nat) (f:Addr) (fd:jZ) (ps:List Str) (sp:Sp):Prop where
 len:∀ vs H Q E,sp vs H Q E->vs.length=ps.length
 run:∀ (A:Around) (outer:List Env) (s:Shared) (H:Hp) (args:Args) (us:List Value) (vs:List V) (Q:VK) (E:XK),Room k A->Env0 P w K mg base A outer s H->lf s fd args (ps.zip us)->Vals vs us->sp vs H Q E ->
  kl (model P w) A (.call (.ref f) args) (CR CX outer P w H s Q E) s
theorem FnOk.mono {K:Fg}(F:FnOk P w K mg base CX j f fd ps sp) (h:j≤k) :
  FnOk P w K mg base CX k f fd ps sp:=⟨F.len,λA a s H b c e Q E d=>F.run A a s H b c e Q E (d.mono h)⟩
theorem FnOk.imp {K:Fg}(F:FnOk P w K mg base CX k f fd ps sp)
  (h:∀ vs H Q E,sp' vs H Q E->sp vs H Q E):FnOk P w K mg base CX k f fd ps sp':=
 ⟨λb H Q E q=>F.len b H Q E (h _ _ _ _ q),λA a s H c d b Q E j i g l e=>F.run A a s H c d b Q E j i g l (h _ _ _ _ e)⟩
theorem Env0.make {K:Fg}(e:Env0 P w K mg base A outer s H) (C:Addr) (us:List Value) (kw:List (Str×Value)) :
  Env0 P w K mg base (A.under (.builtin "type.__call__" ⟨.ref C::us,kw⟩)) outer s H:=⟨by first | exact e.frames | (simpa using e.frames),e.mod,e.bs,e.bsz,e.funs,e.frf,e.hok,e.bare⟩
theorem Env0.in1 {K:Fg}(e:Env0 P w K mg base A outer s H) :
  Env0 P w K mg base A.in1 outer s H:=⟨e.frames,e.mod,e.bs,e.bsz,e.funs,e.frf,e.hok,e.bare⟩
section
variable {X:Cx}{pins:List (Addr×Obj)}{σ:St}{H:Hp}{s s':Shared}
theorem Inv.env0 (I:Inv X pins σ H s):Env0 X.prog X.w X.K X.mg X.base X.A X.stack s H:=
 ⟨I.ok.frames,I.ok.mod,I.bs,dW I.ok.bsz I.sz,I.stack,I.stkFree,I.hok,I.bare⟩
theorem Inv.after (I:Inv X pins σ H s) (h:CE X.stack X.prog X.w H s Q u s'):EP X pins σ Q u s':=by
 obtain⟨v,H',j,a,f,c,r,q⟩:=h;obtain⟨i,g,d,t,e⟩:=s';obtain rfl:e=s.os:=j;exact⟨v,H',I.call f c a (λb z=>absurd z (by simp)),r,q⟩
end
def b6X (sp:Sp) (dvs:List V) (E:XK) (t:TA):TE:=fun σ H Q=>t σ H λvs H1=>sp (vs++dvs) H1 Q E
def b6Y (C:Addr) (m:Str) (sp:Sp) (dvs:List V) (E:XK) (ta:TE) (t:TA):TE:=fun σ H Q=>ta σ H λx H1=>∃ a dx fs,x=.ref a/\H1 a=some (.ins C dx fs)/\fs.lookup m=none /\
 t σ H1 λvs H2=>sp (x::(vs++dvs)) H2 Q E
def b9x (C:Addr) (sp:Sp) (dvs:List V) (E:XK) (t:TA):TE:=fun σ H Q=>t σ H λvs H1=>∀ x dx,H1 x=none->H1 dx=none->dx≠x ->
 sp (.ref x::(vs++dvs)) (upd (upd H1 dx (.own x)) x (.ins C dx [])) (λv H2=>v=.non/\Q (.ref x) H2) E
def Binds (K:Fg) (fd:jZ) (ps:List Str) (ds:List Value):Prop:=
 ∀ (s:Shared) (us:List Value),K.In s.heap->(us++ds).length=ps.length->lf s fd ⟨us,[]⟩ (ps.zip (us++ds))
theorem Binds.all {K:Fg}(h:∀ us:List Value,us.length=ps.length->bindArgs fd ⟨us,[]⟩=pure (ps.zip us)):Binds K fd ps []:=λs b _ a=>by
 rw[eO]at a ⊢;exact .of_eq (h b a)
def a2N (CX:CXT) (X:Cx) (E:XK):Prop:=∀ (pins:List (Addr×Obj)) (σ:St) (H:Hp) (s:Shared) (e:Value) (s':Shared),Inv X pins σ H s->CX X.stack H s E e s'->X.xe e s'
section
variable {X:Cx}{CX:CXT}{k:Nat}{f C:Addr}{fd:jZ}{ps:List Str}{sp:Sp}{dvs:List V}{ds:List Value}{E:XK}{x m:Str}{p pos apos:Pos}{e o:Expr}{es:List Expr}{ta:TE}{t:TA}
theorem b4d (F:FnOk X.prog X.w X.K X.mg X.base CX k f fd ps sp) (hr:Room k X.A) (hb:Binds X.K fd ps ds) (hd:Vals dvs ds) (hx:a2N CX X E)
  (I:Inv X pins σ H s) (r:Vals vs us) (h:sp (vs++dvs) H Q E):wpAny (model X.prog X.w) X.A (call (.ref f) us) (EP X pins σ Q) X.xe s:=by
 have b:=r.append hd;have d:(us++ds).length=ps.length:=by rw[<- b.length];exact F.len _ _ _ _ h
 refine lj (kL (F.run X.A X.stack s H ⟨us,[]⟩ (us++ds) _ Q E hr I.env0 (hb s us I.kIn d) b h) λr c a=>?_);cases r with
 | error e=>exact hx pins σ H s e c I a
 | ok fl=>
  cases fl with
  | ret u=>exact I.after a
  | next=>exact dR a
  | brk=>exact dR a
  | cont=>exact dR a
theorem b0W (F:FnOk X.prog X.w X.K X.mg X.base CX k f fd ps sp) (hr:Room k X.A) (hg:Gl X x) (hm:X.mg x=some (.ref f)) (hk:PySem.W.keepIn X.K (.ref f)=true) (hb:Binds X.K fd ps ds) (hd:Vals dvs ds) (hx:a2N CX X E)
  (ha:PA X (e::es) t) (hdb:(x==("__debug__":Str))=false:=by decide) (he:jU (e::es) X.env=(false,eval e X.env)::jU es X.env:=by rfl) (hpl:(backTo pos (jU es X.env)).any (·.1)=false:=by rfl) :
  PE X (.Call (.Name x p) (e::es) [] pos) (b6X sp dvs E t):=by
 intro a s σ H Q I h;refine lM (a38 I hg hm ?_ hdb);refine PySem.W.callWith_K I.ok.mod.kin hk (thn (ha pos a s σ H _ I h) λi d ⟨c,g,b,r,q⟩=>⟨b.kIn,?_⟩) he hpl;exact b4d F hr hb hd hx b r q
theorem b0X (he:PE X o ta) (c:Cls X.K C) (hm:Meth X.K C m f) (F:FnOk X.prog X.w X.K X.mg X.base CX k f fd ps sp) (hr:Room k X.A) (hb:Binds X.K fd ps ds) (hd:Vals dvs ds) (hx:a2N CX X E) (ha:PA X (e::es) t)
  (hst:jU (e::es) X.env=(false,eval e X.env)::jU es X.env:=by rfl) (hpl:(backTo pos (jU es X.env)).any (·.1)=false:=by rfl)
  (ht:eval (.Call (.Attribute o m apos) (e::es) [] pos) X.env=(do
   let ov <- eval o X.env
   kE apos.atName
   let (f,first) <- kj [ov] (lK ov m pl)
   mF pos f first (backTo pos (jU (e::es) X.env)) (lN pos (lO [] X.env))):=by rfl) :
  PE X (.Call (.Attribute o m apos) (e::es) [] pos) (b6Y C m sp dvs E ta t):=by
 intro b s σ H Q I h;refine PySem.W.methodCall_KW (thn (he b s σ H _ I h) λu z ⟨x,p,i,n,a,dx,fs,v,y,l,q⟩=>?_) ht;subst v;obtain rfl:u=Value.ref a:=n;refine a9V i y c hm l ?_;refine PySem.W.callWith_K I.ok.mod.kin hm.kp (thn (ha pos b z σ p _ i q) λus s2 ⟨vs,H2,g,r,B⟩=>⟨g.kIn,?_⟩) hst hpl;exact b4d (vs:=.ref a::vs) F hr hb hd hx g (.cons rfl r) B
structure Mk (K:Fg) (C f:Addr):Prop where
 makes:PySem.W.makesIn K C=true
 init:PySem.W.findIn K (.ref C) "__init__"=some (some (.ref f))
 fn:PySem.W.isFn K (.ref f)=true
 kp:PySem.W.keepIn K (.ref C)=true
theorem b2Z (M:Mk X.K C f) (F:FnOk X.prog X.w X.K X.mg X.base CX k f fd ps sp) (hr:Room (k+1) X.A) (hb:Binds X.K fd ps ds) (hd:Vals dvs ds)
  (hx:a2N CX X E) (I:Inv X pins σ H s) (r:Vals vs us)
  (h:∀ x dx,H x=none->H dx=none->dx≠x->sp (.ref x::(vs++dvs)) (upd (upd H dx (.own x)) x (.ins C dx [])) (λv H2=>v=.non/\Q (.ref x) H2) E) :
  wpAny (model X.prog X.w) X.A (call (.ref C) us) (EP X pins σ Q) X.xe s:=by
 have d:=h _ s.heap.objs.size (I.hok.fresh (fL _)) (I.hok.fresh (dM _)) (ei (hG _));have b:=Inv.made (C:=C) I;have c:Vals (V.ref (s.heap.objs.size+1)::_) _:=.cons rfl (r.append hd);have g:(Value.ref (s.heap.objs.size+1)::us++ds).length=ps.length:=by
  have e:=c.length;rw[F.len _ _ _ _ d]at e;exact e.symm
 refine lj (b2Y I.kIn M.makes M.init (beq_iff_eq.mp M.fn) (kL (F.run _ X.stack _ _ ⟨Value.ref (s.heap.objs.size+1)::us,[]⟩ _ _ _ E (hr.make C us [])
  (b.env0.make C us []) (hb _ _ b.kIn g) c d) λr m a=>?_))
 cases r with
 | error e=>exact hx pins σ _ _ e m b a
 | ok fl=>
  cases fl with
  | ret u=>
   obtain⟨v,H',I3,j,l,i⟩:=b.after a;subst l;exact⟨j,⟨V.ref (s.heap.objs.size+1),H',I3,rfl,i⟩⟩
  | next=>exact dR a
  | brk=>exact dR a
  | cont=>exact dR a
theorem b20 (M:Mk X.K C f) (F:FnOk X.prog X.w X.K X.mg X.base CX k f fd ps sp) (hr:Room (k+1) X.A) (hg:Gl X x) (hm:X.mg x=some (.ref C)) (hb:Binds X.K fd ps ds) (hd:Vals dvs ds) (hx:a2N CX X E)
  (hdb:(x==("__debug__":Str))=false:=by decide):PE X (.Call (.Name x p) [] [] pos) (b9x C sp dvs E tNil):=by
 intro a s σ H Q I h;refine lM (a38 I hg hm ?_ hdb);exact PySem.W.callWith_K0 I.kIn M.kp (b2Z M F hr hb hd hx I .nil h)
end
section
variable {X:Cx}{CX:CXT}{k:Nat}{f C:Addr}{fd:jZ}{ps ks:List Str}{sp:Sp}{E:XK}{x m:Str}{p pos apos kpos:Pos}{e o:Expr}{es:List Expr}{kws:List lP}{te ta:TE}{t tk:TA}{nm:Option Str}
variable {g:List Value->List Value->List Value}{gV:List V->List V->List V}
end
structure FnScope (N P:List Str) (sc:Scope):Prop where
 kind:sc.kind=.function
 co:sc.isCoroutine=false
 gen:sc.isGenerator=false
 nd:N.Nodup
 pre:N.take P.length=P
 par:∀ x∈P,sc.names.lookup x=some .local\/sc.names.lookup x=some .cell
 nofree:∀ y∈sc.names,y.2≠.free
theorem a7b {kindOf:Str->Option j3}:∀ {binds:List (Str×Value)}{m:Str->Option Value},(∀ v,(x,v)∉binds)->bindL kindOf binds m x=m x
 | [],_,_=>rfl
 | (n,v)::r,m,h=>by
  unfold bindL;rw[a7b λw a=>h w (eX _ a)]
  split
  ·have:x≠n:=by rintro rfl;exact h v fh
   simp[this]
  ·rfl
theorem a7c {kindOf:Str->Option j3}:∀ {binds:List (Str×Value)}{m:Str->Option Value},(∀ v,(x,v)∉binds)->bindC kindOf binds m x=m x
 | [],_,_=>rfl
 | (n,v)::r,m,h=>by
  unfold bindC;rw[a7c λw a=>h w (eX _ a)]
  split
  ·rfl
  ·have:x≠n:=by rintro rfl;exact h v fh
   simp[this]
theorem a7d {kindOf:Str->Option j3}:∀ {P:List Str}{vs:List Value}{i:Nat}{m:Str->Option Value},P.Nodup->P[i]?=some x->vs[i]?=some v->kindOf x=some .local ->
  bindL kindOf (P.zip vs) m x=some v
 | [],_,_,_,_,h,_,_=>by simp at h
 | _::_,[],_,_,_,_,h,_=>by simp at h
 | p::P,w::vs,0,m,nd,h1,h2,hk=>by
  simp at h1 h2;subst h1;subst h2
  show bindL kindOf (_::P.zip vs) m p=_
  unfold bindL;rw[a7b λv a=>(eQ.mp nd).1 (iC a).1,if_pos hk];simp
 | p::P,w::vs,i+1,m,nd,h1,h2,hk=>by
  unfold bindL;exact a7d (eQ.mp nd).2 (by simpa using h1) (by simp_all) hk
theorem a7e {kindOf:Str->Option j3}:∀ {P:List Str}{vs:List Value}{i:Nat}{m:Str->Option Value},P.Nodup->P[i]?=some x->vs[i]?=some v->kindOf x≠some .local ->
  bindC kindOf (P.zip vs) m x=some v
 | [],_,_,_,_,h,_,_=>by simp at h
 | _::_,[],_,_,_,_,h,_=>by simp at h
 | p::P,w::vs,0,m,nd,h1,h2,hk=>by
  simp at h1 h2;subst h1;subst h2
  show bindC kindOf (_::P.zip vs) m p=_
  unfold bindC;rw[a7c λv a=>(eQ.mp nd).1 (iC a).1,if_neg hk];simp
 | p::P,w::vs,i+1,m,nd,h1,h2,hk=>by
  unfold bindC;exact a7e (eQ.mp nd).2 (by simpa using h1) (by simp_all) hk
noncomputable def start (N:List Str) (vs:List V):St:=vs.map some++hZ (N.length - vs.length) none
noncomputable def cxOf (CX:CXT) (P:jY) (w:World) (K:Fg) (mg:Str->Option Value) (base:Heap) (N:List Str) (qual:Str) (scope:Scope) (f:Addr) (cd:Value) (A:Around) (outer:List Env) (s:Shared) (H:Hp) (E:XK):Cx where
 prog:=P
 w:=w
 K:=K
 mg:=mg
 base:=base
 A:=A.deeper (envOfC qual scope s.heap.objs.size f cd)
 N:=N
 s₀:=s
 H₀:=H
 env:=envOfC qual scope s.heap.objs.size f cd
 outer:=outer
 stack:=envOfC qual scope s.heap.objs.size f cd::outer
 ex:=[]
 calm:=true
 fn:=λ_=>true
 pn:=[]
 xe:=λe s'=>wpAny (model P w) (A.deeper (envOfC qual scope s.heap.objs.size f cd)) (l4 (envOfC qual scope s.heap.objs.size f cd) e) (λ_ s''=>CX outer H s E e s'') (λe' s''=>CX outer H s E e' s'') s'
theorem a4T {sc:Scope}(h:sc.names.lookup x=some .cell):∃ c,(j6 n sc.names []).lookup x=some c:=by
 have q:=PySem.W.cellsFrom_some sc.names n [] (.inl h);exact h7.mp q
theorem b0Y {K:Fg}
  (S:FnScope N ps scope) (hd:A.handled=none) (e0:Env0 P w K mg base A outer s H) (hl:vs.length=ps.length) (r:Vals vs us)
  (x:InCallC s s.heap.objs.size (bindL (envOfC qual scope s.heap.objs.size f cd).kindOf (ps.zip us) λ_=>none) (j6 (s.heap.objs.size+1) scope.names []) (bindC (envOfC qual scope s.heap.objs.size f cd).kindOf (ps.zip us) λ_=>none) s1) :
  Inv (cxOf CX P w K mg base N qual scope f cd A outer s H E) [] (start N vs) H s1:=by
 have G:ps.length≤N.length:=by have:=congrArg eF S.pre;rw[dY]at this;omega
 obtain⟨m,J,rfl,C⟩:=x.done;have l:∀ b:Addr,b∉(cxOf CX P w K mg base N qual scope f cd A outer s H E).ex:=λb z=>absurd (show b∈([]) from z) (by simp);refine⟨⟨e0.mod,S.kind,rfl,rfl,dM _,λy z c m d=>?_,λy g=>?_,λy c _ h=>?_,λ_=>hd,Around.frames_deeper e0.frames,.inr ⟨rfl,rfl⟩,λb z=>absurd z (l b),e0.bs,e0.bsz,λb _ _=>l b,λb z=>absurd z (l b),e0.funs,e0.frf⟩,
  rfl,e0.bare,Un.kept C,⟨_,x.toInCall.ns,λi y v m d I=>?_⟩,λy c h=>⟨_,x.cell y c h⟩,e0.hok.fresh (dM _),λy c h=>?_,λp j=>absurd (show p∈([]) from j) (by simp),e0.hok.kept C,?_⟩
 ·exact name_of_addr x.apart (PySem.mem_of_lookup m) (PySem.mem_of_lookup d)
 ·have g:=g;rcases g with g | g
  ·exact a4T g
  ·exact absurd rfl (S.nofree _ (PySem.mem_of_lookup g))
 ·exact fw (x.above y c (PySem.mem_of_lookup h))
 ·have o:i<vs.length:=by
   unfold start at d
   by_cases o:i<vs.length
   ·exact o
   ·rw[fW (by simp_all)]at d;rw[List.getElem?_replicate]at d
    split at d<;>cases d
  have F:vs[i]?=some v:=by
   unfold start at d;rw[fX (by simpa using o),dQ]at d;cases e:vs[i]? with
   | none=>rw[e]at d;cases d
   | some a=>rw[e]at d;cases d;rfl
  obtain⟨u,B,D⟩:=r.get F;have j:ps[i]?=some y:=by
   rw[<- S.pre,List.getElem?_take_of_lt (by omega)];exact m
  have t:ps.Nodup:=by rw[<- S.pre];exact S.nd.sublist (gC _ _)
  refine⟨u,D,?_⟩;rcases S.par y (er j) with k | k
  ·exact .inl ⟨k,a7d t j B k⟩
  ·obtain⟨c,e⟩:=a4T k;refine .inr ⟨.inl k,c,e,?_⟩;have q:=x.cell y c e;rw[a7e t j B (by show scope.names.lookup y≠_;rw[k];decide)]at q;exact q
 ·exact e0.hok.fresh (fw (x.above y c (PySem.mem_of_lookup h)))
 ·unfold start
  show _=N.length
  rw[dO,dJ,List.length_replicate];omega
theorem b6Z {K:Fg}{dV kV doc pm cdv ct oc:Value}
 (lk:K.lookup f=some ⟨oc,od,.func (PySem.W.fnOf name qual params body scope dV kV doc pm an cdv ct),osl⟩) (hcd:PySem.W.codeIn K cdv qual=true) (S:FnScope N ps scope)
    (len:∀ vs H Q E,sp vs H Q E->vs.length=ps.length)
    (hbody:∀ (A:Around) (outer:List Env) (s:Shared) (H:Hp) (vs:List V) (Q:VK) (E:XK),Room k (A.deeper (envOfC qual scope s.heap.objs.size f cdv))->sp vs H Q E ->
      ∃ t,PSs (cxOf CX P w K mg base N qual scope f cdv A outer s H E) body t/\t { nx:=λ_ H'=>Q .non H',rt:=Q } (start N vs) H) :
    FnOk P w K mg base CX (k+1) f (PySem.W.fnOf name qual params body scope dV kV doc pm an cdv ct) ps sp:=by
  refine⟨len,λA a s H L F m Q E z g R r i=>?_⟩;have M:=len _ _ _ _ i;have C:=g.mod.kin.keeps λb o e=>(g.bs b o e).1;have D:=g.mod.nolimit.keeps λb o e=>(g.bs b o e).1;have h:∀ y∈ps.zip F,scope.names.lookup y.1=some .local\/(scope.names.lookup y.1=some .cell/\((j6 (s.heap.objs.size+1) scope.names []).lookup y.1).isSome=true):=λ⟨n,v⟩ G=>by
    rcases S.par n (iC G).1 with q | q
    · exact .inl q
    · exact .inr ⟨q,PySem.W.cellsFrom_some _ _ _ (.inl q)⟩
  refine codeAny_call_function z.depth (C _ _ lk) rfl S.co S.gen rfl (PySem.W.codeRec_of C hcd) (R _ _ _ _ ?_);refine wpAny_newFunctionEnv_cells S.kind h λaa Y B x=>?_;subst Y;refine⟨D.keeps x.toInCall.keep,codeAny_func ?_⟩;obtain⟨t,T,U⟩:=hbody A a s H m Q E (z.deeper _) i;have I:Inv (cxOf CX P w K mg base N qual scope f cdv A a s H E) [] _ H B:=b0Y S z.hd g M r x;refine j7 (T [] B _ H _ I U) (λX p c=>?_) λe p c=>c;have j:∀ {σ':St}{d:Hp}{v:V}{u:Value},Inv (cxOf CX P w K mg base N qual scope f cdv A a s H E) [] σ' d p->RelV v u->Q v d->CE a P w H s Q u p:=
    λ{σ' d v u} J l q=>⟨v,d,J.os,J.bare,J.base,J.hok,l,q⟩
  cases X with
  | ret u=>
    obtain⟨v,σ',d,J,l,q⟩:=c;exact j J l q
  | next=>
    obtain⟨σ',d,J,q⟩:=c;exact j (v:=V.non) J rfl q
  | brk=>
    obtain⟨_,_,_,q⟩:=c;exact dR q
  | cont=>
    obtain⟨_,_,_,q⟩:=c;exact dR q
end L2
namespace L2
open PySem PySem.Spec PyProof.Rows
section
variable {X:Cx}{x:Str}{p pos:Pos}{e:Expr}{es:List Expr}{t:TA}{id T:String}{r:List V->Hp->VK->Prop}
def tCB (r:List V->Hp->VK->Prop) (t:TA):TE:=fun σ H Q=>t σ H λvs H1=>r vs H1 Q
theorem a81 (hc:CallR X (.builtin id) r) (hg:Gl X x) (hm:X.mg x=none) (hv:kC x=some (.builtin id)) (ha:PA X (e::es) t) (hn:x≠"__name__":=by decide) (hdb:(x==("__debug__":Str))=false:=by decide)
  (he:jU (e::es) X.env=(false,eval e X.env)::jU es X.env:=by rfl) (hpl:(backTo pos (jU es X.env)).any (·.1)=false:=by rfl):PE X (.Call (.Name x p) (e::es) [] pos) (tCB r t):=by
 intro a s σ H Q I h;refine lM (a69 I hg hm hv ?_ hn hdb);exact PyProof.Rows.callWith_builtin1 (thn (ha pos a s σ H _ I h) λg c ⟨b,f,i,d,j⟩=>hc a c σ f b g Q i d j) he hpl
theorem a7f (hc:CallR X (.type T) r) (hg:Gl X x) (hm:X.mg x=none) (hv:kC x=some (.type T)) (ha:PA X (e::es) t) (hn:x≠"__name__":=by decide) (hdb:(x==("__debug__":Str))=false:=by decide)
  (he:jU (e::es) X.env=(false,eval e X.env)::jU es X.env:=by rfl) (hpl:(backTo pos (jU es X.env)).any (·.1)=false:=by rfl):PE X (.Call (.Name x p) (e::es) [] pos) (tCB r t):=by
 intro a s σ H Q I h;refine lM (a69 I hg hm hv ?_ hn hdb);exact PyProof.Rows.callWith_type1 (thn (ha pos a s σ H _ I h) λj f ⟨b,g,d,i,c⟩=>hc a f σ g b j Q d i c) he hpl
end
end L2
namespace HT
open PySem PyProof.Rows
section
open PySem.SeqAt
open PySem.AutoSeq1 (wpAny_loadPart')
open PySem.MeetsSeq PySem.MeetsSeq2 PySem.MeetsSeq3
end
section
variable {prog:jY}{w:World}{A:Around}{E:Value->Shared->Prop}{s:Shared}
theorem cat_tup (ht:IsTup s.heap t vs.toArray) (hb:IsTup s.heap b ws.toArray) (hv:vs≠[])
  (h1:ws=[]->Q (.ref t) s) (h2:ws≠[]->Q (.ref s.heap.objs.size) { s with heap:=s.heap.push { cls:=.type "tuple",data:=.seq (vs++ws).toArray } })
  (hsz:vs.length+ws.length≤jS):wpAny (model prog w) A (kb .Add (.ref t) (.ref b)) Q E s:=by
 obtain⟨⟨r,j,p,k⟩,c,l,n,m⟩:=id ht;obtain⟨⟨q,f,o,h⟩,a,g,i,d⟩:=id hb;subst l m g d;have e:vs.toArray++ws.toArray=(vs++ws).toArray:=by simp
 by_cases hw:ws=[]
 ·exact concat_meets ⟨_,c,rfl⟩ ⟨_,a,rfl⟩ noFill_tuple_add seq_tuple_add PySem.F.slot_tuple_add PySem.F.entry_tuple_add (PySem.F.args_tuple_add_2 _ _)
   (tuple_addW1 t b vs.toArray ws.toArray n i j f k h (by simp_all) (by grind)) ⟨c,a,h1 hw⟩
 ·refine concat_meets ⟨_,c,rfl⟩ ⟨_,a,rfl⟩ noFill_tuple_add seq_tuple_add PySem.F.slot_tuple_add PySem.F.entry_tuple_add (PySem.F.args_tuple_add_2 _ _)
   (tuple_addW2 t b vs.toArray ws.toArray n i j f k h (by simp_all) (by simp_all) (by omega)) ⟨c,a,?_⟩
  rw[e];exact h2 hw
noncomputable def sIx (n d:Nat):Option Int->Nat
 | none=>d
 | some v=>if v<0 then (v+(n:Int)).toNat else min v.toNat n
theorem sIx_none (n d:Nat):sIx n d none=d:=rfl
theorem sIx_nat (n d k:Nat):sIx n d (some (k:Int))=min k n:=rfl
theorem c0J (n d:Nat) (hd:d≤n) (o:Option Int):sIx n d o≤n:=by
 cases o with
 | none=>exact hd
 | some v=>
  show (if v<0 then (v+n).toNat else min v.toNat n)≤n
  by_cases hv:v<0
  ·grind
  ·rw[if_neg hv];exact Nat.min_le_right _ _
theorem b0Z (v:Int) (n d:Nat):(if v<0 then max (v+(n:Int)) 0 else min v (n:Int))=((sIx n d (some v):Nat):Int):=by grind [sIx]
theorem a9Y (lo hi:Option Int) (n:Nat):j1.Slice.sliceAdjust lo hi 1 (n:Int)=(((sIx n 0 lo:Nat):Int),((sIx n n hi:Nat):Int)):=by
 unfold j1.Slice.sliceAdjust;refine Prod.ext ?_ ?_
 ·cases lo with
  | none=>rfl
  | some v=>exact b0Z v n 0
 ·cases hi with
  | none=>rfl
  | some v=>exact b0Z v n n
theorem a9Z (i j:Nat):j1.Slice.slicePlaces (i:Int) (j:Int) 1=j - i:=by
 unfold j1.Slice.slicePlaces;simp
 split<;>omega
theorem a5V (p:IsPart v o) (h:Q o s):wpAny (model prog w) A (j1.Slice.slicePartIndex v) Q E s:=by
 cases p with
 | none=>exact slicePart_none h
 | int i t=>exact slicePart_int h
theorem a4D {lo hi:Option Int}{n:Nat}(hs:s.heap.IsSliceOf sl vl vu .none) (pl:IsPart vl lo) (pu:IsPart vu hi)
  (h:Q (((sIx n 0 lo:Nat):Int),1,sIx n n hi - sIx n 0 lo) s):wpAny (model prog w) A (j1.Slice.sliceApplied (.ref sl) (pure (n:Int))) Q E s:=by
 obtain⟨d,a,c,b⟩:=id hs;refine jQ (jQ (lq a b rfl (jQ (lq a b rfl (jQ (lq a b rfl (jR ?_)))))));refine jQ (slicePart_none ?_);refine jQ (a5V pl (jQ (a5V pu (jQ (jR ?_)))))
 show wpAny _ _ (match j1.Slice.sliceAdjust lo hi 1 n with | (lo,hi)=>pure (lo,_,j1.Slice.slicePlaces lo hi 1)) _ _ s
 rw[a9Y lo hi n]
 show wpAny _ _ (pure _) _ _ s
 rw[a9Z];exact jR h
theorem b21 (xs:Array Value) (i k:Nat):((fq k).filterMap λ(m:Nat)=>xs[((i:Int)+(m:Int)*1).toNat]?).toArray=((xs.toList.drop i).take k).toArray:=by
 have e:(λ(m:Nat)=>xs[(i+(m:Int)*1).toNat]?)=λm=>xs[i+m]?:=by
  funext m
  have:(i+(m:Int)*1).toNat=i+m:=by omega
  rw[this]
 rw[e]
 have:=pick_run xs i k
 rw[i6]at this;have a:(_∘λx=>i+x)=λm=>xs[i+m]?:=rfl;rw[a]at this;rw[this]
theorem getItem_tuple_cut {lo hi:Option Int}(ht:IsTup s.heap t items) (hs:s.heap.IsSliceOf sl vl vu .none) (pl:IsPart vl lo) (pu:IsPart vu hi)
  (hw:¬ (sIx items.size 0 lo=0/\sIx items.size items.size hi=items.size))
  (h:Q (.ref s.heap.objs.size) { s with heap:=s.heap.push { cls:=.type "tuple",data:=.seq ((items.toList.drop (sIx items.size 0 lo)).take (sIx items.size items.size hi - sIx items.size 0 lo)).toArray } })
  (hsz:items.size≤jS):wpAny (model prog w) A (lQ (.ref t) (.ref sl)) Q E s:=by
 have a:sizeOk (.seq ((items.toList.drop (sIx items.size 0 lo)).take (sIx items.size items.size hi - sIx items.size 0 lo)).toArray):=by
  show ((items.toList.drop (sIx items.size 0 lo)).take (sIx items.size items.size hi - sIx items.size 0 lo)).toArray.size≤jS
  rw[eZ,dY,eU,e4];omega
 obtain⟨f,d,e,g⟩:=id hs;have b:s.TypeIs (.ref sl) "slice":=⟨f,d,e⟩;unfold lQ
 try with_reducible refine ke ?_
 refine jQ (wpAny_sequenceKey ht.typeIs (by decide) ?_);refine jQ (wpAny_callSpecial?_slot ht.typeIs PyProof.Rows.slot_tuple_getitem
  (kF PyProof.Rows.slot_tuple_getitem ht.typeIs entry_tuple_getitem ?_ (args_tuple_getitem _ _)))
 show wpAny _ _ (j1.Tuple.tupleItemsOf _ >>= _) _ _ s
 refine jQ (tupleItemsOf_ ht ?_);refine jQ (l5 b ?_);refine jQ (a4D hs pl pu ?_);have c:¬ ((((sIx items.size 0 lo):Int)==0&&(1:Int)==1&&(sIx items.size items.size hi - sIx items.size 0 lo)==items.size)=true):=by grind
 show wpAny _ _ (if (((sIx items.size 0 lo):Int)==0&&(1:Int)==1&&(sIx items.size items.size hi - sIx items.size 0 lo)==items.size)=true then _ else _) _ _ s
 rw[if_neg c,b21]
 first
  | exact jQ (kM (jR ⟨_,rfl,jR h⟩) a)
  | exact jQ _
  | exact jQ _
  | exact jQ _
end
end HT
namespace L2
open PySem PySem.Spec PyProof.Rows
abbrev TO:=St->Hp->(Option Int->Hp->Prop)->Prop
def PO (X:Cx) (e:Option Expr) (t:TO):Prop:=
 ∀ (pins:List (Addr×Obj)) (s:Shared) (σ:St) (H:Hp) (Q:Option Int->Hp->Prop),Inv X pins σ H s->t σ H Q ->
  wpAny (model X.prog X.w) X.A (evalPart e X.env) (λu s'=>∃ o H',Inv X pins σ H' s'/\IsPart u o/\Q o H') X.xe s
def b47:TO:=λ_ H Q=>Q none H
def b9y (t:TE):TO:=fun σ H Q=>t σ H λx H1=>∃ i,x=.int i/\Q (some i) H1
theorem a5W:∀ {us:List Value},Vals (ns.map V.int) us->j8 us ns:=by
 induction ns with
 | nil=>intro a r;cases r;exact .nil
 | cons n ns ih=>
  intro a r;cases r with
  | cons r1 r2=>
   obtain⟨t,e⟩:=r1;subst e;exact .cons n t (ih r2)
section
variable {X:Cx}{e:Expr}{te:TE}{lo hi:Option Expr}{tl th:TO}{pos p2:Pos}
theorem b48:PO X none b47:=by
 intro a s σ H Q I h;exact jR ⟨none,H,I,.none,h⟩
theorem b49 (h:PE X e te):PO X (some e) (b9y te):=by
 intro a s σ H Q I b;refine thn (h a s σ H _ I b) λu j ⟨x,d,f,c,g⟩=>?_;obtain⟨i,rfl,q⟩:=g;obtain⟨t,rfl⟩:=c;exact⟨some i,d,f,.int i t,q⟩
def SlR (X:Cx) (r:V->Option Int->Option Int->Hp->VK->Prop):Prop:=
 ∀ (pins:List (Addr×Obj)) (s:Shared) (σ:St) (H:Hp) (x:V) (v vl vu:Value) (lo hi:Option Int) (sl:Addr) (Q:VK),Inv X pins σ H s->RelV x v->s.heap.IsSliceOf sl vl vu .none->IsPart vl lo->IsPart vu hi->r x lo hi H Q ->
  ∃ T id,typeLookup (.type T) "__getitem__"=pure (some (.builtin id))/\s.TypeIs v T/\wpAny (model X.prog X.w) X.A (lQ v (.ref sl)) (EP X pins σ Q) X.xe s
theorem SlR.or (h:SlR X r) (h':SlR X r'):SlR X (λx lo hi H Q=>r x lo hi H Q\/r' x lo hi H Q):=by
 intro a s σ H x v b k d j c Q I g i e f q;rcases q with q | q
 ·exact h a s σ H x v b k d j c Q I g i e f q
 ·exact h' a s σ H x v b k d j c Q I g i e f q
def tSl (r:V->Option Int->Option Int->Hp->VK->Prop) (te:TE) (tl th:TO):TE:=fun σ H Q=>te σ H λx H1=>tl σ H1 λl H2=>th σ H2 λu H3=>r x l u H3 Q
theorem b22 (hr:SlR X r) (he:PE X e te) (hl:PO X lo tl) (hu:PO X hi th):PE X (.Subscript e (.Slice lo hi none p2) pos) (tSl r te tl th):=by
 intro a s σ H Q I h;refine Subscript_ (thn (he a s σ H _ I h) λv o ⟨x,D,j,t,J⟩=>?_);refine wpAny_Slice (thn (hl a o σ D _ j J) λf B ⟨l,p,m,n,G⟩=>thn (hu a B σ p _ m G) λd c ⟨u,g,y,z,k⟩=>?_);refine jR ?_;have C:Inv X a σ g { c with heap:=c.heap.push { cls:=.type "slice",data:=.fields #[f,d,.none] } }:=y.kept λb L q=>Heap.get?_push_of_some _ q;obtain⟨T,M,F,E,i⟩:=hr a { c with heap:=c.heap.push { cls:=.type "slice",data:=.fields #[f,d,.none] } } σ g x v f d l u c.heap.objs.size Q C t (Heap.IsSliceOf.new ..) n z k;exact tail_any E F i (by with_unfolding_all rfl)
noncomputable def cutV (xs:List V) (lo hi:Option Int):List V:=(xs.drop (HT.sIx xs.length 0 lo)).take (HT.sIx xs.length xs.length hi - HT.sIx xs.length 0 lo)
theorem a47 (xs:List V) (lo hi:Option Int):(cutV xs lo hi).length≤xs.length:=by
 unfold cutV;rw[dY,eU];omega
def rSlT (K:Fg):V->Option Int->Option Int->Hp->VK->Prop:=λx lo hi H Q=>∃ a xs,x=.ref a/\SqT K H a xs /\
 ¬ (HT.sIx xs.length 0 lo=0/\HT.sIx xs.length xs.length hi=xs.length)/\∀ p,H p=none->Q (.ref p) (upd H p (.tup (cutV xs lo hi)))
theorem sl_tup:SlR X (rSlT X.K):=by
 intro p s σ H x v A w e f z Q I k m l t h;obtain⟨a,d,rfl,n,u,q⟩:=h;cases k;obtain⟨j,r,g,i⟩:=I.tuple n;have c:j.toArray.size=d.length:=by rw[eZ];exact r.length.symm
 refine⟨"tuple",_,PyProof.Rows.slot_tuple_getitem.lookup,g.typeIs,?_⟩;refine HT.getItem_tuple_cut g m l t (by rw[c];exact u) ?_ (by simp_all);rw[c];refine⟨.ref s.heap.objs.size,_,I.laid (λb y q=>Heap.get?_push_of_some _ q) (dM _) ?_,rfl,q _ (I.hok.fresh (dM _))⟩;exact⟨dW (a47 d e f) i,_,(r.drop _).take _,IsTup.new _ _⟩
def b9z (K:Fg):R2:=λx y H Q=>∃ a b xs ys,x=.ref a/\y=.ref b/\SqT K H a xs/\SqT K H b ys/\xs≠[]/\xs.length+ys.length≤jS /\
 (ys=[]->Q (.ref a) H)/\(ys≠[]->∀ p,H p=none->Q (.ref p) (upd H p (.tup (xs++ys))))
theorem Vals.nil_iff (r:Vals xs us):us=[]↔xs=[]:=by
 cases r with
 | nil=>simp
 | cons _ _=>simp
theorem op_catT:OpR X (kb .Add) (b9z X.K):=by
 intro r s σ H x y v u Q I p B h;obtain⟨a,b,k,j,rfl,rfl,t,g,f,e,m,n⟩:=h;cases p;cases B;obtain⟨C,d,i,_⟩:=I.tuple t;obtain⟨l,c,A,_⟩:=I.tuple g;refine HT.cat_tup i A (λz=>f (d.nil_iff.mp z)) (λz=>⟨.ref a,H,I,rfl,m (c.nil_iff.mp z)⟩) (λz=>?_) (by rw[<- d.length,<- c.length];exact e);refine⟨.ref s.heap.objs.size,_,I.laid (λb D q=>Heap.get?_push_of_some _ q) (dM _) ?_,rfl,n (λw=>z (c.nil_iff.mpr w)) _ (I.hok.fresh (dM _))⟩;exact⟨by rw[dO];exact e,_,d.append c,IsTup.new _ _⟩
end
end L2
namespace L2
open PySem PySem.Spec PyProof.Rows
noncomputable def ixN (n:Nat) (i:Int):Option Nat:=if 0≤i then (if i<n then some i.toNat else none) else if -(n:Int)≤i then some (i+n).toNat else none
noncomputable def atI {α:Type}(xs:List α) (i:Int):Option α:=(ixN xs.length i).bind λj=>xs[j]?
theorem b00 (h:ixN n i=some j):seqIndex? i n=some j/\j<n/\-(n:Int)≤i/\i<n:=by
 unfold ixN at h
 by_cases h0:0≤i
 ·rw[if_pos h0]at h
  by_cases h1:i<n
  ·rw[if_pos h1]at h;have e:=eY.inj h;exact⟨by rw[mG h0 h1,e],by omega,by omega,h1⟩
  ·simp_all
 ·rw[if_neg h0]at h
  by_cases h1:-n≤i
  ·rw[if_pos h1]at h;have e:=eY.inj h;exact⟨by rw[mH (by omega) h1,e],by omega,h1,by omega⟩
  ·simp_all
theorem a8f {α:Type}{xs:List α}{v:α}(h:atI xs i=some v):∃ j,seqIndex? i xs.length=some j/\xs[j]?=some v/\j<xs.length/\-(xs.length:Int)≤i/\i<xs.length:=by
 unfold atI at h;cases e:ixN xs.length i with
 | none=>rw[e]at h;cases h
 | some j=>
  rw[e]at h;obtain⟨d,c,b,a⟩:=b00 e;exact⟨j,d,h,c,b,a⟩
theorem a1e {α:Type}{xs:List α}{j:Nat}{v:α}(h:xs[j]?=some v):atI xs (j:Int)=some v:=by
 have a:=(dX.mp h).1;have e:ixN xs.length j=some j:=by
  unfold ixN;rw[if_pos (by simp),if_pos (by omega)];simp
 unfold atI;rw[e];exact h
def b01 (b:Expr):Prop:=∀ o i,subscripted b false o i=operate [o,i] (lQ o i)
def IxR (X:Cx) (r:R2):Prop:=
 ∀ (value slice:Expr) (pins:List (Addr×Obj)) (s:Shared) (σ:St) (H:Hp) (x y:V) (v u:Value) (Q:VK),Inv X pins σ H s->RelV x v->RelV y u->r x y H Q ->
  subscripted slice false v u=operate [v,u] (lQ v u)->wpAny (model X.prog X.w) X.A (subscriptTail value slice v u) (EP X pins σ Q) X.xe s
def MtR (X:Cx) (id:String) (r:V->List V->Hp->VK->Prop):Prop:=
 ∀ (pins:List (Addr×Obj)) (s:Shared) (σ:St) (H:Hp) (x:V) (xs:List V) (v:Value) (us:List Value) (Q:VK),Inv X pins σ H s->RelV x v->Vals xs us->r x xs H Q ->
  wpAny (model X.prog X.w) X.A (call (.builtin id) (v::us)) (EP X pins σ Q) X.xe s
section
variable {X:Cx}{a b:Expr}{ta tb:TE}{pos:Pos}
theorem IxR.or (h:IxR X r) (h':IxR X r'):IxR X (λx y H Q=>r x y H Q\/r' x y H Q):=by
 intro b a c s σ H x y v u Q I e f q d;rcases q with q | q
 ·exact h b a c s σ H x y v u Q I e f q d
 ·exact h' b a c s σ H x y v u Q I e f q d
theorem MtR.or {id:String}(h:MtR X id r) (h':MtR X id r'):MtR X id (λx xs H Q=>r x xs H Q\/r' x xs H Q):=by
 intro a s σ H x e v b Q I c d q;rcases q with q | q
 ·exact h a s σ H x e v b Q I c d q
 ·exact h' a s σ H x e v b Q I c d q
theorem b9A (hr:IxR X r) (ha:PE X a ta) (hb:PE X b tb) (hs:b01 b):PE X (.Subscript a b pos) (tOp r ta tb):=by
 intro c s σ H Q I h;exact Subscript_ (binT ha hb I h λv u d x y f g i e q=>hr a b c d σ f x y v u Q g i e q (hs _ _))
def rIxL (K:Fg):R2:=λx y H Q=>∃ p xs i v,x=.ref p/\y=.int i/\SqL K H p xs/\atI xs i=some v/\Q v H
def rIxT (K:Fg):R2:=λx y H Q=>∃ p xs i v,x=.ref p/\y=.int i/\SqT K H p xs/\atI xs i=some v/\Q v H
def rIxS:R2:=λx y H Q=>∃ z i c,x=.str z/\y=.int i/\z.length≤jS/\atI z.cps.toList i=some c/\Q (.str ⟨#[c]⟩) H
theorem ix_list:IxR X (rIxL X.K):=by
 intro n m a s σ H x y v u Q I F o h f;obtain⟨p,M,i,z,rfl,rfl,C,J,q⟩:=h;cases F;obtain⟨t,rfl⟩:=o;obtain⟨l,r,d,R⟩:=I.list C;obtain⟨j,b,B,L,D,A⟩:=a8f J;obtain⟨w,g,k⟩:=r.get B;have G:=r.length;have N:=a7a;have c:EP X a σ Q w s:=⟨z,H,I,k,q⟩
 by_cases h0:0≤i
 ·have e:i.toNat=j:=by
   rw[mG h0 A]at b;exact eY.inj b
  exact item_listR d.isList h0 (by omega) (by rw[e];simpa using g) c f
 ·have e:(i+(l.toArray.size:Int)).toNat=j:=by
   rw[mH (by omega) D]at b;rw[eZ,<- G];exact eY.inj b
  exact mI d.isList.typeIs slot_list_getitem.lookup
   (wpAny_getItem_list_neg d.isList (by omega) (by simp_all) (by omega) (by rw[e];simpa using g) ⟨rfl,c⟩) f
theorem ix_tup:IxR X (rIxT X.K):=by
 intro f e a s σ H x y v u Q I A D h k;obtain⟨p,J,i,z,rfl,rfl,B,C,q⟩:=h;cases A;obtain⟨t,rfl⟩:=D;obtain⟨E,r,d,M⟩:=I.tuple B;obtain⟨j,l,g,G,F,L⟩:=a8f C;obtain⟨w,m,c⟩:=r.get g;have n:=r.length;have N:=a7a;have b:EP X a σ Q w s:=⟨z,H,I,c,q⟩;exact mI d.typeIs slot_tuple_getitem.lookup
  (getItem_tuple d (by omega) (by omega) (by rw[eZ,<- n];exact l) (by simp_all) ⟨rfl,b⟩) k
theorem b60:IxR X rIxS:=by
 intro b d r s σ H x y v u Q I o f h p;obtain⟨z,i,c,rfl,rfl,A,n,q⟩:=h;obtain⟨t,rfl⟩:=o;obtain⟨C,rfl⟩:=f;obtain⟨j,a,l,D,g,w⟩:=a8f n;have k:z.cps.toList.length=z.length:=by simp[Str.length]
 rw[k]at a g w;have B:=a7a;exact tail_any (kS s z t) slot_str_getitem.lookup (getItem_str (by grind) (by rw[a];simpa using l) ⟨.str ⟨#[c]⟩,H,I.tok _,⟨_,rfl⟩,q⟩) p
def rIx (K:Fg):R2:=λx y H Q=>rIxL K x y H Q\/rIxT K x y H Q\/rIxS x y H Q
theorem b61:IxR X (rIx X.K):=ix_list.or (ix_tup.or b60)
theorem a90 (its:List Value) (n j:Nat) (u:Value):Obj.mapSeq (·.setIfInBounds j u) { cls:=.type "list",data:=.seq its.toArray n }={ cls:=.type "list",data:=.seq (its.set j u).toArray n }:=by
 simp[Obj.mapSeq]
theorem Inv.lst {pins:List (Addr×Obj)}{σ:St}{H:Hp}{s:Shared}{p:Addr}{xs:List V}(I:Inv X pins σ H s) (h:H p=some (.lst xs)) :
  ∃ (its:List Value) (n:Nat),Vals xs its/\s.heap.get? p=some { cls:=.type "list",data:=.seq its.toArray n }/\xs.length≤sizeLine:=by
 obtain⟨z,a,n,r,e⟩:=I.hok p _ h;exact⟨a,n,r,e,z⟩
theorem Inv.lstUpd {its its':List Value}(I:Inv X pins σ H s) (h:H p=some (.lst xs))
  (ho:s.heap.get? p=some { cls:=.type "list",data:=.seq its.toArray n }) (hf:f { cls:=.type "list",data:=.seq its.toArray n }={ cls:=.type "list",data:=.seq its'.toArray n' }) (r:Vals ys its') (hz:ys.length≤jS) (t:Nat) :
  Inv X pins σ (upd H p (.lst ys)) { s with heap:=s.heap.update p f,toks:=t }:=by
 have e:(s.heap.update p f).get? p=some { cls:=.type "list",data:=.seq its'.toArray n' }:=by
  rw[Heap.get?_update_self f ho (by rw[hf]<;>rfl),hf]
 refine I.write (by rw[h];trivial) (.inl rfl) (λb u a q=>(Heap.get?_update_other _ _ (Ne.symm a)).trans q) ⟨_,e⟩ ?_;exact⟨hz,its',n',r,e⟩
def b9B:V->V->V->Hp->(Hp->Prop)->Prop:=λo i v H Q=>∃ p xs k j,o=.ref p/\i=.int k/\H p=some (.lst xs)/\ixN xs.length k=some j/\Q (upd H p (.lst (xs.set j v)))
theorem b23:PSet X b9B:=by
 intro d s σ H o i v D F u Q I x z C h;obtain⟨p,y,k,j,rfl,rfl,g,B,q⟩:=h;cases x;obtain⟨t,rfl⟩:=z;obtain⟨b,n,r,f,A⟩:=I.lst g;obtain⟨a,E,m,w⟩:=b00 B;have e:=r.length;have G:=a7a;have l:=
  I.lstUpd g f (a90 b n j u) (r.set C j) (by simp_all) s.toks
 by_cases h0:0≤k
 ·have c:k.toNat=j:=by
   rw[mG h0 w]at a;exact eY.inj a
  exact PySem.W.ki_setAt f h0 (by omega) (by simp_all) (by rw[c];exact⟨_,l,q⟩)
 ·have c:(k+(b.toArray.size)).toNat=j:=by
   rw[mH (by omega) m]at a;rw[eZ,<- e];exact eY.inj a
  exact PySem.W.ki_setBack f (by omega) (by simp_all) (by omega) (by rw[c];exact⟨_,l,q⟩)
theorem a7g (lo hi:Option Int) (n:Nat):(kW lo hi none n).1=((HT.sIx n 0 lo:Nat):Int)/\(kW lo hi none n).2.1=((HT.sIx n n hi:Nat):Int)/\(kW lo hi none n).2.2=1:=by
 refine⟨?_,?_,rfl⟩
 ·cases lo with
  | none=>simp[kW,HT.sIx]
  | some i=>
   simp only[kW,HT.sIx,i7]
   by_cases h:i<0
   ·grind
   ·grind
 ·cases hi with
  | none=>simp[kW,HT.sIx]
  | some i=>
   simp only[kW,HT.sIx,i7]
   by_cases h:i<0
   ·grind
   ·grind
theorem a6q (its:List Value) (lo hi:Option Int):slicePick its.toArray lo hi none=((its.drop (HT.sIx its.length 0 lo)).take (HT.sIx its.length its.length hi - HT.sIx its.length 0 lo)).toArray:=by
 obtain⟨a,c,b⟩:=a7g lo hi its.toArray.size;unfold slicePick;rw[a,c,b];simp only[sliceRange_one,pick_run]<;>rfl
def rSlL (K:Fg):V->Option Int->Option Int->Hp->VK->Prop:=λx lo hi H Q=>∃ a xs,x=.ref a/\SqL K H a xs/\∀ p,H p=none->Q (.ref p) (upd H p (.lst (cutV xs lo hi)))
theorem sl_list:SlR X (rSlL X.K):=by
 intro p s σ H x v u w d e y Q I m i n j h;obtain⟨a,c,rfl,k,q⟩:=h;cases m;obtain⟨t,r,g,l⟩:=I.list k;have f:=r.length;refine⟨"list",_,slot_list_getitem.lookup,g.isList.typeIs,?_⟩;refine wpAny_getItem_list_slice g.isList i n j .none (by simp) ?_ (by grind);rw[a6q,<- f];refine⟨.ref s.heap.objs.size,_,I.laid (λb z q=>Heap.get?_push_of_some _ q) (dM _) ?_,rfl,q _ (I.hok.fresh (dM _))⟩;exact⟨dW (a47 c d e) l,_,0,(r.drop _).take _,Heap.get?_push_size _ rfl⟩
theorem CallR.or (h:CallR X f r) (h':CallR X f r'):CallR X f (λxs H Q=>r xs H Q\/r' xs H Q):=by
 intro a s σ H c d Q I b q;rcases q with q | q
 ·exact h a s σ H c d Q I b q
 ·exact h' a s σ H c d Q I b q
theorem a7h:CallR X (.type "list") (λxs H Q=>∃ p ys,xs=[.ref p]/\(SqL X.K H p ys\/SqT X.K H p ys)/\∀ l,H l=none->Q (.ref l) (upd H l (.lst ys))):=by
 intro z s σ H C D Q I r h;obtain⟨p,v,rfl,j,q⟩:=h;obtain⟨u,rfl,B⟩:=a20 r;cases B;have k:∀ a,Vals v a->v.length≤jS->∀ c f,_ ->
   c.get? s.heap.objs.size=some { cls:=.type "list",dict:=none,data:=.seq a.toArray f,slots:=#[] }->EP X z σ Q _ { s with heap:=c }:=λa d g c f i e=>
  ⟨.ref s.heap.objs.size,_,I.laid i (dM _) (show ObjOk X.prog X.w _ c _ (.lst v) from ⟨g,a,f,d,e⟩),rfl,q _ (I.hok.fresh (dM _))⟩
 rcases j with j | j
 ·obtain⟨a,d,y,g⟩:=I.list j;have t:=d.length;obtain⟨o,x,A,n,m⟩:=y.isList;exact call_list_seq p (.inl rfl) x A m (λc f i e=>k a d g c f i e) (by grind)
 ·obtain⟨a,d,y,g⟩:=I.tuple j;have t:=d.length;obtain⟨o,x,A,n,m⟩:=y;exact call_list_seq p (.inr rfl) x A m (λc f i e=>k a d g c f i e) (by grind)
theorem a6r:CallR X (.type "tuple") (λxs H Q=>∃ p ys,xs=[.ref p]/\((SqL X.K H p ys/\∀ l,H l=none->Q (.ref l) (upd H l (.tup ys)))\/(SqT X.K H p ys/\Q (.ref p) H))):=by
 intro c s σ H x y Q I r h;obtain⟨p,j,rfl,h⟩:=h;obtain⟨u,rfl,n⟩:=a20 r;cases n;rcases h with ⟨hq,q⟩ | ⟨hq,q⟩
 ·obtain⟨a,f,g,k⟩:=I.list hq;have m:=f.length;refine call_tuple_list g.isList (λd t=>?_) (by grind);have i:Inv X c σ H { s with heap:=d }:=I.kept t;have v:Inv X c σ (upd H d.objs.size (.tup j)) { s with heap:=d.push { cls:=.type "tuple",data:=.seq a.toArray } }:=
   i.laid (λb o e=>Heap.get?_push_of_some _ e) (dM _) (⟨k,a,f,IsTup.new _ _⟩)
  exact⟨.ref d.objs.size,_,v,rfl,q _ (i.hok.fresh (dM _))⟩
 ·obtain⟨a,f,g,k⟩:=I.tuple hq;exact call_tuple_same g ⟨.ref p,H,I,rfl,q⟩
def tyV (K:Fg) (T:String) (x:V) (H:Hp):Prop:=match x with
 | .str _=>T="str"
 | .int _=>T="int"
 | .ref p=>(T="list"/\∃ xs,SqL K H p xs)\/(T="tuple"/\∃ o,K.lookup p=some o/\o.cls=.type "tuple"/\o.dict=none) \/
   (T="dict"/\((∃ kvs,H p=some (.dK kvs))\/(∃ kvs,H p=some (.dT kvs))\/∃ ob kvs,H p=some (.frz ob (.dK kvs))))\/(T="set"/\∃ S n,H p=some (.set S n))
 | _=>False
theorem b4e (I:Inv X pins σ H s) (r:RelV x v) (ty:tyV X.K T x H) :
  s.TypeIs v T/\∀ a,v=.ref a->∃ ob,s.heap.get? a=some ob/\ob.dict=none:=by
 cases x with
 | str z=>
  obtain⟨t,rfl⟩:=r;cases (ty);exact⟨kS s z t,λ_ e=>nomatch e⟩
 | int i=>
  obtain⟨t,rfl⟩:=r;cases (ty);exact⟨typeIs_int s i t,λ_ e=>nomatch e⟩
 | ref p=>
  cases r;rcases ty with ⟨rfl,xs,hq⟩ | ⟨rfl,o,hk,hc,f⟩ | ⟨rfl,hk⟩ | ⟨rfl,S,n,hk⟩
  ·obtain⟨h,_,g,_⟩:=I.list hq;refine⟨g.isList.typeIs,λa e=>?_⟩;cases e;obtain⟨o,n,e,c,f,_⟩:=g;exact⟨o,e,f⟩
  ·refine⟨⟨o,I.kIn p o hk,hc⟩,λa e=>?_⟩;cases e;exact⟨o,I.kIn _ o hk,f⟩
  ·have z:∃ o,s.heap.get? p=some o/\o.ExactDict:=by
    rcases hk with ⟨kvs,hk⟩ | ⟨kvs,hk⟩ | ⟨ob,kvs,hk⟩
    ·obtain⟨_,_,_,_,o,_,_,e,b,_⟩:=I.hok p _ hk;exact⟨o,e,b⟩
    ·obtain⟨_,_,_,_,o,_,_,e,b,_⟩:=I.hok p _ hk;exact⟨o,e,b⟩
    ·obtain⟨_,_,_,_,_,o,_,_,e,b,_⟩:=I.hok p _ hk;exact⟨o,e,b⟩
   obtain⟨o,e,b⟩:=z;refine⟨⟨o,e,b.1⟩,λa d=>?_⟩;cases d;exact⟨o,e,b.2.1⟩
  ·obtain⟨o,_,_,_,e,b,_⟩:=I.hok p _ hk;refine⟨⟨o,e,b.1⟩,λa d=>?_⟩;cases d;exact⟨o,e,b.2.1⟩
 | _=>exact dR ty
def tBM0 (K:Fg) (T:String) (r:V->List V->Hp->VK->Prop) (to:TE):TE:=fun σ H Q=>to σ H λx H1=>tyV K T x H1/\r x [] H1 Q
def tBM (K:Fg) (T:String) (r:V->List V->Hp->VK->Prop) (to:TE) (t:TA):TE:=fun σ H Q=>to σ H λx H1=>tyV K T x H1/\t σ H1 λxs H2=>r x xs H2 Q
variable {o e:Expr}{es:List Expr}{to:TE}{t:TA}{name:Str}{apos cpos:Pos}{T id:String}{r:V->List V->Hp->VK->Prop}
theorem b62 (pa:l6 T) (slot:Slot T name id) (hty:typeOf (.builtin id)=pure (.type "method_descriptor")) (hm:MtR X id r) (ho:PE X o to)
  (hbase:kR o name X.env (eval o X.env)=eval o X.env:=by rfl) (hline:(apos.endLine==cpos.line)=true:=by rfl):PE X (.Call (.Attribute o name apos) [] [] cpos) (tBM0 X.K T r to):=by
 intro a s σ H Q I h;refine wpAny_Call_method0_late hbase hline (thn (ho a s σ H _ I h) λv g ⟨x,d,c,b,i,e⟩=>?_);obtain⟨j,f⟩:=b4e c b i;exact⟨T,id,pa,slot,hty,j,f,Calls.callWith_builtin rfl (PySem.evalArgs_none (hm a g σ d x [] v [] Q c b .nil e))⟩
theorem b9C (pa:l6 T) (slot:Slot T name id) (hty:typeOf (.builtin id)=pure (.type "method_descriptor")) (hm:MtR X id r) (ho:PE X o to) (ha:PA X (e::es) t)
  (hbase:kR o name X.env (eval o X.env)=eval o X.env:=by rfl)
  (hfew:((backTo cpos (jU (e::es) X.env)).all (λx=>!x.1)&&(lN cpos (lO [] X.env)).all (λx=>x.1.isSome)
   && decide ((e::es).length+([]:List lP).length+(if ([]:List lP).isEmpty then 0 else 1)<30))=true:=by rfl)
  (hline:(apos.endLine==cpos.line)=true:=by rfl) (hs:jU (e::es) X.env=(false,eval e X.env)::jU es X.env:=by rfl) (hplain:(backTo cpos (jU es X.env)).any (·.1)=false:=by rfl) :
  PE X (.Call (.Attribute o name apos) (e::es) [] cpos) (tBM X.K T r to t):=by
 intro a s σ H Q I h;refine wpAny_Call_method_late hbase hfew hline rfl (thn (ho a s σ H _ I h) λv k ⟨x,w,b,c,u,j⟩=>?_);obtain⟨g,n⟩:=b4e b c u;refine⟨T,id,pa,slot,hty,g,n,?_⟩;have d:=ha cpos a k σ w _ b j;rw[hs]at d ⊢;refine Calls.callWith_builtin (by show (false||(backTo cpos _).any _)=false;rw[hplain]<;>rfl) (Calls.evalArgs_plain ?_)
 exact thn d λi m ⟨q,l,y,f,p⟩=>hm a m σ l x q v i Q y c f p
end
end L2
namespace L2
open PySem PySem.Spec PyProof.Rows
def MtM (X:Cx) (id:String) (r:V->List V->Hp->VK->Prop):Prop:=
 ∀ (pins:List (Addr×Obj)) (s:Shared) (σ:St) (H:Hp) (x:V) (xs:List V) (v:Value) (us:List Value) (Q:VK),Inv X pins σ H s->RelV x v->Vals xs us->r x xs H Q ->
  wpAny (model X.prog X.w) X.A (call (.builtin id) (v::us)) (EP X pins σ Q) X.xe s
theorem Vals.one:∀ {x:V}{us:List Value},Vals [x] us->∃ u,us=[u]/\RelV x u
 | _,_,.cons r .nil=>⟨_,rfl,r⟩
theorem Vals.two:∀ {x y:V}{us:List Value},Vals [x,y] us->∃ u v,us=[u,v]/\RelV x u/\RelV y v:=by
 intro x y a h;cases h with
 | cons r h=>cases h with
  | cons q h=>cases h;exact⟨_,_,rfl,r,q⟩
theorem Vals.zero:∀ {us:List Value},Vals [] us->us=[]
 | _,.nil=>rfl
theorem Vals.dropLast (h:Vals xs us):Vals xs.dropLast us.dropLast:=by
 induction h with
 | nil=>exact .nil
 | cons r t ih=>
  cases t with
  | nil=>exact .nil
  | cons q t'=>exact .cons r ih
theorem Vals.eraseIdx:∀ {xs:List V}{us:List Value}(i:Nat),Vals xs us->Vals (xs.eraseIdx i) (us.eraseIdx i)
 | _,_,_,.nil=>.nil
 | _,_,0,.cons _ t=>t
 | _,_,i+1,.cons r t=>.cons r (Vals.eraseIdx i t)
theorem Vals.reverse (h:Vals xs us):Vals xs.reverse us.reverse:=by
 induction h with
 | nil=>exact .nil
 | cons r t ih=>rw[gG,gG];exact Vals.append ih (.cons r .nil)
section
variable {X:Cx}{pins:List (Addr×Obj)}{σ:St}{H:Hp}{s:Shared}{l b:Addr}{xs ys zs:List V}
theorem Inv.lset {its its':List Value}(I:Inv X pins σ H s) (hH:H l=some (.lst xs))
  (e:s.heap.get? l=some { cls:=.type "list",data:=.seq its.toArray n }) (hf:f its.toArray=its'.toArray) (hv:Vals ys its') (hz:ys.length≤jS) :
  Inv X pins σ (upd H l (.lst ys)) { s with heap:=s.heap.update l (Obj.mapSeq f),toks:=t' }:=by
 have q:=PySem.IsL.update e f;rw[hf]at q;refine I.write (by rw[hH];exact trivial) (.inl rfl) (λc u a b=>(Heap.get?_update_other s.heap _ (Ne.symm a)).trans b) ⟨_,q⟩ ?_;exact⟨hz,its',_,hv,q⟩
theorem Inv.lnew (I:Inv X pins σ H s) (hv:Vals ys its) (hz:ys.length≤jS) :
  Inv X pins σ (upd H s.heap.objs.size (.lst ys)) { s with heap:=s.heap.push { cls:=.type "list",data:=.seq its.toArray },toks:=t' }:=
 I.laid (λ_ _ q=>Heap.get?_push_of_some _ q) (dM _) ⟨hz,its,0,hv,Heap.get?_push_size _ rfl⟩
theorem Inv.fresh (I:Inv X pins σ H s):H s.heap.objs.size=none:=I.hok.fresh (dM _)
theorem Inv.lstM (I:Inv X pins σ H s) (hH:H l=some (.lst xs)):xs.length≤jS/\∃ (its:List Value) (n:Nat),Vals xs its/\xs.length=its.length/\s.heap.get? l=some { cls:=.type "list",data:=.seq its.toArray n }:=by
 obtain⟨z,a,n,r,e⟩:=I.hok l _ hH;exact⟨z,a,n,r,r.length,e⟩
theorem b24 (h:n≤jS):j1.List.listTooLong n=false:=decide_eq_false (by omega)
end
section
variable {X:Cx}
def b5a:V->List V->Hp->VK->Prop:=λx vs H Q=>∃ l xs y,x=.ref l/\vs=[y]/\H l=some (.lst xs)/\xs.length<jS/\Q .non (upd H l (.lst (xs++[y])))
theorem a7i:MtM X "list.append" b5a:=by
 intro c s σ H x k v o Q I f d h;obtain⟨l,j,y,rfl,rfl,b,i,q⟩:=h;cases f;obtain⟨u,rfl,g⟩:=d.one;obtain⟨z,a,n,r,m,e⟩:=I.lstM b;refine l7 F.slot_list_append ⟨_,e,rfl⟩ F.entry_list_append (F.args_list_append_2 _ _) (PySem.list_append l a.toArray n u (by grind)) ⟨e,?_⟩;refine⟨.non,_,I.lset b e (by simp) (r.append (.cons g .nil)) ?_,rfl,q⟩;rw[dO,i8];omega
def b5b:V->List V->Hp->VK->Prop:=λx vs H Q=>∃ l b xs zs,x=.ref l/\vs=[.ref b]/\H l=some (.lst xs)/\H b=some (.lst zs)/\xs.length+zs.length≤jS/\Q .non (upd H l (.lst (xs++zs)))
theorem b02:MtM X "list.extend" b5b:=by
 intro k s σ H x A v C Q I i j h;obtain⟨l,b,B,E,rfl,rfl,f,t,G,q⟩:=h;cases i;obtain⟨u,rfl,p⟩:=j.one;cases p;obtain⟨z,c,n,r,D,e⟩:=I.lstM f;obtain⟨J,a,w,m,y,o⟩:=I.lstM t;have g:c.toArray.size+a.toArray.size≤sizeLine:=by grind
 have d:¬ (!c.toArray.isEmpty&&j1.List.listTooLong (c.toArray.size+a.toArray.size))=true:=by
  rw[b24 g,h8];exact eN
 refine l7 F.slot_list_extend ⟨_,e,rfl⟩ F.entry_list_extend (F.args_list_extend_2 _ _)
  (AutoSeq1.list_extend_list_list_0 l c.toArray n b a.toArray w d (by grind) (by omega)) ⟨e,o,?_⟩
 refine⟨.non,_,I.lset f e (by simp) (r.append m) ?_,rfl,q⟩;rw[dO];omega
def b63:V->List V->Hp->VK->Prop:=λx vs H Q=>∃ l xs,x=.ref l/\vs=[]/\H l=some (.lst xs)/\Q .non (upd H l (.lst []))
theorem b25:MtM X "list.clear" b63:=by
 intro f s σ H x i v m Q I d g h;obtain⟨l,k,rfl,rfl,c,q⟩:=h;cases d;have b:=g.zero;subst b;obtain⟨z,a,n,r,j,e⟩:=I.lstM c;refine l7 F.slot_list_clear ⟨_,e,rfl⟩ F.entry_list_clear (F.args_list_clear_1 _) (AutoSeq1.list_clear_list_0 l a.toArray n (by grind)) ⟨e,?_⟩;exact⟨.non,_,I.lset c e rfl .nil (eI _),rfl,q⟩
def rCat:R2:=λx y H Q=>∃ l b xs zs,x=.ref l/\y=.ref b/\H l=some (.lst xs)/\H b=some (.lst zs)/\xs.length+zs.length≤jS/\∀ p,H p=none->Q (.ref p) (upd H p (.lst (xs++zs)))
theorem b64:OpR X (kb .Add) rCat:=by
 intro i s σ H x y v u Q I f k h;obtain⟨l,b,C,w,rfl,rfl,m,d,A,q⟩:=h;cases f;cases k;obtain⟨z,c,n,r,t,e⟩:=I.lstM m;obtain⟨B,a,D,o,p,g⟩:=I.lstM d;refine PySem.P.add_list e g ?_ (by grind);have j:c.toArray++a.toArray=(c++a).toArray:=by simp
 rw[j];exact⟨.ref _,_,I.lnew (r.append o) (by grind),rfl,q _ I.fresh⟩
end
section
variable {prog:jY}{w:World}{A:Around}{E:Value->Shared->Prop}{s:Shared}
end
section
variable {X:Cx}
end
end L2
namespace Att
open PySem PySem.W PySem.Calls PyProof.Rows
theorem a48:∀ (ns:List Int) (vs:List Value),WellAll P h vs (ns.map WData.int)->j8 vs ns:=by
 intro c
 induction c with
 | nil=>
  intro d w;cases w;exact .nil
 | cons n c ih=>
  intro d w;cases w with
  | cons a b=>
   cases a;exact .cons _ _ (ih _ b)
theorem b03 {l:OpenLaw}(hn:l.most=some n)
  (hpre:l.row.toRowW.claim.pre args=true) (hwl:WellAll P h vals args) :
  ∃ a vs ns,vals=[Value.ref a]/\args=[WData.list (ns.map WData.int)]/\h.get? a=some { cls:=.type "list",data:=.seq vs.toArray }/\j8 vs ns/\ns.length≤n:=by
 have i:=(pre_splitW hpre).1;have g:l.pre.holds [] { args:=args }=true:=(pre_splitW hpre).2;obtain⟨d,r,rfl,j,m⟩:=hasAllW_cons i;obtain rfl:=hasAllW_nil m;obtain⟨p,rfl,o⟩:=hasW_list j;obtain⟨b,rfl⟩:=items_int o;have f:b.length≤n:=by
  have c:(WTm.not (.lt (.lit (.int n)) (.len (.arg 0)))).holds [] { args:=[.list (b.map .int)] }=true:=by
   have c:=(holds_andW g).1;rw[hn]at c;exact c
  have e:=condW_of c (w_not (w_lt w_lit (w_len_list (w_arg rfl))))
  first
   | (rw[decide_eq_true k]at e;exact absurd e (by simp))
   | (simp at e;omega)
 cases hwl with
 | cons w1 w2=>
  cases w2;cases w1 with
  | list ho hall=>exact⟨_,_,b,rfl,rfl,ho,a48 b _ hall,f⟩
theorem b04 (l:OpenLaw) (args:List WData):l.row.toRowW.claim.post args (.bool true) args=true:=
 postW_of
  (show WShape.has [] _ .bool=true by first | rfl | decide | simp)
  (w_eq_bool (w_res rfl) w_lit) rfl
theorem attach_call {l:OpenLaw}
  (hn:l.most=some n) (hdf:d.params.defaults=[])
  (call:∀ (w:World) (s₀ s₁:Shared) (mg mb:Str->Option Value) (fa:Addr) (o:Obj) (pm cd doc:Value) (a:Addr) (vs:List Value) (ns:List Int),
   Ground q loose [] XP w s₀ mg mb s₁.heap->YP w s₁.heap ->
   s₁.heap.get? fa=some o->o.data=.func (docDef d.name d.params d.body d.scope pm cd doc)->s₁.heap.CodeRec cd d.name->mg d.name=some (.ref fa) ->
   s₁.heap.get? a=some { cls:=.type "list",data:=.seq vs.toArray }->j8 vs ns->ns.length≤n->s₁.gens=#[] ->
   kl (model l.prog w) kZ (.call (.ref fa) ⟨[.ref a],[]⟩) (λr s'=>r=.ok (.ret (.bool true))/\OldK s₁.heap s'.heap/\s'.os=s₁.os/\ku s'.gens) s₁) :
  WalkO q loose XP YP l.row.toRowW d [] (λf vs=>PySem.call f vs):=by
 intro w C s D y G Y x o F v i Q H L B k h j N u J U c A S m T;obtain rfl:Q=.none:=Dflts.none h hdf;obtain rfl:H=.none:=Dflts.noKw h;obtain⟨a,I,E,rfl,rfl,g,b,e⟩:=b03 hn c m;refine enter_call (kL (call w C s D y x o F v i a I E G Y L (fd_plain B) k j g b e N) λr V R=>?_);obtain⟨rfl,t,z,M⟩:=R;exact⟨.inl ⟨.bool true,.bool true,[],rfl,λ_=>rfl,.bool true,b04 l _,λ_=>⟨e7.nil,λ_ p=>(nomatch p)⟩⟩,t,z,M⟩
section
variable {prog:jY}{w:World}{A:Around}{E:Value->Shared->Prop}{s:Shared}{K:Frag}
end
end Att
namespace L2
open PySem PySem.Spec PyProof.Rows
theorem a7j:∀ {vs:List Value}{ns:List Int},j8 vs ns->Vals (ns.map V.int) vs
 | _,_,.nil=>.nil
 | _,_,.cons n t h=>.cons ⟨t,rfl⟩ (a7j h)
def Only (H:Hp):Prop:=∀ b,H b=none\/∃ o xs,H b=some (.frz o (.lst xs))
theorem b26 {K:Fg}
  (KX:K.In s₁.heap) (hns:s₁.heap.Ns jW mg) (hb:s₁.heap.Ns mq mb) (hbb:∀ x:Str,x≠"__name__"->mb x=kC x) (hlim:s₁.heap.NoLimit) (hg:s₁.gens=#[])
  (ha:s₁.heap.get? a=some { cls:=.type "list",data:=.seq vs.toArray }) (hi:j8 vs ns) (hl:ns.length≤jS) (hr:Room k kZ)
  (F:∀ base:Heap,K.In base->base.Ns jW mg->FnOk P w K mg base CX k fa fd [x] sp) (hbind:∀ (s:Shared) (u:Value),lf s fd ⟨[u],[]⟩ [(x,u)])
  (hsp:∀ H:Hp,Only H->SqL K H a (ns.map V.int)->sp [.ref a] H (λv _=>v=.bl true) λ_ _ _=>False)
  (hCX:∀ H e s',CX [] H s₁ (λ_ _ _=>False) e s'->False) :
  kl (model P w) kZ (.call (.ref fa) ⟨[.ref a],[]⟩) (λr s'=>r=.ok (.ret (.bool true))/\OldK s₁.heap s'.heap/\s'.os=s₁.os/\ku s'.gens) s₁:=by
 have L:=a7j hi;have E:=hi.length;have p:∀ H:Hp,Only H->SqL K H a (ns.map V.int)->HOk P w H s₁.heap->(∀ b,H b≠none->b=a)->(H a≠none->K.lookup a=none) ->
   kl (model P w) kZ (.call (.ref fa) ⟨[.ref a],[]⟩) (λr j=>r=.ok (.ret (.bool true))/\OldK s₁.heap j.heap/\j.os=s₁.os/\ku j.gens) s₁:=by
  intro H I R y G X;have f:∀ {b:Addr}{o:Obj},s₁.heap.get? b=some o->H b=none->(hidT s₁.heap H).get? b=some o:=λe n=>b2R e n;have N:∀ {b:Addr}{o:Obj}{i:Array mE}{l:Nat},s₁.heap.get? b=some o->o.data=.dict i l->H b=none:=λ{b o i l} e d=>by grind
  have g:∀ {b:Addr}{m:Str->Option Value},s₁.heap.Ns b m->(hidT s₁.heap H).Ns b m:=λ{b m} ⟨o,i,l,e,d,r⟩=>⟨o,i,l,f e (N e d),d,r⟩;have A:=λb o e=>f (KX b o e) (by grind);have T:Mod K mg (hidT s₁.heap H):=⟨A,g hns,⟨mb,g hb,hbb⟩,let ⟨mc,h1,h2⟩:=hlim;⟨mc,g h1,h2⟩⟩;have U:Env0 P w K mg (hidT s₁.heap H) kZ [] s₁ H:=⟨rfl,T,λb o e=>b4S e,fG (b0E _ _),trivial,λb hb=>absurd (show b∈([]) from hb) (by simp),y,.of_eq hg⟩;refine kL ((F _ A (g hns)).run kZ [] s₁ H ⟨[.ref a],[]⟩ [.ref a] [.ref a] _ _ hr U (hbind s₁ (.ref a)) (.cons rfl .nil) (hsp H I R)) λr j h=>?_;cases r with
  | error e=>exact (hCX H e j h).elim
  | ok fl=>
   cases fl with
   | next=>exact dR h
   | brk=>exact dR h
   | cont=>exact dR h
   | ret u=>
    obtain⟨v,H',Q,C,J,B,S,q⟩:=h;have q':=q;subst q';obtain rfl:u=Value.bool true:=S;refine⟨rfl,OldK.of_keep λb o e=>?_,Q,C⟩;cases q:H b with
    | none=>exact J.keep b o e q (by intro z;exact absurd (show b∈([]) from z) (by simp)) (by simp)
    | some u=>
     rcases I b with z | ⟨ob,xs,z⟩
     ·rw[q]at z;cases z
     ·have z2:=J.frzs b ob _ z;obtain⟨M,_⟩:=y b _ z;obtain⟨Y,_⟩:=B b _ z2;rw[e]at M;cases M;exact Y
 cases hk:K.lookup a with
 | some o=>
  have e:=KX a o hk;rw[ha]at e;cases e;refine p _ (λ_=>.inl rfl) (.inr ⟨_,vs.toArray,_,hk,rfl,rfl,rfl,by rw[eZ,E];exact hl,by simpa using L⟩) (λb u z=>by have t:=z;cases t) (λb z=>absurd rfl z) λz=>absurd rfl z
 | none=>
  refine p (λb=>if b=a then some _ else none) (λb=>?_) (.inl (.inr ⟨{ cls:=.type "list",data:=.seq vs.toArray },if_pos rfl⟩)) (λb u z=>?_) (λb z=>?_) λ_=>hk
  ·grind
  ·by_cases hb:b=a
   ·have t:=(if_pos hb).symm.trans z;cases t;subst hb;exact⟨ha,by rw[dJ];exact hl,vs,_,L,ha⟩
   ·have t:=(if_neg hb).symm.trans z;cases t
  ·by_cases hb:b=a
   ·exact hb
   ·exact absurd (if_neg hb) z
end L2
namespace L2
open PySem PySem.Spec PyProof.Rows
theorem walk_of {l:PySem.W.OpenLaw}{K:Params->Fg}{CX:World->CXT}{sp:World->Sp}
  (hn:l.most=some n) (hn2:n≤jS) (hdf:d.params.defaults=[]) (hr:Room k kZ)
  (hY:∀ (w:World) (h:Heap),YP w h->(K w.params).In h)
  (F:∀ (w:World) (mg:Str->Option Value) (fa:Addr) (h:Heap),(K w.params).In h->h.Ns jW mg->mg d.name=some (.ref fa) ->
   ∃ fd:jZ,(∀ (s:Shared) (u:Value),lf s fd ⟨[u],[]⟩ [(x,u)]) /\
    ∀ base:Heap,(K w.params).In base->base.Ns jW mg->FnOk l.prog w (K w.params) mg base (CX w) k fa fd [x] (sp w))
  (hsp:∀ (w:World) (H:Hp) (a:Addr) (ns:List Int),ns.length≤n->Only H->SqL (K w.params) H a (ns.map V.int)->sp w [.ref a] H (λv _=>v=.bl true) λ_ _ _=>False)
  (hCX:∀ (w:World) (H:Hp) (s:Shared) (e:Value) (s':Shared),CX w [] H s (λ_ _ _=>False) e s'->False) :
  PySem.W.WalkO q loose XP YP l.row.toRowW d [] (λf vs=>PySem.call f vs):=by
 refine Att.attach_call hn hdf λw N r y U B o R Q J a S z G Y X M L p j i c D=>?_;have m:=hY w _ Y;obtain⟨fd,C,A⟩:=F w y B _ m G.T.g p;exact b26 m G.T.g G.T.b G.T.builtins G.T.nolimit D j i (dW c hn2) hr A C (λH I E=>hsp w H a z c I E) λH e t=>hCX w H r e t
end L2
namespace L2
open PySem PySem.Spec PyProof.Rows
noncomputable def a3o (s:Stmt) (j:Nat):Stmt:=match s with
 | .ClassDef _ _ _ body _ _ _ _ _ _ _=>body.getD j (.Pass ⟨0,0,0,0⟩)
 | _=>.Pass ⟨0,0,0,0⟩
noncomputable def a3p (s:Stmt):Arguments:=match s with
 | .FunctionDef _ a _ _ _ _ _ _ _ _=>a
 | _=>{ posonlyargs:=[],args:=[],vararg:=none,kwonlyargs:=[],kw_defaults:=[],kwarg:=none,defaults:=[] }
noncomputable def a18 (s:Stmt):List Stmt:=match s with
 | .FunctionDef _ _ b _ _ _ _ _ _ _=>b
 | _=>[]
noncomputable def a0i (s:Stmt):Scope:=match s with
 | .FunctionDef _ _ _ _ _ _ sc _ _ _=>sc
 | _=>{ kind:=.function,names:=[],isGenerator:=false,isCoroutine:=false }
abbrev CX0:CXT:=λ_ _ _ _ _ _=>False
abbrev E0:XK:=λ_ _ _=>False
theorem b5c:a2N CX0 X E0:=λ_ _ _ _ _ _ _ h=>h.elim
structure Fun (K:Fg) (x qual:Str) (st:Stmt) (f:Addr) (fd:jZ):Prop where
 ex:∃ (oc:Value) (od:Option Addr) (kV doc pm:Value) (an:Option Addr) (cdv ct:Value) (osl:Array (Option Value)),
  fd=PySem.W.fnOf x qual (a3p st) (a18 st) (a0i st) .none kV doc pm an cdv ct/\K.lookup f=some ⟨oc,od,.func fd,osl⟩/\PySem.W.codeIn K cdv qual=true
 kp:PySem.W.keepIn K (.ref f)=true
section
variable {P:jY}{w:World}{K:Fg}{mg:Str->Option Value}{base:Heap}
theorem Fun.ok {st:Stmt}(F:Fun K x qual st f fd) (S:FnScope N ps (a0i st)) (len:∀ vs H Q E,sp vs H Q E->vs.length=ps.length)
  (hbody:∀ (cdv:Value) (A:Around) (outer:List Env) (s:Shared) (H:Hp) (vs:List V) (Q:VK) (E:XK),Room k (A.deeper (envOfC qual (a0i st) s.heap.objs.size f cdv))->sp vs H Q E ->
   ∃ t,PSs (cxOf CX0 P w K mg base N qual (a0i st) f cdv A outer s H E).nox (a18 st) t/\t { nx:=λ_ H'=>Q .non H',rt:=Q } (start N vs) H):FnOk P w K mg base CX0 (k+1) f fd ps sp:=by
 obtain⟨n,u,r,l,m,o,c,p,j,rfl,i,d⟩:=F.ex;refine b6Z i d S len λA a s H g Q E e b=>?_;obtain⟨t,h,q⟩:=hbody c A a s H g Q E e b;exact⟨t,h.nox,q⟩
theorem Fun.binds {st:Stmt}(F:Fun K x qual st f fd)
  (h:∀ (kV doc pm:Value) (an:Option Addr) (cdv ct:Value) (us:List Value),us.length=ps.length->bindArgs (PySem.W.fnOf x qual (a3p st) (a18 st) (a0i st) .none kV doc pm an cdv ct) ⟨us,[]⟩=pure (ps.zip us)):Binds K fd ps []:=by
 obtain⟨k,l,g,a,e,d,b,c,i,rfl,m,j⟩:=F.ex;exact .all (h g a e d b c)
theorem b4f {st:Stmt}{kV doc pm cdv ct:Value}(l:K.lookup f=some ⟨oc,od,.func (PySem.W.fnOf x qual (a3p st) (a18 st) (a0i st) .none kV doc pm an cdv ct),osl⟩)
  (c:PySem.W.codeIn K cdv qual=true) (k:PySem.W.keepIn K (.ref f)=true):Fun K x qual st f (PySem.W.fnOf x qual (a3p st) (a18 st) (a0i st) .none kV doc pm an cdv ct):=⟨⟨oc,od,kV,doc,pm,an,cdv,ct,osl,rfl,l,c⟩,k⟩
end
theorem a0r (h:n≤1000):n<sizeLine:=h9 h (by decide)
section
variable {X:Cx}
theorem pv (i:Nat) (hN:X.N[i]?=some x:=by rfl) (hv:Vis X.env.scope x:=by first | exact dL rfl | exact fH (dL rfl) | exact fH (fH rfl)) (hd:(x==("__debug__":Str))=false:=by decide)
  (hcd:(x==("__classdict__":Str))=false:=by decide):PE X (.Name x pos) (tVar i):=b6v hN hv hd hcd
end
def Same (H H':Hp):Prop:=∀ b o,H b=some o->H' b=some o
theorem Same.refl (H:Hp):Same H H:=λ_ _ h=>h
theorem Same.trans (a:Same H H1) (b:Same H1 H2):Same H H2:=λc o h=>b c o (a c o h)
theorem Same.free (e:Same H H') (h:H' l=Option.none):H l=Option.none:=by
 cases q:H l with
 | none=>rfl
 | some o=>
  rw[e l o q]at h;cases h
theorem Same.seq {K:Fg}(e:Same H H') (h:SqL K H a xs):SqL K H' a xs:=by
 rcases h with (h | ⟨o,h⟩) | h
 ·exact .inl (.inl (e _ _ h))
 ·exact .inl (.inr ⟨o,e _ _ h⟩)
 ·exact .inr h
end L2
namespace L2
open PySem PySem.Spec PyProof.Rows
section
variable {κ:Type}[DecidableEq κ]
noncomputable def valV (kvs:List (κ×V)) (k:κ):Option V:=(kvs.find? λkv=>decide (kv.1=k)).map (·.2)
noncomputable def putK (kvs:List (κ×V)) (k:κ) (v:V):List (κ×V):=
 if (kvs.any λkv=>decide (kv.1=k))=true then kvs.map (λkv=>if kv.1=k then (kv.1,v) else kv) else kvs++[(k,v)]
noncomputable def b65 (kvs:List (κ×V)) (k:κ):List (κ×V):=kvs.filter λkv=>decide (kv.1≠k)
theorem a6s {k:κ}(e:p.1=k):valV (p::r) k=some p.2:=by simp[valV,fi,e]
theorem a6t {k:κ}(e:¬ p.1=k):valV (p::r) k=valV r k:=by simp[valV,fi,e]
theorem a82 (k:κ):∀ kvs:List (κ×V),(kvs.any λkv=>decide (kv.1=k))=(valV kvs k).isSome
 | []=>rfl
 | p::r=>by
  rw[fY]
  by_cases e:p.1=k
  ·simp only[a6s e,decide_eq_true e,Bool.true_or,Option.isSome_some]
  ·rw[a6t e,decide_eq_false e,i9];exact a82 k r
theorem a49 (kvs:List (κ×V)) (k:κ) (v:V):(putK kvs k v).length≤kvs.length+1:=by grind [putK]
theorem RelO.isSome_eq (r:RelO o u):o.isSome=u.isSome:=by
 cases o with
 | none=>cases u with
  | none=>rfl
  | some _=>exact (r).elim
 | some _=>cases u with
  | none=>exact (r).elim
  | some _=>rfl
theorem RelO.getD (r:RelO o u) (rd:RelV d d'):RelV (o.getD d) (u.getD d'):=by
 cases o with
 | none=>cases u with
  | none=>exact rd
  | some _=>exact (r).elim
 | some _=>cases u with
  | none=>exact (r).elim
  | some _=>exact r
theorem KV.val (r:KV kvs vs) (k:κ):RelO (valV kvs k) (lr vs k):=by
 induction r with
 | nil=>exact True.intro
 | @cons p q ps qs h t ih=>
  obtain⟨c,d⟩:=h
  by_cases e:p.1=k
  ·have a:=c.symm.trans e;have b:lr (q::qs) k=some q.2:=by simp[lr,a]
   rw[a6s e,b];exact d
  ·have a:¬ q.1=k:=λz=>e (c.trans z);have b:lr (q::qs) k=lr qs k:=by simp[lr,a]
   rw[a6t e,b];exact ih
theorem KV.any (r:KV kvs vs) (k:κ):(kvs.any λkv=>decide (kv.1=k))=vs.any λkv=>decide (kv.1=k):=by
 induction r with
 | nil=>rfl
 | cons h t ih=>rw[fY,fY,ih,h.1]
theorem KV.repl (r:KV kvs vs) (k:κ) (ry:RelV y u) :
  KV (kvs.map λkv=>if kv.1=k then (kv.1,y) else kv) (vs.map λkv=>if kv.1=k then (kv.1,u) else kv):=by
 induction r with
 | nil=>exact .nil
 | @cons p q ps qs h t ih=>
  rw[eu,eu];refine .cons ?_ ih;obtain⟨a,b⟩:=h
  by_cases e:p.1=k
  ·rw[if_pos e,if_pos (a.symm.trans e)];exact⟨a,ry⟩
  ·rw[if_neg e,if_neg (λz=>e (a.trans z))];exact⟨a,b⟩
theorem KV.put (r:KV kvs vs) (k:κ) (ry:RelV y u):KV (putK kvs k y) (stored vs k u):=by
 unfold putK stored;rw[r.any k]
 by_cases e:(vs.any λkv=>decide (kv.1=k))=true
 ·rw[if_pos e,if_pos e];exact r.repl k ry
 ·rw[if_neg e,if_neg e];exact Paired.snoc r ⟨rfl,ry⟩
theorem KV.drop (r:KV kvs vs) (k:κ):KV (b65 kvs k) (without vs k):=by
 unfold b65 without
 induction r with
 | nil=>exact .nil
 | @cons p q ps qs h t ih=>
  obtain⟨c,d⟩:=h;rw[e8,e8]
  by_cases e:p.1=k
  ·simp_all
  ·have f:¬ q.1=k:=λz=>e (c.trans z);have a:decide (p.1≠k)=true:=by simp[e]
   have b:decide (q.1≠k)=true:=by simp[f]
   rw[if_pos a,if_pos b];exact .cons ⟨c,d⟩ ih
theorem KV.keys {kvs:List (κ×V)}(r:KV kvs vs):kvs.map (·.1)=vs.map (·.1):=by
 induction r with
 | nil=>rfl
 | cons h t ih=>rw[eu,eu,ih,h.1]
theorem KV.length (r:KV kvs vs):kvs.length=vs.length:=Paired.length r
end
theorem b05 (r:RelV (kV k) u):(a0Q P w).is k u=true:=by
 match k,r with
 | .inl (some i),r=>obtain⟨t,e⟩:=(r);subst e;exact a8d P w i t
 | .inl none,r=>rw[r];rfl
 | .inr x,r=>obtain⟨t,e⟩:=(r);subst e;exact a8e P w x t
theorem a7k:∀ {ks:List Key}{us:List Value},Vals (ks.map kV) us->ItemsAre (a0Q P w) ks us
 | [],_,r=>by rw[eK]at r;cases r;exact .nil
 | k::ks,_,r=>by
  cases r with
  | cons h t=>exact .cons (b05 h) (a7k t)
abbrev KT (H:Hp):List (List Key×V)->List (List Key×Addr×Value)->Prop:=Paired λp q=>p.1=q.1/\H q.2.1=some (.tup (p.1.map kV))/\RelV p.2 q.2.2
theorem KT.val (r:KT H kvs xs) (k:List Key):RelO (valV kvs k) ((atKey xs k).map (·.2)):=by
 induction r with
 | nil=>exact True.intro
 | @cons p q ps qs h t ih=>
  obtain⟨c,_,d⟩:=h
  by_cases e:p.1=k
  ·have a:=c.symm.trans e;have b:atKey (q::qs) k=some q.2:=by simp[atKey,a]
   rw[a6s e,b];exact d
  ·have a:¬ q.1=k:=λz=>e (c.trans z);have b:atKey (q::qs) k=atKey qs k:=by simp[atKey,a]
   rw[a6t e,b];exact ih
theorem KT.repl (r:KT H kvs xs) (k:List Key) (ry:RelV y u) :
  KT H (kvs.map λkv=>if kv.1=k then (kv.1,y) else kv) (xs.map (putAt k u)):=by
 induction r with
 | nil=>exact .nil
 | @cons p q ps qs h t ih=>
  rw[eu,eu];refine .cons ?_ ih;obtain⟨a,b,c⟩:=h;unfold putAt
  by_cases e:p.1=k
  ·rw[if_pos e,if_pos (a.symm.trans e)];exact⟨a,b,ry⟩
  ·rw[if_neg e,if_neg (λz=>e (a.trans z))];exact⟨a,b,c⟩
theorem KT.put (r:KT H kvs xs) (k:List Key) (hb:H b=some (.tup (k.map kV))) (ry:RelV y u) :
  KT H (putK kvs k y) (storedH xs k b u):=by
 have e:(kvs.any λa=>decide (a.1=k))=(atKey xs k).isSome:=by
  rw[a82,(r.val k).isSome_eq,Option.isSome_map]
 unfold putK storedH;rw[e]
 by_cases q:(atKey xs k).isSome=true
 ·rw[if_pos q,if_pos q];exact r.repl k ry
 ·rw[if_neg q,if_neg q];exact Paired.snoc r ⟨rfl,hb,ry⟩
theorem KT.keeps (r:KT H kvs xs) (ht:∀ b ys,H b=some (.tup ys)->H' b=some (.tup ys)):KT H' kvs xs:=
 Paired.mapP r λ_ _ z=>⟨z.1,ht _ _ z.2.1,z.2.2⟩
section
variable {P:jY}{w:World}{H:Hp}{h:Heap}{a:Addr}
theorem b66 (ok:HOk P w H h) (e:Rd H a u):ObjOk P w H h a u:=e.ok ok
theorem b5d (ok:HOk P w H h) (e:Rd H a (.dK kvs)):kvs.length≤jS/\(a==kB)=false/\∃ vs,KV kvs vs/\h.DictOf (a0Q P w) a vs:=
 b66 ok e
theorem b67 (ok:HOk P w H h) (e:H a=some (.dK kvs)):kvs.length≤jS/\(a==kB)=false/\∃ vs,KV kvs vs/\h.DictOf (a0Q P w) a vs:=b5d ok (.inl e)
theorem b4g (ok:HOk P w H h) (e:H a=some (.tup (ks.map kV))):(lV (a0Q P w)).is h ks a:=by
 obtain⟨_,b,r,o,d,c,n,f⟩:=(ok a _ e);exact⟨o,b.toArray,n,d,c,f,by simpa using a7k r⟩
theorem b9D (ok:HOk P w H h) (e:Rd H a (.dT kvs)):kvs.length≤jS/\(a==kB)=false /\
  ∃ xs,KT H kvs xs/\h.DictOfH (lV (a0Q P w)) a xs:=by
 obtain⟨z,y,g,r,o,d,s,j,k,f,n,i⟩:=(b66 ok e);refine⟨z,y,g,r,o,d,s,j,k,f,n,λx b=>?_,i⟩;have c:∀ {l:List _}{m:List _},KT H l m->∀ x∈m,(lV (a0Q P w)).is h x.1 x.2.1:=by
  intro l m q
  induction q with
  | nil=>intro x b;exact nomatch b
  | @cons p q ps qs hq t ih=>
   intro x b;rcases dU.mp b with e | b
   ·subst e;exact b4g ok (by simp_all)
   ·exact ih x b
 exact c r x b
end
def DGet (H:Hp) (a:Addr) (y:V) (r:Option V):Prop:=
 (∃ kvs k,Rd H a (.dK kvs)/\y=kV k/\r=valV kvs k)\/∃ kvs k b,Rd H a (.dT kvs)/\y=.ref b/\H b=some (.tup (k.map kV))/\r=valV kvs k
def DPut (H:Hp) (a:Addr) (y v:V) (H':Hp):Prop:=
 (∃ kvs k,H a=some (.dK kvs)/\y=kV k/\kvs.length<jS/\H'=upd H a (.dK (putK kvs k v))) \/
 ∃ kvs k b,H a=some (.dT kvs)/\y=.ref b/\H b=some (.tup (k.map kV))/\kvs.length<jS/\H'=upd H a (.dT (putK kvs k v))
theorem DGet.k {k:Key}(e:H a=some (.dK kvs)):DGet H a (kV k) (valV kvs k):=.inl ⟨kvs,k,.inl e,rfl,rfl⟩
theorem DGet.t {k:List Key}(e:H a=some (.dT kvs)) (eb:H b=some (.tup (k.map kV))):DGet H a (.ref b) (valV kvs k):=.inr ⟨kvs,k,b,.inl e,rfl,eb,rfl⟩
theorem DPut.k {k:Key}(e:H a=some (.dK kvs)) (hl:kvs.length<jS):DPut H a (kV k) v (upd H a (.dK (putK kvs k v))):=.inl ⟨kvs,k,e,rfl,hl,rfl⟩
theorem DPut.t {k:List Key}(e:H a=some (.dT kvs)) (eb:H b=some (.tup (k.map kV))) (hl:kvs.length<jS) :
  DPut H a (.ref b) v (upd H a (.dT (putK kvs k v))):=.inr ⟨kvs,k,b,e,rfl,eb,hl,rfl⟩
section
variable {X:Cx}{pins:List (Addr×Obj)}{σ:St}{H:Hp}{s:Shared}{a:Addr}{y v:V}{u r:Value}{o:Option V}{A:Around}{E:Value->Shared->Prop}
theorem Inv.big (I:Inv X pins σ H s):kB<s.heap.objs.size:=by
 have h:=(I.mod.glob.keeps I.bk).lt;exact fZ (by decide) h
theorem b5e (I:Inv X pins σ H s) (mu:Mut (H a)) (hs:Heap.SameBut a s.heap h') (he:∃ q,h'.get? a=some q) (new:ObjOk X.prog X.w (upd H a ob) h' a ob) :
  Inv X pins σ (upd H a ob) { s with heap:=h',toks:=t' }:=
 I.write mu (.inl rfl) (λb q c z=>(hs.2 b c).trans z) he new
theorem b68 (z:kvs.length≤jS) (hd:(a==kB)=false) (rel:KV kvs vs) (dd:h'.DictOf (a0Q P w) a vs) :
  ObjOk P w H' h' a (.dK kvs):=⟨z,hd,vs,rel,dd⟩
end
section
variable {X:Cx}{pins:List (Addr×Obj)}{σ:St}{H:Hp}{s:Shared}{a:Addr}{kvs:List (Key×V)}{k:Key}{u:Value}{A:Around}{E:Value->Shared->Prop}
end
section
variable {X:Cx}{o i e value:Expr}{pos pos' tpos:Pos}{td ty tv:TE}
end
theorem a83 (h:Heap) (hb:kB<h.objs.size):ObjOk P w H (h.push { cls:=.type "dict",data:=.dict #[] }) h.objs.size (.dK []):=
 ⟨eI _,beq_eq_false_iff_ne.mpr (Ne.symm (ei hb)),[],.nil,Heap.DictOf.new h⟩
def b69:TE:=λ_ H Q=>∀ p,H p=none->Q (.ref p) (upd H p (.dK []))
section
variable {X:Cx}{pos:Pos}
theorem b27:PE X (.Dict [] [] pos) b69:=λb s σ H Q I h=>
 wpAny_Dict_empty ⟨.ref s.heap.objs.size,_,I.laid (λ_ _ q=>Heap.get?_push_of_some _ q) (dM _) (a83 s.heap I.big),rfl,h _ (I.hok.fresh (dM _))⟩
end
noncomputable def b7a (kvs more:List (Key×V)):List (Key×V):=more.foldl (λacc kv=>putK acc kv.1 kv.2) kvs
theorem KV.merge:∀ {more:List (Key×V)}{rs:List (Key×Value)}{kvs:List (Key×V)}{vs:List (Key×Value)},KV more rs->KV kvs vs->KV (b7a kvs more) (merged vs rs):=by
 intro d f a b r
 induction r generalizing a b with
 | nil=>intro q;exact q
 | @cons p q ps qs h t ih=>
  intro c;have e:KV (putK a p.1 p.2) (stored b q.1 q.2):=by
   have:=c.put p.1 h.2
   rw[<- h.1];exact this
  exact ih e
section
variable {X:Cx}{pins:List (Addr×Obj)}{σ:St}{H:Hp}{s:Shared}{a:Addr}{y d:V}{u r:Value}{o:Option V}{A:Around}{E:Value->Shared->Prop}
theorem b7b (hu:A.units+1<cLine) (I:Inv X pins σ H s) (g:DGet H a y o) (ry:RelV y u) (rd:RelV d r) (h:∀ w' s',Inv X pins σ H s'->RelV (o.getD d) w'->Q w' s') :
  wpAny (model X.prog X.w) A (call (.builtin "dict.get") [.ref a,u,r]) Q E s:=by
 rcases g with ⟨kvs,k,e,ey,l⟩ | ⟨kvs,k,b,e,ey,eb,l⟩
 ·subst ey;obtain⟨z,i,m,f,c⟩:=b5d I.hok e;refine mJ PySem.F.slot_dict_get c.typeIs PySem.F.entry_dict_get (PySem.F.args_dict_get_3 _ _ _) (meets_dict_get_default _ a (b05 ry) i r) ⟨_,c.mapOf,h _ _ (I.tok _) ?_⟩;rw[l];exact (f.val k).getD rd
 ·subst ey;cases (ry);obtain⟨z,i,j,f,c⟩:=b9D I.hok e;refine mJ PySem.F.slot_dict_get c.typeIs PySem.F.entry_dict_get (PySem.F.args_dict_get_3 _ _ _) (meetsH_dict_get_default _ a b i r) ⟨tupleKind_room_in1 hu,k,j,b4g I.hok eb,c,h _ _ (I.tok _) ?_⟩;rw[l];exact (f.val k).getD rd
end
section
variable {X:Cx}{o e f:Expr}{apos cpos:Pos}{td ty tx:TE}
end
section
variable {X:Cx}{pins:List (Addr×Obj)}{σ:St}{H:Hp}{s:Shared}{a:Addr}{kvs:List (Key×V)}{A:Around}{E:Value->Shared->Prop}
end
section
variable {X:Cx}{pins:List (Addr×Obj)}{σ:St}{H:Hp}{s:Shared}{a:Addr}{y:V}{u:Value}{A:Around}{E:Value->Shared->Prop}
end
end L2
namespace PySem
noncomputable def a1b (env:Env):List (Str×j3)->List (Str×Addr)->List (Str×Addr)
 | [],cs=>cs
 | (n,k)::r,cs=>if (k==.free)=true then a1b env r ((n,(env.cells.lookup n).getD 0)::cs) else a1b env r cs
theorem a6u (h:∀ x∈scope.names,x.2=.free->∃ c,env.cells.lookup x.1=some c):closureFor scope env=pure (a1b env scope.names []):=by
 simp only[closureFor]
 suffices H:∀ l b,(∀ x∈l,x.2=.free->∃ c,env.cells.lookup x.1=some c) ->
   forIn l b _=pure (a1b env l b) by
  rw[H scope.names [] h];rfl
 intro l
 induction l with
 | nil=>intro b _;rfl
 | cons x l ih=>
  intro b j;obtain⟨n,k⟩:=x;have g:=λb=>ih b λy o=>j y (eX _ o);rw[List.forIn_cons]
  by_cases hk:k=.free
  ·subst hk;obtain⟨c,m⟩:=j _ fh rfl;have f:cellOf env n=pure c:=by unfold cellOf;rw[m]
   rw[if_pos (show (j3.free==j3.free)=true from rfl),f];have e:a1b env ((n,j3.free)::l) b=a1b env l ((n,c)::b):=by
    show (if (j3.free==j3.free)=true then _ else _)=_
    rw[m];rfl
   rw[e,<- g ((n,c)::b)]
   rfl
  ·have i:(k==j3.free)=false:=by simpa using hk
   have e:a1b env ((n,k)::l) b=a1b env l b:=by
    show (if (k==j3.free)=true then _ else _)=_
    rw[i];rfl
   rw[e,<- g b];rw[i,if_neg eN]
   rfl
theorem a2r:∀ (l:List (Str×j3)) (cs:List (Str×Addr)),(∀ y∈l,y.2=.free->∃ c,env.cells.lookup y.1=some c)->(∀ y c,cs.lookup y=some c->env.cells.lookup y=some c) ->
  ∀ c,(a1b env l cs).lookup x=some c->env.cells.lookup x=some c
 | [],cs,_,hc,c,h=>hc x c h
 | (n,k)::r,cs,hx,hc,c,h=>by
  have g:=λy m=>hx y (eX _ m);unfold a1b at h
  split at h
  ·rename_i hk
   have f:k=.free:=by simpa using hk
   obtain⟨d,j⟩:=hx (n,k) fh f;refine a2r r _ g (λy i a=>?_) c h;rw[fj]at a;cases e:y==n with
   | true=>
    rw[e]at a;have o:y=n:=by simpa using e
    subst o;have b:=j;rw[b]at a ⊢;exact a
   | false=>rw[e]at a;exact hc y i a
  ·exact a2r r cs g hc c h
theorem a2s:∀ (l:List (Str×j3)) (cs:List (Str×Addr)) (c:Addr),cs.lookup x=some c->∃ c',(a1b env l cs).lookup x=some c'
 | [],cs,c,h=>⟨c,h⟩
 | (n,k)::r,cs,c,h=>by
  unfold a1b
  split
  ·cases e:x==n with
   | true=>exact a2s r _ _ (by rw[fj,e])
   | false=>exact a2s r _ c (by rw[fj,e];exact h)
  ·exact a2s r cs c h
theorem a3b:∀ (l:List (Str×j3)) (cs:List (Str×Addr)),(x,j3.free)∈l->∃ c,(a1b env l cs).lookup x=some c
 | [],cs,h=>by cases h
 | _::r,cs,h=>by
  unfold a1b;rcases dU.mp h with e | e
  ·cases e;exact a2s r _ ((env.cells.lookup x).getD 0) (by simp)
  ·split
   ·exact a3b r _ e
   ·exact a3b r _ e
end PySem
namespace PySem
theorem a3k {env:Env}:∀ (names:List (Str×j3)),
  (names.map λ(n,k)=>if (k==j3.free&&env.scope.kind==.function&&env.kindOf n==some .cell) then (n,j3.cell) else (n,k)).lookup x =
   (names.lookup x).map λk=>if (k==j3.free&&env.scope.kind==.function&&env.kindOf x==some .cell)=true then j3.cell else k
 | []=>rfl
 | (n,k)::r=>by
  have a:=a3k (env:=env) (x:=x) r
  show g9 x ((if _=true then _ else (n,k))::_)=_
  cases hx:x==n with
  | true=>
   have e:x=n:=by grind
   subst e
   by_cases hc:(k==j3.free&&env.scope.kind==.function&&env.kindOf x==some .cell)=true
   simp only[fj,hx,gH,if_pos hc];simp only[fj,hx,gH,if_neg hc]
  | false=>
   by_cases hc:(k==j3.free&&env.scope.kind==.function&&env.kindOf n==some .cell)=true
   ·rw[if_pos hc];simp only[fj,hx];exact a
   ·rw[if_neg hc];simp only[fj,hx];exact a
theorem a3q (I:Nat->Shared->Prop)
  (turn:∀ n s,I n s->wpAny (model prog w) A (pyNext it) (λr s₁=>match r with
   | none=>R (.ok .next) s₁
   | some v=>wpAny (model prog w) A (mD target it v) (λ_ s₁=>wpAny (model prog w) A (assign target env v) (λ_ s₂=>
     wpAny (model prog w) A (forIn ifs true λc r=>if r=true then do let ok <- isTrue c env (eval c env);pure (ForInStep.yield ok) else pure (ForInStep.yield r)) (λok s₃=>
      if ok=true then wpAny (model prog w) A (eval elt env) (λx s₄=>
       wpAny (model prog w) A (call (.builtin "list.append") [acc,x]) (λ_ s₅=>∃ m,m<n/\I m s₅) (lu (model prog w) A env λe s'=>R (.error e) s') s₄) (lu (model prog w) A env λe s'=>R (.error e) s') s₃
      else ∃ m,m<n/\I m s₃) (lu (model prog w) A env λe s'=>R (.error e) s') s₂) (lu (model prog w) A env λe s'=>R (.error e) s') s₁) (λ_ _=>False) s₁) (λ_ _=>False) s)
  (n:Nat) (h:I n s) :
  kl (model prog w) A (.compLoop (.ListComp elt [⟨target,iter,ifs,0⟩] scope pos) 0 it acc env) R s:=by
 refine codeAny_loop rfl I (λn s k=>?_) n h;refine wpAny_noted ?_;refine jQ (mz (jQ (j7 (turn n s k) (λr d a=>?_) λ_ _ f=>f.elim)));cases r with
 | none=>exact jR a
 | some v=>
  refine jQ (j7 a (λ_ d a=>?_) λ_ _ f=>f.elim);refine jQ (j7 a (λ_ p g=>jQ (j7 g (λl z b=>?_) λ_ _ f=>f)) λ_ _ f=>f);cases l with
  | false=>exact jR ⟨rfl,b⟩
  | true=>
   exact jQ (jQ (j7 b (λx o i=>jQ (j7 i (λ_ u j=>jR (jR ⟨rfl,j⟩)) λ_ _ f=>f)) λ_ _ f=>f))
theorem a1D:∀ (names:List (Str×j3)) (n:Nat) (acc:List (Str×Addr)),j6 n names acc=j6 n names []++acc
 | [],_,_=>rfl
 | (x,k)::r,n,acc=>by
  rw[j6,j6]
  split
  ·rw[a1D r _ _,a1D r _ [_]];simp
  ·exact a1D r n acc
theorem a5a:∀ {names:List (Str×j3)}{n:Nat},(x,c)∈j6 n names []->(x,j3.cell)∈names
 | [],_,h=>by rw[j6]at h;simp at h
 | _::r,n,h=>by
  rw[j6]at h
  split at h
  ·next e=>
   rw[a1D,dN]at h;rcases h with h | h
   ·exact .tail _ (a5a h)
   ·grind
  ·exact .tail _ (a5a h)
theorem a6v {code:Value}
  (h:∀ h',h'.Ns s.heap.objs.size (λ_=>none)->(∀ b o,s.heap.get? b=some o->h'.get? b=some o)->l8 h' (s.heap.objs.size+1) (j6 (s.heap.objs.size+1) scope.names [])->Q (newEnv scope s.heap.objs.size globals (j6 (s.heap.objs.size+1) scope.names closure) qual func code around builtins) { s with heap:=h' }) :
  wpAny M A (newFunctionEnv scope globals closure [] qual func code around builtins) Q E s:=by
 refine jQ (wpAny_alloc (jQ (wpAny_layCells _ (λ_ _ _=>rfl) scope.names closure _ _ ?_)));have e:=Heap.size_push s.heap { cls:=Value.type (if around.isSome=true then "dict" else "frame"),data:=.dict #[] };have q:=h _ ((Heap.Ns.new s.heap _).keeps (pushCells_keeps _ _)) (λb o h=>pushCells_keeps _ _ _ _ (Heap.get?_push_of_some _ h)) (by
  rw[<- e];exact cellsFrom_ok scope.names _ _ [] ⟨λ_ _ h=>by simp at h,.nil⟩ (dM _))
 rw[<- e]at q;exact jQ (jR (jR q))
end PySem
namespace L2
open PySem PySem.Spec PyProof.Rows
noncomputable def a39 (cap:List (Option Nat)) (σ:St):St:=cap.map λo=>o.bind λj=>(σ[j]?).join
def a2t:St->St->Prop
 | [],[]=>True
 | none::a,_::b=>a2t a b
 | some x::a,y::b=>y=some x/\a2t a b
 | _,_=>False
theorem a4a:∀ {a b:St},a2t a b->a.length=b.length/\∀ (i:Nat) v,a[i]?=some (some v)->b[i]?=some (some v)
 | [],[],_=>⟨rfl,λi v h=>by simp at h⟩
 | none::a,y::b,h=>by
  have c:=a4a (b:=b) h;refine⟨by simp[c.1],λi v e=>?_⟩;cases i with
  | zero=>simp at e
  | succ i=>simpa using c.2 i v (by simp_all)
 | some x::a,y::b,h=>by
  obtain⟨d,h⟩:=(h);have c:=a4a (b:=b) h;refine⟨by simp[c.1],λi v e=>?_⟩;cases i with
  | zero=>rw[d];simpa using e
  | succ i=>simpa using c.2 i v (by simpa using e)
 | [],_::_,h=>dR h
 | none::_,[],h=>dR h
 | some _::_,[],h=>dR h
theorem a21:∀ a:St,a2t a a
 | []=>True.intro
 | none::a=>a21 a
 | some _::a=>⟨rfl,a21 a⟩
noncomputable def capB (N:List Str) (so sc:Scope) (N':List Str) (cap:List (Option Nat)):Bool:=
 decide (sc.kind=.function)&&decide N'.Nodup&&decide (cap.length=N'.length)&&(sc.names.all λy=>decide (y.2=.cell->sc.names.lookup y.1=some .cell)) &&
 (sc.names.all λy=>decide (y.2=.local->sc.names.lookup y.1=some .local)) &&
 (sc.names.all λy=>decide (y.2=.free->so.names.lookup y.1=some .cell\/so.names.lookup y.1=some .free)) &&
 ((N'.zip cap).all λy=>match y.2 with | none=>true | some j=>decide (N[j]?=some y.1)&&decide (sc.names.lookup y.1=some .free))
structure CapOk (N:List Str) (so sc:Scope) (N':List Str) (cap:List (Option Nat)):Prop where
 kind:sc.kind=.function
 nd:N'.Nodup
 len:cap.length=N'.length
 cms:∀ y∈sc.names,y.2=.cell->sc.names.lookup y.1=some .cell
 nms:∀ y∈sc.names,y.2=.local->sc.names.lookup y.1=some .local
 fre:∀ y∈sc.names,y.2=.free->so.names.lookup y.1=some .cell\/so.names.lookup y.1=some .free
 cap:∀ (i:Nat) x j,N'[i]?=some x->cap[i]?=some (some j)->N[j]?=some x/\sc.names.lookup x=some .free
theorem b06 (h:capB N so sc N' cap=true):CapOk N so sc N' cap:=by
 unfold capB at h;simp only[fz,decide_eq_true_eq,fI]at h;obtain⟨⟨⟨⟨⟨⟨f,k⟩,d⟩,g⟩,b⟩,l⟩,e⟩:=h;refine⟨f,k,d,g,b,l,λi x j c a=>?_⟩;have m:(N'.zip cap)[i]?=some (x,some j):=by rw[List.getElem?_zip_eq_some];exact⟨c,a⟩
 have q:=e (x,some j) (er m);simpa using q
end L2
namespace L2
open PySem PySem.Spec PyProof.Rows
structure Lk (fr:List Addr) (ex:Addr->Prop) (h h':Heap):Prop where
 keep:∀ b o,h.get? b=some o->b∉fr->¬ ex b->h'.get? b=some o
 slot:∀ b o,h.get? b=some o->¬ ex b->∃ sl,h'.get? b=some { o with slots:=sl }
 size:h.objs.size≤h'.objs.size
theorem Lk.refl {fr:List Addr}{ex:Addr->Prop}{h:Heap}:Lk fr ex h h:=⟨λ_ _ q _ _=>q,λ_ o q _=>⟨o.slots,q⟩,dM _⟩
theorem Lk.trans {fr:List Addr}{ex ex2:Addr->Prop}{h h1 h2:Heap}(a:Lk fr ex h h1) (b:Lk fr ex2 h1 h2) (i:∀ x,ex2 x->ex x\/h.objs.size≤x):Lk fr ex h h2:=by
 have n:∀ {x o},h.get? x=some o->¬ ex x->¬ ex2 x:=λ{x o} q n z=>by
  rcases i x z with z | z
  ·exact n z
  ·exact absurd (Heap.lt_size q) (Nat.not_lt.mpr z)
 refine⟨λx o q f z=>b.keep x o (a.keep x o q f z) f (n q z),λx o q z=>?_,dW a.size b.size⟩;obtain⟨sl,e⟩:=a.slot x o q z;obtain⟨sl2,e2⟩:=b.slot x _ e (n q z);exact⟨sl2,e2⟩
theorem Lk.funs (k:Lk fr ex h h'):∀ {l:List Env},(∀ b∈frs l,¬ ex b)->h.FunFrames base l->h'.FunFrames base l
 | [],_,_=>True.intro
 | env::rest,hx,⟨hk,⟨L,o,hf,hn,ho,hd⟩,hr⟩=>by
  have a:L∈frs (env::rest):=by show L∈(env::rest).filterMap _;rw[fF,hf];exact .head _
  obtain⟨d,e⟩:=k.slot L o ho (hx L a);exact⟨hk,⟨L,_,hf,hn,e,hd⟩,k.funs (λb c=>hx b (by show b∈(env::rest).filterMap _;rw[fF,hf];exact .tail _ c)) hr⟩
def FlyT (e:Addr) (cls:Value) (T:Addr) (fl:Value) (h:Heap):Prop:=∃ oe vs oT ts,h.get? e=some oe/\(oe.cls=cls/\oe.dict=none)/\oe.data=.fields vs/\vs[1]?=some (.ref T)/\T≠e/\h.get? T=some oT/\oT.data=.fields ts/\ts[3]?=some fl
section
variable {M:Model}{A:Around}{E:Value->Shared->Prop}{s:Shared}{base:Heap}{env:Env}{outer:List Env}{L e T:Addr}{cls fl:Value}{Q:Unit->Shared->Prop}
theorem a5G (f:Array Value->Array Value) (o:Obj):(o.mapFields f).dict=o.dict:=by
 unfold Obj.mapFields
 split<;>rfl
theorem b4h (hfr:A.frames=some (env::outer)) (hl:s.heap.FunFrames base (env::outer)) (hf:env.frame=some L) (he:s.heap.get? e=some oe) (hn0:oe.dict=none) (hd:oe.data=.fields vs) (hz:1<vs.size)
  (q:∀ h' T',Lk (frs (env::outer)) (·=e) s.heap h'->FlyT e oe.cls T' (rawInt L) h'->s.heap.objs.size≤T'->Q () { s with heap:=h' }) :
  wpAny M A (do let a <- frameOf env;let pl <- entryPlaceOf L hn;let b <- EntryCells.newEntry head a .none (rawInt L) .none pl;setField (.ref e) 1 b) Q E s:=by
 have t:e∉frs _:=λD=>by
  obtain⟨_,F,i,C⟩:=hl.mem D;rw[he]at i;cases i;exact C vs hd
 refine jQ (wpAny_frameOf_fun hfr hl hf λc g=>jQ (wpAny_entryPlaceOf λl m=>?_));unfold EntryCells.newEntry;refine jQ ?_;refine kM ?_ (m.sizeOk5 _ _ _ _ _);generalize ht:([head,Value.ref L,.none,rawInt L,.none]++_).toArray=ts;have w:ts[3]?=some (rawInt L):=by rw[<- ht];simp
 have p:=(g.2.1 e t).trans he;have z:=Heap.lt_size p;have j:=fV z;have k:=Heap.get?_push_of_some { cls:=.type "traceback",dict:=none,data:=.fields ts } p;have r:=Obj.data_mapFields hd (·.setIfInBounds 1 (Value.ref c.objs.size));have u:=Heap.get?_update_self _ k (Obj.isFreed_of_fields r);have y:=(Heap.get?_update_other (c.push { cls:=.type "traceback",dict:=none,data:=.fields ts }) (Obj.mapFields (·.setIfInBounds 1 (Value.ref c.objs.size))) (Ne.symm j)).trans (Heap.get?_push_size c rfl);refine kO k hd hz (q _ c.objs.size ?_ ⟨_,_,_,_,u,⟨Obj.cls_mapFields _ _,(a5G _ _).trans hn0⟩,r,by simp[hz],j,y,rfl,w⟩ (fG g.1.symm));have n:∀ b o,b≠e->c.get? b=some o->((c.push { cls:=.type "traceback",dict:=none,data:=.fields ts }).update e (Obj.mapFields (·.setIfInBounds 1 (Value.ref c.objs.size)))).get? b=some o:=λb o d f=>by
  rw[Heap.get?_update_other _ _ (Ne.symm d)];exact Heap.get?_push_of_some _ f
 refine⟨λb o f x d=>n b o d ((g.2.1 b x).trans f),λb o f d=>?_,?_⟩
 ·obtain⟨v,B⟩:=g.2.2 b o f;exact⟨v,n b _ d B⟩
 ·rw[Heap.size_update,<- g.1];exact fw (by simp)
theorem b07 (hT:FlyT e cls T fl s.heap) (q:∀ h',(∀ fr,Lk fr (·=T) s.heap h')->FlyT e cls T x h'->Q () { s with heap:=h' }):wpAny M A (setField (.ref T) 3 x) Q E s:=by
 obtain⟨l,m,oT,ts,r,p,j,k,i,hT,c,t⟩:=hT;have h:=(ib.mp t).1;refine kO hT c h (q _ (λfr=>?_) ?_)
 all_goals have d:∀ b,b≠T->(s.heap.update T (Obj.mapFields (·.setIfInBounds 3 x))).get? b=s.heap.get? b:=λb a=>Heap.get?_update_other _ _ (Ne.symm a)
 all_goals have n:=Heap.get?_update_self (Obj.mapFields (·.setIfInBounds 3 x)) hT (Obj.isFreed_of_fields (Obj.data_mapFields c _))
 ·exact⟨λb o a _ g=>(d b g).trans a,λb o a g=>⟨o.slots,(d b g).trans a⟩,by rw[Heap.size_update];exact dM _⟩
 ·exact⟨l,m,_,_,(d e (Ne.symm i)).trans r,p,j,k,i,n,Obj.data_mapFields c _,by simp[h]⟩
theorem FlyT.field {Q:Value->Shared->Prop}(h:FlyT e cls T fl s.heap) (q:Q (.ref T) s):wpAny M A (field (.ref e) 1) Q E s:=by
 obtain⟨_,_,_,_,a,_,b,c,_⟩:=h;exact lq a b c q
theorem FlyT.mark {Q:Value->Shared->Prop}(h:FlyT e cls T fl s.heap) (q:Q fl s):wpAny M A (PySem.field (.ref T) 3) Q E s:=by
 obtain⟨_,_,_,_,_,_,_,_,_,a,c,b⟩:=h;exact lq a c b q
theorem b08 (hT:FlyT e cls T fl s.heap) (q:∀ h',(∀ fr,Lk fr (·=T) s.heap h')->FlyT e cls T (fo.elim .none λf=>rawInt f) h'->Q () { s with heap:=h' }):wpAny M A (setFlight (.ref e) fo) Q E s:=by
 refine jQ (hT.field ?_);exact b07 hT q
theorem b28 (hfr:A.frames=some (env::outer)) (hl:s.heap.FunFrames base (env::outer)) (hf:env.frame=some L) (he:s.heap.get? e=some oe) (hn0:oe.dict=none) (hd:oe.data=.fields vs) (h1:vs[1]?=some .none)
  (q:∀ h' T',Lk (frs (env::outer)) (·=e) s.heap h'->FlyT e oe.cls T' (rawInt L) h'->s.heap.objs.size≤T'->Q () { s with heap:=h' }):wpAny M A (k7 (.ref e) env) Q E s:=by
 unfold k7;simp only[hf];refine jQ ?_;refine lq he hd h1 ?_;exact b4h hfr hl hf he hn0 hd (ib.mp h1).1 q
theorem b09 (hfr:A.frames=some (env::outer)) (hl:s.heap.FunFrames base (env::outer)) (hf:env.frame=some L) (hT:FlyT e cls T fl s.heap)
  (q:∀ h' T',Lk (frs (env::outer)) (λb=>b=e\/b=T) s.heap h'->FlyT e cls T' (rawInt L) h'->T'=T\/s.heap.objs.size≤T'->Q () { s with heap:=h' }):wpAny M A (k7 (.ref e) env) Q E s:=by
 unfold k7;simp only[hf];refine jQ (hT.field ?_);refine jQ (hT.mark ?_)
 by_cases c:(fl==rawInt L)=true
 ·rw[if_pos c];rw[show fl=rawInt L by simpa using c]at hT;exact jR (q s.heap T .refl hT (.inl rfl))
 ·rw[if_neg c];refine jQ (b07 hT λh a B=>?_);have l:=(a []).funs (λb v z=>by
   obtain⟨_,I,g,u⟩:=hl.mem v;obtain⟨_,_,_,i,_,_,_,_,_,d,j,_⟩:=hT;rw[z,d]at g;cases g;exact u i j) hl
  obtain⟨D,G,F,i,C,p,t,r,H,d,j,J⟩:=B;refine b4h hfr l hf C p.2 t (ib.mp r).1 λy w k f z=>q y w ?_ (p.1▸f) (.inr (dW (a []).size z));have m:Lk (frs (env::outer)) (λb=>b=e\/b=T) s.heap h:=⟨λb o q f n=>(a _).keep b o q f λz=>n (.inr z),λb o q n=>(a []).slot b o q λz=>n (.inr z),(a []).size⟩;exact m.trans k λx z=>.inl (.inl z)
theorem b29 (hfr:A.frames=some (env::outer)) (hl:s.heap.FunFrames base (env::outer)) (hf:env.frame=some L) (he:s.heap.get? e=some oe) (hn0:oe.dict=none) (hd:oe.data=.fields vs) (h1:vs[1]?=some .none)
  (q:∀ h' T',Lk (frs (env::outer)) (·=e) s.heap h'->FlyT e oe.cls T' .none h'->s.heap.objs.size≤T'->Q () { s with heap:=h' }):wpAny M A (l4 env (.ref e)) Q E s:=
 jQ (b28 hfr hl hf he hn0 hd h1 λ_ b k f z=>b08 f λa d c=>q a b (k.trans (d _) λx w=>.inr (by rw[w];exact z)) c z)
theorem b4i (hfr:A.frames=some (env::outer)) (hl:s.heap.FunFrames base (env::outer)) (hf:env.frame=some L) (hT:FlyT e cls T fl s.heap)
  (q:∀ h' T',Lk (frs (env::outer)) (λb=>b=e\/b=T) s.heap h'->FlyT e cls T' .none h'->T'=T\/s.heap.objs.size≤T'->Q () { s with heap:=h' }):wpAny M A (l4 env (.ref e)) Q E s:=
 jQ (b09 hfr hl hf hT λ_ c k f z=>b08 f λa g d=>q a c (k.trans (g _) λx w=>by
  rw[w];rcases z with z | z
  ·exact .inl (.inr z)
  ·exact .inr z) d z)
end
end L2
namespace L2
open PySem PySem.Spec PyProof.Rows
theorem Un.lk (u:Un fs ex0 H0 H h0 h) (v:Lk fr ex h h') (hf:∀ b∈fr,b∈fs\/h0.get? b=none) (hx:∀ b,ex b->b∈ex0\/h0.get? b=none):Un fs ex0 H0 H h0 h':=by
 have g:∀ {b o},h0.get? b=some o->b∉ex0->¬ ex b:=λ{b o} q n z=>by
  rcases hx b z with z | z
  ·grind
  ·grind
 refine⟨λb o q n c a=>?_,λb o q n c a=>?_,u.free,λb o q a=>?_,u.tups,u.frzs,u.tbls⟩
 ·refine v.keep b o (u.keep b o q n c a) (λz=>?_) (g q a);rcases hf b z with z | z
  ·grind
  ·grind
 ·obtain⟨j,f⟩:=u.slot b o q n c a;obtain⟨d,e⟩:=v.slot b _ f (g q a);exact⟨d,e⟩
 ·obtain⟨i,f⟩:=u.there b o q a;obtain⟨d,e⟩:=v.slot b _ f (g q a);exact⟨_,e⟩
theorem Un.gone (u:Un fs ex H0 H h0 h) (n:h.get? b=none):b∈ex\/h0.get? b=none:=by
 cases q:h0.get? b with
 | none=>exact .inr rfl
 | some o=>
  by_cases c:b∈ex
  ·exact .inl c
  ·obtain⟨a,e⟩:=u.there b o q c;rw[n]at e;cases e
theorem Un.gone0 (u:Un fs [] H0 H h0 h) (n:h.get? b=none):h0.get? b=none:=(u.gone n).resolve_left (by simp)
theorem ObjOk.is (x:ObjOk P w H h a o):∃ ob,h.get? a=some ob:=by
 cases o with
 | lst xs=>obtain⟨_,_,_,_,e⟩:=x;exact⟨_,e⟩
 | tup xs=>obtain⟨_,_,_,b,e,_⟩:=x;exact⟨_,e⟩
 | dK kvs=>obtain⟨_,_,_,_,o,_,_,e,_⟩:=x;exact⟨_,e⟩
 | dT kvs=>obtain⟨_,_,_,_,o,_,_,e,_⟩:=x;exact⟨_,e⟩
 | set S n=>obtain⟨o,_,_,_,e,_⟩:=x;exact⟨_,e⟩
 | ins C dx fs=>obtain⟨_,_,_,e,_⟩:=x;exact⟨_,e⟩
 | own y=>obtain⟨_,e⟩:=x;exact⟨_,e⟩
 | xd fs=>obtain⟨_,⟨_,_,_,e,_⟩,_⟩:=x;exact⟨_,e⟩
 | rng lo hi=>obtain⟨_,_,_,e⟩:=x;exact⟨_,e⟩
 | frz b u=>obtain⟨e,_⟩:=x;exact⟨_,e⟩
 | tbl ps=>exact⟨_,x⟩
 | met f y=>exact⟨_,x⟩
 | ext φ=>obtain⟨_,⟨_,e⟩,_⟩:=x;exact⟨_,e⟩
theorem HOk.gone (x:HOk P w H h) (n:h.get? a=none):H a=none:=by
 cases q:H a with
 | none=>rfl
 | some u=>obtain⟨b,e⟩:=(x a u q).is;rw[n]at e;cases e
theorem HOk.lk (x:HOk P w H h) (l:Lk fr ex h h') (hf:∀ b∈fr,H b=none) (he:∀ b,ex b->H b=none):HOk P w H h':=λa o q=>
 (x a o q).stay (λb u c r=>by
  have d:H b≠none:=by
   rcases c with rfl | c
   ·simp_all
   ·simp_all
  exact l.keep b u r (λz=>d (hf b z)) λz=>d (he b z)) (λ_ q=>q) λ_ _ q=>q
structure Fly (N:Addr->Prop) (H:Hp) (fl:Value) (e:Addr) (cls:Value) (h:Heap):Prop where
 at_:∃ T,FlyT e cls T fl h/\N T/\H T=none
 old:N e
 free:H e=none
def CXx (P:jY) (w:World):CXT:=λouter H s E ev s'=>∃ e C H',ev=.ref e/\s'.os=s.os/\ku s'.gens/\Un (frs outer) [] H H' s.heap s'.heap/\HOk P w H' s'.heap/\Fly (λb=>s.heap.get? b=none) H' .none e (.ref C) s'.heap/\E (.ref C) none H'
structure TKs (H H':Hp):Prop where
 tup:∀ b xs,H b=some (.tup xs)->H' b=some (.tup xs)
 frz:∀ b o u,H b=some (.frz o u)->H' b=some (.frz o u)
def since (H:Hp) (E:XK):XK:=λc d H'=>TKs H H'->E c d H'
structure Outs (X:Cx) (E:XK):Prop where
 xe:∀ ev s',wpAny (model X.prog X.w) X.A (l4 X.env ev) (λ_ s''=>CXx X.prog X.w X.outer X.H₀ X.s₀ E ev s'') (λe' s''=>CXx X.prog X.w X.outer X.H₀ X.s₀ E e' s'') s'->X.xe ev s'
 stk:X.stack=X.env::X.outer
 frm:X.env.frame=some X.env.locals
 ex:X.ex=[]
theorem Outs.of {P:jY}{w:World}{K:Fg}{mg:Str->Option Value}{base:Heap}{N:List Str}{qual:Str}{scope:Scope}{f:Addr}{cd:Value}{A:Around}{outer:List Env}{s:Shared}{H:Hp}{E:XK}:Outs (cxOf (CXx P w) P w K mg base N qual scope f cd A outer s H E) E:=⟨λ_ _ h=>h,rfl,rfl,rfl⟩
section
variable {X:Cx}{E:XK}{pins:List (Addr×Obj)}{σ:St}{H:Hp}{s:Shared}
theorem Outs.frames (O:Outs X E) (I:Inv X pins σ H s):X.A.frames=some (X.env::X.outer):=by rw[<- O.stk];exact I.ok.frames
theorem Outs.sub (O:Outs X E) (I:Inv X pins σ H s):∀ b∈frs (X.env::X.outer),b∈X.fs\/X.s₀.heap.get? b=none:=λb a=>by
 rw[<- O.stk]at a;rcases dU.mp (I.stkSub b a) with z | z
 ·rw[z];exact .inr (Heap.get?_none_of_le I.ok.above)
 ·exact .inl z
theorem Outs.funs (O:Outs X E) (I:Inv X pins σ H s):s.heap.FunFrames X.base (X.env::X.outer):=by rw[<- O.stk];exact I.stack
theorem Outs.free (O:Outs X E) (I:Inv X pins σ H s):∀ b∈frs (X.env::X.outer),H b=none:=by rw[<- O.stk];exact I.stkFree
theorem Outs.base (O:Outs X E) (I:Inv X pins σ H s):Un X.fs [] X.H₀ H X.s₀.heap s.heap:=by have:=I.base;rw[O.ex]at this;exact this
theorem Outs.fin (O:Outs X E) (I:Inv X pins σ H s) {e C T:Addr}{ex:Addr->Prop}{h':Heap}(k:Lk (frs (X.env::X.outer)) ex s.heap h') (f:FlyT e (.ref C) T .none h') (hx:∀ b,ex b->X.s₀.heap.get? b=none/\H b=none) (he:ex e) (hT:ex T\/s.heap.objs.size≤T) (q:since X.H₀ E (.ref C) none H) :
  CXx X.prog X.w X.outer X.H₀ X.s₀ E (.ref e) { s with heap:=h' }:=
 ⟨e,C,H,rfl,I.os,I.bare,(O.base I).lk k (O.sub I) (λb hb=>.inr (hx b hb).1),I.hok.lk k (O.free I) λb hb=>(hx b hb).2,⟨⟨T,f,by
  rcases hT with z | z
  ·exact hx T z
  ·exact⟨Heap.get?_none_of_le (dW I.sz z),I.hok.fresh z⟩⟩,(hx e he).1,(hx e he).2⟩,q ⟨I.base.tups,I.base.frzs⟩⟩
theorem b3a (O:Outs X E) (I:Inv X pins σ H s) (hm:Heap.MadeExcOf s.heap h' e (.ref C) vs) (q:since X.H₀ E (.ref C) none H):X.xe (.ref e) { s with heap:=h' }:=by
 obtain⟨t,d,g,_⟩:=hm.there;have a:Inv X pins σ H { s with heap:=h' }:=I.kept hm.keeps;refine O.xe _ _ (b29 (O.frames I) (O.funs a) O.frm d rfl rfl (by simp) λh T l f z=>?_)
 exact O.fin a l f (λb c=>by rw[c];exact⟨(O.base I).gone0 hm.new,I.hok.gone hm.new⟩) rfl (.inr z) q
theorem a1A (O:Outs X E):a2N (CXx X.prog X.w) X (since X.H₀ E):=by
 intro a σ H s t k I ⟨e,C,o,r,i,c,n,g,⟨⟨T,f,m,d⟩,old,fe⟩,q⟩;subst r;have h:=I.call' i n g c λ_ z=>nomatch z;refine O.xe _ _ (b4i (O.frames I) (O.funs h) O.frm f λv u l p z=>?_);refine O.fin h l p (λb j=>?_) (.inl rfl) (by
  rcases z with z | z
  ·simp_all
  ·exact .inr z) q
 rcases j with rfl | rfl
 ·exact⟨(O.base I).gone0 old,fe⟩
 ·exact⟨(O.base I).gone0 m,d⟩
end
end L2
namespace L2
open PySem PySem.Spec PyProof.Rows
def ExC (X:Cx) (E:XK) (C:Addr) (s:Shared) (H:Hp) (fp:List Addr) (ev:Value) (s':Shared):Prop:=
 ∃ e Cl H',ev=.ref e/\s'.os=s.os/\ku s'.gens/\Un (frs X.stack) fp H H' s.heap s'.heap/\HOk X.prog X.w H' s'.heap/\Fly (λb=>b∈fp\/s.heap.get? b=none) H' .none e (.ref Cl) s'.heap/\(∃ m,s'.heap.Ns C m)/\H' C=none/\C≠e/\E (.ref Cl) none H'
def a4b (X:Cx) (EW:XK) (sc:Scope):Prop:=∀ (pins:List (Addr×Obj)) (σ:St) (H:Hp) (s:Shared) (C:Addr) (fp:List Addr) (use:Option (Value->Sem Unit)) (Fin:Value->Shared->Prop) (acc:Value),Inv X pins σ H s->(∀ b∈fp,FpOk X pins H b)->C=s.heap.objs.size ->
 ∀ ev s',ExC X EW C s H fp ev s'->lu (model X.prog X.w) X.A (lb sc (j6 (C+1) sc.names (a1b X.env sc.names [])) C X.env) (λe s''=>mK (model X.prog X.w) X.A X.xe use Fin acc C (.error e) s'') ev s'
theorem a84:a4b X (λ_ _ _=>False) sc:=by
 rintro a σ H s C g d c b _ _ _ e f ⟨_,_,_,_,_,_,_,_,_,_,_,_,q⟩;exact q.elim
end L2
namespace L2
open PySem PySem.Spec PyProof.Rows
noncomputable def cxC (X:Cx) (EW:XK) (N':List Str) (sc:Scope) (C:Addr) (s:Shared) (H:Hp) (fp:List Addr):Cx:=
 { X with N:=N',s₀:=s,H₀:=H,env:=lb sc (j6 (C+1) sc.names (a1b X.env sc.names [])) C X.env,outer:=X.stack,stack:=X.stack,ex:=fp,fn:=λx=>sc.names.lookup x==some .cell,pn:=[],xe:=ExC X EW C s H fp }
def PIfs (X:Cx) (ifs:List Expr) (t:TT):Prop:=
 ∀ (pins:List (Addr×Obj)) (s:Shared) (σ:St) (H:Hp) (Q:Bool->Hp->Prop),Inv X pins σ H s->t σ H Q ->
  wpAny (model X.prog X.w) X.A (forIn ifs true λc r=>if r=true then do let ok <- isTrue c X.env (eval c X.env);pure (ForInStep.yield ok) else pure (ForInStep.yield r)) (TP X pins σ Q) X.xe s
def tTT:TT:=λ_ H Q=>Q true H
theorem b3b:PIfs X [] tTT:=λ_ _ _ H _ I h=>wpAny_tests_nil ⟨H,I,h⟩
theorem b3c (h:PT X c t):PIfs X [c] t:=λa s σ H Q I q=>wpAny_tests_one (h a s σ H Q I q)
def LcB (J:It) (cap:List (Option Nat)) (g:TG) (tt:TT) (te:TE) (σ:St) (Q:VK) (D:Addr) (H1:Hp):Prop:=
 ∃ W:Nat->Nat->List V->Hp->Prop,(∃ m,W 0 m [] (upd H1 D (.lst [])))/\∀ i m ys H2,W i m ys H2 ->
  (J.stop i H2/\Q (.ref D) H2) \/
  (J.go i H2/\∃ N:List V->Hp->Prop,(∀ ys' H',N ys' H'->∃ m',m'<m/\W (i+1) m' ys' H')/\∀ x H',J.yld i H2 x H' ->
   g x (a39 cap σ) H' fun σ2 H3=>a2t (a39 cap σ) σ2/\tt σ2 H3 λb H4=>if b=true then te σ2 H4 λy H5=>∃ zs,H5 D=some (.lst zs)/\zs.length<jS/\N (zs++[y]) (upd H5 D (.lst (zs++[y]))) else N ys H4)
def tLC (wi:TI) (cap:List (Option Nat)) (g:TG) (tt:TT) (te:TE):TE:=fun σ H Q=>wi σ H λJ H1=>∀ D,H1 D=none->LcB J cap g tt te σ Q D H1
structure CFree (X:Cx) (pins:List (Addr×Obj)) (H:Hp) (C:Addr):Prop where
 free:H C=none
 loc:C≠X.env.locals
 old:X.s₀.heap.objs.size≤C
 cell:∀ x c,X.env.cells.lookup x=some c->c≠C
 pin:∀ p∈X.pn++pins,p.1≠C
section
variable {X:Cx}{pins:List (Addr×Obj)}{σ:St}{H:Hp}{s:Shared}{N':List Str}{sc:Scope}{cap:List (Option Nat)}{C:Addr}{fp:List Addr}{EW:XK}
theorem b1a (I:Inv X pins σ H s) (ck:CapOk X.N X.env.scope sc N' cap):∀ x∈sc.names,x.2=.free->∃ c,X.env.cells.lookup x.1=some c:=λx a b=>
 I.ok.has x.1 (ck.fre x a b)
theorem a5X (I:Inv X pins σ H s) (ck:CapOk X.N X.env.scope sc N' cap) (h:(a1b X.env sc.names []).lookup x=some c):X.env.cells.lookup x=some c:=
 a2r sc.names [] (b1a I ck) (λy c h=>by simp at h) c h
theorem b1b (h:(j6 n sc.names acc).lookup x=some c):(j6 n sc.names []).lookup x=some c\/((j6 n sc.names []).lookup x=none/\acc.lookup x=some c):=by
 rw[a1D,ic]at h;cases e:(j6 n sc.names []).lookup x with
 | none=>rw[e]at h;exact .inr ⟨rfl,h⟩
 | some d=>rw[e]at h;exact .inl h
theorem a6w (I:Inv X pins σ H s) (ck:CapOk X.N X.env.scope sc N' cap) (co:l8 h₁ n (j6 n sc.names [])) (h:(j6 n sc.names (a1b X.env sc.names [])).lookup x=some c):(h₁.IsCell c none/\n≤c)\/X.env.cells.lookup x=some c:=by
 rcases b1b h with h | ⟨_,h⟩
 ·exact .inl (co.empty _ _ (PySem.mem_of_lookup h))
 ·exact .inr (a5X I ck h)
theorem b1c (env:Env) (x:Str):(lb sc cl C env).kindOf x=(sc.names.lookup x).map λk=>if (k==j3.free&&env.scope.kind==.function&&env.kindOf x==some .cell)=true then j3.cell else k:=
 a3k sc.names
theorem a19 {l:List (Str×j3)}(h:l.lookup x=some k):(x,k)∈l:=PySem.mem_of_lookup h
theorem b9E (I:Inv X pins σ H s) (ck:CapOk X.N X.env.scope sc N' cap) (hf:∀ b∈fp,FpOk X pins H b) (hlt:∀ b∈fp,b<s.heap.objs.size) (hC:C=s.heap.objs.size) (co:l8 h₁ (C+1) (j6 (C+1) sc.names [])):(cxC X EW N' sc C s H fp).Ok:=by
 have cl:∀ {x:Str}{c:Addr},(j6 _ sc.names _).lookup x=some c->_\/X.env.cells.lookup x=some c:=λh=>a6w I ck co h;have j:∀ {x:Str}{c:Addr},X.env.cells.lookup x=some c->c<C:=λe=>by
  obtain⟨v,q⟩:=I.cell _ _ e;rw[hC];exact q.lt
 refine⟨I.ok.mod,ck.kind,I.ok.glob,I.ok.blt,by rw[hC];exact dM _,λx y c t g=>?_,λx m=>?_,λx c h g=>?_,I.ok.hd,I.ok.frames,.inl rfl,λb a=>⟨?_,λx c h=>?_⟩,I.bs,dW I.ok.bsz I.sz,λb o e a=>?_,λb a r=>?_,I.stack,I.stkFree⟩
 ·rcases b1b t with a1 | ⟨_,a1⟩<;>rcases b1b g with a2 | ⟨_,a2⟩
  ·exact name_of_addr co.apart (PySem.mem_of_lookup a1) (PySem.mem_of_lookup a2)
  ·exact absurd (eA (j (a5X I ck a2)) (gg (co.empty _ _ (PySem.mem_of_lookup a1)).2)) (eM _)
  ·exact absurd (eA (j (a5X I ck a1)) (gg (co.empty _ _ (PySem.mem_of_lookup a2)).2)) (eM _)
  ·exact I.ok.inj x y c (a5X I ck a1) (a5X I ck a2)
 ·have f:(sc.names.lookup x).map (λk=>if (k==j3.free&&X.env.scope.kind==.function&&X.env.kindOf x==some .cell)=true then j3.cell else k)=some .cell \/
    (sc.names.lookup x).map (λk=>if (k==j3.free&&X.env.scope.kind==.function&&X.env.kindOf x==some .cell)=true then j3.cell else k)=some .free:=by
   rw[<- b1c X.env x];exact m
  show ∃ c,(j6 _ sc.names _).lookup x=some c
  cases e:sc.names.lookup x with
  | none=>rw[e]at f;rcases f with z | z<;>cases z
  | some k=>
   have p:=a19 e;rw[a1D,ic];cases e2:(j6 _ sc.names []).lookup x with
   | some d=>exact⟨d,rfl⟩
   | none=>
    by_cases hk:k=.free
    ·subst hk;exact a3b sc.names [] p
    ·rw[e]at f;have a:(k==j3.free)=false:=by simpa using hk
     simp only[gH,a,eY.injEq]at f;rcases f with z | z
     ·subst z;obtain⟨d,i⟩:=a4T e;rw[i]at e2;cases e2
     ·exact absurd z hk
 ·have e:sc.names.lookup x=some .cell:=by
   have h:(sc.names.lookup x==some .cell)=true:=h;simpa using h
  obtain⟨d,i⟩:=a4T e;have g:(j6 _ sc.names _).lookup x=some c:=g;rw[a1D,ic,i]at g;cases g;exact dW (fG hC.symm) (gg (co.empty _ _ (PySem.mem_of_lookup i)).2)
 ·show b≠C
  rw[hC];exact ei (hlt b a)
 ·rcases cl h with ⟨_,z⟩ | z
  ·exact λe=>absurd (eA (hlt b a) (dW (fG hC.symm) (e▸gg z))) (eM _)
  ·exact (hf b a).2.2.2.2.1 x c z
 ·obtain⟨_,_,_,z,_⟩:=hf b a;rcases z with z | z
  ·exact I.ok.noex b o e z
  ·exact absurd (eA (Heap.lt_size e) (dW I.ok.bsz z)) (eM _)
 ·rcases dU.mp (I.stkSub b r) with z | z
  ·exact (hf b a).2.1 z
  ·exact (hf b a).2.2.1 z
theorem b7c (I:Inv X pins σ H s) (ck:CapOk X.N X.env.scope sc N' cap) (hf:∀ b∈fp,FpOk X pins H b) (hlt:∀ b∈fp,b<s.heap.objs.size) (hC:C=s.heap.objs.size)
  (hn:h₁.Ns C m) (co:l8 h₁ (C+1) (j6 (C+1) sc.names [])) (hk:∀ b o,s.heap.get? b=some o->h₁.get? b=some o):Inv (cxC X EW N' sc C s H fp) [] (a39 cap σ) H { s with heap:=h₁,toks:=t' }:=by
 refine⟨b9E I ck hf hlt hC co,rfl,I.bare,Un.kept hk,⟨m,hn,λi x v F a T=>?_⟩,λx c h=>?_,?_,λx c h=>?_,λp G=>absurd (show p∈([]) from G) (by simp),I.hok.kept hk,?_⟩
 ·have B:=F;unfold a39 at a;rw[dQ]at a;cases ec:cap[i]? with
  | none=>rw[ec]at a;cases a
  | some o=>
   rw[ec]at a;cases o with
   | none=>simp at a
   | some j=>
    have e:(σ[j]?).join=some v:=by simpa using a
    have t:σ[j]?=some (some v):=by
     cases q:σ[j]? with
     | none=>rw[q]at e;cases e
     | some w=>rw[q]at e;rw[show w=some v from e]
    obtain⟨L,g⟩:=ck.cap i x j B ec;have n:=ck.fre _ (a19 g) rfl;obtain⟨S,_,M⟩:=I.loc;obtain⟨u,E,Q⟩:=M j x v L t (.inr n);refine⟨u,E,.inr ⟨?_,?_⟩⟩
    ·show (lb sc _ C X.env).kindOf x=some .cell\/(lb sc _ C X.env).kindOf x=some .free
     rw[b1c,g];simp only[gH,beq_self_eq_true,e9]
     by_cases hc:(X.env.scope.kind==ScopeKind.function&&X.env.kindOf x==some j3.cell)=true
     ·simp_all
     ·rw[if_neg hc];exact .inr rfl
    ·obtain⟨D,l⟩:=a3b sc.names [] (a19 g);have J:=a5X I ck l;rcases Q with ⟨k,_⟩ | ⟨_,c,ec',z⟩
     ·have R:X.env.scope.names.lookup x=some .local:=k;have f:=n;rw[R]at f;rcases f with q | q<;>cases q
     ·rw[J]at ec';cases ec';obtain⟨y,A,r⟩:=z;refine⟨D,?_,y,hk _ _ A,r⟩
      show (j6 (C+1) sc.names _).lookup x=some D
      rw[a1D,ic,l];cases a:(j6 (C+1) sc.names []).lookup x with
      | none=>rfl
      | some d=>
       have:=ck.cms _ (a5a (PySem.mem_of_lookup a)) rfl
       rw[g]at this;cases this
 ·rcases a6w I ck co h with ⟨z,_⟩ | z
  ·grind
  ·obtain⟨v,y,A,r⟩:=I.cell x c z;exact⟨v,y,hk _ _ A,r⟩
 ·show H C=none
  rw[hC];exact I.hok.fresh (dM _)
 ·rcases a6w I ck co h with ⟨_,z⟩ | z
  ·exact I.hok.fresh (dW (fG hC.symm) (gg z))
  ·exact I.freeC x c z
 ·show (a39 cap σ).length=N'.length
  unfold a39;rw[dJ];exact ck.len
theorem b5f (I:Inv X pins σ H s) (hf:∀ b∈fp,FpOk X pins H b) (J:Inv (cxC X EW N' sc C s H fp) pins' σ' H' s'):Inv X pins σ H' s':=
 I.call' J.os J.base J.hok J.bare λb a=>⟨(hf b a).2.2.2.1,(hf b a).2.1,(hf b a).2.2.2.2.1,(hf b a).2.2.2.2.2⟩
theorem b3d (I:Inv X pins σ H s) (hC:C=s.heap.objs.size) (J:Inv (cxC X EW N' sc C s H fp) pins' σ' H' s'):CFree X pins H' C:=by
 refine⟨J.free,by rw[hC];exact fV I.lt,by rw[hC];exact I.sz,λx c e z=>?_,λp a z=>?_⟩
 ·obtain⟨v,q⟩:=I.cell x c e;exact absurd q.lt (by simp_all)
 ·exact absurd (Heap.lt_size (I.pin p a).1) (by simp_all)
theorem CFree.after (F:CFree X pins H C) (I:Inv X pins σ H s) (k:∀ b o,b≠C->s.heap.get? b=some o->h'.get? b=some o):Inv X pins σ H { s with heap:=h',toks:=t' }:=
 I.turned k F.free F.loc (.inr F.old) F.cell F.pin
end
section
variable {X:Cx}{elt tg iter:Expr}{ifs:List Expr}{sc:Scope}{pos:Pos}{wi:TI}{g:TG}{tt:TT}{te:TE}{N':List Str}{cap:List (Option Nat)}{EW:XK}
theorem b1d (hc:X.calm=true) (hE:a4b X EW sc) (ck:CapOk X.N X.env.scope sc N' cap) (hi:PI X tg iter wi)
    (hg:∀ C s H fp,PG (cxC X EW N' sc C s H fp) tg g) (ht:∀ C s H fp,PIfs (cxC X EW N' sc C s H fp) ifs tt) (he:∀ C s H fp,PE (cxC X EW N' sc C s H fp) elt te)
    (hs:∀ x,kK iter X.env x=pure x) {Fin:Value->Shared->Prop}
 (I:Inv X pins σ H s) (h:tLC wi cap g tt te σ H Q)
    (fin:∀ D s' C m H',Inv X pins σ H' s'->Q (.ref D) H'->s'.heap.Ns C m->CFree X pins H' C->mK (model X.prog X.w) X.A X.xe use Fin (.ref D) C (.ok .next) s') :
    wpAny (model X.prog X.w) X.A (comprehension (.ListComp elt [⟨tg,iter,ifs,0⟩] sc pos) sc X.env pos' (newList []) false (eval iter X.env) use) Fin X.xe s:=by
  refine wpAny_comprehension_free rfl hs (a6u (b1a I ck)) ck.kind ck.nms ?_;refine thn (hi pins s σ H _ I h) λv s1 h1=>thn h1 λitv j h2=>?_;obtain⟨it,f,tn,J,H2,e,I2,T,st2,f2,h2⟩:=h2;subst e;have hD:=I2.hok.fresh (dM _);obtain⟨W,⟨m0,w0⟩,turn⟩:=h2 j.heap.objs.size hD;refine kM ?_;have t:=I2.lnew (t':=j.toks) .nil (eI _);generalize hs3:({ j with heap:=j.heap.push { cls:=.type "list",data:=.seq ([]:List Value).toArray } }:Shared)=s3 at t;generalize hH3:upd H2 j.heap.objs.size (.lst [])=H3 at t w0;have ac:∀ b∈f,b<j.heap.objs.size:=λb a=>by
    obtain⟨o,e,_⟩:=T.obj _ _ st2 b a;exact Heap.lt_size e
  have sz3:s3.heap.objs.size=j.heap.objs.size+1:=by rw[<- hs3];exact Heap.size_push _ _
  have L:∀ b∈f,b<s3.heap.objs.size:=λb a=>by rw[sz3];exact fM (ac b a)
  have B:∀ b∈f,FpOk X pins H3 b:=λb a=>by
    refine⟨?_,(f2 b a).2⟩;rw[<- hH3,a0w (ei (ac b a))];exact (f2 b a).1
  have st3:tn 0 s3.heap:=T.keep _ _ _ st2 λb _ o e=>by rw[<- hs3];exact Heap.get?_push_of_some _ e
  refine a6v λh₁ hns₁ hk co=>?_;have I4:=b7c (EW:=EW) (t':=s3.toks) t ck B L rfl hns₁ co hk;generalize hs4:({ s3 with heap:=h₁,toks:=s3.toks }:Shared)=s4 at I4 ⊢;have st4:tn 0 s4.heap:=T.keep _ _ _ st3 λb _ o e=>by rw[<- hs4];exact hk b o e
  have G:∀ {k:Hp}{l:List (Addr×Obj)},(∀ p∈l,p.1∉f)->(∀ b∈f,k b=none)->∀ b∈f,FpOk (cxC X EW N' sc s3.heap.objs.size s3 H3 f) l k b:=λ{k l} E hn b a=>
    ⟨hn b a,ei (L b a),λz=>by
      rcases dU.mp (t.stkSub b z) with z | z
      · exact (B b a).2.1 z
      · exact (B b a).2.2.1 z,.inl a,λx c e=>by
        rcases a6w t ck co e with ⟨_,z⟩ | z
        · exact λe=>absurd (eA (L b a) (e▸gg z)) (eM _)
        · exact (B b a).2.2.2.2.1 x c z,λp hp' z=>E p hp' (by rw[z];exact a)⟩
  have hx:=hE pins σ H3 s3 s3.heap.objs.size f use Fin (.ref j.heap.objs.size) t B rfl;have ab:kl (model X.prog X.w) X.A (.compLoop (.ListComp elt [⟨tg,iter,ifs,0⟩] sc pos) 0 (.ref it) (.ref j.heap.objs.size) (lb sc (j6 (s3.heap.objs.size+1) sc.names (a1b X.env sc.names [])) s3.heap.objs.size X.env))
      (mK (model X.prog X.w) X.A X.xe use Fin (.ref j.heap.objs.size) s3.heap.objs.size) s4:=by
    refine a3q (λn s'=>∃ i ys σ' k,Inv (cxC X EW N' sc s3.heap.objs.size s3 H3 f) [] σ' k s'/\a2t (a39 cap σ) σ'/\tn i s'.heap/\(∀ b∈f,k b=none)/\W i n ys k) ?_ m0
      ⟨0,[],a39 cap σ,H3,I4,a21 _,st4,λb a=>(B b a).1,w0⟩
    rintro n s5 ⟨i,ys,σ5,H5,I5,k5,st5,fr5,w5⟩;have kk:=a4a k5;have I5:=I5.weak kk.1 kk.2;rcases turn i n ys H5 w5 with ⟨stop,q⟩ | ⟨go,N,hN,step⟩
    · refine thn (T.done (cxC X EW N' sc s3.heap.objs.size s3 H3 f) rfl rfl rfl hc i [] s5 _ H5 _ I5 (G (λp E=>by cases E) fr5) st5 stop) λr s6 ⟨hr,I6⟩=>?_
      subst hr;obtain⟨m6,n6,_⟩:=I6.loc;exact fin _ s6 _ m6 H5 (b5f t B I6) q n6 (b3d t rfl I6)
    · refine thn (T.item (cxC X EW N' sc s3.heap.objs.size s3 H3 f) rfl rfl rfl hc i [] s5 _ H5 _ I5 (G (λp E=>by cases E) fr5) st5 go) λr s6 ⟨u,hr,h6⟩=>?_
      subst hr;refine thn h6 λ_ s7 ⟨x,H7,I7,r7,y7,aa,fr7⟩=>?_;have I7':=I7.pinned (G (λp E=>by cases E) fr7) (T.obj _ _ aa);have R:∀ {σ9:St}{F:Hp}{U:Shared}{M:List V},Inv (cxC X EW N' sc s3.heap.objs.size s3 H3 f) ([]++a80 f s7.heap) σ9 F U->a2t (a39 cap σ) σ9->N M F ->
          ∃ m,m<n/\∃ i ys σ' k,Inv (cxC X EW N' sc s3.heap.objs.size s3 H3 f) [] σ' k U/\a2t (a39 cap σ) σ'/\tn i U.heap/\(∀ b∈f,k b=none)/\W i m ys k:=λ{σ9 F U M} Y k9 n9=>by
        obtain⟨m',hm,w9⟩:=hN M F n9;refine⟨m',hm,i+1,M,σ9,F,Y.unpinned,k9,T.keep _ _ _ aa λb a o e=>(Y.pin (b,o) (eT _ (eT _ (a3a a e)))).1,λb a=>?_,w9⟩;obtain⟨o,e,d⟩:=T.obj _ _ aa b a;exact (Y.pin (b,o) (eT _ (eT _ (a3a a e)))).2.1
      refine j7 (hg _ _ _ _ _ s7 _ H7 x u _ I7' r7 (step x H7 y7)) (λ_ s8 ⟨σ8,H8,I8,k8,q8⟩=>?_) hx;refine j7 (ht _ _ _ _ _ s8 σ8 H8 _ I8 q8) (λb U ⟨F,Y,q9⟩=>?_) hx;cases b with
      | false=>
        rw[if_neg eN]at q9 ⊢;exact R Y k8 q9
      | true=>
        rw[if_pos rfl]at q9 ⊢;refine j7 (he _ _ _ _ _ U σ8 F _ Y q9) (λy s10 ⟨vy,H10,I10,r10,zs,hacc,hsz,q10⟩=>?_) hx;refine j7 (a7i (X:=cxC X EW N' sc s3.heap.objs.size s3 H3 f) _ s10 σ8 H10 (.ref j.heap.objs.size) [vy] (.ref j.heap.objs.size) [y] (λ_ k=>N (zs++[vy]) k) I10 rfl (.cons r10 .nil) ⟨_,zs,vy,rfl,rfl,hacc,hsz,q10⟩) (λ_ s11 ⟨_,H11,I11,_,q11⟩=>?_) hx;exact R I11 k8 q11
  exact codeAny_compStart_list ab (T.self _ 0 _ _ _ st4 ab)
theorem b7d (hc:X.calm=true) (hE:a4b X EW sc) (hNN:X.N=N₀) (hso:X.env.scope=so) (ck:capB N₀ so sc N' cap=true) (hi:PI X tg iter wi)
  (hg:∀ C s H fp,PG (cxC X EW N' sc C s H fp) tg g) (ht:∀ C s H fp,PIfs (cxC X EW N' sc C s H fp) ifs tt) (he:∀ C s H fp,PE (cxC X EW N' sc C s H fp) elt te)
  (hs:∀ x,kK iter X.env x=pure x:=by intro _;rfl):PE X (.ListComp elt [⟨tg,iter,ifs,0⟩] sc pos) (tLC wi cap g tt te):=by
 intro f s σ H Q I h;subst hNN hso;refine b1d hc hE (b06 ck) hi hg ht he hs I h λD d C m i c q k F=>?_;exact⟨m,k,λl a=>⟨.ref D,i,F.after c (λb o j e=>a.extBut b o j e),rfl,q⟩⟩
theorem b3e (hN:X.N.Nodup) (hx:X.N[i]?=some x) (hl:X.env.scope.names.lookup x=some .local) (hc:X.calm=true) (hE:a4b X EW sc) (hNN:X.N=N₀) (hso:X.env.scope=so) (ck:capB N₀ so sc N' cap=true) (hi:PI X tg iter wi)
  (hg:∀ C s H fp,PG (cxC X EW N' sc C s H fp) tg g) (ht:∀ C s H fp,PIfs (cxC X EW N' sc C s H fp) ifs tt) (he:∀ C s H fp,PE (cxC X EW N' sc C s H fp) elt te)
  (hsw:kD (.ListComp elt [⟨tg,iter,ifs,0⟩] sc pos) (some (.Name x pos')) spos.line X.env=pure true:=by rfl)
  (hs:∀ x,kK iter X.env x=pure x:=by intro _;rfl):PS X (.Assign [.Name x pos'] (.ListComp elt [⟨tg,iter,ifs,0⟩] sc pos) spos) (tAsg (tLC wi cap g tt te) (b0G i)):=by
 subst hNN hso;intro f s σ H D I h;rw[exec_Assign_Name_used _ _ _ _ hsw];refine jQ (mz (jQ ?_));refine jQ (j7 (b1d hc hE (b06 ck) hi hg ht he hs I h λd c C m w t q E F=>?_) (λ_ c u=>jR (jR u)) λ_ _ e=>e);refine wpAny_assign_Name (a68 t hN hx (.inl hl) (v:=.ref d) rfl (λj n y=>?_) (.inr hl));obtain⟨a,p,r⟩:=y;have l:C≠a:=by
  rcases r with z | z
  ·rw[z];exact F.loc
  ·exact Ne.symm (F.cell _ _ z)
 exact⟨m,E.sameBut p l,λG k=>⟨_,w,F.after n (λb o B e=>k.extBut b o B e),q⟩⟩
end
end L2
namespace L2
open PySem PySem.Spec PyProof.Rows
section
variable {X:Cx}{st:Stmt}{rest:List Stmt}{t u:TS}{e:Expr}{te:TE}{tt:TT}
end
end L2
namespace L2
open PySem PySem.Spec PyProof.Rows
mutual
def DV (H:Hp):PyData->V->Prop
 | .none,x=>x=.non
 | .bool b,x=>x=.bl b
 | .int i,x=>x=.int i
 | .str s,x=>x=.str s
 | .list ds,x=>∃ a vs,x=.ref a/\H a=some (.lst vs)/\DVs H ds vs
 | .tuple ds,x=>∃ a vs,x=.ref a/\H a=some (.tup vs)/\DVs H ds vs
 | .dict _,_=>False
def DVs (H:Hp):List PyData->List V->Prop
 | [],vs=>vs=[]
 | d::ds,vs=>∃ v r,vs=v::r/\DV H d v/\DVs H ds r
end
mutual
theorem DV.reads {P:jY}{w:World}{H:Hp}{h:Heap}(ok:HOk P w H h):∀ {d:PyData}{x:V}{u:Value},DV H d x->RelV x u->∃ as,Reads h u d as
 | .none,x,u,q,r=>by
  unfold DV at q;subst q;cases (show u=Value.none from r);exact⟨_,.none⟩
 | .bool b,x,u,q,r=>by
  unfold DV at q;subst q;cases (show u=Value.bool b from r);exact⟨_,.bool b⟩
 | .int i,x,u,q,r=>by
  unfold DV at q;subst q;obtain⟨t,e⟩:=(show ∃ t,u=Value.int i t from r);subst e;exact⟨_,.int i t⟩
 | .str s,x,u,q,r=>by
  unfold DV at q;subst q;obtain⟨t,e⟩:=(show ∃ t,u=Value.str s t from r);subst e;exact⟨_,.str s t⟩
 | .list ds,x,u,q,r=>by
  unfold DV at q;obtain⟨a,vs,e,ha,q⟩:=q;subst e;cases (show u=Value.ref a from r);obtain⟨_,its,n,rv,e⟩:=ok a _ ha;obtain⟨as,rd⟩:=DVs.reads ok q rv;exact⟨_,.list e rfl rfl (by simpa using rd)⟩
 | .tuple ds,x,u,q,r=>by
  unfold DV at q;obtain⟨a,vs,e,ha,q⟩:=q;subst e;cases (show u=Value.ref a from r);obtain⟨_,its,rv,o,e,c,n,d⟩:=ok a _ ha;obtain⟨as,rd⟩:=DVs.reads ok q rv;exact⟨_,.tuple e c d (by simpa using rd)⟩
 | .dict _,x,u,q,r=>by unfold DV at q;exact q.elim
theorem DVs.reads {P:jY}{w:World}{H:Hp}{h:Heap}(ok:HOk P w H h):∀ {ds:List PyData}{vs:List V}{us:List Value},DVs H ds vs->Vals vs us->∃ as,ReadsAll h us ds as
 | [],vs,us,q,r=>by
  unfold DVs at q;subst q;cases r;exact⟨_,.nil⟩
 | d::ds,vs,us,q,r=>by
  unfold DVs at q;obtain⟨v,rr,e,q1,q2⟩:=q;subst e;cases r with
  | cons r1 r2=>
   obtain⟨as,h1⟩:=DV.reads ok q1 r1;obtain⟨bs,h2⟩:=DVs.reads ok q2 r2;exact⟨_,.cons h1 h2⟩
end
def rEqD:R2:=λx y H Q=>∃ d e,DV H d x/\DV H e y/\SeqAt.shaped d=true/\SeqAt.shaped e=true/\Q (.bl (PyData.eqv d e)) H
def rNeD:R2:=λx y H Q=>∃ d e,DV H d x/\DV H e y/\SeqAt.shaped d=true/\SeqAt.shaped e=true/\Q (.bl (!PyData.eqv d e)) H
section
variable {X:Cx}
theorem b7e (hu:X.A.units+66<cLine):OpR X (j5 .Eq) rEqD:=by
 intro i s σ H x y v u Q I g k h;obtain⟨d,e,b,f,l,a,q⟩:=h;obtain⟨m,j⟩:=b.reads I.hok g;obtain⟨n,c⟩:=f.reads I.hok k;exact eq_dataH j c l a (by omega) ⟨.bl _,H,I,rfl,q⟩
theorem b7f (hu:X.A.units+66<cLine):OpR X (j5 .NotEq) rNeD:=by
 intro b s σ H x y v u Q I j c h;obtain⟨d,e,a,g,l,i,q⟩:=h;obtain⟨n,f⟩:=a.reads I.hok j;obtain⟨m,k⟩:=g.reads I.hok c;exact ne_dataH f k l i (by omega) ⟨.bl _,H,I,rfl,q⟩
def b7g (_ j:Int):Prop:=0<j/\j<2 ^ 64
theorem b3f:OpR X (kb .FloorDiv) (rI b7g λi j=>.int (i / j)):=opI λi j _ _ _ _ _ a q=>by
 have c:(0:Int)<j:=a.1;have d:j<2 ^ 64:=a.2;refine floordiv_int (by omega) ?_ (.inl (PyProof.noPylong_of_log2 ?_))
 ·rw[Int.fdiv_eq_ediv_of_nonneg i (by omega)];exact q
 ·have b:j.natAbs<2 ^ 64:=by omega
  have e:=(Nat.log2_lt (by omega)).mpr b;omega
def rIsT (K:Fg):List V->Hp->VK->Prop:=λxs H Q=>∃ x T t b,xs=[x,.ty T]/\TyOf K H x t/\PySem.W.kitOne K t (.type T)=some b/\Q (.bl b) H
theorem b3g:CallR X (.builtin "isinstance") (rIsT X.K):=by
 intro c s σ H j k Q I r h;obtain⟨x,T,t,b,rfl,i,e,q⟩:=h;obtain⟨u,g,rfl,f,a⟩:=a9U r;cases (a);exact b0U I f i e λd=>⟨.bl b,H,I.tok d,rfl,q⟩
end
end L2
namespace L2
open PySem PySem.Spec PyProof.Rows
abbrev veM:List Value:=[.type "ValueError",.type "Exception",.type "BaseException",.type "object"]
theorem b7h {K:Fg}(q:PySem.W.excIn K C veM "ValueError.__new__"=true):∃ bm N nm qn bs hd sn sub ab col dd k0 k1 k2 k3 k5,K.lookup C=some (excClassObj nm qn C N bs bm hd sn sub ab col dd k0 k1 k2 k3 k5 "ValueError.__new__") /\
  PySem.W.nsOkIn K N=true/\PySem.W.nsIn K N "__init__"=some none/\PySem.W.tailIn K veM bm=true:=by
 unfold PySem.W.excIn at q
 split at q
 ·rename_i dd cd sl ho
  split at q
  ·rename_i C2 bm k0 k1 k2 k3 nw k5 hm hs
   simp at q;obtain⟨⟨⟨⟨⟨p,k⟩,e⟩,g⟩,b⟩,d⟩:=q;subst p k;obtain⟨r,h,t,m,o,i,n,a,j,c,s⟩:=cd;subst hm e;have f:sl=#[k0,k1,k2,k3,some (.builtin "ValueError.__new__"),k5]:=by
    cases sl with
    | mk l=>dsimp only at hs;rw[hs]
   subst f;exact⟨bm,m,r,o,h,i,n,a,j,c,dd,k0,k1,k2,k3,k5,ho,b,d,g⟩
  ·cases q
 ·cases q
section
variable {X:Cx}{E:XK}
theorem b3h (O:Outs X E) (hc:X.calm=true) (hg:Gl X x) (hm:X.mg x=some (.ref C)) (hq:PySem.W.excIn X.K C veM "ValueError.__new__"=true) (he:PE X e0 te)
  (hs:jU [e0] X.env=(false,eval e0 X.env)::jU [] X.env:=by rfl) (hp:(backTo cpos (jU [] X.env)).any (·.1)=false:=by rfl) (hd:(x==("__debug__":Str))=false:=by decide) :
  PS X (.Raise (some (.Call (.Name x np) [e0] [] cpos)) none pos) (λ_ σ H=>te σ H λ_ H1=>since X.H₀ E (.ref C) none H1):=by
 intro d s σ H D I h;obtain⟨bm,N,nm,qn,bs,k,sn,sub,ab,col,dd,k0,k1,k2,k3,k5,hC,u,z6,z4⟩:=b7h hq;have B:=I.mod.kin;have hN:X.base.Ns N (X.base.nsMap N):=.of_isNs (PySem.W.isNs_of_in B u);have hi:=PySem.W.nsMap_none_of_in B u z6;have T:=PySem.W.tail_of_in B z4;refine wpAny_Raise_call_subT (nm:=nm) (q:=qn) (N:=N) (bs:=bs) (hdct:=k) (sn:=sn) (sub:=sub) (ab:=ab) (col:=col) (dd:=dd) (k0:=k0) (k1:=k1) (k2:=k2) (k3:=k3) (k5:=k5) PySem.F.excBase_ValueError (T.hasType (by decide)) (I.ok.hd hc)
  (by rw[hs];show (false||(backTo cpos _).any (·.1))=false;rw[hp];rfl) hi (a38 I hg hm ⟨rfl,?_⟩ hd)
 rw[hs];refine Calls.evalArgs_plain (Calls.spliced_cons (thn (he d s σ H _ I h) λv s2 ⟨y,H2,a,_,q2⟩=>Calls.spliced_nil ⟨rfl,fw (a0r (ja rfl)),a.bk _ _ (B _ _ hC),hN.keeps a.bk,T.keeps a.bk,λh' e hm=>b3a O a hm q2⟩))
end
end L2
namespace L2
open PySem PySem.Spec PyProof.Rows
theorem a7l (h:env.frame=env'.frame):k7 e env=k7 e env':=by
 unfold k7 PySem.frameOf;rw[h]
theorem a4x {h:Heap}(n:h.Ns a m) (e:h.get? a=some o) (d:o.data=.fields vs):False:=by
 obtain⟨i,g,f,c,b,_⟩:=n;rw[e]at c;cases c;rw[d]at b;cases b
section
variable {X:Cx}{E:XK}
theorem b1e {sc:Scope}(O:Outs X E):a4b X (since X.H₀ E) sc:=by
 rintro pins σ H s C fp use Fin acc I hfp hC ev s' ⟨e,Cl,H',e1,os,bare,un,hok,⟨⟨T,f,nT,fT⟩,ne,fe⟩,⟨m,hm⟩,fC,_,q⟩;subst e1;have I2:Inv X pins σ H' s':=I.call' (ch:=fp) os un hok bare λb hb=>⟨(hfp b hb).2.2.2.1,(hfp b hb).2.1,(hfp b hb).2.2.2.2.1,(hfp b hb).2.2.2.2.2⟩;have old:∀ b,b∈fp\/s.heap.get? b=none->X.s₀.heap.get? b=none:=λb hb=>by
  rcases hb with hb | hb
  ·rcases (hfp b hb).2.2.2.1 with z | z
   ·rw[O.ex]at z;cases z
   ·exact Heap.get?_none_of_le z
  ·exact (O.base I).gone0 hb
 have oC:X.s₀.heap.get? C=none:=Heap.get?_none_of_le (by rw[hC];exact I.sz);have frC:∀ b∈frs (X.env::X.outer),b≠C:=λb hb z=>by
  obtain⟨_,ob,hob,_⟩:=(O.funs I).mem hb
  have:=Heap.lt_size hob
  rw[z,hC]at this;exact eM _ this
 have hx:∀ b,(b=e\/b=T)\/b=C->X.s₀.heap.get? b=none/\H' b=none:=λb hb=>by
  rcases hb with (rfl | rfl) | rfl
  ·exact⟨old _ ne,fe⟩
  ·exact⟨old _ nT,fT⟩
  ·exact⟨oC,fC⟩
 have frx:∀ {h:Heap},h.FunFrames X.base (X.env::X.outer)->∀ {b:Addr}{o:Obj}{vs:Array Value},h.get? b=some o->o.data=.fields vs->b∉frs (X.env::X.outer):=λ{h} hl {b o vs} h1 h2 hb=>by
  obtain⟨_,ob,hob,no⟩:=hl.mem hb;rw[h1]at hob;cases hob;exact no vs h2
 obtain⟨oe,vs,oT,ts,g1,g2,g3,g4,g5,g6,g7,g8⟩:=f;have eC:e≠C:=λz=>by rw[z]at g1;exact a4x hm g1 g3
 have TC:T≠C:=λz=>by rw[z]at g6;exact a4x hm g6 g7
 have ef:=frx (O.funs I2) g1 g3;have Tf:=frx (O.funs I2) g6 g7;have hlC:C<s'.heap.objs.size:=hm.lt;unfold lu;rw[a7l (env':=X.env) (show (lb sc (j6 (C+1) sc.names (a1b X.env sc.names [])) C X.env).frame=X.env.frame from rfl)];refine b09 (base:=X.base) (O.frames I) (O.funs I2) O.frm ⟨oe,vs,oT,ts,g1,g2,g3,g4,g5,g6,g7,g8⟩ λh1 T1 k1 f1 z1=>?_;have T1C:T1≠C:=by
  rcases z1 with z | z
  ·rw[z];exact TC
  ·exact λw=>absurd hlC (by rw[<- w];exact Nat.not_lt.mpr z)
 have hm1:h1.Ns C m:=by
  obtain⟨o,es,ep,q1,q2,q3,q4⟩:=hm;exact⟨o,es,ep,k1.keep C o q1 (λz=>frC C z rfl) (λz=>by
   rcases z with z | z
   ·exact eC z.symm
   ·exact TC z.symm),q2,q3,q4⟩
 have goal:∀ h2,Heap.SameBut C h1 h2->∀ cenv:Env,cenv.locals=C->wpAny (model X.prog X.w) X.A (PySem.passOn "comprehension.variables-let-go" (.ref e) cenv:Sem Value) (λ_ _=>False) X.xe { s' with heap:=h2 }:=λh2 sb cenv _=>by
  have f2:FlyT e (.ref Cl) T1 (rawInt X.env.locals) h2:=by
   obtain⟨oe,vs,oT,ts,g1,g2,g3,g4,g5,g6,g7,g8⟩:=f1;exact⟨oe,vs,oT,ts,(sb.2 e eC).trans g1,g2,g3,g4,g5,(sb.2 T1 T1C).trans g6,g7,g8⟩
  have k2:Lk (frs (X.env::X.outer)) (·=C) h1 h2:=⟨λb o q _ n=>(sb.2 b n).trans q,λb o q n=>⟨o.slots,(sb.2 b n).trans q⟩,fG sb.1.symm⟩;have k12:Lk (frs (X.env::X.outer)) (λb=>(b=e\/b=T)\/b=C) s'.heap h2:=Lk.trans ⟨λb o q f n=>k1.keep b o q f λz=>n (.inl z),λb o q n=>k1.slot b o q λz=>n (.inl z),k1.size⟩ k2 λx z=>.inl (.inr z);unfold PySem.passOn;refine jQ (f2.field (s:={ s' with heap:=h2 }) ?_);rw[if_neg (by simp)];refine jQ (b08 (s:={ s' with heap:=h2 }) f2 λh3 k3 f3=>wpAny_throw ?_);have k13:Lk (frs (X.env::X.outer)) (λb=>(b=e\/b=T)\/b=C) s'.heap h3:=k12.trans (k3 _) λx z=>by
   rcases z1 with w | w
   ·exact .inl (.inl (.inr (z.trans w)))
   ·exact .inr (by rw[z];exact w)
  have fl3:h3.FunFrames X.base (X.env::X.outer):=k13.funs (λb hb z=>by
   rcases z with (z | z) | z
   ·exact ef (z▸hb)
   ·exact Tf (z▸hb)
   ·exact frC b hb z) (O.funs I2)
  refine O.xe _ _ (b4i (s:={ s' with heap:=h3 }) (base:=X.base) (O.frames I) fl3 O.frm f3 λh4 T4 k4 f4 z4=>?_);have T1x:((T1=e\/T1=T)\/T1=C)\/s'.heap.objs.size≤T1:=by
   rcases z1 with w | w
   ·exact .inl (.inl (.inr w))
   ·exact .inr w
  refine O.fin I2 (ex:=λb=>(b=e\/b=T)\/b=C) (k13.trans k4 λx z=>by
   rcases z with z | z
   ·exact .inl (.inl (.inl z))
   ·rw[z];exact T1x) f4 hx (.inl (.inl rfl)) (by
   rcases z4 with z | z
   ·rw[z];exact T1x
   ·exact .inr (dW k13.size z)) q
 cases use with
 | none=>exact⟨m,hm1,goal⟩
 | some u=>exact⟨m,hm1,goal⟩
theorem b3i:a2N (CXx X.prog X.w) (cxC X E N' sc C s H fp) E:=by
 intro h σ F j B r J ⟨e,o,k,A,v,a,t,g,⟨⟨T,f,p,i⟩,old,fe⟩,q⟩;subst A;have c:=J.call' v t g a λ_ z=>nomatch z;obtain⟨m,y,_⟩:=c.loc;obtain⟨D,n,_⟩:=J.loc;have l:∀ b,j.heap.get? b=none->b∈fp\/s.heap.get? b=none:=λb u=>J.base.gone u;refine⟨e,o,k,rfl,c.os,a,c.base,g,⟨⟨T,f,l _ p,i⟩,l _ old,fe⟩,⟨m,y⟩,c.free,λz=>?_,q⟩;obtain⟨_,_,_,x,_⟩:=n;have d:j.heap.get? C=_:=x;rw[z,old]at d;cases d
end
end L2
namespace L2
open PySem PySem.Spec PySem.Calls PyProof.Rows PySem.W
structure ExK (K:Frag) (D:Addr):Prop where
 cls:(clsIn K D).isSome=true
 ga:findIn K (.ref D) "__getattribute__"=some (some (.builtin "BaseException.__getattribute__"))
 hk:findIn K (.ref D) "__getattr__"=some none
 ha:findIn K (.ref D) "__class__"=some (some (.builtin "object.__class__"))
 hn:specialIn K (.builtin "object.__class__") "__get__"=some (some (.builtin "getset_descriptor.__get__"))
 tk:takesIn K (.builtin "object.__class__")=some true
 hm:mroIn K D (.type "object")=some true
 hb:mroIn K D (.type "BaseException")=some true
section
variable {prog:jY}{w:World}{A:Around}{E:Value->Shared->Prop}{s:Shared}{K:Frag}{x D:Addr}{ox:Obj}
theorem ExK.find (k:ExK K D):findObj K D none "__class__"=some (.bind (.builtin "getset_descriptor.__get__") (.builtin "object.__class__")):=by
 obtain⟨b,a⟩:=h7.mp k.cls;unfold findObj;rw[a,jc,k.ha,jc];simp[k.hn,k.tk]
theorem a7m (k:ExK K D) (X:K.In s.heap) (I:InstAt s.heap x ox D none) (h:Q () s):wpAny (model prog w) A (mL "BaseException.__getattribute__" ⟨[.ref x,v],[]⟩) Q E s:=by
 have b:builtinKind "BaseException.__getattribute__"=some .slot:=by decide +kernel
 have a:splitId "BaseException.__getattribute__"=some ("BaseException","__getattribute__"):=by decide +kernel
 have i:=I.type (M:=model prog w);have j:=looks_mroIn (M:=model prog w) X k.hb;simp only[mL,b,a]
 repeat lk
 exact h
theorem b7i (k:ExK K D) (X:K.In s.heap) (I:InstAt s.heap x ox D none) (h:Q (.done (.ret (.ref D))) s) :
  wpAny (model prog w) A (j1.«object.__getattribute__» ⟨[.ref x,.str "__class__" tk],[]⟩) Q E s:=by
 obtain⟨b,g,d,t,a⟩:=s;have c:=I.type (M:=model prog w);have e:=looks_find (M:=model prog w) X I k.find
 repeat (first | with_reducible refine lj ?_ | lk)
 exact class_get X I k.hm (jR h)
theorem b1f (k:ExK K D) (X:K.In s.heap) (I:InstAt s.heap x ox D none) (h:Q (some (.ref D)) { s with toks:=s.toks+1 }):wpAny (model prog w) A (getAttr? (.ref x) "__class__") Q E s:=by
 have c:=I.type (M:=model prog w);have a:=looks_findIn (M:=model prog w) X k.ga;have e:=looks_findIn (M:=model prog w) X k.hk;refine jQ (wpAny_mkText (jQ (kP (ke (jQ (c.at (jQ (a.at ?_))))))));dsimp only;refine jQ (e.at ?_);refine jQ (kP (ke ?_));unfold callGetattribute boundAndCalled;rw[if_neg (by simp)];have b:=PySem.F.excAttr_ValueError.ga.bind (.ref x);rw[b];refine jQ (jR (lj (codeAny_call_builtin PySem.F.excAttr_ValueError.ga.plain PySem.F.entry_bexc_ga (a7m k X I (b7i k X I ?_)))));exact handed_on rfl (jR h)
theorem a6x (k:ExK K D):KitX K (.ref x) (.ref D) (λh=>InstAt h x ox D none) where
 ty:=λ_ _ _ I=>I.type
 it:=λ_ _ X _=>by
  obtain⟨cd,hc⟩:=h7.mp k.cls;unfold clsIn at hc
  split at hc
  ·rename_i ho
   intro A' Q' E' s' k q;unfold isType loadHead;exact jQ (wpAny_loadPart (k _ _ (X _ _ ho)) (jR q))
  ·cases hc
 ne:=λh tp dd its n sl X htp=>by
  obtain⟨cd,hc⟩:=h7.mp k.cls;refine Bool.eq_false_iff.mpr λq=>?_;have e:D=tp:=Value.ref.inj (beq_iff_eq.mp q);subst e;unfold clsIn at hc
  split at hc
  ·rename_i ho
   have z:=(X _ _ ho).symm.trans htp;cases z
  ·cases hc
 ca:=λX I q=>b1f k X I q
end
end L2
namespace L2
open PySem PySem.Spec PyProof.Rows
section
variable {X:Cx}{pins:List (Addr×Obj)}{σ σ':St}{H:Hp}{s:Shared}
theorem Inv.lk (I:Inv X pins σ H s) (k:Lk (frs X.stack) ex s.heap h') (hx:∀ b,ex b->X.s₀.heap.get? b=none/\H b=none/\(∀ x c,X.env.cells.lookup x=some c->c≠b)/\∀ p∈X.pn++pins,p.1≠b)
  (hl:∃ m,h'.Ns X.env.locals m/\∀ (i:Nat) (x:Str) (v:V),X.N[i]?=some x->σ'[i]?=some (some v)->Vis X.env.scope x->∃ u,RelV v u/\Look X.env h' m x u) (hn:σ'.length=σ.length):Inv X pins σ' H { s with heap:=h',toks:=t' }:=by
 refine⟨I.ok,I.os,I.bare,I.base.lk k (λb a=>?_) (λb a=>.inr (hx b a).1),hl,λx c e=>?_,I.free,I.freeC,λp g=>?_,I.hok.lk k I.stkFree λb a=>(hx b a).2.1,hn.trans I.len⟩
 ·rcases dU.mp (I.stkSub b a) with z | z
  ·rw[z];exact .inr (Heap.get?_none_of_le I.ok.above)
  ·simp_all
 ·obtain⟨v,o,l,n⟩:=I.cell x c e;obtain⟨r,d⟩:=k.slot c o l λz=>(hx c z).2.2.1 x c e rfl;exact⟨v,_,d,n⟩
 ·obtain⟨d,q,f,h,j⟩:=I.pin p g;refine⟨k.keep _ _ d (λz=>?_) (λz=>(hx _ z).2.2.2 p g rfl),q,f,h,j⟩;rcases dU.mp (I.stkSub _ z) with z | z
  ·exact f z
  ·exact h z
theorem Inv.lk0 (I:Inv X pins σ H s) (k:Lk (frs X.stack) ex s.heap h') (hx:∀ b,ex b->X.s₀.heap.get? b=none/\H b=none/\b≠X.env.locals/\(∀ x c,X.env.cells.lookup x=some c->c≠b)/\∀ p∈X.pn++pins,p.1≠b):Inv X pins σ H { s with heap:=h' }:=by
 refine I.lk k (λb a=>⟨(hx b a).1,(hx b a).2.1,(hx b a).2.2.2⟩) ?_ rfl;obtain⟨m,⟨o,e,q,B,w,y,h⟩,l⟩:=I.loc;obtain⟨j,r⟩:=k.slot _ o B λz=>(hx _ z).2.2.1 rfl;refine⟨m,⟨_,e,q,r,w,y,h⟩,λi x v d f A=>?_⟩;obtain⟨u,t,n⟩:=l i x v d f A;refine⟨u,t,?_⟩;rcases n with z | ⟨z1,c,z2,oc,z3,z4⟩
 ·exact .inl z
 ·obtain⟨j,g⟩:=k.slot c oc z3 λz=>(hx c z).2.2.2.1 x c z2 rfl;exact .inr ⟨z1,c,z2,_,g,z4⟩
abbrev Cx.hnd (X:Cx) (e:Addr) (oe:Obj):Cx:={ X with A:=X.A.mark (some (.ref e)),calm:=false,pn:=(e,oe)::X.pn,xe:=λ_ _=>False }
theorem Inv.hnd (I:Inv X pins σ H s) (h1:s.heap.get? e=some oe) (h2:H e=none) (h3:e≠X.env.locals) (h4:e∉X.fs) (h5:∀ v,oe.data≠.cell v):Inv (X.hnd e oe) pins σ H s:=
 ⟨⟨I.ok.mod,I.ok.kind,I.ok.glob,I.ok.blt,I.ok.above,I.ok.inj,I.ok.has,I.ok.cab,(λz=>nomatch z),I.ok.frames,I.ok.stk,I.ok.exf,I.ok.bs,I.ok.bsz,I.ok.noex,I.ok.exfs,I.ok.funs,I.ok.frf⟩,I.os,I.bare,I.base,I.loc,I.cell,I.free,I.freeC,(λp a=>by
  rcases dU.mp (a) with rfl | a
  ·exact⟨h1,h2,h3,h4,h5⟩
  ·exact I.pin p a),I.hok,I.len⟩
theorem Inv.unhnd (ok:X.Ok) (I:Inv (X.hnd e oe) pins σ H s):Inv X pins σ H s:=⟨ok,I.os,I.bare,I.base,I.loc,I.cell,I.free,I.freeC,λp a=>I.pin p (eX _ a),I.hok,I.len⟩
theorem a3H (I:Inv X pins σ H s) (hN:X.N.Nodup) (hi:X.N[i]?=some n) (hl:X.env.scope.names.lookup n=some .local) (q:∀ s',Inv X pins (σ.set i none) H s'->Q () s') :
  wpAny M A (do bindName X.env n .none;unbindBehindTheSuite X.env n pos) Q E s:=by
 obtain⟨m,w,B⟩:=I.loc;have f:(X.env.scope.kind==.class||(X.env.scope.kind==.module&&X.env.locals != X.env.globals))=false:=by rw[I.ok.kind];rfl
 refine wpAny_nameGoes_keeps hl w f λJ v g a=>q _ ?_;refine I.lk ⟨λb o q _ n=>(a.2 b n).trans q,λb o q n=>⟨o.slots,(a.2 b n).trans q⟩,fG a.1.symm⟩ (λb y=>?_) ⟨_,g,λj x r h d l=>?_⟩ (jd ..)
 ·rw[y];exact⟨Heap.get?_none_of_le I.ok.above,I.free,I.cne,λp D=>(I.pin p D).2.2.1⟩
 ·by_cases hj:j=i
  ·subst hj;rw[gZ (by rw[I.len];exact (dX.mp hi).1)]at d;cases d
  ·rw[gy (Ne.symm hj)]at d;obtain⟨u,C,z⟩:=B j x r h d l;refine⟨u,C,?_⟩;rcases z with ⟨z1,z2⟩ | ⟨z1,c,z2,oc,z3,z4⟩
   ·refine .inl ⟨z1,?_⟩
    show (if x=n then v else m x)=some u
    rw[if_neg λe=>hj (by
     subst e;obtain⟨G,t⟩:=dX.mp h;obtain⟨F,k⟩:=dX.mp hi;exact (iZ hN).mp (t.trans k.symm))]
    exact z2
   ·exact .inr ⟨z1,c,z2,oc,(a.2 c (I.cne x c z2)).trans z3,z4⟩
def PX (X:Cx) (e:Expr) (t:XK->TE):Prop:=∀ (pins:List (Addr×Obj)) (s:Shared) (σ:St) (H:Hp) (Q:VK) (E:XK),Inv X pins σ H s->t E σ H Q ->
 wpAny (model X.prog X.w) X.A (eval e X.env) (EP X pins σ Q) (λev s'=>∃ H1 s1,Inv X pins σ H1 s1/\CXx X.prog X.w X.stack H1 s1 E ev s') s
end
section
variable {X:Cx}{k:Nat}{f C D:Addr}{fd:jZ}{ps:List Str}{sp:Sp}{x n:Str}{p pos np hpos tpos:Pos}{e ce:Expr}{es:List Expr}{t:TA}
theorem b5g (F:FnOk X.prog X.w X.K X.mg X.base (CXx X.prog X.w) k f fd ps sp) (hr:Room k X.A) (hg:Gl X x) (hm:X.mg x=some (.ref f)) (hk:PySem.W.keepIn X.K (.ref f)=true) (hb:Binds X.K fd ps [])
  (ha:PA X.nox (e::es) t) (hdb:(x==("__debug__":Str))=false:=by decide) (he:jU (e::es) X.env=(false,eval e X.env)::jU es X.env:=by rfl) (hpl:(backTo pos (jU es X.env)).any (·.1)=false:=by rfl) :
  PX X (.Call (.Name x p) (e::es) [] pos) (λE=>b6X sp [] E t):=by
 intro d s σ H Q E I h;refine lM (a38 I hg hm ?_ hdb);refine PySem.W.callWith_K I.ok.mod.kin hk (j7 (ha pos d s σ H _ (I.wish _) h) (λc i ⟨j,g,a,r,q⟩=>⟨a.kIn,?_⟩) λ_ _ z=>dR z) he hpl;have a:=a.unwish;have q:sp _ g Q E:=q;rw[eO]at q;have l:c.length=ps.length:=by rw[<- r.length];exact F.len _ _ _ _ q
 refine lj (kL (F.run X.A X.stack i g ⟨c,[]⟩ c j Q E hr a.env0 (by simpa using hb i c a.kIn (by simp_all)) r q) λr m b=>?_);cases r with
 | error e=>exact⟨g,i,a,b⟩
 | ok fl=>
  cases fl with
  | ret u=>exact a.after b
  | next=>exact dR b
  | brk=>exact dR b
  | cont=>exact dR b
def tTry (PC:Addr->Prop) (i:Nat) (tc:XK->TE) (th:Addr->Addr->TS):TS:=λD σ H=>∃ E:XK,tc E σ H (λ_ H1=>D.nx σ H1)/\∀ c H',E c none H'->∃ C,c=.ref C/\PC C/\∀ e,H' e=none ->
 th C e { nx:=fun σ' H''=>D.nx (σ'.set i none) H'',rt:=D.rt,bk:=fun σ' H''=>D.bk (σ'.set i none) H'',ct:=fun σ' H''=>D.ct (σ'.set i none) H'' } (σ.set i (some (.ref e))) H'
theorem b7j {PC:Addr->Prop}(hst:X.stack=X.env::X.outer) (hex:X.ex=[]) (hfm:X.env.frame=some X.env.locals) (hb:PX X ce tc) (hg:Gl X x) (hm:X.mg x=some (.ref D)) (hD:∀ C,PC C->PySem.W.exmOne X.K (.ref C) (.ref D)=some true)
  (hN:X.N.Nodup) (hi:X.N[i]?=some n) (hl:X.env.scope.names.lookup n=some .local) (hh:∀ C e oe,PC C->oe.cls=.ref C->oe.dict=none->PySem.W.notCls oe=true->PSs (X.hnd e oe) (b₀::suite) (th C e))
  (hs:kD ce none pos.line X.env=pure false:=by rfl) (hd:(x==("__debug__":Str))=false:=by decide) :
  PS X (.Try [.Expr ce pos] [.ExceptHandler (some (.Name x np)) (some n) (b₀::suite) hpos] [] [] tpos) (tTry PC i tc th):=by
 intro a s σ H D' I ⟨E,hc,hE⟩;refine wpAny_Try_except (my (wpAny_Expr_any (j7 (hb a s σ H _ E I hc) (λv s1 ⟨y,H1,t,r1,q1⟩=>lH (lH ⟨σ,H1,t,q1⟩)) λev k q=>?_) I.quiet hs));obtain⟨H1,s1,t,e,C,H',rfl,os,U,un,hok,⟨⟨T,f,nT,fT⟩,ne,L⟩,q⟩:=q;obtain⟨C0,hC,M,hth⟩:=hE _ _ q;cases hC;have I2:Inv X a σ H' k:=t.call' (ch:=[]) os un hok U λ_ z=>nomatch z;have fr:X.A.frames=some (X.env::X.outer):=by rw[<- hst];exact I.ok.frames
 have V:k.heap.FunFrames X.base (X.env::X.outer):=by rw[<- hst];exact I2.stack
 have j:∀ b,s1.heap.get? b=none->H' b=none->X.s₀.heap.get? b=none/\H' b=none/\b≠X.env.locals/\(∀ x c,X.env.cells.lookup x=some c->c≠b)/\∀ p∈X.pn++a,p.1≠b:=λb r B=>by
  refine⟨?_,B,λz=>?_,λx c hx z=>?_,λp hp z=>?_⟩
  ·cases q0:X.s₀.heap.get? b with
   | none=>rfl
   | some o=>
    obtain⟨o',g⟩:=t.base.there b o q0 (by rw[hex];exact fu);rw[r]at g;cases g
  ·obtain⟨m,⟨o,_,_,g,_⟩,_⟩:=t.loc;rw[z,g]at r;cases r
  ·obtain⟨v,o,g,_⟩:=t.cell x c hx;rw[z,r]at g;cases g
  ·have g:=(t.pin p hp).1;rw[z,r]at g;cases g
 refine b09 fr V hfm f λr T1 k1 f1 z1=>b08 f1 λB k2 f2=>?_;have yT:∀ b,b=e\/b=T->X.s₀.heap.get? b=none/\H' b=none/\b≠X.env.locals/\(∀ x c,X.env.cells.lookup x=some c->c≠b)/\∀ p∈X.pn++a,p.1≠b:=λb hb=>by
  rcases hb with rfl | rfl
  ·exact j _ ne L
  ·exact j _ nT fT
 have tk:∀ b,b=T1->(b=e\/b=T)\/k.heap.objs.size≤b:=λb hb=>by
  rw[hb];rcases z1 with z | z
  ·exact .inl (.inr z)
  ·exact .inr z
 have Q:=k1.trans (k2 _) tk;have I3:=I2.lk0 (by rw[hst];exact Q) yT;have mk:∀ {h:Heap},FlyT e (.ref C) T1 .none h->Inv X a σ H' { k with heap:=h }->∃ d,d.cls=.ref C/\d.dict=none/\PySem.W.notCls d=true/\Inv (X.hnd e d) a σ H' { k with heap:=h }:=λ{h} f I=>by
  obtain⟨d,vs,_,_,g1,g2,S,_⟩:=f;refine⟨d,g2.1,g2.2,by unfold PySem.W.notCls;rw[S],I.hnd g1 L (j e ne L).2.2.1 (λz=>?_) (λv=>by rw[S];exact λz=>nomatch z)⟩;obtain⟨_,ob,hob,no⟩:=I.funs.mem z;have F:h.get? e=some ob:=hob;rw[g1]at F;cases F;exact no vs S
 obtain⟨d,R,c2,c3,J3⟩:=mk f2 I3;refine wpAny_handleBy_cons (codeAny_handlers_test (a38 J3 hg hm ?_ hd)) (by intro q;cases q);have LT:PySem.W.Looks (model X.prog X.w) B (typeOf (.ref e)) (.ref C):=by
  have he:=(J3.pin (e,d) (.head _)).1;exact R▸(PySem.W.Looks.ld he).andThen .now
 refine (PySem.W.exm_one I3.kIn LT (hD C M)).at ?_;refine codeAny_handlers_suite_as ?_;refine b08 f2 λh3 k3 f3=>?_;have I4:=I2.lk0 (by rw[hst];exact Q.trans (k3 _) tk) yT;obtain⟨d,R,c2,c3,J4⟩:=mk f3 I4;refine a6o (X:=X.hnd e d) J4 hN hi (.inl hl) (v:=.ref e) rfl (λs5 J5=>?_) (.inr hl);refine j7 (hh C e d M R c2 c3 a s5 _ H' _ J5 (hth e L)) (λV s6 G=>?_) λ_ _ z=>dR z;cases V with
 | next=>
  obtain⟨σ6,H6,J6,q⟩:=G;exact a3H (J6.unhnd I.ok) hN hi hl λY l=>⟨_,H6,l,q⟩
 | brk=>
  obtain⟨σ6,H6,J6,q⟩:=G;exact a3H (J6.unhnd I.ok) hN hi hl λY l=>⟨_,H6,l,q⟩
 | cont=>
  obtain⟨σ6,H6,J6,q⟩:=G;exact a3H (J6.unhnd I.ok) hN hi hl λY l=>⟨_,H6,l,q⟩
 | ret u=>
  obtain⟨v,σ6,H6,J6,r6,q⟩:=G;exact a3H (J6.unhnd I.ok) hN hi hl λY l=>⟨v,_,H6,l,r6,q⟩
end
end L2
namespace L3
open PySem PySem.Spec PyProof.Rows L2
inductive Z where
 | non | bl (b:Bool) | int (i:Int) | str (x:Str) | ref (a:Addr) | ty (n:String) | scr (a:Addr) (ns:List Int)
 | tup (ws:List Z)
mutual
def eqZ:Z->Z->Bool
 | .non,.non=>true
 | .bl a,.bl b=>a==b
 | .int a,.int b=>decide (a=b)
 | .str a,.str b=>decide (a=b)
 | .ref a,.ref b=>decide (a=b)
 | .ty a,.ty b=>decide (a=b)
 | .scr a ns,.scr b ms=>decide (a=b)&&decide (ns=ms)
 | .tup a,.tup b=>eqZs a b
 | _,_=>false
def eqZs:List Z->List Z->Bool
 | [],[]=>true
 | a::as,b::bs=>eqZ a b&&eqZs as bs
 | _,_=>false
end
mutual
theorem b1g:∀ x y:Z,eqZ x y=true↔x=y
 | .tup a,y=>by
  cases y with
  | tup b=>simp only[eqZ,Z.tup.injEq];exact a85 a b
  | _=>simp[eqZ]
 | .non,y=>by cases y<;>simp[eqZ]
 | .bl _,y=>by cases y<;>simp[eqZ]
 | .int _,y=>by cases y<;>simp[eqZ]
 | .str _,y=>by cases y<;>simp[eqZ]
 | .ref _,y=>by cases y<;>simp[eqZ]
 | .ty _,y=>by cases y<;>simp[eqZ]
 | .scr _ _,y=>by cases y<;>simp[eqZ]
theorem a85:∀ x y:List Z,eqZs x y=true↔x=y
 | [],y=>by cases y<;>simp[eqZs]
 | a::as,y=>by
  cases y with
  | nil=>simp[eqZs]
  | cons b bs=>simp only[eqZs,fz,fN.injEq,b1g a b,a85 as bs]
end
instance:DecidableEq Z:=λx y=>decidable_of_iff _ (b1g x y)
section
variable {K:Fg}{H H' H1 H2:Hp}{a p:Addr}{xs:List V}
def Fz (K:Fg) (H:Hp) (a:Addr) (xs:List V):Prop:=
 (∃ o,H a=some (.frz o (.lst xs)))\/∃ (o:Obj) (its:Array Value) (n:Nat),K.lookup a=some o/\o.cls=.type "list"/\o.dict=none/\o.data=.seq its n/\its.size≤jS/\Vals xs its.toList
theorem Fz.sq (h:Fz K H a xs):SqL K H a xs:=by
 rcases h with ⟨o,h⟩ | h
 ·exact .inl (.inr ⟨o,h⟩)
 ·exact .inr h
theorem Fz.of (hO:Only H) (h:SqL K H a xs):Fz K H a xs:=by
 rcases h with (h | h) | h
 ·rcases hO a with z | ⟨o,ys,z⟩
  ·grind
  ·simp_all
 ·exact .inl h
 ·exact .inr h
structure TW (K:Fg) (H H':Hp):Prop where
 tup:∀ a xs,H a=some (.tup xs)->H' a=some (.tup xs)
 frz:∀ a xs,Fz K H a xs->Fz K H' a xs
structure TK (K:Fg) (H H':Hp):Prop where
 tup:∀ a xs,H a=some (.tup xs)->H' a=some (.tup xs)
 frz:∀ a xs,Fz K H a xs->Fz K H' a xs
 frd:∀ a o u,H a=some (.frz o u)->H' a=some (.frz o u)
theorem TK.refl (K:Fg) (H:Hp):TK K H H:=⟨λ_ _ h=>h,λ_ _ h=>h,λ_ _ _ h=>h⟩
theorem TK.trans (a:TK K H H1) (b:TK K H1 H2):TK K H H2:=⟨λc d h=>b.tup c d (a.tup c d h),λc d h=>b.frz c d (a.frz c d h),λc o u h=>b.frd c o u (a.frd c o u h)⟩
theorem TK.upd (h:∀ xs,H p≠some (.tup xs)) (h2:∀ o u,H p≠some (.frz o u)):TK K H (L2.upd H p o):=by
 refine⟨λc b e=>?_,λc b e=>?_,λc a u e=>by rw[a0w (by rintro rfl;exact h2 _ _ e)];exact e⟩
 ·rw[a0w (by rintro rfl;exact h _ e)];exact e
 ·rcases e with ⟨a,e⟩ | e
  ·exact .inl ⟨a,by rw[a0w (by rintro rfl;exact h2 _ _ e)];exact e⟩
  ·exact .inr e
theorem TK.new (h:H p=none):TK K H (L2.upd H p o):=.upd (λa e=>by rw[h]at e;cases e) (λo u e=>by rw[h]at e;cases e)
theorem TK.lst {o:HO}(h:H p=some (.lst xs)):TK K H (L2.upd H p o):=by simp_all[upd]
theorem TK.dK {o:HO}{kvs:List (Key×V)}(h:H p=some (.dK kvs)):TK K H (L2.upd H p o):=by simp_all[upd]
theorem TK.ins {o:HO}{C dx:Addr}{fs:List (Str×V)}(h:H p=some (.ins C dx fs)):TK K H (L2.upd H p o):=by simp_all[upd]
end
mutual
def Rep (K:Fg) (H:Hp):Z->V->Prop
 | .non,v=>v=.non
 | .bl b,v=>v=.bl b
 | .int i,v=>v=.int i
 | .str x,v=>v=.str x
 | .ref a,v=>v=.ref a
 | .ty n,v=>v=.ty n
 | .scr a ns,v=>v=.ref a/\Fz K H a (ns.map V.int)
 | .tup ws,v=>∃ a vs,v=.ref a/\H a=some (.tup vs)/\Reps K H ws vs
def Reps (K:Fg) (H:Hp):List Z->List V->Prop
 | [],vs=>vs=[]
 | w::ws,vs=>∃ v r,vs=v::r/\Rep K H w v/\Reps K H ws r
end
section
variable {K:Fg}{H H':Hp}
theorem a0V:Rep K H .non v=(v=.non):=by unfold Rep;rfl
theorem a0U:Rep K H (.bl b) v=(v=.bl b):=by unfold Rep;rfl
theorem a0v:Rep K H (.int i) v=(v=.int i):=by unfold Rep;rfl
theorem a0L:Rep K H (.str x) v=(v=.str x):=by unfold Rep;rfl
theorem a0K:Rep K H (.ref a) v=(v=.ref a):=by unfold Rep;rfl
theorem b1h:Rep K H (.ty n) v=(v=.ty n):=by unfold Rep;rfl
theorem a4c:Rep K H (.scr a ns) v=(v=.ref a/\Fz K H a (ns.map V.int)):=by unfold Rep;rfl
theorem a2a:Rep K H (.tup ws) v=(∃ a vs,v=.ref a/\H a=some (.tup vs)/\Reps K H ws vs):=by conv=>lhs;unfold Rep
theorem a0B:Reps K H [] vs=(vs=[]):=by unfold Reps;rfl
theorem a1f:Reps K H (w::ws) vs=(∃ v r,vs=v::r/\Rep K H w v/\Reps K H ws r):=by conv=>lhs;unfold Reps
mutual
theorem Rep.monoW (t:TW K H H'):∀ (w:Z) (v:V),Rep K H w v->Rep K H' w v
 | .tup ws,v,h=>by
  rw[a2a]at h ⊢;obtain⟨a,vs,e,h,r⟩:=h;exact⟨a,vs,e,t.tup _ _ h,Reps.monoW t ws vs r⟩
 | .scr a ns,v,h=>by
  rw[a4c]at h ⊢;exact⟨h.1,t.frz _ _ h.2⟩
 | .non,v,h=>by rw[a0V]at h ⊢;exact h
 | .bl _,v,h=>by rw[a0U]at h ⊢;exact h
 | .int _,v,h=>by rw[a0v]at h ⊢;exact h
 | .str _,v,h=>by rw[a0L]at h ⊢;exact h
 | .ref _,v,h=>by rw[a0K]at h ⊢;exact h
 | .ty _,v,h=>by rw[b1h]at h ⊢;exact h
theorem Reps.monoW (t:TW K H H'):∀ (ws:List Z) (vs:List V),Reps K H ws vs->Reps K H' ws vs
 | [],vs,h=>by rw[a0B]at h ⊢;exact h
 | w::ws,vs,h=>by
  rw[a1f]at h ⊢;obtain⟨v,r,e,h1,h2⟩:=h;exact⟨v,r,e,Rep.monoW t w v h1,Reps.monoW t ws r h2⟩
end
theorem Rep.mono (t:TK K H H') (w:Z) (v:V) (h:Rep K H w v):Rep K H' w v:=Rep.monoW ⟨t.tup,t.frz⟩ w v h
theorem Reps.mono (t:TK K H H') (ws:List Z) (vs:List V) (h:Reps K H ws vs):Reps K H' ws vs:=Reps.monoW ⟨t.tup,t.frz⟩ ws vs h
theorem Reps.cons {w:Z}{v:V}{ws:List Z}{vs:List V}(a:Rep K H w v) (b:Reps K H ws vs):Reps K H (w::ws) (v::vs):=by rw[a1f];exact⟨v,vs,rfl,a,b⟩
theorem Reps.nil:Reps K H [] []:=by rw[a0B]
theorem Reps.length:∀ {ws:List Z}{vs:List V},Reps K H ws vs->ws.length=vs.length
 | [],vs,h=>by rw[a0B]at h;rw[h];rfl
 | w::ws,vs,h=>by
  obtain⟨v,r,e,_,a⟩:=h;rw[e,ej,ej,Reps.length a]
theorem Reps.get:∀ {ws:List Z}{vs:List V}{i:Nat}{w:Z},Reps K H ws vs->ws[i]?=some w->∃ v,vs[i]?=some v/\Rep K H w v
 | [],_,_,_,_,e=>by simp at e
 | w::ws,vs,i,x,h,e=>by
  obtain⟨v,r,rfl,b,a⟩:=h;cases i with
  | zero=>simp at e;subst e;exact⟨v,rfl,b⟩
  | succ i=>simpa using Reps.get a (by simp_all)
theorem Reps.tog {i:Nat}(h:Reps K H ws vs) (e:vs[i]?=some v):∃ w,ws[i]?=some w/\Rep K H w v:=by
 have c:=h.length;have a:i<ws.length:=by grind
 obtain⟨d,b,r⟩:=h.get (en a);rw[e]at b;cases b;exact⟨_,en a,r⟩
theorem Reps.append:∀ {ws ws':List Z}{vs vs':List V},Reps K H ws vs->Reps K H ws' vs'->Reps K H (ws++ws') (vs++vs')
 | [],_,vs,_,h,h'=>by rw[a0B]at h;subst h;exact h'
 | w::ws,_,vs,_,h,h'=>by
  obtain⟨v,r,rfl,a,b⟩:=h;exact .cons a (Reps.append b h')
theorem Reps.drop:∀ {ws:List Z}{vs:List V}(n:Nat),Reps K H ws vs->Reps K H (ws.drop n) (vs.drop n)
 | [],vs,n,h=>by rw[a0B]at h;subst h;simpa using Reps.nil
 | w::ws,vs,0,h=>h
 | w::ws,vs,n+1,h=>by
  obtain⟨v,r,rfl,b,a⟩:=h;exact Reps.drop n a
theorem Reps.take:∀ {ws:List Z}{vs:List V}(n:Nat),Reps K H ws vs->Reps K H (ws.take n) (vs.take n)
 | [],vs,n,h=>by rw[a0B]at h;subst h;simpa using Reps.nil
 | w::ws,vs,0,h=>by simpa using Reps.nil
 | w::ws,vs,n+1,h=>by
  obtain⟨v,r,rfl,a,b⟩:=h;exact .cons a (Reps.take n b)
theorem Reps.set (r:Rep K H w v):∀ {ws:List Z}{vs:List V}(i:Nat),Reps K H ws vs->Reps K H (ws.set i w) (vs.set i v)
 | [],vs,i,h=>by rw[a0B]at h;subst h;simpa using Reps.nil
 | x::ws,vs,i,h=>by
  obtain⟨y,s,rfl,b,a⟩:=h;cases i with
  | zero=>exact .cons r a
  | succ i=>exact .cons b (Reps.set r i a)
theorem Reps.reverse:∀ {ws:List Z}{vs:List V},Reps K H ws vs->Reps K H ws.reverse vs.reverse
 | [],vs,h=>by rw[a0B]at h;subst h;exact Reps.nil
 | x::ws,vs,h=>by
  obtain⟨y,s,rfl,b,a⟩:=h;rw[gG,gG];exact (Reps.reverse a).append (.cons b .nil)
theorem a5b:∀ {ns:List Int}{vs:List V},Reps K H (ns.map Z.int) vs->vs=ns.map V.int
 | [],vs,h=>by rw[eK,a0B]at h;subst h;rfl
 | n::ns,vs,h=>by
  obtain⟨v,r,rfl,a,b⟩:=h;rw[a,a5b b];rfl
theorem a2i:∀ (ns:List Int),Reps K H (ns.map Z.int) (ns.map V.int)
 | []=>Reps.nil
 | n::ns=>.cons (by rw[a0v]) (a2i ns)
theorem Reps.one (h:Reps K H [w] vs):∃ v,vs=[v]/\Rep K H w v:=by
 obtain⟨v,r,rfl,b,a⟩:=h;exact⟨v,by rw[a],b⟩
theorem Reps.two (h:Reps K H [w,w'] vs):∃ v v',vs=[v,v']/\Rep K H w v/\Rep K H w' v':=by
 obtain⟨v,r,rfl,c,a⟩:=h;obtain⟨d,rfl,b⟩:=a.one;exact⟨v,d,rfl,c,b⟩
end
inductive O where
 | lst (ws:List Z)
 | dK (kvs:List (Key×Z))
 | ins (C dx:Addr) (fs:List (Str×Z))
 | dF (kvs:List (Key×Z))
abbrev Hq:=Addr->Option O
noncomputable def put (G:Hq) (a:Addr) (o:O):Hq:=λb=>if b=a then some o else G b
theorem a0e:put G a o a=some o:=by unfold put;rw[if_pos rfl]
theorem a0o (h:b≠a):put G a o b=G b:=by unfold put;rw[if_neg h]
theorem a2u:put (put G a o) a u=put G a u:=by
 funext b;unfold put;split<;>rfl
theorem a0p {G:Hq}(h:G a=some o) (h':G b=none):a≠b:=by
 intro e;subst e;rw[h]at h';cases h'
theorem a0q (h:G b=some u) (n:G a=none):put G a o b=some u:=by rw[a0o (a0p h n)];exact h
def ROb (K:Fg) (H:Hp) (a:Addr):O->Prop
 | .lst ws=>∃ vs,H a=some (.lst vs)/\Reps K H ws vs
 | .dK kvs=>∃ us,H a=some (.dK us)/\us.map (·.1)=kvs.map (·.1)/\Reps K H (kvs.map (·.2)) (us.map (·.2))
 | .ins C dx fs=>∃ gs,H a=some (.ins C dx gs)/\gs.map (·.1)=fs.map (·.1)/\Reps K H (fs.map (·.2)) (gs.map (·.2))
 | .dF kvs=>∃ o us,H a=some (.frz o (.dK us))/\us.map (·.1)=kvs.map (·.1)/\Reps K H (kvs.map (·.2)) (us.map (·.2))
def RH (K:Fg) (G:Hq) (H:Hp):Prop:=∀ a o,G a=some o->ROb K H a o
section
variable {K:Fg}{H H':Hp}{G:Hq}{a p:Addr}{o:O}{u:HO}
theorem ROb.some (h:ROb K H a o):∃ u,H a=some u:=by
 cases o with
 | lst ws=>obtain⟨b,e,_⟩:=h;exact⟨_,e⟩
 | dK kvs=>obtain⟨b,e,_⟩:=h;exact⟨_,e⟩
 | ins C dx fs=>obtain⟨b,e,_⟩:=h;exact⟨_,e⟩
 | dF kvs=>obtain⟨c,b,e,_⟩:=h;exact⟨_,e⟩
theorem ROb.stay (t:TK K H H') (e:H' a=H a) (h:ROb K H a o):ROb K H' a o:=by
 cases o with
 | lst ws=>obtain⟨b,q,r⟩:=h;exact⟨b,e.trans q,r.mono t⟩
 | dK kvs=>obtain⟨b,q,n,r⟩:=h;exact⟨b,e.trans q,n,r.mono t⟩
 | ins C dx fs=>obtain⟨b,q,n,r⟩:=h;exact⟨b,e.trans q,n,r.mono t⟩
 | dF kvs=>obtain⟨c,b,q,n,r⟩:=h;exact⟨c,b,e.trans q,n,r.mono t⟩
theorem RH.out (h:RH K G H) (e:H a=none):G a=none:=by
 cases q:G a with
 | none=>rfl
 | some o=>obtain⟨u,z⟩:=(h a o q).some;rw[e]at z;cases z
theorem RH.hid (h:RH K G H) (e:H p=none):RH K G (upd H p u):=λb o q=>
 (h b o q).stay (.new e) (a0w (by rintro rfl;obtain⟨u,z⟩:=(h _ o q).some;rw[e]at z;cases z))
theorem RH.set (h:RH K G H) (t:TK K H (upd H p u)) (n:ROb K (upd H p u) p o):RH K (put G p o) (upd H p u):=λb a q=>by
 by_cases hb:b=p
 ·subst hb;rw[a0e]at q;cases q;exact n
 ·rw[a0o hb]at q;exact (h b a q).stay t (a0w hb)
end
abbrev S3:=List (Option Z)
abbrev K3:=Z->Hq->Prop
abbrev C3:=S3->Hq->Prop
abbrev E3:=S3->Hq->K3->Prop
abbrev T3:=S3->Hq->(Bool->Hq->Prop)->Prop
abbrev A3:=S3->Hq->(List Z->Hq->Prop)->Prop
abbrev X3:=C3->K3->C3->C3->S3->Hq->Prop
def ROp (K:Fg) (H:Hp) (ow:Option Z) (ov:Option V):Prop:=∀ w,ow=some w->∃ v,ov=some v/\Rep K H w v
def RSt (K:Fg) (H:Hp):S3->L2.St->Prop:=Paired (ROp K H)
section
variable {K:Fg}{H H':Hp}
theorem RSt.mono (t:TK K H H'):∀ {σ:S3}{τ:L2.St},RSt K H σ τ->RSt K H' σ τ
 | _,_,.nil=>.nil
 | _,_,.cons r s=>.cons (λw e=>let ⟨v,q,h⟩:=r w e;⟨v,q,h.mono t⟩) (RSt.mono t s)
theorem RSt.get:∀ {σ:S3}{τ:L2.St}{i:Nat}{w:Z},RSt K H σ τ->σ[i]?=some (some w)->∃ v,τ[i]?=some (some v)/\Rep K H w v
 | _,_,_,_,.nil,e=>by simp at e
 | _,_,0,w,.cons r _,e=>by
  obtain⟨v,q,h⟩:=r w (by simpa using e);exact⟨v,by rw[q];rfl,h⟩
 | _,_,i+1,w,.cons _ s,e=>by
  obtain⟨v,q,h⟩:=RSt.get s (by simpa using e);exact⟨v,by simpa using q,h⟩
theorem RSt.set (r:Rep K H w v):∀ {σ:S3}{τ:L2.St}(i:Nat),RSt K H σ τ->RSt K H (σ.set i (some w)) (τ.set i (some v))
 | _,_,_,.nil=>.nil
 | _,_,0,.cons _ s=>.cons (λ_ e=>by cases e;exact⟨v,rfl,r⟩) s
 | _,_,i+1,.cons q s=>.cons q (RSt.set r i s)
theorem RSt.length (h:RSt K H σ τ):σ.length=τ.length:=Paired.length h
theorem RSt.nones:∀ n:Nat,RSt K H (hZ n none) (hZ n none)
 | 0=>.nil
 | n+1=>.cons (λ_ e=>nomatch e) (RSt.nones n)
theorem RSt.app:∀ {σ σ':S3}{τ τ':L2.St},RSt K H σ τ->RSt K H σ' τ'->RSt K H (σ++σ') (τ++τ')
 | _,_,_,_,.nil,h=>h
 | _,_,_,_,.cons r s,h=>.cons r (RSt.app s h)
theorem RSt.ofVals:∀ {ws:List Z}{vs:List V},Reps K H ws vs->RSt K H (ws.map some) (vs.map some)
 | [],vs,h=>by rw[a0B]at h;subst h;exact .nil
 | w::ws,vs,h=>by
  obtain⟨v,r,rfl,b,a⟩:=h;exact .cons (λ_ e=>by cases e;exact⟨v,rfl,b⟩) (RSt.ofVals a)
end
noncomputable def a4y (N:List Str) (ws:List Z):S3:=ws.map some++hZ (N.length - ws.length) none
theorem RSt.start {K:Fg}(h:Reps K H ws vs):RSt K H (a4y N ws) (L2.start N vs):=by
 unfold a4y L2.start;rw[h.length];exact (RSt.ofVals h).app (RSt.nones _)
def UpV (K:Fg) (H:Hp) (R:K3) (Q:VK):Prop:=∀ w G v H',R w G->Rep K H' w v->RH K G H'->TK K H H'->Q v H'
def UpB (K:Fg) (H:Hp) (R:Bool->Hq->Prop) (Q:Bool->Hp->Prop):Prop:=∀ b G H',R b G->RH K G H'->TK K H H'->Q b H'
def UpA (K:Fg) (H:Hp) (R:List Z->Hq->Prop) (Q:List V->Hp->Prop):Prop:=∀ ws G vs H',R ws G->Reps K H' ws vs->RH K G H'->TK K H H'->Q vs H'
def UpS (K:Fg) (H:Hp) (R:C3) (Q:L2.St->Hp->Prop):Prop:=∀ σ G τ H',R σ G->RSt K H' σ τ->RH K G H'->TK K H H'->Q τ H'
section
variable {K:Fg}{H H':Hp}
theorem UpV.mono (h:UpV K H R Q) (t:TK K H H'):UpV K H' R Q:=λw G v b q r g a=>h w G v b q r g (t.trans a)
theorem UpB.mono (h:UpB K H R Q) (t:TK K H H'):UpB K H' R Q:=λw G b q g a=>h w G b q g (t.trans a)
theorem UpA.mono (h:UpA K H R Q) (t:TK K H H'):UpA K H' R Q:=λw G v b q r g a=>h w G v b q r g (t.trans a)
theorem UpS.mono (h:UpS K H R Q) (t:TK K H H'):UpS K H' R Q:=λw G v b q r g a=>h w G v b q r g (t.trans a)
end
def low (K:Fg) (t:E3):TE:=fun τ H Q=>∃ σ G R,RSt K H σ τ/\RH K G H/\t σ G R/\UpV K H R Q
theorem low.un {K:Fg}{C:Prop}(z:low K t τ H Q) (f:∀ σ G R,(RSt K H σ τ)->(RH K G H)->(t σ G R)->(UpV K H R Q)->C):C:=by obtain⟨σ,G,R,d,b,c,a⟩:=z;exact f _ _ _ d b c a
def lowT (K:Fg) (t:T3):TT:=fun τ H Q=>∃ σ G R,RSt K H σ τ/\RH K G H/\t σ G R/\UpB K H R Q
theorem lowT.un {K:Fg}{C:Prop}(z:lowT K t τ H Q) (f:∀ σ G R,(RSt K H σ τ)->(RH K G H)->(t σ G R)->(UpB K H R Q)->C):C:=by obtain⟨σ,G,R,b,a,d,c⟩:=z;exact f _ _ _ b a d c
def lowA (K:Fg) (t:A3):TA:=fun τ H Q=>∃ σ G R,RSt K H σ τ/\RH K G H/\t σ G R/\UpA K H R Q
theorem lowA.un {K:Fg}{C:Prop}(z:lowA K t τ H Q) (f:∀ σ G R,(RSt K H σ τ)->(RH K G H)->(t σ G R)->(UpA K H R Q)->C):C:=by obtain⟨σ,G,R,d,b,c,a⟩:=z;exact f _ _ _ d b c a
def lowS (K:Fg) (t:X3):TS:=λD τ H=>∃ σ G nx rt bk ct,RSt K H σ τ/\RH K G H/\t nx rt bk ct σ G/\UpS K H nx D.nx/\UpV K H rt D.rt/\UpS K H bk D.bk/\UpS K H ct D.ct
theorem lowS.un {K:Fg}{C:Prop}(z:lowS K t D τ H) (f:∀ σ G nx rt bk ct,(RSt K H σ τ)->(RH K G H)->(t nx rt bk ct σ G)->(UpS K H nx D.nx)->(UpV K H rt D.rt)->(UpS K H bk D.bk)->(UpS K H ct D.ct)->C):C:=by obtain⟨σ,G,k,j,l,i,h,a,g,b,c,d,e⟩:=z;exact f _ _ _ _ _ _ h a g b c d e
structure QE (X:Cx) (e:Expr) (t:E3):Prop where
 p:PE X e (low X.K t)
structure QT (X:Cx) (e:Expr) (t:T3):Prop where
 p:PT X e (lowT X.K t)
structure QW (X:Cx) (e:Expr) (t:T3):Prop where
 p:PW X e (lowT X.K t)
structure QA (X:Cx) (es:List Expr) (t:A3):Prop where
 p:PA X es (lowA X.K t)
structure QS (X:Cx) (st:Stmt) (t:X3):Prop where
 p:PS X st (lowS X.K t)
structure QSs (X:Cx) (st:List Stmt) (t:X3):Prop where
 p:PSs X st (lowS X.K t)
theorem QW.qt (h:QW X e t):QT X e t:=⟨PW.pt h.p⟩
section
variable {X:Cx}{e:Expr}{es:List Expr}{st:Stmt}{sts:List Stmt}
theorem a1s (h:PE X e t') (i:∀ σ H Q,t σ H Q->t' σ H Q):PE X e t:=λa s σ H Q I q=>h a s σ H Q I (i σ H Q q)
theorem b3j (h:PT X e t') (i:∀ σ H Q,t σ H Q->t' σ H Q):PT X e t:=λa s σ H Q I q=>h a s σ H Q I (i σ H Q q)
theorem b7k (h:PW X e t') (i:∀ σ H Q,t σ H Q->t' σ H Q):PW X e t:=λw a s σ H Q I q=>h w a s σ H Q I (i σ H Q q)
theorem b7l (h:PA X es t') (i:∀ σ H Q,t σ H Q->t' σ H Q):PA X es t:=λb a s σ H Q I q=>h b a s σ H Q I (i σ H Q q)
theorem a4E (h:PS X st t') (i:∀ D σ H,t D σ H->t' D σ H):PS X st t:=λa s σ H D I q=>h a s σ H D I (i D σ H q)
theorem b1i (h:PSs X sts t') (i:∀ D σ H,t D σ H->t' D σ H):PSs X sts t:=λa s σ H D I q=>h a s σ H D I (i D σ H q)
end
end L3
namespace L3
open PySem PySem.Spec PyProof.Rows L2
abbrev R3:=Z->Z->Hq->K3->Prop
def low2 (K:Fg) (r:R3):R2:=λx y H Q=>∃ a b G R,Rep K H a x/\Rep K H b y/\RH K G H/\r a b G R/\UpV K H R Q
theorem low2.un {K:Fg}{C:Prop}(z:low2 K r x y H Q) (f:∀ a b G R,(Rep K H a x)->(Rep K H b y)->(RH K G H)->(r a b G R)->(UpV K H R Q)->C):C:=by obtain⟨a,b,G,R,e,h,g,c,d⟩:=z;exact f _ _ _ _ e h g c d
def low1 (K:Fg) (r:Z->Hq->K3->Prop):V->Hp->VK->Prop:=λx H Q=>∃ a G R,Rep K H a x/\RH K G H/\r a G R/\UpV K H R Q
theorem low1.un {K:Fg}{C:Prop}(z:low1 K r x H Q) (f:∀ a G R,(Rep K H a x)->(RH K G H)->(r a G R)->(UpV K H R Q)->C):C:=by obtain⟨a,G,R,c,e,d,b⟩:=z;exact f _ _ _ c e d b
def lowC (K:Fg) (r:List Z->Hq->K3->Prop):List V->Hp->VK->Prop:=λxs H Q=>∃ ws G R,Reps K H ws xs/\RH K G H/\r ws G R/\UpV K H R Q
theorem lowC.un {K:Fg}{C:Prop}(z:lowC K r xs H Q) (f:∀ ws G R,(Reps K H ws xs)->(RH K G H)->(r ws G R)->(UpV K H R Q)->C):C:=by obtain⟨e,G,R,b,d,c,a⟩:=z;exact f _ _ _ b d c a
def lowM (K:Fg) (r:Z->List Z->Hq->K3->Prop):V->List V->Hp->VK->Prop:=λx xs H Q=>∃ w ws G R,Rep K H w x/\Reps K H ws xs/\RH K G H/\r w ws G R/\UpV K H R Q
theorem lowM.un {K:Fg}{C:Prop}(z:lowM K r x xs H Q) (f:∀ w ws G R,(Rep K H w x)->(Reps K H ws xs)->(RH K G H)->(r w ws G R)->(UpV K H R Q)->C):C:=by obtain⟨w,g,G,R,a,d,e,b,c⟩:=z;exact f _ _ _ _ a d e b c
def OpQ (X:Cx) (f:Value->Value->Sem Value) (r:R3):Prop:=OpR X f (low2 X.K r)
def UnQ (X:Cx) (f:Value->Sem Value) (r:Z->Hq->K3->Prop):Prop:=UnR X f (low1 X.K r)
def a2U (X:Cx) (f:Value) (r:List Z->Hq->K3->Prop):Prop:=CallR X f (lowC X.K r)
def IxQ (X:Cx) (r:R3):Prop:=IxR X (low2 X.K r)
def MtQ (X:Cx) (id:String) (r:Z->List Z->Hq->K3->Prop):Prop:=MtR X id (lowM X.K r)
theorem a7n (h:OpR X f r') (i:∀ x y H Q,r x y H Q->r' x y H Q):OpR X f r:=λa s σ H x y v u Q I c b q=>h a s σ H x y v u Q I c b (i x y H Q q)
theorem b9F (h:UnR X f r') (i:∀ x H Q,r x H Q->r' x H Q):UnR X f r:=λa s σ H x v Q I b q=>h a s σ H x v Q I b (i x H Q q)
theorem a1g (h:CallR X f r') (i:∀ xs H Q,r xs H Q->r' xs H Q):CallR X f r:=λa s σ H b d Q I c q=>h a s σ H b d Q I c (i b H Q q)
theorem b7m (h:IxR X r') (i:∀ x y H Q,r x y H Q->r' x y H Q):IxR X r:=λa b c s σ H x y v u Q I e d q=>h a b c s σ H x y v u Q I e d (i x y H Q q)
theorem a8g {id:String}(h:MtR X id r') (i:∀ x xs H Q,r x xs H Q->r' x xs H Q):MtR X id r:=λa s σ H x b v e Q I d c q=>h a s σ H x b v e Q I d c (i x b H Q q)
def uVar (i:Nat):E3:=fun σ G R=>∃ w,σ[i]?=some (some w)/\R w G
def uC (w:Z):E3:=λ_ G R=>R w G
section
variable {X:Cx}{e a b c:Expr}{pos:Pos}{ta tb tc:E3}
theorem a0c (h:PE X e (tVar i)):QE X e (uVar i):=⟨a1s h fun τ H Q ⟨σ,G,R,c,b,⟨w,e,q⟩,d⟩=>by
 obtain⟨v,a,r⟩:=c.get e;exact⟨v,a,d w G v H q r b (.refl _ _)⟩⟩
theorem a8h (h:PE X e (tC v)) (hr:∀ H,Rep X.K H w v):QE X e (uC w):=⟨a1s h fun τ H Q b=>b.un fun σ G R d a q c=>c w G v H q (hr H) a (.refl _ _)⟩
theorem a0g:QE X (.Constant (.int i) j pos) (uC (.int i)):=a8h b6w λ_=>by rw[a0v]
theorem q_bl {b j pos}:QE X (.Constant (.bool b) j pos) (uC (.bl b)):=a8h b9h λ_=>by rw[a0U]
theorem a2v:QE X (.Constant .none j pos) (uC .non):=a8h b6x λ_=>by rw[a0V]
theorem a4d:QE X (.Constant (.str x) j pos) (uC (.str x)):=a8h b6y λ_=>by rw[a0L]
theorem b4j (h:PE X e (tC (.int i))):QE X e (uC (.int i)):=a8h h λ_=>by rw[a0v]
theorem q_ty (h:PE X e (tC (.ty n))):QE X e (uC (.ty n)):=a8h h λ_=>by rw[b1h]
def uOp (r:R3) (ta tb:E3):E3:=fun σ G R=>ta σ G λx G1=>tb σ G1 λy G2=>r x y G2 R
def uUn (r:Z->Hq->K3->Prop) (ta:E3):E3:=fun σ G R=>ta σ G λx G1=>r x G1 R
theorem a86 {K:Fg}(h:low K (uOp r ta tb) τ H Q):tOp (low2 K r) (low K ta) (low K tb) τ H Q:=by
 obtain⟨σ,G,R,f,k,h,o⟩:=h;refine⟨σ,G,_,f,k,h,λw m v p l i b e=>?_⟩;refine⟨σ,m,_,f.mono e,b,l,λn g q s j d c a=>?_⟩;exact⟨w,n,g,R,i.mono a,d,c,j,o.mono (e.trans a)⟩
theorem b7n {K:Fg}(h:low K (uUn r ta) τ H Q):tUn (low1 K r) (low K ta) τ H Q:=by
 obtain⟨σ,G,R,d,f,h,c⟩:=h;exact⟨σ,G,_,d,f,h,λw e v j g b a i=>⟨w,e,R,b,a,g,c.mono i⟩⟩
theorem q_op (ho:OpQ X (kb op) r) (ha:QE X a ta) (hb:QE X b tb):QE X (.BinOp a op b pos) (uOp r ta tb):=⟨a1s (b9q ho ha.p hb.p) λ_ _ _=>a86⟩
theorem q_un (ho:UnQ X (lY op) r) (ha:QE X a ta):QE X (.UnaryOp op a pos) (uUn r ta):=⟨a1s (b9r ho ha.p) λ_ _ _=>b7n⟩
theorem a91 (ho:OpQ X (j5 op) r) (ha:QE X a ta) (hb:QE X b tb) (hm:le op b=false):QE X (.Compare a [op] [b] pos) (uOp r ta tb):=⟨a1s (b41 ho ha.p hb.p hm) λ_ _ _=>a86⟩
def b3k (t:E3):T3:=fun σ G R=>t σ G λx G1=>∃ k,x=.bl k/\R k G1
theorem a87 {K:Fg}(h:lowT K (b3k ta) τ H Q):low K ta τ H λx H'=>∃ k,x=.bl k/\Q k H':=by
 obtain⟨σ,G,R,g,f,h,i⟩:=h;refine⟨σ,G,_,g,f,h,λw l v j ⟨k,e,c⟩ a b d=>?_⟩;subst e;exact⟨k,a,i _ _ _ c b d⟩
theorem a0z (ho:OpQ X (j5 op) r) (ha:QE X a ta) (hb:QE X b tb) (hm:le op b=false):QT X (.Compare a [op] [b] pos) (b3k (uOp r ta tb)):=⟨b3j (b42 ho ha.p hb.p hm) λ_ _ _ h=>a86 (a87 h)⟩
def b1j (r r':R3) (ta tb tc:E3):E3:=fun σ G R=>ta σ G λx G1=>tb σ G1 λy G2=>r x y G2 λz G3=>∃ k,z=.bl k/\(if k=true then tc σ G3 λw G4=>r' y w G4 R else R (.bl false) G3)
theorem b1k {K:Fg}(h:low K (b1j r r' ta tb tc) τ H Q):b4b (low2 K r) (low2 K r') (low K ta) (low K tb) (low K tc) τ H Q:=by
 obtain⟨σ,G,R,g,F,h,p⟩:=h;refine⟨σ,G,_,g,F,h,λw A v N q B l a=>?_⟩;refine⟨σ,A,_,g.mono a,l,q,λm y T L s e j b=>?_⟩;refine⟨w,m,y,_,B.mono b,e,j,s,λz x M S ⟨k,t,f⟩ o d c=>?_⟩;subst t;refine⟨k,o,?_⟩;cases k with
 | false=>exact p _ _ _ _ (by simpa using f) (by rw[a0U]) d ((a.trans b).trans c)
 | true=>
  refine⟨σ,x,_,g.mono ((a.trans b).trans c),d,f,λC E J I D u n i=>?_⟩;exact⟨m,C,E,R,e.mono (c.trans i),u,n,D,p.mono (((a.trans b).trans c).trans i)⟩
theorem b1l (ho:OpQ X (j5 op) r) (ho':OpQ X (j5 op') r') (ha:QE X a ta) (hb:QE X b tb) (hc:QE X c tc)
  (hm:lastMarks [op,op'] [b,c]=false:=by with_unfolding_all rfl):QE X (.Compare a [op,op'] [b,c] pos) (b1j r r' ta tb tc):=⟨a1s (b2U ho ho' ha.p hb.p hc.p hm) λ_ _ _=>b1k⟩
def uAnd (t u:T3):T3:=fun σ G R=>t σ G λc G1=>if c=true then u σ G1 R else R false G1
def uOr (t u:T3):T3:=fun σ G R=>t σ G λc G1=>if c=true then R true G1 else u σ G1 R
def uNot (t:T3):T3:=fun σ G R=>t σ G λc G1=>R (!c) G1
variable {t u:T3}{rest:List Expr}
theorem a5Y (ha:QT X a t):QW X (.BoolOp .And [a] pos) t:=⟨b4U ha.p⟩
theorem a5c (ha:QT X a t):QW X (.BoolOp .Or [a] pos) t:=⟨b6A ha.p⟩
theorem a7o (ha:QT X a t) (hb:QW X (.BoolOp .And (b::rest) pos) u):QW X (.BoolOp .And (a::b::rest) pos) (uAnd t u):=⟨b7k (b6B ha.p hb.p) fun τ H Q l=>l.un fun σ G R f j h g=>by
 refine⟨σ,G,_,f,j,h,λk i m d c e=>?_⟩;cases k with
 | false=>exact g _ _ _ (by simp_all) c e
 | true=>rw[if_pos rfl]at d ⊢;exact⟨σ,i,R,f.mono e,c,d,g.mono e⟩⟩
theorem q_or (ha:QT X a t) (hb:QW X (.BoolOp .Or (b::rest) pos) u):QW X (.BoolOp .Or (a::b::rest) pos) (uOr t u):=⟨b7k (b9i ha.p hb.p) fun τ H Q l=>l.un fun σ G R f j h g=>by
 refine⟨σ,G,_,f,j,h,λk i m e c d=>?_⟩;cases k with
 | true=>exact g _ _ _ (by simp_all) c d
 | false=>rw[if_neg (by simp)]at e ⊢;exact⟨σ,i,R,f.mono d,c,e,g.mono d⟩⟩
theorem a2O (ha:QT X a t):QT X (.UnaryOp .Not a pos) (uNot t):=⟨b3j (b6C ha.p) fun τ H Q g=>g.un fun σ G R d f h i=>
 ⟨σ,G,_,d,f,h,λk j l e b c=>i _ _ _ e b c⟩⟩
def b7o (ta tb:E3):E3:=fun σ G R=>ta σ G λx G1=>∃ c,x=.bl c/\if c=true then tb σ G1 R else R (.bl false) G1
def uOrV (ta tb:E3):E3:=fun σ G R=>ta σ G λx G1=>∃ c,x=.bl c/\if c=true then R (.bl true) G1 else tb σ G1 R
def b7p (ta:E3):E3:=fun σ G R=>ta σ G λx G1=>∃ c,x=.bl c/\R (.bl (!c)) G1
theorem b1m (h:QE X a ta):QE X (.BoolOp op [a] pos) ta:=⟨b6D h.p⟩
theorem a88 (ha:QE X a ta) (hb:QE X (.BoolOp .And (b::rest) pos) tb):QE X (.BoolOp .And (a::b::rest) pos) (b7o ta tb):=⟨a1s (b6E ha.p hb.p) fun τ H Q l=>l.un fun σ G R g j h i=>by
 refine⟨σ,G,_,g,j,h,λx n v o ⟨k,m,e⟩ f c d=>?_⟩;subst m;refine⟨k,f,?_⟩;cases k with
 | false=>exact i _ _ _ _ (by simpa using e) (by rw[a0U]) c d
 | true=>rw[if_pos rfl]at e ⊢;exact⟨σ,n,R,g.mono d,c,e,i.mono d⟩⟩
theorem b9G (ha:QE X a ta) (hb:QE X (.BoolOp .Or (b::rest) pos) tb):QE X (.BoolOp .Or (a::b::rest) pos) (uOrV ta tb):=⟨a1s (b9l ha.p hb.p) fun τ H Q m=>m.un fun σ G R g n h i=>by
 refine⟨σ,G,_,g,n,h,λx j v o ⟨k,l,d⟩ f c e=>?_⟩;subst l;refine⟨k,f,?_⟩;cases k with
 | true=>exact i _ _ _ _ (by simpa using d) (by rw[a0U]) c e
 | false=>rw[if_neg (by simp)]at d ⊢;exact⟨σ,j,R,g.mono e,c,d,i.mono e⟩⟩
theorem b9H (ha:QE X a ta):QE X (.UnaryOp .Not a pos) (b7p ta):=⟨a1s (b6F ha.p) fun τ H Q f=>f.un fun σ G R g d h j=>by
 refine⟨σ,G,_,g,d,h,λx m v n ⟨k,e,i⟩ b c l=>?_⟩;subst e;exact⟨k,b,j _ _ _ _ i (by rw[a0U]) c l⟩⟩
def uIf (t:T3) (ta tb:E3):E3:=fun σ G R=>t σ G λc G1=>if c=true then ta σ G1 R else tb σ G1 R
theorem q_if (hc:QT X c t) (ha:QE X a ta) (hb:QE X b tb):QE X (.IfExp c a b pos) (uIf t ta tb):=⟨a1s (b2S hc.p ha.p hb.p) fun τ H Q l=>l.un fun σ G R g m h j=>by
 refine⟨σ,G,_,g,m,h,λk i n e f d=>?_⟩;cases k with
 | true=>rw[if_pos rfl]at e ⊢;exact⟨σ,i,R,g.mono d,f,e,j.mono d⟩
 | false=>rw[if_neg (by simp)]at e ⊢;exact⟨σ,i,R,g.mono d,f,e,j.mono d⟩⟩
def tru:Z->Hq->(Bool->Hq->Prop)->Prop
 | .non,G,R=>R false G
 | .bl b,G,R=>R b G
 | .int i,G,R=>R (i != 0) G
 | .str y,G,R=>y.length≤jS/\R ((y.length:Int) != 0) G
 | .tup ws,G,R=>R (!ws.isEmpty) G
 | .scr _ ns,G,R=>R (!ns.isEmpty) G
 | .ref p,G,R=>(∃ ws,G p=some (.lst ws)/\R (!ws.isEmpty) G)\/∃ kvs,G p=some (.dK kvs)/\R (!kvs.isEmpty) G
 | .ty _,_,_=>False
def uTru (ta:E3):T3:=fun σ G R=>ta σ G λx G1=>tru x G1 R
theorem a2w {α β:Type}{a:List α}{b:List β}(h:a.length=b.length):a.isEmpty=b.isEmpty:=by
 cases a<;>cases b<;>simp_all
theorem b5h {K:Fg}(h:tru w G R) (r:Rep K H w v) (hg:RH K G H) (up:UpB K H R Q):∃ k,TruV K v H k/\Q k H:=by
 cases w with
 | non=>rw[a0V]at r;subst r;exact⟨_,rfl,up _ _ _ h hg (.refl _ _)⟩
 | bl b=>rw[a0U]at r;subst r;exact⟨_,rfl,up _ _ _ h hg (.refl _ _)⟩
 | int i=>rw[a0v]at r;subst r;exact⟨_,rfl,up _ _ _ h hg (.refl _ _)⟩
 | str y=>rw[a0L]at r;subst r;exact⟨_,⟨h.1,rfl⟩,up _ _ _ h.2 hg (.refl _ _)⟩
 | ty n=>exact dR h
 | scr a ns=>rw[a4c]at r;obtain⟨rfl,f⟩:=r;exact⟨!ns.isEmpty,.inl ⟨_,f.sq,by rw[a2w (dJ ..).symm]⟩,up _ _ _ h hg (.refl _ _)⟩
 | tup ws=>
  obtain⟨a,d,rfl,e,c⟩:=r;exact⟨!ws.isEmpty,.inr (.inl ⟨d,SqT.of e,by rw[a2w c.length]⟩),up _ _ _ h hg (.refl _ _)⟩
 | ref p=>
  subst r;rcases h with ⟨ws,e,h⟩ | ⟨kvs,e,h⟩
  ·obtain⟨d,g,c⟩:=hg p _ e;exact⟨_,.inl ⟨d,SqL.of g,by rw[<- a2w c.length]⟩,up _ _ _ h hg (.refl _ _)⟩
  ·obtain⟨j,g,l,c⟩:=hg p _ e;exact⟨_,.inr (.inr ⟨j,g,by rw[a2w (show kvs.length=j.length by rw[<- dJ,c.length,dJ])]⟩),up _ _ _ h hg (.refl _ _)⟩
theorem b7q (ha:QE X a ta) (he:∀ whole,isTrue a X.env whole=(do let v <- whole;kE a.pos;kj [v] (truthy v))):QT X a (uTru ta):=⟨b3j (b2V ha.p he) fun τ H Q i=>i.un fun σ G R d f h j=>
 ⟨σ,G,_,d,f,h,λw k v l e g b c=>b5h e g b (j.mono c)⟩⟩
theorem a3g (ha:QE X a ta) (he:∀ whole,isTrue a X.env whole=(do let v <- whole;kE a.pos;kj [v] (truthy v)):=by intro _;rfl):QT X a (b3k ta):=⟨b3j (b6z ha.p he) λ_ _ _ h=>a87 h⟩
end
section
variable {env:Env}{es:List Expr}{pos:Pos}
theorem a0f:jU (.Constant c k p::es) env=(false,eval (.Constant c k p) env)::jU es env:=rfl
theorem a0a:jU (.Name x p::es) env=(false,eval (.Name x p) env)::jU es env:=rfl
theorem a0t:jU (.BinOp a o b p::es) env=(false,eval (.BinOp a o b p) env)::jU es env:=rfl
theorem a92:jU (.UnaryOp o a p::es) env=(false,eval (.UnaryOp o a p) env)::jU es env:=rfl
theorem a5Z:jU (.Compare a o b p::es) env=(false,eval (.Compare a o b p) env)::jU es env:=rfl
theorem a0W:jU (.List a p::es) env=(false,eval (.List a p) env)::jU es env:=rfl
theorem a1h:jU (.Tuple a k p::es) env=(false,eval (.Tuple a k p) env)::jU es env:=rfl
theorem a0d:jU (.Subscript a b p::es) env=(false,eval (.Subscript a b p) env)::jU es env:=rfl
theorem a22:jU (.Attribute a b p::es) env=(false,eval (.Attribute a b p) env)::jU es env:=rfl
theorem a0F:jU (.Call a b c p::es) env=(false,eval (.Call a b c p) env)::jU es env:=rfl
theorem a0R:jU (.ListComp a b c p::es) env=(false,eval (.ListComp a b c p) env)::jU es env:=rfl
theorem a0l:(backTo pos (jU [] env)).any (·.1)=false:=rfl
theorem a0j (h:jU (e::es) env=(false,eval e env)::jU es env) (r:(backTo pos (jU es env)).any (·.1)=false):(backTo pos (jU (e::es) env)).any (·.1)=false:=by
 rw[h]
 show (false||(backTo pos _).any _)=false
 rw[r];rfl
end
section
variable {X:Cx}{e a b:Expr}{es:List Expr}{pos p2:Pos}{te ta tb:E3}{t:A3}
theorem q_ix (hr:IxQ X r) (ha:QE X a ta) (hb:QE X b tb) (hs:b01 b):QE X (.Subscript a b pos) (uOp r ta tb):=⟨a1s (b9A hr ha.p hb.p hs) λ_ _ _=>a86⟩
abbrev O3:=S3->Hq->(Option Int->Hq->Prop)->Prop
def b1n:O3:=λ_ G R=>R none G
def b7r (t:E3):O3:=fun σ G R=>t σ G λx G1=>∃ i,x=.int i/\R (some i) G1
def lowO (K:Fg) (t:O3):TO:=fun τ H Q=>∃ σ G R,RSt K H σ τ/\RH K G H/\t σ G R/\∀ o G' H',R o G'->RH K G' H'->TK K H H'->Q o H'
theorem lowO.un {K:Fg}{t:O3}{C:Prop}(z:lowO K t τ H Q) (f:∀ σ G R,(RSt K H σ τ)->(RH K G H)->(t σ G R)->(∀ o G' H',R o G'->RH K G' H'->TK K H H'->Q o H')->C):C:=by obtain⟨σ,G,R,d,b,c,a⟩:=z;exact f _ _ _ d b c a
def QO (X:Cx) (e:Option Expr) (t:O3):Prop:=PO X e (lowO X.K t)
theorem a1K:QO X none b1n:=λa s τ H Q I ⟨σ,G,R,d,c,h,b⟩=>b48 a s τ H Q I (b _ _ _ h c (.refl _ _))
theorem a2j (h:QE X e te):QO X (some e) (b7r te):=λa s τ H Q I ⟨σ,G,R,f,k,q,l⟩=>b49 h.p a s τ H Q I ⟨σ,G,_,f,k,q,λw n v m ⟨i,g,d⟩ b c j=>by
 subst g;exact⟨i,b,l _ _ _ d c j⟩⟩
abbrev L3r:=Z->Option Int->Option Int->Hq->K3->Prop
def lowL (K:Fg) (r:L3r):V->Option Int->Option Int->Hp->VK->Prop:=λx lo hi H Q=>∃ w G R,Rep K H w x/\RH K G H/\r w lo hi G R/\UpV K H R Q
theorem lowL.un {K:Fg}{lo hi:Option Int}{C:Prop}(z:lowL K r x lo hi H Q) (f:∀ w G R,(Rep K H w x)->(RH K G H)->(r w lo hi G R)->(UpV K H R Q)->C):C:=by obtain⟨w,G,R,a,d,b,c⟩:=z;exact f _ _ _ a d b c
def SlQ (X:Cx) (r:L3r):Prop:=SlR X (lowL X.K r)
theorem b9I (h:SlR X r') (i:∀ x lo hi H Q,r x lo hi H Q->r' x lo hi H Q):SlR X r:=λa s σ H x v l b j f d Q I c e g k q=>h a s σ H x v l b j f d Q I c e g k (i _ _ _ _ _ q)
def uSl (r:L3r) (te:E3) (tl th:O3):E3:=fun σ G R=>te σ G λx G1=>tl σ G1 λl G2=>th σ G2 λu G3=>r x l u G3 R
theorem a1P {lo hi:Option Expr}(hr:SlQ X r) (he:QE X e te) (hl:QO X lo tl) (hu:QO X hi th):QE X (.Subscript e (.Slice lo hi none p2) pos) (uSl r te tl th):=⟨a1s (b22 hr he.p hl hu) fun τ H Q q=>q.un fun σ G R c k h y=>
 ⟨σ,G,_,c,k,h,λw m v z j t f b=>⟨σ,m,_,c.mono b,f,j,λl o A s d a=>⟨σ,o,_,c.mono (b.trans a),d,s,λu x B n i g=>
  ⟨w,x,R,t.mono (a.trans g),i,n,y.mono ((b.trans a).trans g)⟩⟩⟩⟩⟩
def uNil:A3:=λ_ G R=>R [] G
def b7s (ta:E3) (tr:A3):A3:=fun σ G R=>ta σ G λx G1=>tr σ G1 λxs G2=>R (x::xs) G2
theorem a0h:QA X [] uNil:=⟨b7l b4c fun τ H Q b=>b.un fun σ G R d a h c=>c _ _ _ _ h .nil a (.refl _ _)⟩
theorem a0b (ha:QE X e te) (hr:QA X es t) (hs:jU (e::es) X.env=(false,eval e X.env)::jU es X.env:=by rfl):QA X (e::es) (b7s te t):=⟨b7l (b0V ha.p hr.p hs) fun τ H Q i=>i.un fun σ G R hs l h o=>
 ⟨σ,G,_,hs,l,h,λw j v H1 g m f d=>⟨σ,j,_,hs.mono d,f,g,λws G2 vs H2 n k c b=>o _ _ _ _ n (.cons (m.mono b) k) c (d.trans b)⟩⟩⟩
def uTup (t:A3):E3:=fun σ G R=>t σ G λxs G1=>xs.length≤jS/\R (.tup xs) G1
def uLst (t:A3):E3:=fun σ G R=>t σ G λxs G1=>xs.length≤jS/\∀ p,G1 p=none->R (.ref p) (put G1 p (.lst xs))
theorem a1L (h:QA X es t):QE X (.Tuple es x1 pos) (uTup t):=⟨a1s (b6V h.p) fun τ H Q k=>k.un fun σ G R f j h d=>
 ⟨σ,G,_,f,j,h,λo m l n ⟨i,g⟩ b c e=>⟨by rw[<- b.length];exact i,λp a=>d _ _ _ _ g (by rw[a2a];exact⟨p,l,rfl,a0A,b.mono (.new a)⟩) (c.hid a) (e.trans (.new a))⟩⟩⟩
theorem a1i {K:Fg}(r:Reps K H ws vs) (t:TK K H (upd H p (.lst vs))):ROb K (upd H p (.lst vs)) p (.lst ws):=⟨vs,a0A,r.mono t⟩
theorem a1d (h:QA X es t):QE X (.List es pos) (uLst t):=⟨a1s (b6W h.p) fun τ H Q g=>g.un fun σ G R d k h i=>
 ⟨σ,G,_,d,k,h,λm l o n ⟨f,e⟩ c b j=>⟨by rw[<- c.length];exact f,λp a=>i _ _ _ _ (e p (b.out a)) (by rw[a0K]) (b.set (.new a) (a1i c (.new a))) (j.trans (.new a))⟩⟩⟩
def uCB (r:List Z->Hq->K3->Prop) (t:A3):E3:=fun σ G R=>t σ G λws G1=>r ws G1 R
theorem b4k {K:Fg}(h:low K (uCB r t) τ H Q):tCB (lowC K r) (lowA K t) τ H Q:=by
 obtain⟨σ,G,R,e,j,h,i⟩:=h;exact⟨σ,G,_,e,j,h,λc g k l f b a d=>⟨c,g,R,b,a,f,i.mono d⟩⟩
variable {x:Str}{p:Pos}{id T:String}{r:List Z->Hq->K3->Prop}
theorem a0C (hc:a2U X (.builtin id) r) (hg:Gl X x) (hm:X.mg x=none) (hv:kC x=some (.builtin id)) (ha:QA X (e::es) t) (hn:x≠"__name__":=by decide) (hdb:(x==("__debug__":Str))=false:=by decide)
  (he:jU (e::es) X.env=(false,eval e X.env)::jU es X.env:=by rfl) (hpl:(backTo pos (jU es X.env)).any (·.1)=false:=by rfl):QE X (.Call (.Name x p) (e::es) [] pos) (uCB r t):=⟨a1s (a81 hc hg hm hv ha.p hn hdb he hpl) λ_ _ _=>b4k⟩
theorem a89 (hc:a2U X (.type T) r) (hg:Gl X x) (hm:X.mg x=none) (hv:kC x=some (.type T)) (ha:QA X (e::es) t) (hn:x≠"__name__":=by decide) (hdb:(x==("__debug__":Str))=false:=by decide)
  (he:jU (e::es) X.env=(false,eval e X.env)::jU es X.env:=by rfl) (hpl:(backTo pos (jU es X.env)).any (·.1)=false:=by rfl):QE X (.Call (.Name x p) (e::es) [] pos) (uCB r t):=⟨a1s (a7f hc hg hm hv ha.p hn hdb he hpl) λ_ _ _=>b4k⟩
def tyZ (T:String) (x:Z) (G:Hq):Prop:=match x with
 | .str _=>T="str"
 | .int _=>T="int"
 | .ref p=>(T="list"/\∃ ws,G p=some (.lst ws))\/(T="dict"/\∃ kvs,G p=some (.dK kvs)\/G p=some (.dF kvs))
 | .scr _ _=>T="list"
 | _=>False
theorem b1o {K:Fg}(h:tyZ T w G) (r:Rep K H w v) (hg:RH K G H):tyV K T v H:=by
 cases w with
 | str y=>rw[a0L]at r;subst r;exact h
 | int y=>rw[a0v]at r;subst r;exact h
 | ref q=>
  subst r;rcases h with ⟨e,ws,g⟩ | ⟨e,kvs,g⟩
  ·obtain⟨b,a,_⟩:=hg q _ g;exact .inl ⟨e,b,SqL.of a⟩
  ·rcases g with g | g
   ·obtain⟨b,a,_⟩:=hg q _ g;exact .inr (.inr (.inl ⟨e,.inl ⟨b,a⟩⟩))
   ·obtain⟨c,b,a,_⟩:=hg q _ g;exact .inr (.inr (.inl ⟨e,.inr (.inr ⟨c,b,a⟩)⟩))
 | scr q ns=>rw[a4c]at r;obtain⟨rfl,f⟩:=r;exact .inl ⟨h,_,f.sq⟩
 | _=>exact dR h
def uBM0 (T:String) (r:Z->List Z->Hq->K3->Prop) (to:E3):E3:=fun σ G R=>to σ G λx G1=>tyZ T x G1/\r x [] G1 R
def uBM (T:String) (r:Z->List Z->Hq->K3->Prop) (to:E3) (t:A3):E3:=fun σ G R=>to σ G λx G1=>tyZ T x G1/\t σ G1 λxs G2=>r x xs G2 R
variable {o:Expr}{to:E3}{name:Str}{apos cpos:Pos}{rm:Z->List Z->Hq->K3->Prop}
theorem b9J (pa:l6 T) (slot:Slot T name id) (hty:typeOf (.builtin id)=pure (.type "method_descriptor")) (hm:MtQ X id rm) (ho:QE X o to)
  (hbase:kR o name X.env (eval o X.env)=eval o X.env:=by rfl) (hline:(apos.endLine==cpos.line)=true:=by rfl):QE X (.Call (.Attribute o name apos) [] [] cpos) (uBM0 T rm to):=⟨a1s (b62 pa slot hty hm ho.p hbase hline) fun τ H Q j=>j.un fun σ G R g e h k=>⟨σ,G,_,g,e,h,λw f v l ⟨i,c⟩ b a d=>⟨b1o i b a,w,[],f,R,b,.nil,a,c,k.mono d⟩⟩⟩
theorem q_bm (pa:l6 T) (slot:Slot T name id) (hty:typeOf (.builtin id)=pure (.type "method_descriptor")) (hm:MtQ X id rm) (ho:QE X o to) (ha:QA X (e::es) t)
  (hbase:kR o name X.env (eval o X.env)=eval o X.env:=by rfl)
  (hfew:((backTo cpos (jU (e::es) X.env)).all (λx=>!x.1)&&(lN cpos (lO [] X.env)).all (λx=>x.1.isSome)
   && decide ((e::es).length+([]:List lP).length+(if ([]:List lP).isEmpty then 0 else 1)<30))=true:=by rfl)
  (hline:(apos.endLine==cpos.line)=true:=by rfl) (hs:jU (e::es) X.env=(false,eval e X.env)::jU es X.env:=by rfl) (hplain:(backTo cpos (jU es X.env)).any (·.1)=false:=by rfl) :
  QE X (.Call (.Attribute o name apos) (e::es) [] cpos) (uBM T rm to t):=⟨a1s (b9C pa slot hty hm ho.p ha.p hbase hfew hline hs hplain) fun τ H Q q=>q.un fun σ G R hs r h u=>
  ⟨σ,G,_,hs,r,h,λw j v H1 ⟨m,n⟩ d a g=>⟨b1o m d a,σ,j,_,hs.mono g,a,n,λs i vs H2 k l f c=>⟨w,s,i,R,d.mono c,l,f,k,u.mono (g.trans c)⟩⟩⟩⟩
abbrev P3:=List Z->Hq->K3->Prop
def lowP (K:Fg) (sp:P3):Sp:=λvs H Q _=>lowC K sp vs H Q
def b7t (sp:P3) (t:A3):E3:=fun σ G R=>t σ G λws G1=>sp ws G1 R
variable {k:Nat}{f:Addr}{fd:jZ}{ps:List Str}{sp:P3}
theorem a0s (F:FnOk X.prog X.w X.K X.mg X.base CX0 k f fd ps (lowP X.K sp)) (hr:Room k X.A) (hg:Gl X x) (hm:X.mg x=some (.ref f)) (hk:PySem.W.keepIn X.K (.ref f)=true) (hb:Binds X.K fd ps []) (ha:QA X (e::es) t)
  (hdb:(x==("__debug__":Str))=false:=by decide) (he:jU (e::es) X.env=(false,eval e X.env)::jU es X.env:=by rfl) (hpl:(backTo pos (jU es X.env)).any (·.1)=false:=by rfl) :
  QE X (.Call (.Name x p) (e::es) [] pos) (b7t sp t):=⟨a1s (b0W F hr hg hm hk hb .nil b5c ha.p hdb he hpl) fun τ H Q d=>d.un fun σ G R i hg h m=>⟨σ,G,_,i,hg,h,λc j vs H1 l g b n=>⟨c,j,R,by rw[eO];exact g,b,l,m.mono n⟩⟩⟩
end
end L3
namespace L3
open PySem PySem.Spec PyProof.Rows L2
section
variable {X:Cx}{e c tg:Expr}{st:Stmt}{rest sa sb:List Stmt}{pos:Pos}{te:E3}{t u:X3}{tc:T3}
def b7u:X3:=λnx _ _ _ σ G=>nx σ G
def uSeq (t u:X3):X3:=λnx rt bk ct σ G=>t (u nx rt bk ct) rt bk ct σ G
theorem a06:QSs X [] b7u:=⟨b1i b4V λD τ H a=>a.un fun σ G g e k f d b h c i j l=>c _ _ _ _ h d b (.refl _ _)⟩
theorem a0k (h1:QS X st t) (h2:QSs X rest u):QSs X (st::rest) (uSeq t u):=⟨b1i (a8Z h1.p h2.p) λD τ H q=>q.un fun σ G k j c e l o h n d b g=>
 ⟨σ,G,_,j,c,e,l,o,h,fun σ' r τ' s m f i a=>⟨σ',r,k,j,c,e,f,i,m,n.mono a,d.mono a,b.mono a,g.mono a⟩,d,b,g⟩⟩
theorem a0n (h1:QS X st t):QSs X [st] t:=⟨b4W h1.p⟩
def uCut (t u:X3):X3:=λnx rt bk ct σ G=>∃ M:C3,t M rt bk ct σ G/\∀ σ' G',M σ' G'->u nx rt bk ct σ' G'
theorem a93 (h1:QS X st t) (h2:QSs X rest u):QSs X (st::rest) (uCut t u):=⟨b1i (a8Z h1.p h2.p) λD τ H v=>v.un fun σ G n d j b q m l s g e i=>by
 obtain⟨M,h,k⟩:=l;exact⟨σ,G,M,d,j,b,q,m,h,fun σ' o τ' w r f c a=>⟨σ',o,n,d,j,b,f,c,k _ _ r,s.mono a,g.mono a,e.mono a,i.mono a⟩,g,e,i⟩⟩
def b7v (te:E3):X3:=λnx _ _ _ σ G=>te σ G λ_ G1=>nx σ G1
theorem a05 (he:QE X e te) (hs:kD e none pos.line X.env=pure false:=by rfl):QS X (.Expr e pos) (b7v te):=⟨a4E (b4X he.p hs) λD τ H i=>i.un fun σ G nx rt bk ct hs g h f u2 u3 u4=>
 ⟨σ,G,_,hs,g,h,λw G1 v H1 d rv c b=>f _ _ _ _ d (hs.mono b) c b⟩⟩
def uRet (te:E3):X3:=λ_ rt _ _ σ G=>te σ G rt
theorem a0H (he:QE X e te):QS X (.Return (some e) pos) (uRet te):=⟨a4E (b6G he.p) λD τ H c=>c.un fun σ G f j k m a b h g d l i=>⟨σ,G,_,a,b,h,d⟩⟩
def uIfS (c:T3) (t u:X3):X3:=λnx rt bk ct σ G=>c σ G λb G1=>if b=true then t nx rt bk ct σ G1 else u nx rt bk ct σ G1
theorem z_if (hc:QT X c tc) (ha:QSs X sa t) (hb:QSs X sb u):QS X (.If c sa sb pos) (uIfS tc t u):=⟨a4E (b9o hc.p ha.p hb.p) λD τ H s=>s.un fun σ G l g k m f r h n q j i=>by
 refine⟨σ,G,_,f,r,h,λb o v d e a=>?_⟩;cases b with
 | true=>rw[if_pos rfl]at d ⊢;exact⟨σ,o,l,g,k,m,f.mono a,e,d,n.mono a,q.mono a,j.mono a,i.mono a⟩
 | false=>rw[if_neg (by simp)]at d ⊢;exact⟨σ,o,l,g,k,m,f.mono a,e,d,n.mono a,q.mono a,j.mono a,i.mono a⟩⟩
inductive Pt where
 | nm (i:Nat)
 | tp (is:List Nat)
def gsOf:List Nat->TGs
 | []=>gNil
 | i::is=>b6H (b0G i) (gsOf is)
def gP (K:Fg):Pt->TG
 | .nm i=>b0G i
 | .tp is=>gTup K is.length (gsOf is)
noncomputable def sets:List Nat->List Z->S3->S3
 | i::is,w::ws,σ=>sets is ws (σ.set i (some w))
 | _,_,σ=>σ
noncomputable def a5H:Pt->Z->S3->Option S3
 | .nm i,w,σ=>some (σ.set i (some w))
 | .tp is,.tup ws,σ=>if ws.length=is.length then some (sets is ws σ) else none
 | _,_,_=>none
noncomputable def Pt.slots:Pt->List Nat
 | .nm i=>[i]
 | .tp is=>is
noncomputable def a4F:List Nat->List V->L2.St->L2.St
 | i::is,w::ws,σ=>a4F is ws (σ.set i (some w))
 | _,_,σ=>σ
theorem b1p:∀ {is:List Nat}{vs:List V}{τ:L2.St},vs.length=is.length->Q (a4F is vs τ) H->gsOf is vs τ H Q
 | [],[],_,_,q=>⟨rfl,q⟩
 | i::is,v::vs,τ,h,q=>⟨v,vs,rfl,b1p (by simpa using h) q⟩
 | [],_::_,_,h,_=>by simp at h
 | _::_,[],_,h,_=>by simp at h
theorem a7p {K:Fg}:∀ {is:List Nat}{ws:List Z}{vs:List V}{σ:S3}{τ:L2.St},Reps K H ws vs->RSt K H σ τ->RSt K H (sets is ws σ) (a4F is vs τ)
 | [],ws,vs,σ,τ,_,h=>by unfold sets a4F;exact h
 | i::is,[],vs,σ,τ,r,h=>by rw[a0B]at r;subst r;exact h
 | i::is,w::ws,vs,σ,τ,r,h=>by
  obtain⟨v,c,rfl,a,b⟩:=r;exact a7p (is:=is) b (h.set a i)
theorem a50:∀ {is:List Nat}{vs:List V}{τ:L2.St}{j:Nat},j∉is->(a4F is vs τ)[j]?=τ[j]?
 | [],_,_,_,_=>by unfold a4F;rfl
 | i::is,[],_,_,_=>by unfold a4F;rfl
 | i::is,v::vs,τ,j,h=>by
  have b:j≠i:=λz=>h (by rw[z];exact fh ..);have a:=λz=>h (eX _ z)
  show (a4F is vs _)[j]?=τ[j]?
  rw[a50 a,gy (Ne.symm b)]
theorem a4z:∀ {is:List Nat}{vs:List V}{τ:L2.St},(a4F is vs τ).length=τ.length
 | [],_,_=>by unfold a4F;rfl
 | i::is,[],_=>by unfold a4F;rfl
 | i::is,v::vs,τ=>by
  show (a4F is vs _).length=τ.length
  rw[a4z,jd]
theorem b5i {K:Fg}(r:Rep K H w v) (hs:RSt K H σ τ) (hb:a5H pt w σ=some σ')
  (q:∀ τ',RSt K H σ' τ'->τ'.length=τ.length->(∀ j,j∉pt.slots->τ'[j]?=τ[j]?)->Q τ' H):gP K pt v τ H Q:=by
 cases pt with
 | nm i=>
  cases hb;exact q _ (hs.set r i) (by simp) λj d=>by rw[gy];intro z;exact d (by rw[z];exact fh ..)
 | tp is=>
  cases w with
  | tup ws=>
   obtain⟨a,f,rfl,e,c⟩:=r;have b:(if ws.length=is.length then some _ else none)=some σ':=hb
   by_cases hl:ws.length=is.length
   ·rw[if_pos hl]at b;cases b;exact⟨a,f,rfl,SqT.of e,by rw[<- c.length];exact hl,b1p (by rw[<- c.length];exact hl) (q _ (a7p c hs) a4z λj d=>a50 d)⟩
   ·simp_all
  | _=>cases hb
def QP (X:Cx) (tg:Expr) (pt:Pt):Prop:=PG X tg (gP X.K pt)
def uAsg (te:E3) (pt:Pt):X3:=λnx _ _ _ σ G=>te σ G λx G1=>∃ σ',a5H pt x σ=some σ'/\nx σ' G1
theorem a8i {K:Fg}(h:lowS K (uAsg te pt) D τ H):tAsg (low K te) (gP K pt) D τ H:=by
 obtain⟨σ,G,p,s,k,l,b,e,h,j,r,m,n⟩:=h;exact⟨σ,G,_,b,e,h,λw o v q ⟨σ',g,i⟩ f c d=>b5i f (b.mono d) g fun τ' a _ _=>j _ _ _ _ i a c d⟩
theorem z_set (hN:X.N.Nodup) (hi:X.N[i]?=some x) (hx:Loc X.env.scope x) (he:QE X e te) (hs:kD e (some (.Name x pos')) pos.line X.env=pure false:=by rfl) (hf:X.fn x=true\/X.env.scope.names.lookup x=some .local:=by first | exact .inl rfl | exact .inr rfl | assumption) :
  QS X (.Assign [.Name x pos'] e pos) (uAsg te (.nm i)):=⟨a4E (b6J hN hi hx he.p hs hf) λ_ _ _=>a8i⟩
theorem b7w (he:QE X e te) (hg:QP X tg pt) (hs:mB [tg] e pos.line X.env=pure false:=by rfl) (hw:mC [tg] e X.env=pure none:=by rfl)
  (h1:(kJ [tg] X.env).map (·.2)=[assign tg X.env]:=by rfl):QS X (.Assign [tg] e pos) (uAsg te pt):=⟨a4E (b4a he.p hg hs hw h1) λ_ _ _=>a8i⟩
abbrev Z3:=Z->Z->Z->Hq->(Hq->Prop)->Prop
def lowZ (K:Fg) (r:Z3):TSet:=λo i v H Q=>∃ a b w G R,Rep K H a o/\Rep K H b i/\Rep K H w v/\RH K G H/\r a b w G R/\∀ G' H',R G'->RH K G' H'->TK K H H'->Q H'
theorem lowZ.un {K:Fg}{C:Prop}(z:lowZ K r o i v H Q) (f:∀ a b w G R,(Rep K H a o)->(Rep K H b i)->(Rep K H w v)->(RH K G H)->(r a b w G R)->(∀ G' H',R G'->RH K G' H'->TK K H H'->Q H')->C):C:=by obtain⟨a,b,w,G,R,d,j,e,g,c,h⟩:=z;exact f _ _ _ _ _ d j e g c h
def SetQ (X:Cx) (r:Z3):Prop:=PSet X (lowZ X.K r)
theorem b7x (h:PSet X r') (i:∀ o j v H Q,r o j v H Q->r' o j v H Q):PSet X r:=λa s σ H o j v c f u Q I b d e q=>h a s σ H o j v c f u Q I b d e (i _ _ _ _ _ q)
def uPut (te to ti:E3) (r:Z3):X3:=λnx _ _ _ σ G=>te σ G λw G1=>to σ G1 λo G2=>ti σ G2 λi G3=>r o i w G3 λG4=>nx σ G4
theorem b9K (h:PS X st (tAsg (low X.K te) (gSub (low X.K to) (low X.K ti) (lowZ X.K r)))):QS X st (uPut te to ti r):=⟨a4E h λD τ H z=>z.un fun σ G Q I J N a s h B T V C=>
 ⟨σ,G,_,a,s,h,λw m v U o t e d=>⟨σ,m,_,a.mono d,e,o,λx u R S n i l c=>⟨σ,u,_,a.mono (d.trans c),l,n,λy A M F q g k b=>
  ⟨x,y,w,A,_,i.mono b,g,t.mono (c.trans b),k,q,λE L p j f=>B _ _ _ _ p (a.mono (((d.trans c).trans b).trans f)) j (((d.trans c).trans b).trans f)⟩⟩⟩⟩⟩
theorem b4l (he:QE X e te) (ho:QE X o to) (hi:QE X i ti) (hr:SetQ X r) (hs:mB [.Subscript o i p'] e pos.line X.env=pure false:=by rfl) (hw:mC [.Subscript o i p'] e X.env=pure none:=by rfl)
  (h1:(kJ [.Subscript o i p'] X.env).map (·.2)=[assign (.Subscript o i p') X.env]:=by rfl) (ha:∀ v,assign (.Subscript o i p') X.env v=(do
   let ov <- kj [v] (eval o X.env)
   let iv <- kj [v,ov] (eval i X.env)
   kE p'
   kj [v,ov,iv] (setItem ov iv v)
   release [v,ov,iv] []):=by intro _;rfl):QS X (.Assign [.Subscript o i p'] e pos) (uPut te to ti r):=b9K (b4a he.p (b6I ho.p hi.p hr ha) hs hw h1)
end
abbrev I3:=S3->Hq->(List Z->(Hq->Prop)->Hq->Prop)->Prop
def a6y (K:Fg) (ws:List Z) (ok:Hq->Prop) (J:It) (H0:Hp):Prop:=∀ i G H,RH K G H->TK K H0 H->ok G->i≤ws.length ->
 (i=ws.length->J.stop i H)/\∀ w,ws[i]?=some w->J.go i H/\∀ x H',J.yld i H x H'->Rep K H' w x/\RH K G H'/\TK K H H'
def lowI (K:Fg) (wi:I3):TI:=fun τ H R2=>∃ σ G R,RSt K H σ τ/\RH K G H/\wi σ G R/\∀ ws ok G' J H',R ws ok G'->a6y K ws ok J H'->RH K G' H'->TK K H H'->R2 J H'
theorem lowI.un {K:Fg}{R2:It->Hp->Prop}{C:Prop}(z:lowI K wi τ H R2) (f:∀ σ G R,(RSt K H σ τ)->(RH K G H)->(wi σ G R)->(∀ ws ok G' J H',R ws ok G'->a6y K ws ok J H'->RH K G' H'->TK K H H'->R2 J H')->C):C:=by obtain⟨σ,G,R,d,b,c,a⟩:=z;exact f _ _ _ d b c a
def QI (X:Cx) (tg iter:Expr) (wi:I3):Prop:=PI X tg iter (lowI X.K wi)
theorem a94 (h:PI X tg iter wi') (i:∀ σ H R,wi σ H R->wi' σ H R):PI X tg iter wi:=λa s σ H R I q=>h a s σ H R I (i σ H R q)
def FORB (ws:List Z) (ok:Hq->Prop) (pt:Pt) (tb:X3) (nx:C3) (rt:K3) (σ:S3) (G1:Hq):Prop:=∃ I:Nat->S3->Hq->Prop,I 0 σ G1/\(∀ i σ G,i≤ws.length->I i σ G->ok G) /\
 (∀ i x σ G,ws[i]?=some x->I i σ G->∃ σ',a5H pt x σ=some σ'/\tb (I (i+1)) rt nx (I (i+1)) σ' G)/\∀ σ G,I ws.length σ G->nx σ G
def uFor (wi:I3) (pt:Pt) (tb:X3):X3:=λnx rt _ _ σ G=>wi σ G λws ok G1=>FORB ws ok pt tb nx rt σ G1
theorem a08 (I:Nat->S3->Hq->Prop) (h0:I 0 σ G) (hok:∀ i σ G,i≤ws.length->I i σ G->ok G)
  (step:∀ i x σ G,ws[i]?=some x->I i σ G->∃ σ',a5H pt x σ=some σ'/\tb (I (i+1)) rt nx (I (i+1)) σ' G) (fin:∀ σ G,I ws.length σ G->nx σ G):FORB ws ok pt tb nx rt σ G:=⟨I,h0,hok,step,fin⟩
theorem a2x (hp:j9 (model X.prog X.w) X.A X.env X.xe) (hc:X.calm=true) (hi:QI X tg iter wi) (hg:QP X tg pt) (hb:QSs X sb t)
  (hs:∀ x,kK iter X.env x=pure x:=by intro _;rfl):QS X (.For tg iter sb [] pos) (uFor wi pt t):=⟨a4E (b6M hp hc hi hg hb.p hs) λD τ H U=>U.un fun σ G nx rt bk ct hs hg h R u2 u3 u4=>by
 refine⟨σ,G,_,hs,hg,h,?_⟩;rintro b ok G1 J L ⟨I,i0,S,u,E⟩ hJ M k;refine⟨λi m τ' a=>m=b.length - i/\i≤b.length/\∃ σ' G',RSt X.K a σ' τ'/\RH X.K G' a/\TK X.K L a/\I i σ' G',⟨b.length,by simp,eI _,σ,G1,hs.mono k,M,.refl _ _,i0⟩,?_⟩;rintro i m τ2 H2 ⟨rfl,n,σ2,j,o,r,c,z⟩;have l:=hJ i j H2 r c (S i σ2 j n z) n
 by_cases hlt:i<b.length
 ·obtain⟨Y,T⟩:=l.2 _ (en hlt);refine .inr ⟨Y,fun τ' a=>i+1≤b.length/\∃ σ' G',RSt X.K a σ' τ'/\RH X.K G' a/\TK X.K L a/\I _ σ' G',fun σ' a q=>⟨b.length - _,by omega,rfl,q.1,q.2⟩,λx H3 V=>?_⟩;obtain⟨rx,N,g⟩:=T x H3 V;obtain⟨σ',F,h3⟩:=u i _ σ2 j (en hlt) z;refine b5i rx (o.mono g) F fun τ' C _ _=>⟨σ',j,_,rt,nx,_,C,N,h3,?_,u2.mono ((k.trans c).trans g),R.mono ((k.trans c).trans g),?_⟩
  ·exact fun σ4 v τ4 W s d f y=>⟨hlt,σ4,v,d,f,(c.trans g).trans y,s⟩
  ·exact fun σ4 v τ4 W s d f y=>⟨hlt,σ4,v,d,f,(c.trans g).trans y,s⟩
 ·have e:i=b.length:=by omega
  subst e;exact .inl ⟨l.1 rfl,R _ _ _ _ (E σ2 j z) o r (k.trans c)⟩⟩
section
variable {X:Cx}{tg l:Expr}{tl:E3}
def wkL (x:Z) (G:Hq) (R:List Z->(Hq->Prop)->Hq->Prop):Prop:=match x with
 | .ref a=>∃ ws,G a=some (.lst ws)/\R ws (λG=>G a=some (.lst ws)) G
 | .scr _ ns=>R (ns.map Z.int) (λ_=>True) G
 | _=>False
def iL (tl:E3):I3:=fun σ G R=>tl σ G λx G1=>wkL x G1 R
theorem a95 {K:Fg}:a6y K ws (λG=>G a=some (.lst ws)) (Itl K a) H:=λi G H c t g m=>by
 obtain⟨b,e,f⟩:=c a _ g;refine⟨λh=>⟨b,SqL.of e,by rw[<- f.length,h];exact dM _⟩,λw j=>?_⟩;obtain⟨v,d,k⟩:=f.get j;refine⟨⟨b,v,SqL.of e,d⟩,?_⟩;rintro x l ⟨rfl,y⟩
 have:=y b (SqL.of e)
 rw[d]at this;cases this;exact⟨k,c,.refl _ _⟩
theorem b1q {K:Fg}{ns:List Int}(f:Fz K H0 a (ns.map V.int)):a6y K (ns.map Z.int) (λ_=>True) (Itl K a) H0:=λi G H g t m l=>by
 have b:=(t.frz _ _ f).sq;have c:Reps K H _ _:=a2i ns;refine⟨λh=>⟨_,b,by rw[<- c.length,h];exact dM _⟩,λw j=>?_⟩;obtain⟨v,d,e⟩:=c.get j;refine⟨⟨_,v,b,d⟩,?_⟩;rintro x k ⟨rfl,y⟩
 have:=y _ b
 rw[d]at this;cases this;exact⟨e,g,.refl _ _⟩
theorem a0O (hl:QE X l tl):QI X tg l (iL tl):=a94 (b4Y hl.p) fun τ H s k=>k.un fun σ G R i j h f=>by
 refine⟨σ,G,_,i,j,h,λw q v o c b d g=>?_⟩;cases w with
 | ref a=>
  obtain⟨r,e,c⟩:=c;obtain⟨m,n,_⟩:=d a _ e;exact⟨a,b,⟨m,SqL.of n⟩,f _ _ _ _ _ c a95 d g⟩
 | scr a ns=>
  exact⟨a,b.1,⟨_,b.2.sq⟩,f _ _ _ _ _ c (b1q b.2) d g⟩
 | _=>exact dR c
def wkT (x:Z) (G:Hq) (R:List Z->(Hq->Prop)->Hq->Prop):Prop:=match x with
 | .tup ws=>R ws (λ_=>True) G
 | _=>False
def iT (tl:E3):I3:=fun σ G R=>tl σ G λx G1=>wkT x G1 R
theorem b1r {K:Fg}(e:H0 a=some (.tup vs)) (rs:Reps K H0 ws vs):a6y K ws (λ_=>True) (Itt K a) H0:=λi G H f t ok hi=>by
 have e:=t.tup _ _ e;have rs:=rs.mono t;refine⟨λh=>⟨vs,SqT.of e,by rw[<- rs.length,h];exact dM _⟩,λw g=>?_⟩;obtain⟨v,c,d⟩:=rs.get g;refine⟨⟨vs,v,SqT.of e,c⟩,?_⟩;rintro x H' ⟨rfl,y⟩
 have:=y vs (SqT.of e)
 rw[c]at this;cases this;exact⟨d,f,.refl _ _⟩
theorem b7y (hl:QE X l tl):QI X tg l (iT tl):=a94 (b6K hl.p) fun τ H o j=>j.un fun σ G R m i h n=>by
 refine⟨σ,G,_,m,i,h,λw r v q d c b k=>?_⟩;cases w with
 | tup ws=>
  obtain⟨a,g,rfl,e,f⟩:=c;exact⟨a,rfl,⟨g,SqT.of e⟩,n _ _ _ _ _ d (b1r e f) b k⟩
 | _=>exact dR d
noncomputable def rng (lo:Int):Nat->List Z
 | 0=>[]
 | n+1=>.int lo::rng (lo+1) n
theorem a1v:∀ (lo:Int) (n:Nat),(rng lo n).length=n
 | _,0=>rfl
 | lo,n+1=>by rw[rng,ej,a1v]
theorem a3r:∀ {lo:Int}{n i:Nat}{w:Z},(rng lo n)[i]?=some w->i<n/\w=.int (lo+i)
 | _,0,_,_,h=>by simp[rng]at h
 | lo,n+1,0,w,h=>by simp[rng]at h;exact⟨by omega,by rw[<- h];simp⟩
 | lo,n+1,i+1,w,h=>by
  have:=a3r (by simpa[rng]using h)
  refine⟨by omega,?_⟩;rw[this.2]
  congr 1
  omega
theorem b1s {K:Fg}{lo:Int}:a6y K (rng lo n) (λ_=>True) (Itr lo n) H0:=λi G H b t e g=>by
 rw[a1v];refine⟨λh=>by rw[h];exact dM _,λw d=>?_⟩;obtain⟨a,c⟩:=a3r d;refine⟨a,?_⟩;rintro x f ⟨rfl,rfl⟩;exact⟨by rw[c,a0v],b,.refl _ _⟩
variable {t:A3}
def iR1 (t:A3):I3:=fun σ G R=>t σ G λws G1=>∃ j:Int,ws=[.int j]/\-(2 ^ 62)≤j/\j<2 ^ 62/\R (rng 0 j.toNat) (λ_=>True) G1
theorem b1t (h:PI X tg wi (b6L (lowA X.K t))):QI X tg wi (iR1 t):=a94 h fun τ H p g=>g.un fun σ G R i d h l=>by
 refine⟨σ,G,_,i,d,h,λq o n s ⟨j,e,a,b,k⟩ f c m=>?_⟩;subst e;obtain⟨v,rfl,r⟩:=f.one;subst r;exact⟨j,rfl,a,b,l _ _ _ _ _ k b1s c m⟩
end
section
variable {X:Cx}{tg a b:Expr}{p pos:Pos}{t:A3}
theorem a2k (hg:Gl X "range") (hm:X.mg "range"=none) (ha:QA X [a] t) (hs:jU [a] X.env=[(false,eval a X.env)]:=by rfl):QI X tg (.Call (.Name "range" p) [a] [] pos) (iR1 t):=b1t (b0I hg hm ha.p hs)
end
noncomputable def cap3 (cap:List (Option Nat)) (σ:S3):S3:=cap.map λo=>o.bind λj=>(σ[j]?).join
theorem a8j {K:Fg}(h:RSt K H σ τ):∀ cap:List (Option Nat),RSt K H (cap3 cap σ) (a39 cap τ)
 | []=>.nil
 | none::cap=>.cons (λ_ e=>nomatch e) (a8j h cap)
 | some j::cap=>.cons (λw e=>by
   have a:(σ[j]?).join=some w:=e;have b:σ[j]?=some (some w):=by
    cases q:σ[j]? with
    | none=>rw[q]at a;cases a
    | some o=>rw[q]at a;cases o with
     | none=>cases a
     | some z=>cases a;rfl
   obtain⟨v,c,r⟩:=h.get b;exact⟨v,by show (τ[j]?).join=some v;rw[c];rfl,r⟩) (a8j h cap)
theorem a4e:∀ {a b:L2.St},b.length=a.length->(∀ (i:Nat) v,a[i]?=some (some v)->b[i]?=some (some v))->a2t a b
 | [],[],_,_=>True.intro
 | none::a,_::b,h,k=>a4e (b:=b) (by simpa using h) λi v e=>by simpa using k (i+1) v (by simpa using e)
 | some x::a,y::b,h,k=>⟨by simpa using k 0 x rfl,a4e (b:=b) (by simpa using h) λi v e=>by simpa using k (i+1) v (by simpa using e)⟩
 | [],_::_,h,_=>by simp at h
 | _::_,[],h,_=>by simp at h
def LCB (ws:List Z) (ok:Hq->Prop) (cap:List (Option Nat)) (pt:Pt) (tt:T3) (te:E3) (σ:S3) (R:K3) (D:Addr) (G1:Hq):Prop:=∃ I:Nat->List Z->Hq->Prop,I 0 [] (put G1 D (.lst []))/\(∀ i ys G,i≤ws.length->I i ys G->ok G) /\
 (∀ i x ys G,ws[i]?=some x->I i ys G->∃ σ',a5H pt x (cap3 cap σ)=some σ'/\tt σ' G λb G4=>if b=true then te σ' G4 λy G5=>G5 D=some (.lst ys)/\ys.length<jS/\I (i+1) (ys++[y]) (put G5 D (.lst (ys++[y]))) else I (i+1) ys G4) /\
 ∀ ys G,I ws.length ys G->R (.ref D) G
def uLC (wi:I3) (cap:List (Option Nat)) (pt:Pt) (tt:T3) (te:E3):E3:=fun σ G R=>wi σ G λws ok G1=>∀ D,G1 D=none->LCB ws ok cap pt tt te σ R D G1
theorem a5d (I:Nat->List Z->Hq->Prop) (h0:I 0 [] (put G1 D (.lst []))) (hok:∀ i ys G,i≤ws.length->I i ys G->ok G)
  (step:∀ i x ys G,ws[i]?=some x->I i ys G->∃ σ',a5H pt x (cap3 cap σ)=some σ'/\tt σ' G λb G4=>if b=true then te σ' G4 λy G5=>G5 D=some (.lst ys)/\ys.length<jS/\I (i+1) (ys++[y]) (put G5 D (.lst (ys++[y]))) else I (i+1) ys G4)
  (fin:∀ ys G,I ws.length ys G->R (.ref D) G):LCB ws ok cap pt tt te σ R D G1:=⟨I,h0,hok,step,fin⟩
theorem a1X {α β:Type}{f:α->Option β}{ws:List α}{x:α}(h:ws[i]?=some x):(ws.take (i+1)).filterMap f=(ws.take i).filterMap f++(f x).toList:=by
 rw[fA,je,h];cases e:f x<;>simp[e]
theorem b5j (f:Z->Option Z) (hok:∀ ys,ok (put G1 D (.lst ys))) (hz:ws.length≤1000)
  (turn:∀ x,x∈ws->∀ (ys:List Z) (K1:K3) (K2:Hq->Prop),(∀ y,f x=some y->K1 y (put G1 D (.lst ys)))->(f x=none->K2 (put G1 D (.lst ys)))->∃ σ',a5H pt x (cap3 cap σ)=some σ'/\tt σ' (put G1 D (.lst ys)) λb G4=>if b=true then te σ' G4 K1 else K2 G4)
  (fin:R (.ref D) (put G1 D (.lst (ws.filterMap f)))):LCB ws ok cap pt tt te σ R D G1:=by
 refine⟨λi a G=>a=(ws.take i).filterMap f/\G=put G1 D (.lst a),⟨by simp,rfl⟩,?_,?_,?_⟩
 ·simp_all
 ·rintro i x a G c ⟨e,rfl⟩;refine turn x (er c) a _ _ (λy g=>⟨a0e,?_,?_,?_⟩) λd=>⟨?_,rfl⟩
  ·rw[e];exact h9 (dW (fO _ _) (by rw[dY];omega)) (a0r (dM 1000))
  ·rw[a1X c,g,e];rfl
  ·rw[a2u]
  ·rw[a1X c,d,e];simp
 ·simp_all
def QIfs (X:Cx) (ifs:List Expr) (t:T3):Prop:=PIfs X ifs (lowT X.K t)
def uTT:T3:=λ_ G R=>R true G
theorem a2b:QIfs X [] uTT:=λa s τ H Q I ⟨σ,G,R,d,b,h,c⟩=>b3b a s τ H Q I (c _ _ _ h b (.refl _ _))
theorem a6z (h:QT X c t):QIfs X [c] t:=b3c h.p
theorem b5k {pt:Pt}(hc:(pt.slots.all λj=>decide (cap[j]?=some none))=true) (h:(a39 cap τ)[i]?=some (some v)):i∉pt.slots:=λa=>by
 have q:=of_decide_eq_true ((fI.mp hc) i a);unfold a39 at h;rw[dQ,q]at h;cases h
theorem b1u {K:Fg}(hc:(pt.slots.all λj=>decide (cap[j]?=some none))=true) (h:low K (uLC wi cap pt tt te) τ H Q) :
  tLC (lowI K wi) cap (gP K pt) (lowT K tt) (low K te) τ H Q:=by
 obtain⟨σ,G,R,hs,hg,h,up⟩:=h;refine⟨σ,G,_,hs,hg,h,λc ok G1 J H1 h1 hJ t U D B=>?_⟩;obtain⟨I,i0,S,C,N⟩:=h1 D (t.out B);refine⟨λi m _ d=>m=c.length - i/\i≤c.length/\∃ a G',RH K G' d/\TK K H1 d/\I i a G',⟨c.length,by simp,eI _,[],_,t.set (o:=.lst []) (.new B) ⟨[],a0A,.nil⟩,.new B,i0⟩,?_⟩;rintro i m vs H2 ⟨rfl,w,a,f,p,g,E⟩;have n:=hJ i f H2 p g (S i a f w E) w
 by_cases hlt:i<c.length
 ·obtain⟨go,yl⟩:=n.2 _ (en hlt);refine .inr ⟨go,λ_ d=>i+1≤c.length/\∃ a G',RH K G' d/\TK K H1 d/\I _ a G',λvs' d q=>⟨c.length - _,by omega,rfl,q.1,q.2⟩,λx H3 y3=>?_⟩;obtain⟨rx,aa,F⟩:=yl x H3 y3;obtain⟨σ',Y,h3⟩:=C i _ a f (en hlt) E;refine b5i rx (a8j (hs.mono ((U.trans g).trans F)) cap) Y fun τ' z M hk'=>⟨a4e M λj v T=>by rw[hk' j (b5k hc T)];exact T,?_⟩;refine⟨σ',f,_,z,aa,h3,λb G4 H4 l u A=>?_⟩;cases b with
  | false=>
   exact⟨hlt,a,G4,u,(g.trans F).trans A,l⟩
  | true=>
   refine⟨σ',G4,_,z.mono A,u,l,λy G5 v5 H5 ⟨L,V,h5⟩ r5 r t5=>?_⟩;obtain⟨X,k,s⟩:=r D _ L;refine⟨X,k,by rw[<- s.length];exact V,hlt,_,_,r.set (.lst k) (a1i (s.append (.cons r5 .nil)) (.lst k)),?_,h5⟩;exact (((g.trans F).trans A).trans t5).trans (.lst k)
 ·have e:i=c.length:=by omega
  subst e;exact .inl ⟨n.1 rfl,up _ _ _ _ (N a f E) (by rw[a0K]) p (U.trans g)⟩
section
variable {X:Cx}{N':List Str}{sc:Scope}{cap:List (Option Nat)}{tg iter elt:Expr}{ifs:List Expr}{wi:I3}{pt:Pt}{tt:T3}{te:E3}{pos:Pos}
theorem q_lc (hc:X.calm=true) (hNN:X.N=N₀) (hso:X.env.scope=so) (ck:capB N₀ so sc N' cap=true) (hp:(pt.slots.all λj=>decide (cap[j]?=some none))=true) (hi:QI X tg iter wi)
  (hg:∀ C s H fp,QP (cxC X E0 N' sc C s H fp) tg pt) (ht:∀ C s H fp,QIfs (cxC X E0 N' sc C s H fp) ifs tt) (he:∀ C s H fp,QE (cxC X E0 N' sc C s H fp) elt te)
  (hs:∀ x,kK iter X.env x=pure x:=by intro _;rfl):QE X (.ListComp elt [⟨tg,iter,ifs,0⟩] sc pos) (uLC wi cap pt tt te):=⟨a1s (b7d (g:=gP X.K pt) (tt:=lowT X.K tt) hc a84 hNN hso ck hi hg ht (λC s H a=>(he C s H a).p) hs) λ_ _ _=>b1u hp⟩
theorem a8k (hN:X.N.Nodup) (hx:X.N[i]?=some x) (hl:X.env.scope.names.lookup x=some .local) (hc:X.calm=true) (hNN:X.N=N₀) (hso:X.env.scope=so) (ck:capB N₀ so sc N' cap=true)
  (hp:(pt.slots.all λj=>decide (cap[j]?=some none))=true) (hi:QI X tg iter wi)
  (hg:∀ C s H fp,QP (cxC X E0 N' sc C s H fp) tg pt) (ht:∀ C s H fp,QIfs (cxC X E0 N' sc C s H fp) ifs tt) (he:∀ C s H fp,QE (cxC X E0 N' sc C s H fp) elt te)
  (hsw:kD (.ListComp elt [⟨tg,iter,ifs,0⟩] sc pos) (some (.Name x pos')) spos.line X.env=pure true:=by rfl)
  (hs:∀ x,kK iter X.env x=pure x:=by intro _;rfl):QS X (.Assign [.Name x pos'] (.ListComp elt [⟨tg,iter,ifs,0⟩] sc pos) spos) (uAsg (uLC wi cap pt tt te) (.nm i)):=⟨a4E (b3e (g:=gP X.K pt) (tt:=lowT X.K tt) hN hx hl hc a84 hNN hso ck hi hg ht (λC s H a=>(he C s H a).p) hsw hs) λD τ H h=>b1u hp (a8i h)⟩
end
section
variable {P:jY}{w:World}{K:Fg}{mg:Str->Option Value}{base:Heap}
theorem fn3 {st:Stmt}(F:Fun K x qual st f fd) (S:FnScope N ps (a0i st)) (len:∀ ws G R,sp ws G R->ws.length=ps.length)
  (hbody:∀ (cdv:Value) (A:Around) (outer:List Env) (s:Shared) (H:Hp) (E:XK) (ws:List Z) (G:Hq) (R:K3),Room k (A.deeper (envOfC qual (a0i st) s.heap.objs.size f cdv))->sp ws G R ->
   ∃ t,QSs (cxOf CX0 P w K mg base N qual (a0i st) f cdv A outer s H E).nox (a18 st) t/\t (λ_ G'=>R .non G') R (λ_ _=>False) (λ_ _=>False) (a4y N ws) G):FnOk P w K mg base CX0 (k+1) f fd ps (lowP K sp):=by
 refine F.ok S (λn H Q E ⟨d,G,R,c,e,h,b⟩=>by rw[<- c.length];exact len _ _ _ h) ?_;rintro g A a s H n Q E j ⟨d,G,R,c,e,h,b⟩;obtain⟨t,l,q⟩:=hbody g A a s H E d G R j h;exact⟨_,l.p,a4y N d,G,_,R,_,_,.start c,e,q,fun σ' v τ' u m r i o=>b _ _ _ _ m (by rw[a0V]) i o,b,λ_ _ _ _ h _ _ _=>h.elim,λ_ _ _ _ h _ _ _=>h.elim⟩
end
end L3
namespace L3
open PySem PySem.Spec PyProof.Rows L2
section
variable {X:Cx}
def zAdd:R3:=λx y G R=>match x,y with
 | .int i,.int j=>R (.int (i+j)) G
 | .str a,.str b=>a.length+b.length≤jS/\R (.str (a++b)) G
 | .tup xs,.tup ys=>xs≠[]/\xs.length+ys.length≤jS/\R (.tup (xs++ys)) G
 | .ref p,.ref q=>∃ xs ys,G p=some (.lst xs)/\G q=some (.lst ys)/\xs.length+ys.length≤jS/\∀ t,G t=none->R (.ref t) (put G t (.lst (xs++ys)))
 | _,_=>False
theorem a0S:OpQ X (kb .Add) zAdd:=a7n (op_add.or (op_add_str.or (op_catT.or b64))) λx y H Q D=>D.un λa b G R c d f h m=>by
 cases a with
 | int i=>
  cases b with
  | int j=>rw[a0v]at c d;exact .inl ⟨_,_,c,d,m _ _ _ _ h (by rw[a0v]) f (.refl _ _)⟩
  | _=>exact dR h
 | str i=>
  cases b with
  | str j=>rw[a0L]at c d;exact .inr (.inl ⟨_,_,c,d,h.1,m _ _ _ _ h.2 (by rw[a0L]) f (.refl _ _)⟩)
  | _=>exact dR h
 | tup w=>
  cases b with
  | tup ws=>
   obtain⟨p,n,rfl,o,k⟩:=c;obtain⟨q,r,rfl,u,l⟩:=d;obtain⟨B,s,h⟩:=h;refine .inr (.inr (.inl ⟨p,q,n,r,rfl,rfl,SqT.of o,SqT.of u,λz=>?_,by rw[<- k.length,<- l.length];exact s,λz=>?_,λz t g=>?_⟩))
   ·subst z;exact B (fP.mp k.length)
   ·subst z;have e:=fP.mp l.length;subst e;rw[eO]at h;exact m _ _ _ _ h (by rw[a2a];exact⟨p,n,rfl,o,k⟩) f (.refl _ _)
   ·exact m _ _ _ _ h (by rw[a2a];exact⟨t,n++r,rfl,a0A,Reps.mono (.new g) _ _ (k.append l)⟩) (f.hid g) (.new g)
  | _=>exact dR h
 | ref p=>
  cases b with
  | ref q=>
   subst c d;obtain⟨n,r,o,u,s,h⟩:=h;obtain⟨C,A,k⟩:=f _ _ o;obtain⟨w,v,l⟩:=f _ _ u;exact .inr (.inr (.inr ⟨_,_,C,w,rfl,rfl,A,v,by rw[<- k.length,<- l.length];exact s,λt g=>m _ _ _ _ (h t (f.out g)) (by rw[a0K]) (f.set (.new g) (a1i (k.append l) (.new g))) (.new g)⟩))
  | _=>exact dR h
 | _=>exact dR h
def zI (C:Int->Int->Prop) (g:Int->Int->Z):R3:=λx y G R=>match x,y with
 | .int i,.int j=>C i j/\R (g i j) G
 | _,_=>False
def zI0 (g:Int->Int->Z):R3:=λx y G R=>match x,y with
 | .int i,.int j=>R (g i j) G
 | _,_=>False
theorem oI {g:Int->Int->Int}(h:OpR X f (rI C λi j=>.int (g i j))):OpQ X f (zI C λi j=>.int (g i j)):=a7n h λx y H Q l=>l.un λa b G R d c k h e=>by
 cases a<;>cases b<;>first
  | exact dR h
  | (rw[a0v]at d c;exact⟨_,_,d,c,h.1,e _ _ _ _ h.2 (by rw[a0v]) k (.refl _ _)⟩)
theorem oI0 {g:Int->Int->Int}(h:OpR X f (rI0 λi j=>.int (g i j))):OpQ X f (zI0 λi j=>.int (g i j)):=a7n h λx y H Q l=>l.un λa b G R d c k h e=>by
 cases a<;>cases b<;>first
  | exact dR h
  | (rw[a0v]at d c;exact⟨_,_,d,c,e _ _ _ _ h (by rw[a0v]) k (.refl _ _)⟩)
theorem a8l:OpQ X (kb .Sub) (zI0 λi j=>.int (i - j)):=oI0 b6N
theorem a96:OpQ X (kb .Mult) (zI CMul λi j=>.int (i*j)):=oI b6O
theorem a5e:OpQ X (kb .FloorDiv) (zI b7g λi j=>.int (i / j)):=oI b3f
theorem a00:OpQ X (kb .Mod) (zI (λ_ j=>0<j) λi j=>.int (i % j)):=oI b6P
theorem a4G:OpQ X (kb .Pow) (zI CPow λi j=>.int (i ^ j.toNat)):=oI b6Q
theorem b7z:OpQ X (lZ .Add) (zI0 λi j=>.int (i+j)):=oI0 b4Z
def zNeg:Z->Hq->K3->Prop:=λx G R=>match x with
 | .int i=>R (.int (-i)) G
 | _=>False
theorem a1V:UnQ X (lY .USub) zNeg:=b9F b6R λx H Q c=>c.un λa G R b d h e=>by
 cases a<;>first
  | exact dR h
  | (rw[a0v]at b;exact⟨_,b,e _ _ _ _ h (by rw[a0v]) d (.refl _ _)⟩)
theorem b1v:OpR X (j5 .LtE) (λx y H Q=>∃ i j,x=.str i/\y=.str j/\Q (.bl (!decide (j.cps.toList<i.cps.toList))) H):=by
 intro b s σ H x y v u Q I a c h;obtain⟨i,j,rfl,rfl,q⟩:=h;obtain⟨t,rfl⟩:=a;obtain⟨d,rfl⟩:=c;exact PySem.P.le_str (a0D I q rfl)
theorem b1w:OpR X (j5 .Gt) (λx y H Q=>∃ i j,x=.str i/\y=.str j/\Q (.bl (decide (j.cps.toList<i.cps.toList))) H):=by
 intro b s σ H x y v u Q I a c h;obtain⟨i,j,rfl,rfl,q⟩:=h;obtain⟨t,rfl⟩:=a;obtain⟨d,rfl⟩:=c;exact PySem.P.gt_str (a0D I q rfl)
def zC (f:Int->Int->Bool) (g:Str->Str->Bool):R3:=λx y G R=>match x,y with
 | .int i,.int j=>R (.bl (f i j)) G
 | .str i,.str j=>R (.bl (g i j)) G
 | _,_=>False
theorem oC (h:OpR X (j5 op) (rI0 λi j=>.bl (f i j))) (h':OpR X (j5 op) (λx y H Q=>∃ i j,x=.str i/\y=.str j/\Q (.bl (g i j)) H)) :
  OpQ X (j5 op) (zC f g):=a7n (h.or h') λx y H Q l=>l.un λa b G R c d e h k=>by
 cases a<;>cases b<;>first
  | exact dR h
  | (rw[a0v]at c d;exact .inl ⟨_,_,c,d,k _ _ _ _ h (by rw[a0U]) e (.refl _ _)⟩)
  | (rw[a0L]at c d;exact .inr ⟨_,_,c,d,k _ _ _ _ h (by rw[a0U]) e (.refl _ _)⟩)
abbrev ltS (x y:Str):Bool:=decide (x.cps.toList<y.cps.toList)
theorem o_lt:OpQ X (j5 .Lt) (zC (λi j=>decide (i<j)) λx y=>ltS x y):=oC b9s b0O
theorem o_le:OpQ X (j5 .LtE) (zC (λi j=>decide (i≤j)) λx y=>!ltS y x):=oC b9t b1v
theorem o_gt:OpQ X (j5 .Gt) (zC (λi j=>decide (j<i)) λx y=>ltS y x):=oC b9u b1w
def zIs (neg:Bool):R3:=λx y G R=>match y with
 | .non=>R (.bl (if neg then !decide (x=.non) else decide (x=.non))) G
 | .bl b=>match x with
  | .bl a=>neg=false/\R (.bl (a==b)) G
  | _=>False
 | _=>False
theorem a51 {K:Fg}(r:Rep K H w v):decide (v=.non)=decide (w=.non):=by
 cases w with
 | non=>rw[a0V]at r;subst r;rfl
 | bl _=>rw[a0U]at r;subst r;simp
 | int _=>rw[a0v]at r;subst r;simp
 | str _=>rw[a0L]at r;subst r;simp
 | ref _=>rw[a0K]at r;subst r;simp
 | ty _=>rw[b1h]at r;subst r;simp
 | scr _ _=>rw[a4c]at r;obtain⟨rfl,_⟩:=r;simp
 | tup _=>rw[a2a]at r;obtain⟨_,_,rfl,_⟩:=r;simp
end
mutual
def dZ:Z->PyData
 | .bl b=>.bool b
 | .int i=>.int i
 | .str x=>.str x
 | .tup ws=>.tuple (dZs ws)
 | _=>.none
def dZs:List Z->List PyData
 | []=>[]
 | w::ws=>dZ w::dZs ws
end
noncomputable def flat:Nat->Z->Bool
 | _,.non=>true
 | _,.int _=>true
 | _,.str x=>PyData.strOk x
 | n+1,.tup ws=>ws.all (flat n)
 | _,_=>false
theorem b4m:∀ (n:Nat) (d:Z),flat n d=true->(dZ d).canLay0=true/\(dZ d).depth≤n:=by
 have f:∀ n,(∀ d,flat n d=true->(dZ d).canLay0=true/\(dZ d).depth≤n)->∀ a:List Z,(∀ d∈a,flat n d=true)->PyData.canLayAll0 (dZs a)=true/\PyData.depthAll (dZs a)≤n:=by
  intro n b a
  induction a with
  | nil=>intro _;simp[dZs,PyData.canLayAll0,PyData.depthAll]
  | cons d a hi=>
   intro h;have g:=b d (h d (.head _));have c:=hi λe j=>h e (.tail _ j);simp only[dZs,PyData.canLayAll0,PyData.depthAll,g.1,c.1,Bool.and_self,true_and];omega
 intro n
 induction n with
 | zero=>
  intro d h;cases d<;>simp_all[flat,dZ,PyData.canLay0,PyData.depth]
 | succ n b=>
  intro d h;cases d with
  | non=>simp[dZ,PyData.canLay0,PyData.depth]
  | int i=>simp[dZ,PyData.canLay0,PyData.depth]
  | str x=>simp[flat]at h;simp[dZ,PyData.canLay0,PyData.depth,h]
  | tup a=>
   have q:=f n b a (by simpa[flat]using h);simp only[dZ,PyData.canLay0,PyData.depth,q.1,true_and];omega
  | _=>simp[flat]at h
theorem b5l (n:Nat) (ds:List Z) (h:ds.all (flat n)=true):PyData.canLayAll0 (dZs ds)=true/\PyData.depthAll (dZs ds)≤n:=by
 have q:=b4m (n+1) (.tup ds) (by simpa[flat]using h);simp only[dZ,PyData.depth]at q;exact⟨q.1,by omega⟩
theorem b4n:∀ (n:Nat) (d e:Z) (k:Nat),flat n d=true->flat k e=true->(PyData.eqv (dZ d) (dZ e)=true↔d=e):=by
 have all:∀ (n:Nat),(∀ d e k,flat n d=true->flat k e=true->(PyData.eqv (dZ d) (dZ e)=true↔d=e))->∀ (k:Nat) (ds es:List Z),(∀ d∈ds,flat n d=true)->(∀ d∈es,flat k d=true) ->
   (PyData.eqvAll (dZs ds) (dZs es)=true↔ds=es):=by
  intro n ih k ds
  induction ds with
  | nil=>intro es _ _;cases es<;>simp[dZs,PyData.eqvAll]
  | cons d ds hi=>
   intro es h1 h2;cases es with
   | nil=>simp[dZs,PyData.eqvAll]
   | cons e es=>
    have q1:=ih d e k (h1 d (.head _)) (h2 e (.head _));have q2:=hi es (λx hx=>h1 x (.tail _ hx)) λx hx=>h2 x (.tail _ hx);simp only[dZs,PyData.eqvAll,fz,q1,q2,fN.injEq]
 intro n
 induction n with
 | zero=>
  intro d e k h1 h2;cases d<;>cases e<;>simp_all[flat,dZ,PyData.eqv]
 | succ n ih=>
  intro d e k h1 h2;cases d with
  | tup ds=>
   cases e with
   | tup es=>
    cases k with
    | zero=>simp[flat]at h2
    | succ k=>
     simp only[dZ,PyData.eqv,Z.tup.injEq];exact all n ih k ds es (by simpa[flat]using h1) (by simpa[flat]using h2)
   | _=>simp_all[flat,dZ,PyData.eqv]
  | _=>cases e<;>simp_all[flat,dZ,PyData.eqv]
theorem b5m (n k:Nat) (ds es:List Z) (h:ds.all (flat n)=true) (h':es.all (flat k)=true):PyData.eqvAll (dZs ds) (dZs es)=true↔ds=es:=by
 have q:=b4n (n+1) (.tup ds) (.tup es) (k+1) (by simpa[flat]using h) (by simpa[flat]using h');simpa only [dZ,PyData.eqv,Z.tup.injEq]using q
section
variable {K:Fg}{H:Hp}
theorem b5n:∀ (n:Nat) (w:Z) (v:V),flat n w=true->Rep K H w v->DV H (dZ w) v:=by
 have g:∀ n,(∀ w v,flat n w=true->Rep K H w v->DV H (dZ w) v)->∀ b c,(∀ d∈b,flat n d=true)->Reps K H b c->DVs H (dZs b) c:=by
  intro n f b
  induction b with
  | nil=>intro c _ r;exact r
  | cons w b hi=>
   intro c h r;obtain⟨v,j,e,o,l⟩:=r;exact⟨v,j,e,f w v (h w (.head _)) o,hi j (λd k=>h d (.tail _ k)) l⟩
 intro n
 induction n with
 | zero=>
  intro w v h r;cases w with
  | non=>rw[a0V]at r;exact r
  | int i=>rw[a0v]at r;exact r
  | str x=>rw[a0L]at r;exact r
  | _=>simp[flat]at h
 | succ n f=>
  intro w v h r;cases w with
  | non=>rw[a0V]at r;exact r
  | int i=>rw[a0v]at r;exact r
  | str x=>rw[a0L]at r;exact r
  | tup b=>
   obtain⟨a,c,e,p,m⟩:=r;exact⟨a,c,e,p,g n f b c (by simpa[flat]using h) m⟩
  | _=>simp[flat]at h
theorem b1x (n:Nat):∀ (ws:List Z) (vs:List V),ws.all (flat n)=true->Reps K H ws vs->DVs H (dZs ws) vs
 | [],vs,_,r=>by rw[a0B]at r;simp only[dZs];unfold DVs;exact r
 | w::ws,vs,h,r=>by
  obtain⟨v,a,e,b,c⟩:=r;rw[eL,fz]at h;exact⟨v,a,e,b5n n w v h.1 b,b1x n ws a h.2 c⟩
end
theorem a5f (h:flat n w=true) (hn:n≤64):SeqAt.shaped (dZ w)=true:=by
 have q:=b4m n w h;unfold SeqAt.shaped;rw[q.1,e9];exact decide_eq_true (by omega)
theorem a5g (h:ws.all (flat n)=true) (hn:n≤63):SeqAt.shaped (.list (dZs ws))=true:=by
 have q:=b5l n ws h;unfold SeqAt.shaped;simp only[PyData.canLay0,PyData.depth,q.1];exact decide_eq_true (by omega)
theorem b1y {p:Prop}[Decidable p] (h:a=true↔p):a=decide p:=by
 cases a with
 | true=>exact (decide_eq_true (h.mp rfl)).symm
 | false=>exact (decide_eq_false λq=>by cases h.mpr q).symm
theorem a0P {p q:Prop}[Decidable p] [Decidable q] (h:p=q):decide p=decide q:=by grind
def zEq (f:Bool->Bool):R3:=λx y G R=>match x,y with
 | .bl a,.bl b=>R (.bl (f (a==b))) G
 | .int a,.int b=>R (.bl (f (decide (a=b)))) G
 | .str a,.str b=>R (.bl (f (decide (a=b)))) G
 | .ref p,.ref q=>∃ xs ys,G p=some (.lst xs)/\G q=some (.lst ys)/\xs.all (flat 8)=true/\ys.all (flat 8)=true/\R (.bl (f (decide (xs=ys)))) G
 | x,y=>flat 8 x=true/\flat 8 y=true/\R (.bl (f (decide (x=y)))) G
section
variable {X:Cx}
theorem b4o {K:Fg}(h:low2 K (zEq f) x y H Q) :
    (scal x y=true/\Q (.bl (f (decide (x=y)))) H)\/∃ d e,DV H d x/\DV H e y/\SeqAt.shaped d=true/\SeqAt.shaped e=true/\Q (.bl (f (PyData.eqv d e))) H:=by
  obtain⟨a,b,G,R,g,c,i,h,j⟩:=h;have p:flat 8 a=true/\flat 8 b=true/\R (.bl (f (decide (a=b)))) G->∃ d e,DV H d x/\DV H e y/\SeqAt.shaped d=true/\SeqAt.shaped e=true/\Q (.bl (f (PyData.eqv d e))) H:=λ⟨n,m,w⟩=>by
    refine⟨dZ a,dZ b,b5n 8 _ _ n g,b5n 8 _ _ m c,a5f n (by simp),a5f m (by simp),?_⟩;rw[b1y (b4n 8 a b 8 n m)];exact j _ _ _ _ w (by rw[a0U]) i (.refl _ _)
  cases a<;>cases b<;>first
    | exact .inr (p h)
    | (rw[a0U]at g c;subst g c;exact .inl ⟨rfl,by rw[b0L];exact j _ _ _ _ h (by rw[a0U]) i (.refl _ _)⟩)
    | (rw[a0v]at g c;subst g c;exact .inl ⟨rfl,by rw[a0P (V.int.injEq _ _)];exact j _ _ _ _ h (by rw[a0U]) i (.refl _ _)⟩)
    | (rw[a0L]at g c;subst g c;exact .inl ⟨rfl,by rw[a0P (V.str.injEq _ _)];exact j _ _ _ _ h (by rw[a0U]) i (.refl _ _)⟩)
    | (rw[a0K]at g c
       subst g c;obtain⟨r,s,t,z,k,l,h⟩:=h;obtain⟨u,q,v⟩:=i _ _ t;obtain⟨B,o,A⟩:=i _ _ z;refine .inr ⟨.list _,.list _,?_,?_,a5g k (by simp),a5g l (by simp),?_⟩;exact⟨_,u,rfl,q,b1x 8 _ _ k v⟩;exact⟨_,B,rfl,o,b1x 8 _ _ l A⟩
       · simp only[PyData.eqv]
         rw[b1y (b5m 8 8 r s k l)];exact j _ _ _ _ h (by rw[a0U]) i (.refl _ _))
theorem o_eq (hu:X.A.units+66<cLine):OpQ X (j5 .Eq) (zEq id):=a7n (op_eq.or (b7e hu)) λx y H Q h=>b4o h
theorem o_ne (hu:X.A.units+66<cLine):OpQ X (j5 .NotEq) (zEq not):=a7n (op_ne.or (b7f hu)) λx y H Q h=>b4o h
end
end L3
namespace L2
open PySem PySem.Spec PyProof.Rows
noncomputable def Its (x:Str):It:=⟨λi _=>i<x.cps.size,λi H v H'=>H'=H/\∃ c,x.cps[i]?=some c/\v=.str ⟨#[c]⟩,λi _=>i=x.cps.size⟩
theorem a9a {P:jY}{w:World}{K:Fg}{tg:Expr}{it:Addr}{ty:String}{x:Str}{t:Tok}
  (hty:["enumerate","zip","dict_itemiterator","dict_reverseitemiterator","odict_iterator","itertools.zip_longest","itertools.pairwise"].contains ty=false)
  (W:∀ A':Around,A'.handled=none->Walks P w A' it [it] [it] x.cps.size (SignAt x) (λi h=>h.IsStrIter it ty x t i))
  (hself:∀ (A:Around) (i:Nat) (s:Shared) (Q:Value->Shared->Prop) (E:Value->Shared->Prop),s.heap.IsStrIter it ty x t i->Q (.ref it) s->wpAny (model P w) A (pyIter (.ref it)) Q E s) :
  Turn P w K tg (Its x) [it] it (λi h=>h.IsStrIter it ty x t i) where
 mem:=by simp
 obj:=λi h st b hb=>by
  have e:b=it:=by simpa using hb
  subst e;obtain⟨o,e,c,d⟩:=st;exact⟨o,e,λv z=>by rw[d]at z;cases z⟩
 keep:=λi h h' st k=>let ⟨o,e,r⟩:=st;⟨o,k it (by simp) o e,r⟩
 item:=by
  intro X hP hw hK hc i pins s σ H E I hf st hg;subst hP hw hK;obtain⟨f0,f1,f2,f3,f4,f5⟩:=hf it (by simp);refine (W X.A (I.ok.hd hc)).item i s _ _ hg st λv h' tk ⟨c,u,hx,e⟩ st' k=>?_;subst e;have I1:Inv X pins σ H { s with heap:=h',toks:=tk }:=I.turned (t':=tk) (λb o hb e=>k b o (by simpa using hb) e) f0 f1 f3 f4 f5;obtain⟨o,e,cl,d⟩:=id st';exact⟨_,rfl,a9Q (s:={ s with heap:=h',toks:=tk }) e cl d hty ⟨.str ⟨#[c]⟩,H,I1,⟨_,rfl⟩,⟨rfl,c,hx,rfl⟩,st',λb hb=>(hf b hb).1⟩⟩
 done:=by
  intro X hP hw hK hc i pins s σ H E I hf st hg;subst hP hw hK;obtain⟨f0,f1,f2,f3,f4,f5⟩:=hf it (by simp);have hg':i=x.cps.size:=hg;subst hg';exact (W X.A (I.ok.hd hc)).done s _ _ st λh' tk k=>⟨rfl,I.turned (t':=tk) (λb o hb e=>k b o (by simpa using hb) e) f0 f1 f3 f4 f5⟩
 self:=hself
def iStr (tl:TE):TI:=fun σ H R=>tl σ H λv H1=>∃ x,v=.str x/\R (Its x) H1
theorem b7A (hl:PE X l tl):PI X tg l (iStr tl):=by
 intro c s σ H R I h;refine thn (hl c s σ H _ I h) λv a ⟨x,f,d,p,m⟩=>?_;obtain⟨y,e,q⟩:=m;subst e;obtain⟨t,rfl⟩:=p;have j:∀ (o:Obj),∀ b∈[a.heap.objs.size],FpOk X c f b:=λo b k=>by
  have e:b=a.heap.objs.size:=by simpa using k
  subst e;exact d.fpOk (dM _) (d.hok.fresh (dM _))
 cases ha:y.cps.all _
 ·refine wpAny_pyIter_wide ha ?_;exact⟨a.heap.objs.size,[a.heap.objs.size],_,_,f,rfl,d.kept (λb o e=>Heap.get?_push_of_some _ e),a9a (by decide) (λn i=>Walks.strWide i _ y t) (λ_ _ _ _ _ g h=>wpAny_pyIter_striter_wide g h),
   ⟨_,Heap.get?_push_size _ rfl,rfl,rfl⟩,j default,q⟩
 ·refine wpAny_pyIter_ascii ha ?_;exact⟨a.heap.objs.size,[a.heap.objs.size],_,_,f,rfl,d.kept (λb o e=>Heap.get?_push_of_some _ e),a9a (by decide) (λn i=>Walks.strAscii i _ y t) (λ_ _ _ _ _ g h=>wpAny_pyIter_striter_ascii g h),
   ⟨_,Heap.get?_push_size _ rfl,rfl,rfl⟩,j default,q⟩
theorem Vals.tog:∀ {xs:List V}{us:List Value}{i:Nat}{u:Value},Vals xs us->us[i]?=some u->∃ x,xs[i]?=some x/\RelV x u
 | _,_,_,_,.nil,e=>by simp at e
 | _,_,0,_,.cons r _,e=>by simp at e;subst e;exact⟨_,rfl,r⟩
 | _,_,i+1,u,.cons _ t,e=>by
  obtain⟨x,a,b⟩:=Vals.tog t (by simpa using e);exact⟨x,by simpa using a,b⟩
theorem a52:∀ {ys:List Str}{us:List Value},Vals (ys.map V.str) us->StrsAre us ys
 | [],us,r=>by rw[eK]at r;cases r;exact .nil
 | y::ys,us,r=>by
  cases r with
  | cons r1 r2=>
   obtain⟨t,e⟩:=r1;subst e;exact .cons y t (a52 r2)
theorem b1z (bs:List Bool):(fq bs.length).all (λi=>bs.getD i false)=bs.all id:=by
 rw[gz];simp only[fI,iB,id]
 constructor
 ·intro h b c;obtain⟨i,a,e⟩:=List.getElem_of_mem c
  have:=h i a
  rw[ie,en a]at this;rw[<- e];exact this
 ·intro h i a;rw[ie,en a];exact h _ (fB a)
section
variable {X:Cx}
theorem b1A (hc:X.calm=true):CallR X (.builtin "all") (λxs H Q=>∃ (p:Addr) (bs:List Bool),xs=[.ref p]/\SqL X.K H p (bs.map V.bl)/\Q (.bl (bs.all id)) H):=by
 intro n s σ H M R Q I r h;obtain⟨p,a,rfl,E,q⟩:=h;obtain⟨u,rfl,y⟩:=a20 r;cases y;obtain⟨d,l,g,_⟩:=I.list E;have B:p<s.heap.objs.size:=by obtain⟨o,_,e,_⟩:=g;exact Heap.lt_size e
 refine call_all_walk (lW g.isList ?_);have D:X.A.in1.handled=none:=I.ok.hd hc;have t:(s.heap.push { cls:=.type "list_iterator",data:=.fields #[.ref p,rawInt 0] }).IsList p d.toArray:=by
  obtain⟨o,e,c⟩:=g.isList;exact⟨o,Heap.get?_push_of_some _ e,c⟩
 refine⟨_,_,_,_,_,_,λi=>a.getD i false,rfl,Walks.list D s.heap.objs.size p (ei B) d.toArray,⟨⟨_,Heap.get?_push_size _ rfl,rfl,rfl⟩,t⟩,?_,?_⟩
 ·intro i v N L J C j;obtain⟨x,f,w⟩:=Vals.tog l (by simpa using C);rw[dQ]at f;cases hb:a[i]? with
  | none=>rw[hb]at f;cases f
  | some b=>
   rw[hb]at f;cases f;cases w;refine kI ?_
   have:a.getD i false=b:=by simp_all
   dsimp only at j;rw[this]at j;exact j
 ·intro G F k;have e:(fq d.toArray.size).all (λi=>a.getD i false)=a.all id:=by
   have z:d.toArray.size=a.length:=by rw[eZ,<- l.length,dJ]
   rw[z];exact b1z a
  rw[e];exact⟨.bl _,H,I.kept (λb o m=>k b o (by simpa using ei (Heap.lt_size m)) (Heap.get?_push_of_some _ m)),rfl,q⟩
theorem b7B:OpR X (j5 .Is) (λx y H Q=>∃ a b,x=.bl a/\y=.bl b/\Q (.bl (a==b)) H):=by
 intro d s σ H x y v u Q I c e h;obtain⟨a,b,rfl,rfl,q⟩:=h;cases c;cases e;exact wpAny_is_plain rfl (a0D I q (by cases a<;>cases b<;>rfl))
theorem b5o:MtR X "str.join" (λx vs H Q=>∃ (z:Str) (p:Addr) (ys:List Str),x=.str z/\vs=[.ref p]/\SqL X.K H p (ys.map V.str)/\(ys.map (·.length)).sum+ys.length*z.length≤16777216/\Q (.str (Txt.join z ys)) H):=by
 intro c s σ H x m v n Q I a g h;obtain⟨z,p,o,rfl,rfl,d,i,q⟩:=h;obtain⟨t,rfl⟩:=a;obtain⟨u,rfl,f⟩:=a20 g;cases f;obtain⟨j,b,e,_⟩:=I.list d;exact join_list e.isList (by simpa using a52 b) i λl k=>⟨.str _,H,I.tok k,⟨_,rfl⟩,q⟩
def rSlS:V->Option Int->Option Int->Hp->VK->Prop:=λx lo hi H Q=>∃ z,x=.str z/\z.length≤jS/\Q (.str (Txt.slice z lo hi)) H
theorem b7C:SlR X rSlS:=by
 intro g s σ H x v A B f b C Q I w p y m h;obtain⟨z,rfl,r,q⟩:=h;obtain⟨t,rfl⟩:=w;obtain⟨o,e,c,d⟩:=p;have a:∀ f b,Q _ H->(Txt.slice z f b).length≤jS/\∀ n k,EP X g σ Q (.str (Txt.slice z f b) n) { s with toks:=k }:=λf b q=>
  ⟨dW (Txt.slice_le z _ _) r,λn k=>⟨.str _,H,I.tok k,⟨_,rfl⟩,q⟩⟩
 cases y with
 | none=>
  cases m with
  | none=>exact⟨"str",_,F.slot_str_getitem.lookup,kS _ _ _,l9 (l:=none) (u:=none) (st:=none) ⟨o,e,c,d⟩ rfl (ma (a _ _ q))⟩
  | int j u=>exact⟨"str",_,F.slot_str_getitem.lookup,kS _ _ _,l9 (l:=none) (u:=some (j,u)) (st:=none) ⟨o,e,c,d⟩ rfl (ma (a _ _ q))⟩
 | int i v=>
  cases m with
  | none=>exact⟨"str",_,F.slot_str_getitem.lookup,kS _ _ _,l9 (l:=some (i,v)) (u:=none) (st:=none) ⟨o,e,c,d⟩ rfl (ma (a _ _ q))⟩
  | int j u=>exact⟨"str",_,F.slot_str_getitem.lookup,kS _ _ _,l9 (l:=some (i,v)) (u:=some (j,u)) (st:=none) ⟨o,e,c,d⟩ rfl (ma (a _ _ q))⟩
end
end L2
namespace L3
open PySem PySem.Spec PyProof.Rows L2
section
variable {X:Cx}
theorem o_is:OpQ X (j5 .Is) (zIs false):=a7n (op_isN.or b7B) λx y H Q g=>g.un λa b G R d c e h f=>by
 cases b with
 | non=>rw[a0V]at c;exact .inl ⟨c,by rw[a51 d];exact f _ _ _ _ h (by rw[a0U];rfl) e (.refl _ _)⟩
 | bl b=>
  cases a with
  | bl a=>rw[a0U]at d c;exact .inr ⟨_,_,d,c,f _ _ _ _ h.2 (by rw[a0U]) e (.refl _ _)⟩
  | _=>exact dR h
 | _=>exact dR h
theorem a4f:OpQ X (j5 .IsNot) (zIs true):=a7n b40 λx y H Q d=>d.un λa b G R g c e h f=>by
 cases b with
 | non=>rw[a0V]at c;exact⟨c,by rw[a51 g];exact f _ _ _ _ h (by rw[a0U];rfl) e (.refl _ _)⟩
 | bl b=>
  cases a with
  | bl a=>exact nomatch h.1
  | _=>exact dR h
 | _=>exact dR h
def zIx:R3:=λx y G R=>match x,y with
 | .ref p,.int i=>∃ ws w,G p=some (.lst ws)/\atI ws i=some w/\R w G
 | .scr _ ns,.int i=>∃ n,atI ns i=some n/\R (.int n) G
 | .tup ws,.int i=>∃ w,atI ws i=some w/\R w G
 | .str z,.int i=>∃ c,z.length≤jS/\atI z.cps.toList i=some c/\R (.str ⟨#[c]⟩) G
 | _,_=>False
theorem b1B {K:Fg}(r:Reps K H ws vs) (h:atI ws i=some w):∃ v,atI vs i=some v/\Rep K H w v:=by
 unfold atI at h ⊢;rw[<- r.length];cases e:ixN ws.length i with
 | none=>rw[e]at h;cases h
 | some j=>
  rw[e]at h;exact r.get h
theorem b5p {α β:Type}{f:α->β}{xs:List α}{x:α}(h:atI xs i=some x):atI (xs.map f) i=some (f x):=by
 unfold atI at h ⊢;rw[dJ];cases e:ixN xs.length i with
 | none=>rw[e]at h;cases h
 | some j=>
  rw[e]at h;have a:xs[j]?=some x:=h
  show _[j]?=some _
  rw[dQ,a];rfl
theorem x_ix:IxQ X zIx:=b7m b61 λx y H Q s=>s.un λa b G R d f g h i=>by
  cases a<;>cases b<;>first
    | exact dR h
    | (rw[a0K]at d
       obtain⟨z,w,e,m,h⟩:=h;obtain⟨q,k,j⟩:=g _ _ e;obtain⟨v,o,l⟩:=b1B j m;exact .inl ⟨_,_,_,v,d,f,SqL.of k,o,i _ _ _ _ h l g (.refl _ _)⟩)
    | (rw[a4c]at d
       obtain⟨n,u,h⟩:=h;exact .inl ⟨_,_,_,_,d.1,f,d.2.sq,b5p u,i _ _ _ _ h (by rw[a0v]) g (.refl _ _)⟩)
    | (rw[a2a]at d
       obtain⟨p,q,e,k,j⟩:=d;obtain⟨w,m,h⟩:=h;obtain⟨v,o,l⟩:=b1B j m;exact .inr (.inl ⟨p,q,_,v,e,f,SqT.of k,o,i _ _ _ _ h l g (.refl _ _)⟩))
    | (rw[a0L]at d
       obtain⟨c,r,t,h⟩:=h;exact .inr (.inr ⟨_,_,c,d,f,r,t,i _ _ _ _ h (by rw[a0L]) g (.refl _ _)⟩))
noncomputable def cutZ {α:Type}(xs:List α) (lo hi:Option Int):List α:=(xs.drop (HT.sIx xs.length 0 lo)).take (HT.sIx xs.length xs.length hi - HT.sIx xs.length 0 lo)
theorem b5q (xs:List V) (lo hi:Option Int):cutV xs lo hi=cutZ xs lo hi:=rfl
theorem a8m {α:Type}(xs:List α) (lo hi:Option Int):(cutZ xs lo hi).length≤xs.length:=by
 unfold cutZ;rw[dY,eU];omega
theorem Reps.cut {K:Fg}(r:Reps K H ws vs) (lo hi:Option Int):Reps K H (cutZ ws lo hi) (cutV vs lo hi):=by
 unfold cutZ cutV;rw[<- r.length];exact (r.drop _).take _
theorem b3l {α β:Type}(f:α->β) (xs:List α) (lo hi:Option Int):cutZ (xs.map f) lo hi=(cutZ xs lo hi).map f:=by
 unfold cutZ;rw[dJ,iE,List.map_drop]
def zSl:L3r:=λx lo hi G R=>match x with
 | .ref p=>∃ ws,G p=some (.lst ws)/\∀ t,G t=none->R (.ref t) (put G t (.lst (cutZ ws lo hi)))
 | .scr _ ns=>∀ t,G t=none->R (.ref t) (put G t (.lst ((cutZ ns lo hi).map Z.int)))
 | .tup ws=>¬ (HT.sIx ws.length 0 lo=0/\HT.sIx ws.length ws.length hi=ws.length)/\R (.tup (cutZ ws lo hi)) G
 | .str z=>z.length≤jS/\R (.str (Txt.slice z lo hi)) G
 | _=>False
theorem x_sl:SlQ X zSl:=b9I (sl_list.or (sl_tup.or b7C)) λx l k H Q m=>m.un λa G R c d h g=>by
 cases a with
 | ref p=>
  obtain⟨n,e,h⟩:=h;obtain⟨j,i,f⟩:=d _ _ e;exact .inl ⟨p,j,c,SqL.of i,λt b=>g _ _ _ _ (h t (d.out b)) (by rw[a0K]) (d.set (.new b) (a1i (f.cut l k) (.new b))) (.new b)⟩
 | scr p ns=>
  refine .inl ⟨p,_,c.1,c.2.sq,λt b=>?_⟩;rw[b5q,b3l];exact g _ _ _ _ (h t (d.out b)) (by rw[a0K]) (d.set (.new b) (a1i (a2i _) (.new b))) (.new b)
 | tup n=>
  obtain⟨p,j,e,i,f⟩:=c;exact .inr (.inl ⟨p,j,e,SqT.of i,by rw[<- f.length];exact h.1,λt b=>g _ _ _ _ h.2 (by rw[a2a];exact⟨t,_,rfl,a0A,(f.cut l k).mono (.new b)⟩) (d.hid b) (.new b)⟩)
 | str z=>
  exact .inr (.inr ⟨z,c,h.1,g _ _ _ _ h.2 (by rw[a0L]) d (.refl _ _)⟩)
 | _=>exact dR h
def zSet:Z3:=λo i v G R=>match o,i with
 | .ref p,.int k=>∃ ws j,G p=some (.lst ws)/\ixN ws.length k=some j/\R (put G p (.lst (ws.set j v)))
 | _,_=>False
theorem b7D:SetQ X zSet:=b7x b23 λo i v H Q p=>p.un λa b w G R f g l k h q=>by
  cases a<;>cases b<;>first
    | exact dR h
    | (rw[a0K]at f
       obtain⟨r,j,e,m,h⟩:=h;obtain⟨n,c,d⟩:=k _ _ e;exact⟨_,n,_,j,f,g,c,by rw[<- d.length];exact m,q _ _ h (k.set (.lst c) (a1i (d.set l j) (.lst c))) (.lst c)⟩)
def zLen:List Z->Hq->K3->Prop:=λxs G R=>match xs with
 | [.str z]=>z.length≤jS/\R (.int z.length) G
 | [.ref p]=>∃ ws,G p=some (.lst ws)/\R (.int ws.length) G
 | [.tup ws]=>R (.int ws.length) G
 | [.scr _ ns]=>R (.int ns.length) G
 | _=>False
theorem b_len:a2U X (.builtin "len") zLen:=a1g b2W λl H Q k=>k.un λj G R c a h d=>by
 match j,h with
 | [.str z],h=>
  obtain⟨v,rfl,r⟩:=c.one;exact⟨v,z.length,rfl,by rw[r];exact⟨h.1,rfl⟩,d _ _ _ _ h.2 (by rw[a0v]) a (.refl _ _)⟩
 | [.ref p],h=>
  obtain⟨v,rfl,r⟩:=c.one;obtain⟨i,e,h⟩:=h;obtain⟨g,f,b⟩:=a _ _ e;exact⟨v,i.length,rfl,by rw[r];exact .inl ⟨g,SqL.of f,b.length⟩,d _ _ _ _ h (by rw[a0v]) a (.refl _ _)⟩
 | [.tup i],h=>
  obtain⟨v,rfl,r⟩:=c.one;obtain⟨p,g,e,f,b⟩:=r;exact⟨v,i.length,rfl,by rw[e];exact .inr ⟨g,SqT.of f,b.length⟩,d _ _ _ _ h (by rw[a0v]) a (.refl _ _)⟩
 | [.scr p ns],h=>
  obtain⟨v,rfl,r⟩:=c.one;exact⟨v,ns.length,rfl,by rw[r.1];exact .inl ⟨_,r.2.sq,(dJ ..).symm⟩,d _ _ _ _ h (by rw[a0v]) a (.refl _ _)⟩
def zMM (f:Int->Int->Int):List Z->Hq->K3->Prop:=λxs G R=>match xs with
 | [.int i,.int j]=>R (.int (f i j)) G
 | _=>False
theorem bMM {id:String}(hf:CallR X (.builtin id) (λxs H Q=>∃ i j,xs=[.int i,.int j]/\Q (.int (f i j)) H)):a2U X (.builtin id) (zMM f):=a1g hf λl H Q d=>d.un λc G R e b h g=>by
 match c,h with
 | [.int i,.int j],h=>
  obtain⟨v,k,rfl,r,a⟩:=e.two;exact⟨i,j,by rw[r,a],g _ _ _ _ h (by rw[a0v]) b (.refl _ _)⟩
theorem b_max (hc:X.calm=true):a2U X (.builtin "max") (zMM λi j=>if j > i then j else i):=bMM (b0P hc)
theorem b_min (hc:X.calm=true):a2U X (.builtin "min") (zMM λi j=>if j<i then j else i):=bMM (b0Q hc)
def zAll:List Z->Hq->K3->Prop:=λxs G R=>match xs with
 | [.ref p]=>∃ bs:List Bool,G p=some (.lst (bs.map Z.bl))/\R (.bl (bs.all id)) G
 | _=>False
theorem a9b {K:Fg}:∀ {bs:List Bool}{vs:List V},Reps K H (bs.map Z.bl) vs->vs=bs.map V.bl
 | [],vs,h=>by rw[eK,a0B]at h;subst h;rfl
 | n::ns,vs,h=>by
  obtain⟨v,r,rfl,a,b⟩:=h;rw[a,a9b b];rfl
theorem a7q {K:Fg}:∀ {bs:List Str}{vs:List V},Reps K H (bs.map Z.str) vs->vs=bs.map V.str
 | [],vs,h=>by rw[eK,a0B]at h;subst h;rfl
 | n::ns,vs,h=>by
  obtain⟨v,r,rfl,a,b⟩:=h;rw[a,a7q b];rfl
theorem b_all (hc:X.calm=true):a2U X (.builtin "all") zAll:=a1g (b1A hc) λl H Q f=>f.un λd G R c a h j=>by
 match d,h with
 | [.ref p],h=>
  obtain⟨v,rfl,r⟩:=c.one;obtain⟨g,e,h⟩:=h;obtain⟨k,i,b⟩:=a _ _ e
  have:=a9b b
  subst this;exact⟨p,g,by rw[r],SqL.of i,j _ _ _ _ h (by rw[a0U]) a (.refl _ _)⟩
def b9L:List Z->Hq->K3->Prop:=λxs G R=>match xs with
 | [.ref p]=>∃ ws,G p=some (.lst ws)/\∀ t,G t=none->R (.ref t) (put G t (.lst ws))
 | [.tup ws]=>∀ t,G t=none->R (.ref t) (put G t (.lst ws))
 | [.scr _ ns]=>∀ t,G t=none->R (.ref t) (put G t (.lst (ns.map Z.int)))
 | _=>False
theorem b_list:a2U X (.type "list") b9L:=a1g a7h λm H Q j=>j.un λl G R i b h f=>by
 match l,h with
 | [.ref p],h=>
  obtain⟨v,rfl,r⟩:=i.one;obtain⟨k,e,h⟩:=h;obtain⟨d,g,c⟩:=b _ _ e;exact⟨p,d,by rw[r],.inl (SqL.of g),λt a=>f _ _ _ _ (h t (b.out a)) (by rw[a0K]) (b.set (.new a) (a1i c (.new a))) (.new a)⟩
 | [.tup k],h=>
  obtain⟨v,rfl,r⟩:=i.one;obtain⟨p,d,e,g,c⟩:=r;exact⟨p,d,by rw[e],.inr (SqT.of g),λt a=>f _ _ _ _ (h t (b.out a)) (by rw[a0K]) (b.set (.new a) (a1i c (.new a))) (.new a)⟩
 | [.scr p ns],h=>
  obtain⟨v,rfl,r⟩:=i.one;exact⟨p,_,by rw[r.1],.inl r.2.sq,λt a=>f _ _ _ _ (h t (b.out a)) (by rw[a0K]) (b.set (.new a) (a1i (a2i _) (.new a))) (.new a)⟩
noncomputable def kit0 (n T:String):Option Bool:=if (Value.type n==Value.type T)=true then some true else if PySem.W.kitMeta T=true then (PySem.fastBuiltinMro n).map (·.contains (.type T)) else none
theorem b7E {K:Fg}:PySem.W.kitOne K (.type n) (.type T)=kit0 n T:=rfl
noncomputable def tyN (G:Hq):Z->Option String
 | .non=>some "NoneType"
 | .bl _=>some "bool"
 | .int _=>some "int"
 | .str _=>some "str"
 | .tup _=>some "tuple"
 | .ref p=>match G p with
  | some (.lst _)=>some "list"
  | some (.dK _)=>some "dict"
  | _=>none
 | _=>none
def zIsT:List Z->Hq->K3->Prop:=λxs G R=>match xs with
 | [x,.ty T]=>∃ n b,tyN G x=some n/\kit0 n T=some b/\R (.bl b) G
 | _=>False
theorem b3m {K:Fg}(h:tyN G x=some n) (r:Rep K H x v) (hg:RH K G H):TyOf K H v (.type n):=by
 cases x with
 | non=>rw[a0V]at r;subst r;cases h;exact .non
 | bl _=>rw[a0U]at r;subst r;cases h;exact .bl _
 | int _=>rw[a0v]at r;subst r;cases h;exact .int _
 | str _=>rw[a0L]at r;subst r;cases h;exact .str _
 | tup ws=>rw[a2a]at r;obtain⟨a,c,rfl,e,_⟩:=r;cases h;exact .tup e
 | ref p=>
  subst r;cases e:G p with
  | none=>simp[tyN,e]at h
  | some o=>
   cases o with
   | lst ws=>simp[tyN,e]at h;subst h;obtain⟨c,b,_⟩:=hg _ _ e;exact .lst b
   | dK kvs=>simp[tyN,e]at h;subst h;obtain⟨c,b,_⟩:=hg _ _ e;exact .dK b
   | ins C dx fs=>simp[tyN,e]at h
   | dF kvs=>simp[tyN,e]at h
 | ty _=>cases h
 | scr _ _=>cases h
theorem a8n:a2U X (.builtin "isinstance") zIsT:=a1g b3g λl H Q g=>g.un λf G R d a h i=>by
 match f,h with
 | [x,.ty T],h=>
  obtain⟨v,j,rfl,r,c⟩:=d.two;obtain⟨n,b,e,k,h⟩:=h;exact⟨v,T,.type n,b,by rw[c],b3m e r a,by rw[b7E];exact k,i _ _ _ _ h (by rw[a0U]) a (.refl _ _)⟩
def a6A:Z->List Z->Hq->K3->Prop:=λx xs G R=>match x,xs with
 | .ref p,[y]=>∃ ws,G p=some (.lst ws)/\ws.length<jS/\R .non (put G p (.lst (ws++[y])))
 | _,_=>False
theorem a1j:MtQ X "list.append" a6A:=a8g a7i λx n H Q j=>j.un λw k G R c f d h l=>by
 match w,k,h with
 | .ref p,[y],h=>
  obtain⟨v,rfl,r⟩:=f.one;obtain⟨m,e,g,h⟩:=h;obtain⟨i,a,b⟩:=d _ _ e;exact⟨p,i,v,c,rfl,a,by rw[<- b.length];exact g,l _ _ _ _ h (by rw[a0V]) (d.set (.lst a) (a1i (b.append (.cons r .nil)) (.lst a))) (.lst a)⟩
def b1C:Z->List Z->Hq->K3->Prop:=λx xs G R=>match x,xs with
 | .ref p,[.ref q]=>∃ ws ys,G p=some (.lst ws)/\G q=some (.lst ys)/\ws.length+ys.length≤jS/\R .non (put G p (.lst (ws++ys)))
 | _,_=>False
theorem b3n:MtQ X "list.extend" b1C:=a8g b02 λx u H Q m=>m.un λw n G R d i f h s=>by
 match w,n,h with
 | .ref p,[.ref q],h=>
  obtain⟨v,rfl,r⟩:=i.one;obtain⟨t,y,e,k,j,h⟩:=h;obtain⟨l,a,c⟩:=f _ _ e;obtain⟨o,g,b⟩:=f _ _ k;exact⟨p,q,l,o,d,by rw[r],a,g,by rw[<- c.length,<- b.length];exact j,s _ _ _ _ h (by rw[a0V]) (f.set (.lst a) (a1i (c.append b) (.lst a))) (.lst a)⟩
def b7F:Z->List Z->Hq->K3->Prop:=λx xs G R=>match x,xs with
 | .ref p,[]=>∃ ws,G p=some (.lst ws)/\R .non (put G p (.lst []))
 | _,_=>False
theorem b5r:MtQ X "list.clear" b7F:=a8g b25 λx m H Q i=>i.un λw f G R b c d h j=>by
 match w,f,h with
 | .ref p,[],h=>
  obtain⟨l,e,h⟩:=h;obtain⟨g,a,k⟩:=d _ _ e;exact⟨p,g,b,c,a,j _ _ _ _ h (by rw[a0V]) (d.set (.lst a) (a1i .nil (.lst a))) (.lst a)⟩
def b7G:Z->List Z->Hq->K3->Prop:=λx xs G R=>match x,xs with
 | .str z,[.ref p]=>∃ ys:List Str,G p=some (.lst (ys.map Z.str))/\(ys.map (·.length)).sum+ys.length*z.length≤16777216/\R (.str (Txt.join z ys)) G
 | _,_=>False
theorem b7H:MtQ X "str.join" b7G:=a8g b5o λx n H Q i=>i.un λw f G R a j b h l=>by
 match w,f,h with
 | .str z,[.ref p],h=>
  obtain⟨v,rfl,r⟩:=j.one;obtain⟨g,e,k,h⟩:=h;obtain⟨m,d,c⟩:=b _ _ e
  have:=a7q c
  subst this;exact⟨z,p,g,a,by rw[r],SqL.of d,k,l _ _ _ _ h (by rw[a0L]) b (.refl _ _)⟩
def b7I:E3:=λ_ G R=>∀ p,G p=none->R (.ref p) (put G p (.dK []))
theorem b4p:QE X (.Dict [] [] pos) b7I:=⟨a1s b27 fun τ H Q ⟨σ,G,R,d,b,h,c⟩ p a=>c _ _ _ _ (h p (b.out a)) (by rw[a0K]) (b.set (.new a) ⟨[],a0A,rfl,.nil⟩) (.new a)⟩
noncomputable def a4H (x:Str):List Z:=x.cps.toList.map λc=>.str ⟨#[c]⟩
def wkS (x:Z) (G:Hq) (R:List Z->(Hq->Prop)->Hq->Prop):Prop:=match x with
 | .str z=>R (a4H z) (λ_=>True) G
 | _=>False
def iS (tl:E3):I3:=fun σ G R=>tl σ G λx G1=>wkS x G1 R
theorem b1D {K:Fg}:a6y K (a4H x) (λ_=>True) (Its x) H0:=λi G H f t j k=>by
 have e:(a4H x).length=x.cps.size:=by unfold a4H;rw[dJ,e4]
 refine⟨λh=>by rw[h,e];rfl,λw a=>?_⟩;unfold a4H at a;rw[dQ]at a;cases hc:x.cps.toList[i]? with
 | none=>rw[hc]at a;cases a
 | some c=>
  rw[hc]at a;cases a;have b:x.cps[i]?=some c:=by simp_all
  refine⟨(ib.mp b).1,?_⟩;rintro v l ⟨rfl,g,d,rfl⟩;rw[b]at d;cases d;exact⟨by rw[a0L],f,.refl _ _⟩
theorem b7J (hl:QE X l tl):QI X tg l (iS tl):=a94 (b7A hl.p) fun τ H j g=>g.un fun σ G R f e h i=>by
 refine⟨σ,G,_,f,e,h,λw m v k a c b d=>?_⟩;cases w with
 | str x=>
  exact⟨x,c,i _ _ _ _ _ a b1D b d⟩
 | _=>exact dR a
end
end L3
namespace L3
open PySem PySem.Spec PyProof.Rows L2
section
variable {σ:S3}{G:Hq}{R:K3}{Rb:Bool->Hq->Prop}{Ra:List Z->Hq->Prop}{nx bk ct:C3}{rt:K3}{t u:X3}{te ta tb tc to ti:E3}{c d:T3}{al:A3}{r r':R3}{w x y:Z}{i:Nat}
theorem b9M (e:σ[i]?=some (some w)) (h:R w G):uVar i σ G R:=⟨w,e,h⟩
theorem i_c (h:R w G):uC w σ G R:=h
theorem i_op (h:ta σ G λx G1=>tb σ G1 λy G2=>r x y G2 R):uOp r ta tb σ G R:=h
theorem i_un {r:Z->Hq->K3->Prop}(h:ta σ G λx G1=>r x G1 R):uUn r ta σ G R:=h
theorem b7K (h:ta σ G λx G1=>∃ k,x=.bl k/\Rb k G1):b3k ta σ G Rb:=h
theorem b5s (h:ta σ G λx G1=>tb σ G1 λy G2=>r x y G2 λz G3=>∃ k,z=.bl k/\(if k=true then tc σ G3 λw G4=>r' y w G4 R else R (.bl false) G3)):b1j r r' ta tb tc σ G R:=h
theorem b9N (h:c σ G λk G1=>if k=true then d σ G1 Rb else Rb false G1):uAnd c d σ G Rb:=h
theorem i_or (h:c σ G λk G1=>if k=true then Rb true G1 else d σ G1 Rb):uOr c d σ G Rb:=h
theorem b9O (h:c σ G λk G1=>Rb (!k) G1):uNot c σ G Rb:=h
theorem b7L (h:ta σ G λx G1=>∃ c,x=.bl c/\if c=true then tb σ G1 R else R (.bl false) G1):b7o ta tb σ G R:=h
theorem b9P (h:ta σ G λx G1=>∃ c,x=.bl c/\if c=true then R (.bl true) G1 else tb σ G1 R):uOrV ta tb σ G R:=h
theorem b7M (h:ta σ G λx G1=>∃ c,x=.bl c/\R (.bl (!c)) G1):b7p ta σ G R:=h
theorem i_if (h:c σ G λk G1=>if k=true then ta σ G1 R else tb σ G1 R):uIf c ta tb σ G R:=h
theorem b9Q (h:ta σ G λx G1=>tru x G1 Rb):uTru ta σ G Rb:=h
theorem b4q (e:G p=some (.lst ws)) (h:Rb (!ws.isEmpty) G):tru (.ref p) G Rb:=.inl ⟨ws,e,h⟩
theorem i_sl {r:L3r}(h:te σ G λx G1=>tl σ G1 λl G2=>th σ G2 λu G3=>r x l u G3 R):uSl r te tl th σ G R:=h
theorem b3o (h:Ro none G):b1n σ G Ro:=h
theorem b7N (h:te σ G λx G1=>∃ i,x=.int i/\Ro (some i) G1):b7r te σ G Ro:=h
theorem b9R (h:Ra [] G):uNil σ G Ra:=h
theorem b7O (h:ta σ G λx G1=>al σ G1 λxs G2=>Ra (x::xs) G2):b7s ta al σ G Ra:=h
theorem b9S (h:al σ G λxs G1=>xs.length≤jS/\R (.tup xs) G1):uTup al σ G R:=h
theorem b9T (h:al σ G λxs G1=>xs.length≤jS/\∀ p,G1 p=none->R (.ref p) (put G1 p (.lst xs))):uLst al σ G R:=h
theorem i_cb {r:List Z->Hq->K3->Prop}(h:al σ G λws G1=>r ws G1 R):uCB r al σ G R:=h
theorem b9U {r:Z->List Z->Hq->K3->Prop}(h:to σ G λx G1=>tyZ T x G1/\r x [] G1 R):uBM0 T r to σ G R:=h
theorem i_bm {r:Z->List Z->Hq->K3->Prop}(h:to σ G λx G1=>tyZ T x G1/\al σ G1 λxs G2=>r x xs G2 R):uBM T r to al σ G R:=h
theorem b7P (h:al σ G λws G1=>sp ws G1 R):b7t sp al σ G R:=h
theorem b7Q (h:nx σ G):b7u nx rt bk ct σ G:=h
theorem b9V (h:t (u nx rt bk ct) rt bk ct σ G):uSeq t u nx rt bk ct σ G:=h
theorem b7R (h:te σ G λ_ G1=>nx σ G1):b7v te nx rt bk ct σ G:=h
theorem b9W (h:te σ G rt):uRet te nx rt bk ct σ G:=h
theorem b9X (h:c σ G λb G1=>if b=true then t nx rt bk ct σ G1 else u nx rt bk ct σ G1):uIfS c t u nx rt bk ct σ G:=h
theorem b9Y (h:te σ G λx G1=>∃ σ',a5H pt x σ=some σ'/\nx σ' G1):uAsg te pt nx rt bk ct σ G:=h
theorem b9Z {r:Z3}(h:te σ G λw G1=>to σ G1 λo G2=>ti σ G2 λi G3=>r o i w G3 λG4=>nx σ G4):uPut te to ti r nx rt bk ct σ G:=h
theorem a97 (M:C3) (h:t M rt bk ct σ G) (h':∀ σ' G',M σ' G'->u nx rt bk ct σ' G'):uCut t u nx rt bk ct σ G:=⟨M,h,h'⟩
theorem b7S (h:R (.int (a+b)) G):zAdd (.int a) (.int b) G R:=h
theorem a9c (z:a.length+b.length≤jS) (h:R (.str (a++b)) G):zAdd (.str a) (.str b) G R:=⟨z,h⟩
theorem b1E (e:xs≠[]) (z:xs.length+ys.length≤jS) (h:R (.tup (xs++ys)) G):zAdd (.tup xs) (.tup ys) G R:=⟨e,z,h⟩
theorem b1F (e:G p=some (.lst xs)) (e':G q=some (.lst ys)) (z:xs.length+ys.length≤jS) (h:∀ t,G t=none->R (.ref t) (put G t (.lst (xs++ys)))):zAdd (.ref p) (.ref q) G R:=⟨xs,ys,e,e',z,h⟩
theorem i_I (k:C a b) (h:R (g a b) G):zI C g (.int a) (.int b) G R:=⟨k,h⟩
theorem i_I0 (h:R (g a b) G):zI0 g (.int a) (.int b) G R:=h
theorem b90 (h:R (.int (-a)) G):zNeg (.int a) G R:=h
theorem i_CI (h:R (.bl (f a b)) G):zC f g (.int a) (.int b) G R:=h
theorem i_CS (h:R (.bl (g a b)) G):zC f g (.str a) (.str b) G R:=h
theorem b91 (h:R (.bl (decide (x=.non))) G):zIs false x .non G R:=h
theorem b7T (h:R (.bl (!decide (x=.non))) G):zIs true x .non G R:=h
theorem b7U (h:R (.bl (f (decide (a=b)))) G):zEq f (.int a) (.int b) G R:=h
theorem b92 (h:R (.bl (f (decide (a=b)))) G):zEq f (.str a) (.str b) G R:=h
theorem b5t (e:G p=some (.lst xs)) (e':G q=some (.lst ys)) (f1:xs.all (flat 8)=true) (f2:ys.all (flat 8)=true) (h:R (.bl (f (decide (xs=ys)))) G):zEq f (.ref p) (.ref q) G R:=⟨xs,ys,e,e',f1,f2,h⟩
theorem a07 (e:G p=some (.lst ws)) (a:atI ws k=some w) (h:R w G):zIx (.ref p) (.int k) G R:=⟨ws,w,e,a,h⟩
theorem b93 (a:atI ns k=some n) (h:R (.int n) G):zIx (.scr p ns) (.int k) G R:=⟨n,a,h⟩
theorem a2V (a:atI ws k=some w) (h:R w G):zIx (.tup ws) (.int k) G R:=⟨w,a,h⟩
theorem b1G (l:z.length≤jS) (a:atI z.cps.toList k=some ch) (h:R (.str ⟨#[ch]⟩) G):zIx (.str z) (.int k) G R:=⟨ch,l,a,h⟩
theorem b7V {lo hi:Option Int}(l:z.length≤jS) (h:R (.str (Txt.slice z lo hi)) G):zSl (.str z) lo hi G R:=⟨l,h⟩
theorem b7W {lo hi:Option Int}(e:G p=some (.lst ws)) (h:∀ t,G t=none->R (.ref t) (put G t (.lst (cutZ ws lo hi)))):zSl (.ref p) lo hi G R:=⟨ws,e,h⟩
theorem b94 {lo hi:Option Int}(h:∀ t,G t=none->R (.ref t) (put G t (.lst ((cutZ ns lo hi).map Z.int)))):zSl (.scr p ns) lo hi G R:=h
theorem b3p {lo hi:Option Int}(n:¬ (HT.sIx ws.length 0 lo=0/\HT.sIx ws.length ws.length hi=ws.length)) (h:R (.tup (cutZ ws lo hi)) G):zSl (.tup ws) lo hi G R:=⟨n,h⟩
theorem b7X (e:G p=some (.lst ws)) (a:ixN ws.length k=some j) (h:Rg (put G p (.lst (ws.set j w)))):zSet (.ref p) (.int k) w G Rg:=⟨ws,j,e,a,h⟩
theorem b7Y (h:∀ p,G p=none->R (.ref p) (put G p (.dK []))):b7I σ G R:=h
theorem b1H (l:z.length≤jS) (h:R (.int z.length) G):zLen [.str z] G R:=⟨l,h⟩
theorem b1I (e:G p=some (.lst ws)) (h:R (.int ws.length) G):zLen [.ref p] G R:=⟨ws,e,h⟩
theorem b7Z (h:R (.int ns.length) G):zLen [.scr p ns] G R:=h
theorem i_mm (h:R (.int (f a b)) G):zMM f [.int a,.int b] G R:=h
theorem b95 {bs:List Bool}(e:G p=some (.lst (bs.map Z.bl))) (h:R (.bl (bs.all id)) G):zAll [.ref p] G R:=⟨bs,e,h⟩
theorem b1J (e:tyN G x=some n) (k:kit0 n T=some b) (h:R (.bl b) G):zIsT [x,.ty T] G R:=⟨n,b,e,k,h⟩
theorem a0Y (e:G p=some (.lst ws)) (z:ws.length<jS) (h:R .non (put G p (.lst (ws++[y])))):a6A (.ref p) [y] G R:=⟨ws,e,z,h⟩
theorem b3q (e:G p=some (.lst ws)) (e':G q=some (.lst ys)) (z:ws.length+ys.length≤jS) (h:R .non (put G p (.lst (ws++ys)))):b1C (.ref p) [.ref q] G R:=⟨ws,ys,e,e',z,h⟩
theorem b70 (e:G p=some (.lst (ys.map Z.str))) (l:(ys.map (·.length)).sum+ys.length*z.length≤16777216) (h:R (.str (Txt.join z ys)) G):b7G (.str z) [.ref p] G R:=⟨ys,e,l,h⟩
theorem b96 {P:Prop}(h:P):tyZ "str" (.str z) G/\P:=⟨rfl,h⟩
theorem a2l {P:Prop}(e:G p=some (.lst ws)) (h:P):tyZ "list" (.ref p) G/\P:=⟨.inl ⟨rfl,ws,e⟩,h⟩
theorem i_nm (h:nx (σ.set j (some w)) G):∃ σ',a5H (.nm j) w σ=some σ'/\nx σ' G:=⟨_,rfl,h⟩
theorem b71 {tb:X3}(h:wi σ G λws ok G1=>FORB ws ok pt tb nx rt σ G1):uFor wi pt tb nx rt bk ct σ G:=h
theorem b97 (h:wi σ G λws ok G1=>∀ D,G1 D=none->LCB ws ok cap pt tt te σ R D G1):uLC wi cap pt tt te σ G R:=h
variable {Ri:List Z->(Hq->Prop)->Hq->Prop}
theorem i_iL (h:te σ G λx G1=>wkL x G1 Ri):iL te σ G Ri:=h
theorem i_iT (h:te σ G λx G1=>wkT x G1 Ri):iT te σ G Ri:=h
theorem i_iS (h:te σ G λx G1=>wkS x G1 Ri):iS te σ G Ri:=h
theorem b98 (h:al σ G λws G1=>∃ j:Int,ws=[.int j]/\-(2 ^ 62)≤j/\j<2 ^ 62/\Ri (rng 0 j.toNat) (λ_=>True) G1):iR1 al σ G Ri:=h
theorem a1W (e:G p=some (.lst ws)) (h:Ri ws (λG=>G p=some (.lst ws)) G):wkL (.ref p) G Ri:=⟨ws,e,h⟩
theorem b99 (h:Ri ws (λ_=>True) G):wkT (.tup ws) G Ri:=h
theorem c0a (h:Ri (a4H z) (λ_=>True) G):wkS (.str z) G Ri:=h
theorem i_tt (h:Rb true G):uTT σ G Rb:=h
end
theorem ifD {p A B:Prop}[Decidable p] (h1:p->A) (h2:¬ p->B):if decide p=true then A else B:=by simp_all
theorem ifN {p A B:Prop}[Decidable p] (h1:¬ p->A) (h2:p->B):if (!decide p)=true then A else B:=by simp_all
theorem ifB {A B:Prop}(h1:b=true->A) (h2:b=false->B):if b=true then A else B:=by simp_all
theorem ifNB {A B:Prop}(h1:b=false->A) (h2:b=true->B):if (!b)=true then A else B:=by grind
theorem ifT {A B:Prop}(h:A):if true=true then A else B:=by rw[if_pos rfl];exact h
theorem ifF {A B:Prop}(h:B):if false=true then A else B:=by rw[if_neg (by decide)];exact h
theorem ifNN {A B:Prop}(h:A):if decide (Z.non=Z.non)=true then A else B:=by simp_all
theorem ifNI {A B:Prop}(h:B):if decide (Z.int i=Z.non)=true then A else B:=by rw[if_neg (by simp)];exact h
theorem ifMN {A B:Prop}(h:B):if (!decide (Z.non=Z.non))=true then A else B:=by rw[if_neg (by simp)];exact h
theorem ifMI {A B:Prop}(h:A):if (!decide (Z.int i=Z.non))=true then A else B:=by rw[if_pos (by simp)];exact h
theorem ifMS {A B:Prop}(h:A):if (!decide (Z.str i=Z.non))=true then A else B:=by rw[if_pos (by simp)];exact h
theorem ifMU {A B:Prop}(h:A):if (!decide (Z.tup i=Z.non))=true then A else B:=by rw[if_pos (by simp)];exact h
theorem at0 {α:Type}{a:α}{r:List α}:atI (a::r) 0=some a:=a1e (j:=0) rfl
theorem at1 {α:Type}{a b:α}{r:List α}:atI (a::b::r) 1=some b:=a1e (j:=1) rfl
def Sm (G G':Hq):Prop:=∀ b o,G b=some o->G' b=some o
theorem Sm.refl (G:Hq):Sm G G:=λ_ _ h=>h
theorem Sm.trans (a:Sm G G1) (b:Sm G1 G2):Sm G G2:=λc o h=>b c o (a c o h)
theorem Sm.get (s:Sm G G') (h:G b=some o):G' b=some o:=s b o h
theorem Sm.new (h:G p=none):Sm G (put G p o):=λ_ _ e=>a0q e h
theorem Sm.free (s:Sm G G') (h:G' p=none):G p=none:=by
 cases e:G p with
 | none=>rfl
 | some o=>rw[s p o e]at h;cases h
def Kq (r:Addr) (G G':Hq):Prop:=∀ b o,G b=some o->b≠r->G' b=some o
theorem Kq.refl (r:Addr) (G:Hq):Kq r G G:=λ_ _ h _=>h
theorem Kq.trans (a:Kq r G G1) (b:Kq r G1 G2):Kq r G G2:=λc o h n=>b c o (a c o h n) n
theorem Kq.new (h:G p=none):Kq r G (put G p o):=λ_ _ e _=>a0q e h
theorem Kq.at:Kq r G (put G r o):=λ_ _ e n=>by rw[a0o n];exact e
theorem Sm.kq (s:Sm G G'):Kq r G G':=λb o e _=>s b o e
theorem Sm.put (s:Sm G G') (h:G p=none):Sm G (put G' p o):=λb u e=>by rw[a0o (a0p e h)];exact s b u e
end L3
set_option maxHeartbeats 4000000
namespace Tim
open PySem PyProof.Rows
abbrev KF:=Keyed->Int
noncomputable def Kk (κ:KF) (xs:Array Keyed) (i:Nat):Int:=match xs[i]? with
 | some p=>κ p
 | none=>0
section
variable {κ:KF}{xs ys:Array Keyed}{i j:Nat}{p:Keyed}
theorem a8o (h:xs[i]?=some p):Kk κ xs i=κ p:=by unfold Kk;rw[h]
theorem a5h (h:xs[i]?=ys[j]?):Kk κ xs i=Kk κ ys j:=by unfold Kk;rw[h]
end
def LtOk (M:Model) (A:Around) (E:Value->Shared->Prop) (s:Shared) (κ:KF) (k0:ko) (a₀:Array Keyed):Prop:=
 ∀ x y,x∈a₀.toList->y∈a₀.toList->∀ (st:SortSt) (Q:Option Bool->SortSt->Prop),kindOf st=k0->Q (some (decide (κ x<κ y))) st->wpS M A E s (lt' x y) Q st
structure TB (k0:ko) (a₀:Array Keyed) (st:SortSt):Prop where
 pm:(arrOf st).Perm a₀
 kd:kindOf st=k0
 fl:kh st=none
theorem TB.sz {st:SortSt}(h:TB k0 a₀ st):(arrOf st).size=a₀.size:=h.pm.size_eq
theorem TB.mem {st:SortSt}(h:TB k0 a₀ st) {i:Nat}(e:(arrOf st)[i]?=some p):p∈a₀.toList:=by
 have a:p∈(arrOf st).toList:=by rw[i5];exact Array.mem_of_getElem? e
 exact (ig.mp h.pm).mem_iff.mp a
theorem TB.arr {st:SortSt}(h:TB k0 a₀ st) (hp:xs.Perm (arrOf st)):TB k0 a₀ (setArr st xs):=⟨hp.trans h.pm,h.kd,h.fl⟩
section
variable {M:Model}{A:Around}{E:Value->Shared->Prop}{s:Shared}{κ:KF}{k0:ko}{a₀:Array Keyed}{st:SortSt}
theorem a02 (e:arr[i]?=some p) (h:Q p st):wpS M A E s (elem' arr i) Q st:=by
 rw[elem'_eq,e];exact jV h
theorem a7r (L:LtOk M A E s κ k0 a₀) (B:TB k0 a₀ st) (hi:i<a₀.size) (hj:j<a₀.size)
  (h:Q (some (decide (Kk κ (arrOf st) i<Kk κ (arrOf st) j))) st):wpS M A E s (ltAt' i j) Q st:=by
 have b:_[i]?=some ((arrOf st)[i]'(by rw[B.sz];exact hi)):=getElem?_pos ..;have a:(arrOf st)[j]?=some ((arrOf st)[j]'(by rw[B.sz];exact hj)):=getElem?_pos ..;refine jT (kr ?_);refine jT (a02 b (jT (a02 a ?_)));refine L _ _ (B.mem b) (B.mem a) st Q B.kd ?_;rw[a8o b,a8o a]at h;exact h
end
noncomputable def a2c:Bool->Keyed->Array Keyed->Nat->Nat->Nat->StateT SortSt Sem (Option Nat):=sortPriv% PySem.Builtin.gallop
noncomputable def bey (lft:Bool) (ky:Keyed) (ar:Array Keyed) (bs:Nat) (q:Nat):StateT SortSt Sem (Option Bool):=do
  let z <- elem' ar (bs+q)
  if lft then lt' z ky else return (<- lt' ky z).map (!·)
theorem a98 (lft:Bool) (ky:Keyed) (ar:Array Keyed) (bs n hnt:Nat):a2c lft ky ar bs n hnt=(do
 let mut lst:=0
 let mut oo:=1
 let mut l:=0
 let mut h:=0
 let some rgt <- bey lft ky ar bs hnt | return none
 if rgt then
  let mx:=n - hnt
  for _ in [0:n] do
   if oo≥mx then break
   let some mo <- bey lft ky ar bs (hnt+oo) | return none
   if !mo then break
   lst:=oo
   oo:=2*oo+1
  l:=hnt+lst+1
  h:=hnt+min oo mx
 else
  let mx:=hnt+1
  for _ in [0:n] do
   if oo≥mx then break
   let some fo <- bey lft ky ar bs (hnt - oo) | return none
   if fo then break
   lst:=oo
   oo:=2*oo+1
  l:=hnt+1 - min oo mx
  h:=hnt - lst
 for _ in [0:n] do
  if l≥h then break
  let m:=l+(h - l) / 2
  let some mo <- bey lft ky ar bs m | return none
  if mo then l:=m+1 else h:=m
 return some h):=rfl
noncomputable def bq (lft:Bool) (k x:Int):Bool:=if lft then decide (x<k) else !decide (k<x)
section
variable {M:Model}{A:Around}{E:Value->Shared->Prop}{s:Shared}{κ:KF}{k0:ko}{a₀:Array Keyed}{st:SortSt}
theorem b1K (L:LtOk M A E s κ k0 a₀) (hk:kindOf st=k0) (hm:ky∈a₀.toList) (ha:∀ p∈ar.toList,p∈a₀.toList) (hq:bs+q<ar.size)
  (h:Q (some (bq lft (κ ky) (Kk κ ar (bs+q)))) st):wpS M A E s (bey lft ky ar bs q) Q st:=by
 have b:ar[bs+q]?=some (ar[bs+q]'hq):=getElem?_pos ..;have a:ar[bs+q]∈a₀.toList:=ha _ (by simp);refine jT (a02 b ?_);rw[a8o b]at h;cases lft with
 | true=>
  exact L _ _ a hm st Q hk h
 | false=>
  exact jT (L _ _ hm a st _ hk (jV h))
theorem a3c (L:LtOk M A E s κ k0 a₀) (hk:kindOf st=k0) (hm:ky∈a₀.toList) (ha:∀ p∈ar.toList,p∈a₀.toList)
  (hn:bs+n≤ar.size) (hh:hnt<n) (mono:∀ i j,i≤j->j<n->Kk κ ar (bs+i)≤Kk κ ar (bs+j))
  (h:∀ h,h≤n->(∀ i,i<h->bq lft (κ ky) (Kk κ ar (bs+i))=true)->(∀ i,h≤i->i<n->bq lft (κ ky) (Kk κ ar (bs+i))=false)->Q (some h) st):wpS M A E s (a2c lft ky ar bs n hnt) Q st:=by
 have t:∀ i j,i≤j->j<n->bq lft (κ ky) (Kk κ ar (bs+j))=true->bq lft (κ ky) (Kk κ ar (bs+i))=true:=λi j C F H=>by
  have:=mono i j C F
  unfold bq at *;cases lft<;>simp at *<;>omega
 have D:∀ i j,i≤j->j<n->bq lft (κ ky) (Kk κ ar (bs+i))=false->bq lft (κ ky) (Kk κ ar (bs+j))=false:=λi j C F H=>by grind
 rw[a98];refine jT (b1K L hk hm ha (by omega) ?_);dsimp only;cases e0:bq lft (κ ky) (Kk κ ar (bs+hnt)) with
 | true=>
  rw[if_pos rfl];refine jT (kg (kc (I:=λx c d=>d=st/\∃ a b,c=(none,a,b)/\a<b/\x+1≤b/\hnt+a<n/\bq lft (κ ky) (Kk κ ar (bs+(hnt+a)))=true)
   (Q:=λc d=>d=st/\∃ a b,c=(none,a,b)/\a<b/\hnt+a<n/\bq lft (κ ky) (Kk κ ar (bs+(hnt+a)))=true/\(n - hnt≤b\/(hnt+b<n/\bq lft (κ ky) (Kk κ ar (bs+(hnt+b)))=false))) ?step ?fin ?init) ?post)
  case init=>exact⟨rfl,0,1,rfl,by omega,by omega,by omega,e0⟩
  case fin=>
   rintro c d ⟨rfl,a,b,rfl,m,k,o,f⟩;exact⟨rfl,a,b,rfl,m,o,f,.inl (by omega)⟩
  case step=>
   rintro x c d _ G ⟨rfl,a,b,rfl,m,k,o,f⟩;dsimp only
   by_cases hge:b≥n - hnt
   ·rw[if_pos hge];exact jV ⟨rfl,a,b,rfl,m,o,f,.inl hge⟩
   ·rw[if_neg hge];refine jT (b1K L hk hm ha (by omega) ?_);cases e:bq lft (κ ky) (Kk κ ar (bs+(hnt+b))) with
    | true=>
     dsimp only;rw[if_neg (by decide)];exact jV ⟨rfl,b,2*b+1,rfl,by omega,by omega,by omega,e⟩
    | false=>
     dsimp only;rw[if_pos (show (!false)=true from rfl)];exact jV ⟨rfl,a,b,rfl,m,o,f,.inr ⟨by omega,e⟩⟩
  case post=>
   rintro c d ⟨y,a,b,rfl,m,o,f,g⟩;have y:=y.symm;subst y;dsimp only;have q:hnt+a+1≤hnt+min b (n - hnt):=by omega
   have w:hnt+min b (n - hnt)≤n:=by omega
   have v:∀ i,i<hnt+a+1->bq lft (κ ky) (Kk κ ar (bs+i))=true:=λi J=>t i _ (by omega) (by omega) f;have u:∀ i,hnt+min b (n - hnt)≤i->i<n->bq lft (κ ky) (Kk κ ar (bs+i))=false:=λi B z=>by grind
   generalize hnt+a+1=l0 at q v ⊢;generalize hnt+min b (n - hnt)=h0 at q w u ⊢;refine jT (kg (kc (I:=λx c d=>d=st/\∃ l r,c=(none,l,r)/\l≤r/\r≤n/\r - l≤n - x/\(∀ i,i<l->bq lft (κ ky) (Kk κ ar (bs+i))=true)/\(∀ i,r≤i->i<n->bq lft (κ ky) (Kk κ ar (bs+i))=false))
    (Q:=λc d=>d=st/\∃ l,c=(none,l,l)/\l≤n/\(∀ i,i<l->bq lft (κ ky) (Kk κ ar (bs+i))=true)/\(∀ i,l≤i->i<n->bq lft (κ ky) (Kk κ ar (bs+i))=false)) ?st2 ?fi2 ?in2) ?po2)
   case in2=>exact⟨rfl,l0,h0,rfl,q,w,by omega,v,u⟩
   case fi2=>
    rintro c d ⟨rfl,l,r,rfl,m,k,o,f,g⟩
    have:l=r:=by omega
    subst this;exact⟨rfl,l,rfl,k,f,g⟩
   case st2=>
    rintro x c d _ G ⟨rfl,l,r,rfl,m,k,o,f,g⟩;dsimp only
    by_cases hge:l≥r
    ·rw[if_pos hge]
     have:l=r:=by omega
     subst this;exact jV ⟨rfl,l,rfl,k,f,g⟩
    ·rw[if_neg hge];refine jT (b1K L hk hm ha (by omega) ?_);cases e:bq lft (κ ky) (Kk κ ar (bs+(l+(r - l) / 2))) with
     | true=>
      dsimp only;rw[if_pos rfl];exact jV ⟨rfl,_,r,rfl,by omega,k,by omega,λi J=>t i _ (by omega) (by omega) e,g⟩
     | false=>
      dsimp only;rw[if_neg (by decide)];exact jV ⟨rfl,l,_,rfl,by omega,by omega,by omega,f,λi B z=>D _ i B z e⟩
   case po2=>
    rintro c d ⟨rfl,l,rfl,k,f,g⟩;exact jV (h l k f g)
 | false=>
  rw[if_neg (by decide)];refine jT (kg (kc (I:=λx c d=>d=st/\∃ a b,c=(none,a,b)/\a<b/\x+1≤b/\a≤hnt/\bq lft (κ ky) (Kk κ ar (bs+(hnt - a)))=false)
   (Q:=λc d=>d=st/\∃ a b,c=(none,a,b)/\a<b/\a≤hnt/\bq lft (κ ky) (Kk κ ar (bs+(hnt - a)))=false/\(hnt+1≤b\/(b≤hnt/\bq lft (κ ky) (Kk κ ar (bs+(hnt - b)))=true))) ?step ?fin ?init) ?post)
  case init=>exact⟨rfl,0,1,rfl,by omega,by omega,by omega,e0⟩
  case fin=>
   rintro c d ⟨rfl,a,b,rfl,m,k,o,f⟩;exact⟨rfl,a,b,rfl,m,o,f,.inl (by omega)⟩
  case step=>
   rintro x c d _ G ⟨rfl,a,b,rfl,m,k,o,f⟩;dsimp only
   by_cases hge:b≥hnt+1
   ·rw[if_pos hge];exact jV ⟨rfl,a,b,rfl,m,o,f,.inl hge⟩
   ·rw[if_neg hge];refine jT (b1K L hk hm ha (by omega) ?_);cases e:bq lft (κ ky) (Kk κ ar (bs+(hnt - b))) with
    | true=>
     dsimp only;rw[if_pos rfl];exact jV ⟨rfl,a,b,rfl,m,o,f,.inr ⟨by omega,e⟩⟩
    | false=>
     dsimp only;rw[if_neg (by decide)];exact jV ⟨rfl,b,2*b+1,rfl,by omega,by omega,by omega,e⟩
  case post=>
   rintro c d ⟨y,a,b,rfl,m,o,f,g⟩;have y:=y.symm;subst y;dsimp only;have q:hnt+1 - min b (hnt+1)≤hnt - a:=by omega
   have w:hnt - a≤n:=by omega
   have v:∀ i,i<hnt+1 - min b (hnt+1)->bq lft (κ ky) (Kk κ ar (bs+i))=true:=λi J=>by grind
   have u:=λi B z=>D _ i B z f;generalize hnt+1 - min b (hnt+1)=l0 at q v ⊢;generalize hnt - a=h0 at q w u ⊢;refine jT (kg (kc (I:=λx c d=>d=st/\∃ l r,c=(none,l,r)/\l≤r/\r≤n/\r - l≤n - x/\(∀ i,i<l->bq lft (κ ky) (Kk κ ar (bs+i))=true)/\(∀ i,r≤i->i<n->bq lft (κ ky) (Kk κ ar (bs+i))=false))
    (Q:=λc d=>d=st/\∃ l,c=(none,l,l)/\l≤n/\(∀ i,i<l->bq lft (κ ky) (Kk κ ar (bs+i))=true)/\(∀ i,l≤i->i<n->bq lft (κ ky) (Kk κ ar (bs+i))=false)) ?st2 ?fi2 ?in2) ?po2)
   case in2=>exact⟨rfl,l0,h0,rfl,q,w,by omega,v,u⟩
   case fi2=>
    rintro c d ⟨rfl,l,r,rfl,m,k,o,f,g⟩
    have:l=r:=by omega
    subst this;exact⟨rfl,l,rfl,k,f,g⟩
   case st2=>
    rintro x c d _ G ⟨rfl,l,r,rfl,m,k,o,f,g⟩;dsimp only
    by_cases hge:l≥r
    ·rw[if_pos hge]
     have:l=r:=by omega
     subst this;exact jV ⟨rfl,l,rfl,k,f,g⟩
    ·rw[if_neg hge];refine jT (b1K L hk hm ha (by omega) ?_);cases e:bq lft (κ ky) (Kk κ ar (bs+(l+(r - l) / 2))) with
     | true=>
      dsimp only;rw[if_pos rfl];exact jV ⟨rfl,_,r,rfl,by omega,k,by omega,λi J=>t i _ (by omega) (by omega) e,g⟩
     | false=>
      dsimp only;rw[if_neg (by decide)];exact jV ⟨rfl,l,_,rfl,by omega,by omega,by omega,f,λi B z=>D _ i B z e⟩
   case po2=>
    rintro c d ⟨rfl,l,rfl,k,f,g⟩;exact jV (h l k f g)
end
end Tim
namespace Tim
open PySem PyProof.Rows
noncomputable def a8p:Nat->StateT SortSt Sem Unit:=sortPriv% PySem.Builtin.setMinGallop
theorem a6B (g:Nat):a8p g=modify λs=>SortSt.mk' (kindOf s) (arrOf s) (j0 s) g (kh s):=rfl
noncomputable def a4U:Array Keyed->Array Keyed->StateT SortSt Sem (Array Keyed):=sortPriv% PySem.Builtin.mergeLo
abbrev dnA (a b o:Array Keyed) (i j:Nat):Array Keyed:=o++a.extract i a.size++b.extract j b.size
abbrev dnB (a b o:Array Keyed) (i j:Nat):Array Keyed:=o++b.extract j b.size++a.extract i a.size
theorem a8q (a b:Array Keyed):a4U a b=(do
 rule "list.sort.merge-lo"
 let tot:=a.size+b.size
 let mut o:Array Keyed:=#[<- elem' b 0]
 let mut i:=0
 let mut j:=1
 if j==b.size then return dnA a b o i j
 if i+1==a.size then return dnB a b o i j
 let mut g:=mN (<- get)
 for _ in [0:tot] do
  let mut ac:=0
  let mut bc:=0
  for _ in [0:tot] do
   let some bw <- lt' (<- elem' b j) (<- elem' a i) | return dnA a b o i j
   if bw then
    o:=o.push (<- elem' b j);j:=j+1;bc:=bc+1;ac:=0
    if j==b.size then return dnA a b o i j
    if bc≥g then break
   else
    o:=o.push (<- elem' a i);i:=i+1;ac:=ac+1;bc:=0
    if i+1==a.size then return dnB a b o i j
    if ac≥g then break
  rule "list.sort.gallop"
  g:=g+1
  for _ in [0:tot] do
   if g > 1 then g:=g - 1
   a8p g
   let some k <- a2c false (<- elem' b j) a i (a.size - i) 0 | return dnA a b o i j
   ac:=k
   if k > 0 then
    o:=o++a.extract i (i+k);i:=i+k
    if i+1==a.size then return dnB a b o i j
    if i==a.size then return dnA a b o i j
   o:=o.push (<- elem' b j);j:=j+1
   if j==b.size then return dnA a b o i j
   let some k <- a2c true (<- elem' a i) b j (b.size - j) 0 | return dnA a b o i j
   bc:=k
   if k > 0 then
    o:=o++b.extract j (j+k);j:=j+k
    if j==b.size then return dnA a b o i j
   o:=o.push (<- elem' a i);i:=i+1
   if i+1==a.size then return dnB a b o i j
   if ac<7&&bc<7 then break
  g:=g+1
  a8p g
 (me "internal:list.sort.merge-bound")):=rfl
section
variable {κ:KF}{A B o:List Keyed}{i j:Nat}{p:Keyed}
abbrev Srt (κ:KF) (l:List Keyed):Prop:=l.Pairwise λx y=>κ x≤κ y
structure MW (κ:KF) (A B o:List Keyed) (i j:Nat):Prop where
 ia:i≤A.length
 jb:j≤B.length
 pm:(o++(A.drop i++B.drop j)).Perm (A++B)
 so:Srt κ o
 ba:∀ x∈o,∀ y∈A.drop i,κ x≤κ y
 bb:∀ x∈o,∀ y∈B.drop j,κ x≤κ y
theorem MW.size (W:MW κ A B o i j):o.length=i+j:=by
 have:=W.pm.length_eq
 have b:=W.ia;have a:=W.jb;simp at this;omega
theorem drop_get {l:List Keyed}(h:l[n]?=some p):l.drop n=p::l.drop (n+1):=by
 obtain⟨a,e⟩:=dX.mp h;rw[ii a,e]
theorem a9d (h:Srt κ l) (hb:∀ x∈l,κ x≤κ p):Srt κ (l++[p]):=by
 refine eG.mpr ⟨h,iF _ _,λx b y a=>?_⟩;rw[dP.mp a];exact hb x b
theorem a1M (h:Srt κ l) (n:Nat):Srt κ (l.drop n):=e7.sublist (iG n l) h
theorem MW.pushA (W:MW κ A B o i j) (sa:Srt κ A) (hp:A[i]?=some p) (hb:∀ y∈B.drop j,κ p≤κ y):MW κ A B (o++[p]) (i+1) j:=by
 have c:=drop_get hp;have d:=(dX.mp hp).1;have e:=c▸a1M sa i;refine⟨d,W.jb,?_,a9d W.so λx b=>W.ba x b p (by simp_all),λx b y a=>?_,λx b y a=>?_⟩
 ·have:=W.pm
  rw[c]at this;simpa using this
 ·rcases dN.mp b with h | h
  ·exact W.ba x h y (by simp_all)
  ·rw[dP.mp h];exact (et.mp e).1 y a
 ·rcases dN.mp b with h | h
  ·exact W.bb x h y a
  ·rw[dP.mp h];exact hb y a
theorem MW.pushB (W:MW κ A B o i j) (sb:Srt κ B) (hp:B[j]?=some p) (hb:∀ y∈A.drop i,κ p≤κ y):MW κ A B (o++[p]) i (j+1):=by
 have c:=drop_get hp;have d:=(dX.mp hp).1;have e:=c▸a1M sb j;refine⟨W.ia,d,?_,a9d W.so λx b=>W.bb x b p (by simp_all),λx b y a=>?_,λx b y a=>?_⟩
 ·have:=W.pm
  rw[c]at this;refine eH.trans ?_ this;rw[eD];exact eH.append_left o (show (p::(A.drop i++B.drop _)).Perm _ from ij.symm)
 ·rcases dN.mp b with h | h
  ·exact W.ba x h y a
  ·rw[dP.mp h];exact hb y a
 ·rcases dN.mp b with h | h
  ·exact W.bb x h y (by simp_all)
  ·rw[dP.mp h];exact (et.mp e).1 y a
theorem take_snoc {l:List Keyed}(h:l[n+k]?=some p):(l.drop n).take (k+1)=(l.drop n).take k++[p]:=by
 rw[fA,gI,h];rfl
theorem MW.runA (W:MW κ A B o i j) (sa:Srt κ A):∀ k,i+k≤A.length->(∀ q z,i≤q->q<i+k->A[q]?=some z->∀ y∈B.drop j,κ z≤κ y)->MW κ A B (o++(A.drop i).take k) (i+k) j
 | 0,_,_=>by simpa using W
 | k+1,hk,hz=>by
  have b:=MW.runA W sa k (by omega) λq z a c=>hz q z a (by omega);have e:A[i+k]?=some A[i+k]:=en (by omega);rw[take_snoc e,<- eD];exact b.pushA sa e (hz _ _ (by omega) (by omega) e)
theorem MW.runB (W:MW κ A B o i j) (sb:Srt κ B):∀ k,j+k≤B.length->(∀ q z,j≤q->q<j+k->B[q]?=some z->∀ y∈A.drop i,κ z≤κ y)->MW κ A B (o++(B.drop j).take k) i (j+k)
 | 0,_,_=>by simpa using W
 | k+1,hk,hz=>by
  have b:=MW.runB W sb k (by omega) λq z a c=>hz q z a (by omega);have e:B[j+k]?=some B[j+k]:=en (by omega);rw[take_snoc e,<- eD];exact b.pushB sb e (hz _ _ (by omega) (by omega) e)
def Mgd (κ:KF) (A B r:List Keyed):Prop:=r.Perm (A++B)/\Srt κ r
theorem MW.doneA (W:MW κ A B o i j) (sa:Srt κ A) (sb:Srt κ B) (h:i=A.length\/j=B.length):Mgd κ A B (o++A.drop i++B.drop j):=by
 refine⟨by rw[eD];exact W.pm,?_⟩;rw[eD];refine eG.mpr ⟨W.so,eG.mpr ⟨a1M sa i,a1M sb j,λx a y b=>?_⟩,λx a y b=>?_⟩
 ·rcases h with rfl | rfl
  ·simp_all
  ·simp_all
 ·rcases dN.mp b with h | h
  ·exact W.ba x a y h
  ·exact W.bb x a y h
theorem MW.doneB (W:MW κ A B o i j) (sa:Srt κ A) (sb:Srt κ B) (h:i+1=A.length) (hl:∀ z,A[A.length - 1]?=some z->∀ y∈B,κ y≤κ z):Mgd κ A B (o++B.drop j++A.drop i):=by
 refine⟨?_,?_⟩
 ·rw[eD];exact eH.trans (eH.append_left o jf) W.pm
 ·rw[eD];have e:A[i]?=some A[i]:=en (by omega);have c:A.drop i=[A[i]]:=by rw[drop_get e,ik (by omega)]
  refine eG.mpr ⟨W.so,eG.mpr ⟨a1M sb j,a1M sa i,λx b y a=>?_⟩,λx b y a=>?_⟩
  ·rw[c]at a;rw[dP.mp a];exact hl _ (by rw[show A.length - 1=i by omega];exact e) x (im b)
  ·rcases dN.mp a with h | h
   ·exact W.bb x b y h
   ·exact W.ba x b y h
theorem a2y (h:Srt κ l) (hp:l[n]?=some p):∀ y∈l.drop n,κ p≤κ y:=λy a=>by
 have b:=a1M h n;rw[drop_get hp]at b a;rcases dU.mp a with rfl | a
 ·exact fb _
 ·exact (et.mp b).1 y a
end
end Tim
namespace Tim
open PySem PyProof.Rows
abbrev SM:=StateT SortSt Sem
abbrev T1:=Option (Array Keyed)×Array Keyed×Nat×Nat×Nat×Nat
abbrev T2:=Option (Array Keyed)×Array Keyed×Nat×Nat×Nat×Nat×Nat
noncomputable def lo1 (a b:Array Keyed) (g:Nat) (o:Array Keyed) (i j ac bc:Nat):SM (ForInStep T1):=do
 let y <- elem' b j
 let x <- elem' a i
 let r <- lt' y x
 match r with
 | some bw=>
  if bw=true then do
   let y <- elem' b j
   if (j+1==b.size)=true then pure (.done (some (dnA a b (o.push y) i (j+1)),o.push y,i,j+1,0,bc+1))
   else if bc+1≥g then pure (.done (none,o.push y,i,j+1,0,bc+1)) else pure (.yield (none,o.push y,i,j+1,0,bc+1))
  else do
   let x <- elem' a i
   if (i+1+1==a.size)=true then pure (.done (some (dnB a b (o.push x) (i+1) j),o.push x,i+1,j,ac+1,0))
   else if ac+1≥g then pure (.done (none,o.push x,i+1,j,ac+1,0)) else pure (.yield (none,o.push x,i+1,j,ac+1,0))
 | _=>pure (.done (some (dnA a b o i j),o,i,j,ac,bc))
noncomputable def lo5 (a b:Array Keyed) (o:Array Keyed) (i j g ac bc:Nat):SM (ForInStep T2):=do
 let x <- elem' a i
 if (i+1+1==a.size)=true then pure (.done (some (dnB a b (o.push x) (i+1) j),o.push x,i+1,j,g,ac,bc))
 else if (decide (ac<7)&&decide (bc<7))=true then pure (.done (none,o.push x,i+1,j,g,ac,bc)) else pure (.yield (none,o.push x,i+1,j,g,ac,bc))
noncomputable def lo4 (a b:Array Keyed) (o:Array Keyed) (i j g ac bc:Nat):SM (ForInStep T2):=do
 let y <- elem' b j
 if (j+1==b.size)=true then pure (.done (some (dnA a b (o.push y) i (j+1)),o.push y,i,j+1,g,ac,bc))
 else do
  let x <- elem' a i
  let r <- a2c true x b (j+1) (b.size - (j+1)) 0
  match r with
  | some k=>
   if k > 0 then
    if (j+1+k==b.size)=true then pure (.done (some (dnA a b (o.push y++b.extract (j+1) (j+1+k)) i (j+1+k)),o.push y++b.extract (j+1) (j+1+k),i,j+1+k,g,ac,k))
    else lo5 a b (o.push y++b.extract (j+1) (j+1+k)) i (j+1+k) g ac k
   else lo5 a b (o.push y) i (j+1) g ac k
  | _=>pure (.done (some (dnA a b (o.push y) i (j+1)),o.push y,i,j+1,g,ac,bc))
noncomputable def lo3 (a b:Array Keyed) (o:Array Keyed) (i j g ac bc:Nat):SM (ForInStep T2):=do
 a8p g
 let y <- elem' b j
 let r <- a2c false y a i (a.size - i) 0
 match r with
 | some k=>
  if k > 0 then
   if (i+k+1==a.size)=true then pure (.done (some (dnB a b (o++a.extract i (i+k)) (i+k) j),o++a.extract i (i+k),i+k,j,g,k,bc))
   else if (i+k==a.size)=true then pure (.done (some (dnA a b (o++a.extract i (i+k)) (i+k) j),o++a.extract i (i+k),i+k,j,g,k,bc))
   else lo4 a b (o++a.extract i (i+k)) (i+k) j g k bc
  else lo4 a b o i j g k bc
 | _=>pure (.done (some (dnA a b o i j),o,i,j,g,ac,bc))
noncomputable def lo2 (a b:Array Keyed) (o:Array Keyed) (i j g ac bc:Nat):SM (ForInStep T2):=
 if g > 1 then lo3 a b o i j (g - 1) ac bc else lo3 a b o i j g ac bc
theorem bd2 {α β:Type}{x y:SM α}{f g:α->SM β}(h:x=y) (h2:∀ a,f a=g a):x >>= f=y >>= g:=by rw[h,funext h2]
theorem a7s (a b:Array Keyed):a4U a b=(do
  liftM (rule "list.sort.merge-lo")
  let y <- elem' b 0
  if (1==b.size)=true then pure (dnA a b #[y] 0 1)
  else if (0+1==a.size)=true then pure (dnB a b #[y] 0 1)
  else do
   let st <- get
   let c <- forIn [0:a.size+b.size] ((none,#[y],0,1,mN st):Option (Array Keyed)×Array Keyed×Nat×Nat×Nat) λ_ c=>do
    let c1 <- forIn [0:a.size+b.size] ((none,c.2.1,c.2.2.1,c.2.2.2.1,0,0):T1) λ_ c1=>lo1 a b c.2.2.2.2 c1.2.1 c1.2.2.1 c1.2.2.2.1 c1.2.2.2.2.1 c1.2.2.2.2.2
    match c1.1 with
    | some r=>pure (ForInStep.done (some r,c1.2.1,c1.2.2.1,c1.2.2.2.1,c.2.2.2.2))
    | none=>do
     liftM (rule "list.sort.gallop")
     let c2 <- forIn [0:a.size+b.size] ((none,c1.2.1,c1.2.2.1,c1.2.2.2.1,c.2.2.2.2+1,c1.2.2.2.2.1,c1.2.2.2.2.2):T2) λ_ c2=>lo2 a b c2.2.1 c2.2.2.1 c2.2.2.2.1 c2.2.2.2.2.1 c2.2.2.2.2.2.1 c2.2.2.2.2.2.2
     match c2.1 with
     | some r=>pure (ForInStep.done (some r,c2.2.1,c2.2.2.1,c2.2.2.2.1,c2.2.2.2.2.1))
     | none=>do
      a8p (c2.2.2.2.2.1+1)
      pure (ForInStep.yield (none,c2.2.1,c2.2.2.1,c2.2.2.2.1,c2.2.2.2.2.1+1))
   match c.1 with
   | some r=>pure r
   | none=>me "internal:list.sort.merge-bound"):=by
 rw[a8q];refine bind_congr λ_=>bind_congr λy=>?_;dsimp only
 congr 1
 congr 1
 refine bind_congr λk=>?_;refine bd2 ?_ λc=>?_
 ·congr 1
  funext x c
  obtain⟨r,o,i,j,g⟩:=c;dsimp only;refine bd2 ?_ λe=>?_
  ·congr 1
  ·obtain⟨r,o,i,j,d,f⟩:=e;cases r with
   | some r=>rfl
   | none=>
    refine bind_congr λ_=>?_;refine bd2 ?_ λh=>?_
    ·congr 1
    ·obtain⟨r,o,i,j,g,d,f⟩:=h;cases r<;>rfl
 ·obtain⟨r,o,i,j,g⟩:=c;cases r<;>rfl
end Tim
namespace Tim
open PySem PyProof.Rows
structure SG (st st':SortSt):Prop where
 kd:kindOf st'=kindOf st
 ar:arrOf st'=arrOf st
 pe:j0 st'=j0 st
 fl:kh st'=kh st
theorem SG.refl (st:SortSt):SG st st:=⟨rfl,rfl,rfl,rfl⟩
theorem SG.trans (p:SG x y) (q:SG y z):SG x z:=⟨q.kd.trans p.kd,q.ar.trans p.ar,q.pe.trans p.pe,q.fl.trans p.fl⟩
section
variable {κ:KF}{a b o:Array Keyed}{i j:Nat}
theorem a3I:(dnA a b o i j).toList=o.toList++a.toList.drop i++b.toList.drop j:=by
 simp[fv]
theorem a4V:(dnB a b o i j).toList=o.toList++b.toList.drop j++a.toList.drop i:=by
 simp[fv]
theorem a9e:(o++a.extract i (i+k)).toList=o.toList++(a.toList.drop i).take k:=by
 simp[io]
theorem a1k (h:i<a.size):a.toList[i]?=some a[i]:=by simp[h]
theorem a1w (h:i<a.size):Kk κ a i=κ a[i]:=a8o (getElem?_pos ..)
theorem a3J (h:Srt κ a.toList) (hn:i+n≤a.size):∀ p q,p≤q->q<n->Kk κ a (i+p)≤Kk κ a (i+q):=λp q b c=>by
 rw[a1w (show i+p<a.size by omega),a1w (show i+q<a.size by omega)]
 by_cases e:p=q
 ·simp_all
 ·have:=gJ.mp h (i+p) (i+q) (by simp;omega) (by simp;omega) (by omega)
  simpa using this
end
structure MC (M:Model) (A:Around) (E:Value->Shared->Prop) (s:Shared) (κ:KF) (k0:ko) (a₀ a b:Array Keyed):Prop where
 L:LtOk M A E s κ k0 a₀
 ha:∀ p∈a.toList,p∈a₀.toList
 hb:∀ p∈b.toList,p∈a₀.toList
 sa:Srt κ a.toList
 sb:Srt κ b.toList
 h0:0<a.size
 h1:0<b.size
 hf:∀ y∈a.toList,Kk κ b 0≤κ y
 hl:∀ z,a.toList[a.toList.length - 1]?=some z->∀ y∈b.toList,κ y≤κ z
structure Rdy (κ:KF) (a b o:Array Keyed) (i j:Nat):Prop where
 w:MW κ a.toList b.toList o.toList i j
 hi:i+1<a.size
 hj:j<b.size
section
variable {M:Model}{A:Around}{E:Value->Shared->Prop}{s:Shared}{κ:KF}{k0:ko}{a₀ a b o:Array Keyed}{st:SortSt}{i j g ac bc:Nat}
theorem a53 {α:Type}{f:Unit->SM α}{Q:α->SortSt->Prop}(h:wpS M A E s (f ()) Q st):wpS M A E s ((liftM (rule w):SM Unit) >>= f) Q st:=
 jT (mO (kH ⟨rfl,h⟩))
theorem a1E (a:Array Keyed):a.toList.length=a.size:=by simp
theorem c0b (C:MC M A E s κ k0 a₀ a b) (hk:kindOf st=k0) (R:Rdy κ a b o i j)
  (dn:∀ r c,Mgd κ a.toList b.toList r.toList->Q (.done (some r,c)) st)
  (br:∀ o' i' j' x y,Rdy κ a b o' i' j'->i'+j'=i+j+1->Q (.done (none,o',i',j',x,y)) st)
  (go:∀ o' i' j' x y,Rdy κ a b o' i' j'->i'+j'=i+j+1->Q (.yield (none,o',i',j',x,y)) st):wpS M A E s (lo1 a b g o i j ac bc) Q st:=by
 have q:=R.hi;have n:=R.hj;have p:b[j]?=some b[j]:=getElem?_pos ..;have m:a[i]?=some a[i]:=getElem?_pos ..;have h:=a1k n;have l:=a1k (a:=a) (i:=i) (by omega);unfold lo1;refine jT (a02 p (jT (a02 m (jT ?_))));refine C.L _ _ (C.hb _ (er h)) (C.ha _ (er l)) st _ hk ?_;dsimp only
 by_cases c:κ b[j]<κ a[i]
 ·rw[if_pos (decide_eq_true c)];refine jT (a02 p ?_);have d:=R.w.pushB C.sb h λy k=>eP (fk c) (a2y C.sa l y k);rw[<- eR]at d
  by_cases e:j+1=b.size
  ·rw[if_pos (by simpa using e)];exact jV (dn _ _ (by rw[a3I];exact d.doneA C.sa C.sb (.inr (by rw[a1E];exact e))))
  ·rw[if_neg (by simpa using e)];have f:Rdy κ a b (o.push b[j]) i (j+1):=⟨d,q,by omega⟩
   split
   ·exact jV (br _ _ _ _ _ f (by omega))
   ·exact jV (go _ _ _ _ _ f (by omega))
 ·rw[if_neg (by simpa using c)];refine jT (a02 m ?_);have d:=R.w.pushA C.sa l λy k=>eP (ip.mp c) (a2y C.sb h y k);rw[<- eR]at d
  by_cases e:i+1+1=a.size
  ·rw[if_pos (by simpa using e)];exact jV (dn _ _ (by rw[a4V];exact d.doneB C.sa C.sb (by rw[a1E];exact e) C.hl))
  ·rw[if_neg (by simpa using e)];have f:Rdy κ a b (o.push a[i]) (i+1) j:=⟨d,by omega,n⟩
   split
   ·exact jV (br _ _ _ _ _ f (by omega))
   ·exact jV (go _ _ _ _ _ f (by omega))
structure G2 (st:SortSt) (κ:KF) (a b:Array Keyed) (n:Nat) (Q:ForInStep T2->SortSt->Prop):Prop where
 dn:∀ r c st',SG st st'->Mgd κ a.toList b.toList r.toList->Q (.done (some r,c)) st'
 br:∀ o' i' j' x y z st',SG st st'->Rdy κ a b o' i' j'->n<i'+j'->Q (.done (none,o',i',j',x,y,z)) st'
 go:∀ o' i' j' x y z st',SG st st'->Rdy κ a b o' i' j'->n<i'+j'->Q (.yield (none,o',i',j',x,y,z)) st'
theorem b72 (C:MC M A E s κ k0 a₀ a b) (R:Rdy κ a b o i j) (hle:∀ y∈b.toList.drop j,Kk κ a i≤κ y) (H:G2 st κ a b n Q) (hn:n≤i+j):wpS M A E s (lo5 a b o i j g ac bc) Q st:=by
 have l:=R.hi;have k:=R.hj;have h:a[i]?=some a[i]:=getElem?_pos ..;have f:=a1k (a:=a) (i:=i) (by omega);rw[a1w (show i<a.size by omega)]at hle;unfold lo5;refine jT (a02 h ?_);have c:=R.w.pushA C.sa f hle;rw[<- eR]at c
 by_cases e:i+1+1=a.size
 ·rw[if_pos (by simpa using e)];exact jV (H.dn _ _ _ (SG.refl _) (by rw[a4V];exact c.doneB C.sa C.sb (by rw[a1E];exact e) C.hl))
 ·rw[if_neg (by simpa using e)];have d:Rdy κ a b (o.push a[i]) (i+1) j:=⟨c,by omega,k⟩
  split
  ·exact jV (H.br _ _ _ _ _ _ _ (SG.refl _) d (by omega))
  ·exact jV (H.go _ _ _ _ _ _ _ (SG.refl _) d (by omega))
theorem a3s {l:List Keyed}(h:y∈l.drop n):∃ q,n≤q/\q<l.length/\l[q]?=some y:=by
 obtain⟨m,a⟩:=fJ h;rw[gI]at a;exact⟨n+m,by omega,(dX.mp a).1,a⟩
theorem a5i (h:a.toList[q]?=some z):Kk κ a q=κ z:=a8o (by simp_all)
theorem b73 (C:MC M A E s κ k0 a₀ a b) (hk:kindOf st=k0) (R:Rdy κ a b o i j) (hle:∀ y∈a.toList.drop i,Kk κ b j≤κ y) (H:G2 st κ a b n Q) (hn:n≤i+j):wpS M A E s (lo4 a b o i j g ac bc) Q st:=by
 have m:=R.hi;have t:=R.hj;have x:b[j]?=some b[j]:=getElem?_pos ..;have D:=a1k t;have F:a[i]?=some a[i]:=getElem?_pos ..;have p:=a1k (a:=a) (i:=i) (by omega);rw[a1w t]at hle;unfold lo4;refine jT (a02 x ?_);have d:=R.w.pushB C.sb D hle;rw[<- eR]at d
 by_cases e:j+1=b.size
 ·rw[if_pos (by simpa using e)];exact jV (H.dn _ _ _ (SG.refl _) (by rw[a3I];exact d.doneA C.sa C.sb (.inr (by rw[a1E];exact e))))
 ·rw[if_neg (by simpa using e)];refine jT (a02 F (jT ?_));refine a3c C.L hk (C.ha _ (er p)) C.hb (by omega) (by omega) (a3J C.sb (by omega)) λk G v r=>?_;dsimp only;have c:∀ y∈b.toList.drop (j+1+k),Kk κ a i≤κ y:=λy h=>by
   obtain⟨q,B,u,l⟩:=a3s h;rw[a1E]at u
   have:=r (q - (j+1)) (by omega) (by omega)
   rw[show j+1+(q - (j+1))=q by omega,a5i l]at this;simp[bq]at this;rw[a1w (show i<a.size by omega)];omega
  split
  ·have f:=d.runB C.sb k (by rw[a1E];omega) λq z B u l y h=>by
    have:=v (q - (j+1)) (by omega)
    rw[show j+1+(q - (j+1))=q by omega,a5i l]at this;simp[bq]at this;exact eP (fk this) (a2y C.sa p y h)
   rw[<- a9e]at f
   by_cases e2:j+1+k=b.size
   ·rw[if_pos (by simpa using e2)];exact jV (H.dn _ _ _ (SG.refl _) (by rw[a3I];exact f.doneA C.sa C.sb (.inr (by rw[a1E];exact e2))))
   ·rw[if_neg (by simpa using e2)];exact b72 C ⟨f,m,by omega⟩ c H (by omega)
  ·have:k=0:=by omega
   subst this;exact b72 C ⟨d,m,by omega⟩ c H (by omega)
theorem c0c (C:MC M A E s κ k0 a₀ a b) (hk:kindOf st=k0) (R:Rdy κ a b o i j) (H:G2 st κ a b n Q) (hn:n≤i+j):wpS M A E s (lo3 a b o i j g ac bc) Q st:=by
 have I:=R.hi;have h:=R.hj;have G:b[j]?=some b[j]:=getElem?_pos ..;have B:=a1k h;unfold lo3;rw[a6B];refine jT (kt ?_);have m:SG st (SortSt.mk' _ (arrOf st) _ g _):=⟨rfl,rfl,rfl,rfl⟩;have e:kindOf (SortSt.mk' _ (arrOf st) (j0 st) g (kh st))=k0:=hk;generalize SortSt.mk' (kindOf st) (arrOf st) (j0 st) g (kh st)=st1 at m e;have l:G2 st1 κ a b n Q:=⟨λr c d g=>H.dn r c d (m.trans g),λ_ _ _ _ _ _ d g=>H.br _ _ _ _ _ _ d (m.trans g),λ_ _ _ _ _ _ d g=>H.go _ _ _ _ _ _ d (m.trans g)⟩;refine jT (a02 G (jT ?_));refine a3c C.L e (C.hb _ (er B)) C.ha (by omega) (by omega) (a3J C.sa (by omega)) λk J D x=>?_;dsimp only;have f:∀ y∈a.toList.drop (i+k),Kk κ b j≤κ y:=λy t=>by
  obtain⟨q,F,v,u⟩:=a3s t;rw[a1E]at v
  have:=x (q - i) (by omega) (by omega)
  rw[show i+(q - i)=q by omega,a5i u]at this;simp[bq]at this;rw[a1w h];omega
 split
 ·have p:=R.w.runA C.sa k (by rw[a1E];omega) λq z F v u y t=>by
   have:=D (q - i) (by omega)
   rw[show i+(q - i)=q by omega,a5i u]at this;simp[bq]at this;exact eP this (a2y C.sb B y t)
  rw[<- a9e]at p
  by_cases e1:i+k+1=a.size
  ·rw[if_pos (by simpa using e1)];exact jV (l.dn _ _ _ (SG.refl _) (by rw[a4V];exact p.doneB C.sa C.sb (by rw[a1E];exact e1) C.hl))
  ·rw[if_neg (by simpa using e1)]
   by_cases e2:i+k=a.size
   ·rw[if_pos (by simpa using e2)];exact jV (l.dn _ _ _ (SG.refl _) (by rw[a3I];exact p.doneA C.sa C.sb (.inl (by rw[a1E];exact e2))))
   ·rw[if_neg (by simpa using e2)];exact b73 C e ⟨p,by omega,h⟩ f l (by omega)
 ·have:k=0:=by omega
  subst this;exact b73 C e ⟨R.w,I,h⟩ f l (by omega)
theorem c0d (C:MC M A E s κ k0 a₀ a b) (hk:kindOf st=k0) (R:Rdy κ a b o i j) (H:G2 st κ a b n Q) (hn:n≤i+j):wpS M A E s (lo2 a b o i j g ac bc) Q st:=by
 unfold lo2
 split<;>exact c0c C hk R H hn
theorem b3r (C:MC M A E s κ k0 a₀ a b):MW κ a.toList b.toList [b[0]'C.h1] 0 1:=by
 have c:=a1k C.h1;have e:MW κ a.toList b.toList [] 0 0:=⟨eI _,eI _,by simp,.nil,λx h=>by simp at h,λx h=>by simp at h⟩;exact e.pushB C.sb c λy d=>by rw[<- a1w (κ:=κ) C.h1];exact C.hf y (by simp_all)
theorem b1L (C:MC M A E s κ k0 a₀ a b) (hk:kindOf st=k0)
  (h:∀ r st',SG st st'->Mgd κ a.toList b.toList r.toList->Q r st'):wpS M A E s (a4U a b) Q st:=by
 have h0:=C.h0;have h1:=C.h1;rw[a7s];refine a53 ?_;refine jT (a02 (getElem?_pos b 0 C.h1) ?_);have w0:=b3r C
 by_cases e1:1=b.size
 ·rw[if_pos (by simpa using e1)];exact jV (h _ _ (SG.refl _) (by rw[a3I];exact w0.doneA C.sa C.sb (.inr (by grind))))
 rw[if_neg (by simpa using e1)]
 by_cases e2:0+1=a.size
 ·rw[if_pos (by simpa using e2)];exact jV (h _ _ (SG.refl _) (by rw[a4V];exact w0.doneB C.sa C.sb (by rw[a1E];exact e2) C.hl))
 rw[if_neg (by simpa using e2)];refine jT (kr ?_);have R0:Rdy κ a b #[b[0]] 0 1:=⟨w0,by omega,by omega⟩;refine jT (kg (kc (I:=λx c e=>∃ o i j g,c=(none,o,i,j,g)/\SG st e/\Rdy κ a b o i j/\x<i+j)
  (Q:=λc e=>∃ r F,c=(some r,F)/\SG st e/\Mgd κ a.toList b.toList r.toList) ?step ?fin ⟨_,_,_,_,rfl,SG.refl _,R0,by omega⟩) ?post)
 case post=>
  rintro c e ⟨r,F,rfl,H,m⟩;exact jV (h r e H m)
 case fin=>
  rintro c e ⟨o,i,j,g,rfl,H,R,hx⟩
  have:=R.hi
  have:=R.hj
  omega
 case step=>
  rintro x c e _ hx ⟨o,i,j,g,rfl,H,R,hxi⟩;dsimp only;have hk1:=H.kd.trans hk;refine jT (kg (kc (I:=λy c f=>∃ D l k J T,c=(none,D,l,k,J,T)/\f=e/\Rdy κ a b D l k/\i+j+y≤l+k)
   (Q:=λc f=>f=e/\((∃ r F,c=(some r,F)/\Mgd κ a.toList b.toList r.toList)\/∃ D l k J T,c=(none,D,l,k,J,T)/\Rdy κ a b D l k/\i+j≤l+k)) ?st1 ?fi1 ⟨_,_,_,_,_,rfl,rfl,R,by omega⟩) ?po1)
  case fi1=>
   rintro c f ⟨D,l,k,J,T,rfl,rfl,L,hy⟩
   have:=L.hi
   have:=L.hj
   omega
  case st1=>
   rintro y c f _ hy ⟨D,l,k,J,T,rfl,rfl,L,hyi⟩;dsimp only;refine c0b C hk1 L (λr c m=>⟨rfl,.inl ⟨r,c,rfl,m⟩⟩) (λo2 i2 j2 u v X V=>⟨rfl,.inr ⟨_,_,_,_,_,rfl,X,by omega⟩⟩) λo2 i2 j2 u v X V=>⟨_,_,_,_,_,rfl,rfl,X,by omega⟩
  case po1=>
   rintro c f ⟨rfl,⟨r,F,rfl,m⟩ | ⟨D,l,k,J,T,rfl,L,hij⟩⟩
   ·exact jV ⟨r,_,rfl,H,m⟩
   ·dsimp only;refine a53 ?_;refine jT (kg (kc (I:=λy c B=>∃ G q p S z t,c=(none,G,q,p,S,z,t)/\SG st B/\Rdy κ a b G q p/\l+k+y≤q+p)
     (Q:=λc B=>SG st B/\((∃ r F,c=(some r,F)/\Mgd κ a.toList b.toList r.toList)\/∃ G q p S z t,c=(none,G,q,p,S,z,t)/\Rdy κ a b G q p/\l+k<q+p)) ?f ?fi2 ⟨_,_,_,_,_,_,rfl,H,L,by omega⟩) ?po2)
    case fi2=>
     rintro c B ⟨G,q,p,S,z,t,rfl,d,N,hy⟩
     have:=N.hi
     have:=N.hj
     omega
    case f=>
     rintro y c B _ hy ⟨G,q,p,S,z,t,rfl,d,N,hyi⟩;dsimp only;refine c0d C (d.kd.trans hk) N ⟨λr c W U m=>⟨d.trans U,.inl ⟨r,c,rfl,m⟩⟩,λo4 i4 j4 u v w W U Y V=>⟨d.trans U,.inr ⟨_,_,_,_,_,_,rfl,Y,by omega⟩⟩,λo4 i4 j4 u v w W U Y V=>⟨_,_,_,_,_,_,rfl,d.trans U,Y,by omega⟩⟩ (dM _)
    case po2=>
     rintro c B ⟨d,⟨r,F,rfl,m⟩ | ⟨G,q,p,S,z,t,rfl,N,V⟩⟩
     ·exact jV ⟨r,_,rfl,d,m⟩
     ·dsimp only;refine jT (kt (jV ?_));exact⟨_,_,_,_,rfl,⟨d.kd,d.ar,d.pe,d.fl⟩,N,by omega⟩
end
end Tim
namespace Tim
open PySem PyProof.Rows
noncomputable def a6C:Array Keyed->Array Keyed->SM (Array Keyed):=sortPriv% PySem.Builtin.mergeHi
abbrev hnA (a b o:Array Keyed) (u v:Nat):Array Keyed:=a.extract 0 u++b.extract 0 v++o.reverse
abbrev hnB (a b o:Array Keyed) (u v:Nat):Array Keyed:=b.extract 0 v++a.extract 0 u++o.reverse
abbrev H1:=Option (Array Keyed)×Nat×Nat×Array Keyed×Nat×Nat
abbrev H2:=Option (Array Keyed)×Nat×Nat×Array Keyed×Nat×Nat×Nat
noncomputable def hi1 (a b:Array Keyed) (g u v:Nat) (o:Array Keyed) (ac bc:Nat):SM (ForInStep H1):=do
 let y <- elem' b (v - 1)
 let x <- elem' a (u - 1)
 let r <- lt' y x
 match r with
 | some aw=>
  if aw=true then do
   let x <- elem' a (u - 1)
   if (u - 1==0)=true then pure (.done (some (hnA a b (o.push x) (u - 1) v),u - 1,v,o.push x,ac+1,0))
   else if ac+1≥g then pure (.done (none,u - 1,v,o.push x,ac+1,0)) else pure (.yield (none,u - 1,v,o.push x,ac+1,0))
  else do
   let y <- elem' b (v - 1)
   if (v - 1==1)=true then pure (.done (some (hnB a b (o.push y) u (v - 1)),u,v - 1,o.push y,0,bc+1))
   else if bc+1≥g then pure (.done (none,u,v - 1,o.push y,0,bc+1)) else pure (.yield (none,u,v - 1,o.push y,0,bc+1))
 | _=>pure (.done (some (hnA a b o u v),u,v,o,ac,bc))
noncomputable def hi5 (a b:Array Keyed) (u v:Nat) (o:Array Keyed) (g ac bc:Nat):SM (ForInStep H2):=do
 let x <- elem' a (u - 1)
 if (u - 1==0)=true then pure (.done (some (hnA a b (o.push x) (u - 1) v),u - 1,v,o.push x,g,ac,bc))
 else if (decide (ac<7)&&decide (bc<7))=true then pure (.done (none,u - 1,v,o.push x,g,ac,bc)) else pure (.yield (none,u - 1,v,o.push x,g,ac,bc))
noncomputable def hi4 (a b:Array Keyed) (u v:Nat) (o:Array Keyed) (g ac bc:Nat):SM (ForInStep H2):=do
 let y <- elem' b (v - 1)
 if (v - 1==1)=true then pure (.done (some (hnB a b (o.push y) u (v - 1)),u,v - 1,o.push y,g,ac,bc))
 else do
  let x <- elem' a (u - 1)
  let r <- a2c true x b 0 (v - 1) (v - 1 - 1)
  match r with
  | some p=>
   if v - 1 - p > 0 then
    if (p==1)=true then pure (.done (some (hnB a b (o.push y++(b.extract p (v - 1)).reverse) u p),u,p,o.push y++(b.extract p (v - 1)).reverse,g,ac,v - 1 - p))
    else if (p==0)=true then pure (.done (some (hnA a b (o.push y++(b.extract p (v - 1)).reverse) u p),u,p,o.push y++(b.extract p (v - 1)).reverse,g,ac,v - 1 - p))
    else hi5 a b u p (o.push y++(b.extract p (v - 1)).reverse) g ac (v - 1 - p)
   else hi5 a b u (v - 1) (o.push y) g ac (v - 1 - p)
  | _=>pure (.done (some (hnA a b (o.push y) u (v - 1)),u,v - 1,o.push y,g,ac,bc))
noncomputable def hi3 (a b:Array Keyed) (u v:Nat) (o:Array Keyed) (g ac bc:Nat):SM (ForInStep H2):=do
 a8p g
 let y <- elem' b (v - 1)
 let r <- a2c false y a 0 u (u - 1)
 match r with
 | some p=>
  if u - p > 0 then
   if (p==0)=true then pure (.done (some (hnA a b (o++(a.extract p u).reverse) p v),p,v,o++(a.extract p u).reverse,g,u - p,bc))
   else hi4 a b p v (o++(a.extract p u).reverse) g (u - p) bc
  else hi4 a b u v o g (u - p) bc
 | _=>pure (.done (some (hnA a b o u v),u,v,o,g,ac,bc))
noncomputable def hi2 (a b:Array Keyed) (u v:Nat) (o:Array Keyed) (g ac bc:Nat):SM (ForInStep H2):=
 if g > 1 then hi3 a b u v o (g - 1) ac bc else hi3 a b u v o g ac bc
theorem a7t (a b:Array Keyed):a6C a b=(do
  liftM (rule "list.sort.merge-hi")
  let x <- elem' a (a.size - 1)
  if (a.size - 1==0)=true then pure (hnA a b #[x] (a.size - 1) b.size)
  else if (b.size==1)=true then pure (hnB a b #[x] (a.size - 1) b.size)
  else do
   let st <- get
   let c <- forIn [0:a.size+b.size] ((none,a.size - 1,b.size,#[x],mN st):Option (Array Keyed)×Nat×Nat×Array Keyed×Nat) λ_ c=>do
    let c1 <- forIn [0:a.size+b.size] ((none,c.2.1,c.2.2.1,c.2.2.2.1,0,0):H1) λ_ c1=>hi1 a b c.2.2.2.2 c1.2.1 c1.2.2.1 c1.2.2.2.1 c1.2.2.2.2.1 c1.2.2.2.2.2
    match c1.1 with
    | some r=>pure (ForInStep.done (some r,c1.2.1,c1.2.2.1,c1.2.2.2.1,c.2.2.2.2))
    | none=>do
     liftM (rule "list.sort.gallop")
     let c2 <- forIn [0:a.size+b.size] ((none,c1.2.1,c1.2.2.1,c1.2.2.2.1,c.2.2.2.2+1,c1.2.2.2.2.1,c1.2.2.2.2.2):H2) λ_ c2=>hi2 a b c2.2.1 c2.2.2.1 c2.2.2.2.1 c2.2.2.2.2.1 c2.2.2.2.2.2.1 c2.2.2.2.2.2.2
     match c2.1 with
     | some r=>pure (ForInStep.done (some r,c2.2.1,c2.2.2.1,c2.2.2.2.1,c2.2.2.2.2.1))
     | none=>do
      a8p (c2.2.2.2.2.1+1)
      pure (ForInStep.yield (none,c2.2.1,c2.2.2.1,c2.2.2.2.1,c2.2.2.2.2.1+1))
   match c.1 with
   | some r=>pure r
   | none=>me "internal:list.sort.merge-bound"):=by
 refine bind_congr λ_=>bind_congr λy=>?_;dsimp only
 congr 1
 congr 1
 refine bind_congr λi=>?_;refine bd2 ?_ λc=>?_
 ·congr 1
  funext x c
  obtain⟨r,u,v,o,g⟩:=c;dsimp only;refine bd2 ?_ λd=>?_
  ·congr 1
  ·obtain⟨r,u,v,o,h,f⟩:=d;cases r with
   | some r=>rfl
   | none=>
    refine bind_congr λ_=>?_;refine bd2 ?_ λe=>?_
    ·congr 1
    ·obtain⟨r,u,v,o,g,h,f⟩:=e;cases r<;>rfl
 ·obtain⟨r,u,v,o,g⟩:=c;cases r<;>rfl
end Tim
namespace Tim
open PySem PyProof.Rows
section
variable {κ:KF}{A B o:List Keyed}{u v:Nat}{p:Keyed}
structure MH (κ:KF) (A B o:List Keyed) (u v:Nat):Prop where
 ia:u≤A.length
 jb:v≤B.length
 pm:(A.take u++B.take v++o.reverse).Perm (A++B)
 so:Srt κ o.reverse
 ba:∀ x∈o,∀ y∈A.take u,κ y≤κ x
 bb:∀ x∈o,∀ y∈B.take v,κ y≤κ x
theorem a8r {l:List Keyed}(h:l[n]?=some p):l.take (n+1)=l.take n++[p]:=by
 rw[fA,h];rfl
theorem a2z (h:Srt κ l) (n:Nat):Srt κ (l.take n):=e7.sublist (gC n l) h
theorem a3d (h:Srt κ l) (e:l[n]?=some p):∀ y∈l.take (n+1),κ y≤κ p:=λy a=>by
 have b:=a2z h (n+1);rw[a8r e]at b a;rcases dN.mp a with a | a
 ·exact (eG.mp b).2.2 y a p (by simp)
 ·simp_all
theorem MH.pushA (W:MH κ A B o (u+1) v) (sa:Srt κ A) (hp:A[u]?=some p) (hb:∀ y∈B.take v,κ y≤κ p):MH κ A B (o++[p]) u v:=by
 have c:=a8r hp;have d:=(dX.mp hp).1;refine⟨by omega,W.jb,?_,?_,λx b y a=>?_,λx b y a=>?_⟩
 ·have:=W.pm
  rw[c]at this;refine eH.trans ?_ this;rw[fQ,gh];simp;refine eH.append_left _ ?_;exact ij
 ·rw[fQ,gh,iH];refine et.mpr ⟨λx b=>?_,W.so⟩;exact W.ba x (by simpa using b) p (by rw[c];simp)
 ·rcases dN.mp b with h | h
  ·exact W.ba x h y (by simp_all)
  ·rw[dP.mp h];exact a3d sa hp y (by simp_all)
 ·rcases dN.mp b with h | h
  ·exact W.bb x h y a
  ·simp_all
theorem MH.pushB (W:MH κ A B o u (v+1)) (sb:Srt κ B) (hp:B[v]?=some p) (hb:∀ y∈A.take u,κ y≤κ p):MH κ A B (o++[p]) u v:=by
 have c:=a8r hp;have d:=(dX.mp hp).1;refine⟨W.ia,by omega,?_,?_,λx b y a=>?_,λx b y a=>?_⟩
 ·have:=W.pm
  rw[c]at this;refine eH.trans ?_ this;rw[fQ,gh];simp only[eD];exact eH.refl _
 ·rw[fQ,gh,iH];refine et.mpr ⟨λx b=>?_,W.so⟩;exact W.bb x (by simp_all) p (by simp_all)
 ·rcases dN.mp b with h | h
  ·exact W.ba x h y a
  ·rw[dP.mp h];exact hb y a
 ·rcases dN.mp b with h | h
  ·exact W.bb x h y (by simp_all)
  ·rw[dP.mp h];exact a3d sb hp y (by simp_all)
theorem MH.runA (sa:Srt κ A):∀ (k:Nat) {o:List Keyed},MH κ A B o (u+k) v->(∀ q z,u≤q->q<u+k->A[q]?=some z->∀ y∈B.take v,κ y≤κ z)->MH κ A B (o++((A.drop u).take k).reverse) u v
 | 0,o,W,_=>by simpa using W
 | k+1,o,W,hz=>by
  have a:u+k<A.length:=by have:=W.ia;omega
  have e:=en a;have b:=MH.pushA W sa e (hz _ _ (by simp) (by simp) e);have d:=MH.runA sa k b λq z c f=>hz q z c (by omega);rw[take_snoc e,fQ,gh,<- eD];exact d
theorem MH.runB (sb:Srt κ B):∀ (k:Nat) {o:List Keyed},MH κ A B o u (v+k)->(∀ q z,v≤q->q<v+k->B[q]?=some z->∀ y∈A.take u,κ y≤κ z)->MH κ A B (o++((B.drop v).take k).reverse) u v
 | 0,o,W,_=>by simpa using W
 | k+1,o,W,hz=>by
  have a:v+k<B.length:=by have:=W.jb;omega
  have e:=en a;have b:=MH.pushB W sb e (hz _ _ (by simp) (by simp) e);have d:=MH.runB sb k b λq z c f=>hz q z c (by omega);rw[take_snoc e,fQ,gh,<- eD];exact d
theorem MH.doneA (W:MH κ A B o u v) (sa:Srt κ A) (sb:Srt κ B) (h:u=0\/v=0):Mgd κ A B (A.take u++B.take v++o.reverse):=by
 refine⟨W.pm,?_⟩;refine eG.mpr ⟨eG.mpr ⟨a2z sa u,a2z sb v,λx b y c=>?_⟩,W.so,λx b y c=>?_⟩
 ·rcases h with rfl | rfl
  ·simp_all
  ·simp_all
 ·have a:y∈o:=by simpa using c
  rcases dN.mp b with h | h
  ·exact W.ba y a x h
  ·exact W.bb y a x h
theorem MH.doneB (W:MH κ A B o u 1) (sa:Srt κ A) (sb:Srt κ B) (hf:∀ z,B[0]?=some z->∀ y∈A,κ z≤κ y):Mgd κ A B (B.take 1++A.take u++o.reverse):=by
 refine⟨?_,?_⟩
 ·refine eH.trans ?_ W.pm;exact eH.append_right _ jf
 ·refine eG.mpr ⟨eG.mpr ⟨a2z sb 1,a2z sa u,λx a y c=>?_⟩,W.so,λx a y c=>?_⟩
  ·cases B with
   | nil=>simp at a
   | cons z B=>
    have:x=z:=by simpa using a
    subst this;exact hf x rfl y (fc c)
  ·have b:y∈o:=by simpa using c
   rcases dN.mp a with h | h
   ·exact W.bb y b x h
   ·exact W.ba y b x h
end
section
variable {κ:KF}{a b o:Array Keyed}{u v:Nat}
theorem a3K:(hnA a b o u v).toList=a.toList.take u++b.toList.take v++o.toList.reverse:=by
 simp
theorem a4W:(hnB a b o u v).toList=b.toList.take v++a.toList.take u++o.toList.reverse:=by
 simp
theorem a9f:(o++(a.extract p u).reverse).toList=o.toList++((a.toList.drop p).take (u - p)).reverse:=by
 simp[io]
end
structure RdH (κ:KF) (a b o:Array Keyed) (u v:Nat):Prop where
 w:MH κ a.toList b.toList o.toList u v
 hu:1≤u
 hv:2≤v
section
variable {M:Model}{A:Around}{E:Value->Shared->Prop}{s:Shared}{κ:KF}{k0:ko}{a₀ a b o:Array Keyed}{st:SortSt}{u v g ac bc:Nat}
theorem RdH.ua (R:RdH κ a b o u v):u≤a.size:=by have:=R.w.ia;rwa [a1E]at this
theorem RdH.vb (R:RdH κ a b o u v):v≤b.size:=by have:=R.w.jb;rwa [a1E]at this
theorem MC.first (C:MC M A E s κ k0 a₀ a b):∀ z,b.toList[0]?=some z->∀ y∈a.toList,κ z≤κ y:=λz c y d=>by
 have:=C.hf y d
 rwa [a5i c]at this
theorem c0e (C:MC M A E s κ k0 a₀ a b) (hk:kindOf st=k0) (R:RdH κ a b o (u+1) (v+1))
  (dn:∀ r c,Mgd κ a.toList b.toList r.toList->Q (.done (some r,c)) st)
  (br:∀ o' u' v' x y,RdH κ a b o' u' v'->u'+v'=u+v+1->Q (.done (none,u',v',o',x,y)) st)
  (go:∀ o' u' v' x y,RdH κ a b o' u' v'->u'+v'=u+v+1->Q (.yield (none,u',v',o',x,y)) st):wpS M A E s (hi1 a b g (u+1) (v+1) o ac bc) Q st:=by
 have q:=R.ua;have t:=R.vb;have m:=R.hu;have p:=R.hv;have l:b[v]?=some b[v]:=getElem?_pos ..;have n:a[u]?=some a[u]:=getElem?_pos ..;have j:=a1k (a:=b) (i:=v) (by omega);have k:=a1k (a:=a) (i:=u) (by omega);unfold hi1;simp only[iI];refine jT (a02 l (jT (a02 n (jT ?_))));refine C.L _ _ (C.hb _ (er j)) (C.ha _ (er k)) st _ hk ?_;dsimp only
 by_cases c:κ b[v]<κ a[u]
 ·rw[if_pos (decide_eq_true c)];refine jT (a02 n ?_);have d:=R.w.pushA C.sa k λy h=>eP (a3d C.sb j y h) (fk c);rw[<- eR]at d
  by_cases e:u=0
  ·rw[if_pos (by simpa using e)];exact jV (dn _ _ (by rw[a3K];exact d.doneA C.sa C.sb (.inl e)))
  ·rw[if_neg (by simpa using e)];have f:RdH κ a b (o.push a[u]) u (v+1):=⟨d,by omega,p⟩
   split
   ·exact jV (br _ _ _ _ _ f (by omega))
   ·exact jV (go _ _ _ _ _ f (by omega))
 ·rw[if_neg (by simpa using c)];refine jT (a02 l ?_);have d:=R.w.pushB C.sb j λy h=>eP (a3d C.sa k y h) (ip.mp c);rw[<- eR]at d
  by_cases e:v=1
  ·rw[if_pos (by simpa using e)];subst e;exact jV (dn _ _ (by rw[a4W];exact d.doneB C.sa C.sb C.first))
  ·rw[if_neg (by simpa using e)];have f:RdH κ a b (o.push b[v]) (u+1) v:=⟨d,m,by omega⟩
   split
   ·exact jV (br _ _ _ _ _ f (by omega))
   ·exact jV (go _ _ _ _ _ f (by omega))
structure HG (st:SortSt) (κ:KF) (a b:Array Keyed) (n:Nat) (Q:ForInStep H2->SortSt->Prop):Prop where
 dn:∀ r c st',SG st st'->Mgd κ a.toList b.toList r.toList->Q (.done (some r,c)) st'
 br:∀ o' u' v' x y z st',SG st st'->RdH κ a b o' u' v'->u'+v'<n->Q (.done (none,u',v',o',x,y,z)) st'
 go:∀ o' u' v' x y z st',SG st st'->RdH κ a b o' u' v'->u'+v'<n->Q (.yield (none,u',v',o',x,y,z)) st'
theorem b74 (C:MC M A E s κ k0 a₀ a b) (R:RdH κ a b o (u+1) v) (hle:∀ y∈b.toList.take v,κ y≤Kk κ a u) (H:HG st κ a b n Q) (hn:u+v<n):wpS M A E s (hi5 a b (u+1) v o g ac bc) Q st:=by
 have k:=R.ua;have f:=R.hv;have j:a[u]?=some a[u]:=getElem?_pos ..;have h:=a1k (a:=a) (i:=u) (by omega);rw[a1w (show u<a.size by omega)]at hle;unfold hi5;simp only[iI];refine jT (a02 j ?_);have c:=R.w.pushA C.sa h hle;rw[<- eR]at c
 by_cases e:u=0
 ·rw[if_pos (by simpa using e)];exact jV (H.dn _ _ _ (SG.refl _) (by rw[a3K];exact c.doneA C.sa C.sb (.inl e)))
 ·rw[if_neg (by simpa using e)];have d:RdH κ a b _ u v:=⟨c,by omega,f⟩
  split
  ·exact jV (H.br _ _ _ _ _ _ _ (SG.refl _) d (by omega))
  ·exact jV (H.go _ _ _ _ _ _ _ (SG.refl _) d (by omega))
theorem a3t {l:List Keyed}(h:y∈l.take n):∃ q,q<n/\l[q]?=some y:=by
 obtain⟨m,a⟩:=fJ h;have b:=(dX.mp a).1;rw[iq]at a
 split at a
 ·exact⟨m,by omega,a⟩
 ·grind
theorem b75 (C:MC M A E s κ k0 a₀ a b) (hk:kindOf st=k0) (R:RdH κ a b o (u+1) (v+1)) (hle:∀ y∈a.toList.take (u+1),κ y≤Kk κ b v) (H:HG st κ a b n Q) (hn:u+v<n):wpS M A E s (hi4 a b (u+1) (v+1) o g ac bc) Q st:=by
 have I:=R.ua;have G:=R.vb;have F:=R.hv;have B:b[v]?=some b[v]:=getElem?_pos ..;have x:=a1k (a:=b) (i:=v) (by omega);have t:a[u]?=some a[u]:=getElem?_pos ..;have r:=a1k (a:=a) (i:=u) (by omega);rw[a1w (show v<b.size by omega)]at hle;unfold hi4;simp only[iI];refine jT (a02 B ?_);have d:=R.w.pushB C.sb x hle;rw[<- eR]at d
 by_cases e:v=1
 ·rw[if_pos (by simpa using e)];subst e;exact jV (H.dn _ _ _ (SG.refl _) (by rw[a4W];exact d.doneB C.sa C.sb C.first))
 ·rw[if_neg (by simpa using e)];refine jT (a02 t (jT ?_));refine a3c C.L hk (C.ha _ (er r)) C.hb (by omega) (by omega) (a3J C.sb (by omega)) λp D j h=>?_;dsimp only;simp only[ir]at j h;have c:∀ y∈b.toList.take p,κ y≤Kk κ a u:=λy k=>by
   obtain⟨q,m,l⟩:=a3t k
   have:=j q m
   rw[a5i l]at this;simp[bq]at this;rw[a1w (show u<a.size by omega)];omega
  split
  ·have f:=MH.runB C.sb (v - p) (by rw[show p+(v - p)=v by omega];exact d) λq z m J l y k=>by
    have:=h q m (by omega)
    rw[a5i l]at this;simp[bq]at this;exact eP (a3d C.sa r y k) this
   rw[<- a9f]at f
   by_cases e1:p=1
   ·rw[if_pos (by simpa using e1)];subst e1;exact jV (H.dn _ _ _ (SG.refl _) (by rw[a4W];exact f.doneB C.sa C.sb C.first))
   ·rw[if_neg (by simpa using e1)]
    by_cases e2:p=0
    ·rw[if_pos (by simpa using e2)];exact jV (H.dn _ _ _ (SG.refl _) (by rw[a3K];exact f.doneA C.sa C.sb (.inr e2)))
    ·rw[if_neg (by simpa using e2)];exact b74 C ⟨f,by omega,by omega⟩ c H (by omega)
  ·have:p=v:=by omega
   subst this;exact b74 C ⟨d,by omega,by omega⟩ c H (by omega)
theorem c0f (C:MC M A E s κ k0 a₀ a b) (hk:kindOf st=k0) (R:RdH κ a b o (u+1) (v+1)) (H:HG st κ a b n Q) (hn:u+v<n):wpS M A E s (hi3 a b (u+1) (v+1) o g ac bc) Q st:=by
 have S:=R.ua;have N:=R.vb;have F:=R.hv;have I:b[v]?=some b[v]:=getElem?_pos ..;have D:=a1k (a:=b) (i:=v) (by omega);unfold hi3;rw[a6B];refine jT (kt ?_);have h:SG st (SortSt.mk' _ _ _ g _):=⟨rfl,rfl,rfl,rfl⟩;have e:kindOf (SortSt.mk' _ (arrOf st) (j0 st) g (kh st))=k0:=hk;generalize SortSt.mk' _ (arrOf st) (j0 st) g (kh st)=st1 at h e;have l:HG st1 κ a b n Q:=⟨λr c d g=>H.dn r c d (h.trans g),λ_ _ _ _ _ _ d g=>H.br _ _ _ _ _ _ d (h.trans g),λ_ _ _ _ _ _ d g=>H.go _ _ _ _ _ _ d (h.trans g)⟩;refine jT (a02 I (jT ?_));refine a3c C.L e (C.hb _ (er D)) C.ha (by omega) (by omega) (a3J C.sa (by omega)) λp J k j=>?_;dsimp only;simp at k j;have f:∀ y∈a.toList.take p,κ y≤Kk κ b v:=λy m=>by
  obtain⟨q,B,x⟩:=a3t m
  have:=k q B
  rw[a5i x]at this;simp[bq]at this;rw[a1w _];omega
 split
 ·have t:=MH.runA C.sa _ (by rw[show p+(u+1 - p)=u+1 by omega];exact R.w) λq z B T x y m=>by
   have:=j q B (by omega)
   rw[a5i x]at this;simp[bq]at this;exact eP (a3d C.sb D y m) (fk this)
  rw[<- a9f]at t
  by_cases e1:p=0
  ·rw[if_pos (by simpa using e1)];exact jV (l.dn _ _ _ (SG.refl _) (by rw[a3K];exact t.doneA C.sa C.sb (.inl e1)))
  ·rw[if_neg (by simpa using e1)];obtain⟨G,rfl⟩:∃ G,p=G+1:=⟨p - 1,by omega⟩;exact b75 C e ⟨t,by omega,F⟩ f l (by omega)
 ·have:p=u+1:=by omega
  subst this;exact b75 C e R f l (by omega)
theorem c0g (C:MC M A E s κ k0 a₀ a b) (hk:kindOf st=k0) (R:RdH κ a b o (u+1) (v+1)) (H:HG st κ a b n Q) (hn:u+v<n):wpS M A E s (hi2 a b (u+1) (v+1) o g ac bc) Q st:=by
 unfold hi2
 split<;>exact c0f C hk R H hn
theorem b3s (C:MC M A E s κ k0 a₀ a b):MH κ a.toList b.toList [a[a.size - 1]'(by have:=C.h0;omega)] (a.size - 1) b.size:=by
 have f:=C.h0;have c:=a1k (a:=a) (i:=a.size - 1) (by omega);have d:MH κ a.toList b.toList [] (a.size - 1+1) b.size:=⟨by rw[a1E];omega,by rw[a1E];omega,by rw[fv (by rw[a1E];omega),fv (by rw[a1E];omega)];simp,.nil,λx h=>by simp at h,λx h=>by simp at h⟩;exact d.pushA C.sa c λy e=>C.hl _ (by simp) y (fc e)
theorem b1M (C:MC M A E s κ k0 a₀ a b) (hk:kindOf st=k0)
  (h:∀ r st',SG st st'->Mgd κ a.toList b.toList r.toList->Q r st'):wpS M A E s (a6C a b) Q st:=by
 have h0:=C.h0;have h1:=C.h1;rw[a7t];refine a53 ?_;refine jT (a02 (getElem?_pos a (a.size - 1) (by omega)) ?_);have V:=b3s C
 by_cases e1:a.size - 1=0
 ·rw[if_pos (by simpa using e1)];exact jV (h _ _ (SG.refl _) (by rw[a3K];exact V.doneA C.sa C.sb (.inl e1)))
 rw[if_neg (by simpa using e1)]
 by_cases e2:b.size=1
 ·rw[if_pos (by simpa using e2)];refine jV (h _ _ (SG.refl _) ?_);rw[e2]at V;rw[a4W,e2];exact V.doneB C.sa C.sb C.first
 rw[if_neg (by simpa using e2)];refine jT (kr ?_);have R0:RdH κ a b #[a[a.size - 1]] (a.size - 1) b.size:=⟨V,by omega,by omega⟩;refine jT (kg (kc (I:=λx c e=>∃ o u v g,c=(none,u,v,o,g)/\SG st e/\RdH κ a b o u v/\x+(u+v)<a.size+b.size)
  (Q:=λc e=>∃ r G,c=(some r,G)/\SG st e/\Mgd κ a.toList b.toList r.toList) ?step ?fin ⟨_,_,_,_,rfl,SG.refl _,R0,by omega⟩) ?post)
 case post=>
  rintro c e ⟨r,G,rfl,L,m⟩;exact jV (h r e L m)
 case fin=>
  rintro c e ⟨o,u,v,g,rfl,L,R,hx⟩;omega
 case step=>
  rintro x c e _ hx ⟨o,u,v,g,rfl,L,R,hxi⟩;dsimp only;have hk1:kindOf e=k0:=L.kd.trans hk;refine jT (kg (kc (I:=λy c l=>∃ D f i S J,c=(none,f,i,D,S,J)/\l=e/\RdH κ a b D f i/\f+i+y≤u+v)
   (Q:=λc l=>l=e/\((∃ r G,c=(some r,G)/\Mgd κ a.toList b.toList r.toList)\/∃ D f i S J,c=(none,f,i,D,S,J)/\RdH κ a b D f i/\f+i≤u+v)) ?st1 ?fi1 ⟨_,_,_,_,_,rfl,rfl,R,by omega⟩) ?po1)
  case fi1=>
   rintro c l ⟨D,f,i,S,J,rfl,rfl,H,Y⟩;exact⟨rfl,.inr ⟨_,_,_,_,_,rfl,H,by omega⟩⟩
  case st1=>
   rintro y c l _ Y ⟨D,f,i,S,J,rfl,rfl,H,hyi⟩;dsimp only;have hu1:=H.hu;have hv1:=H.hv;obtain⟨f,rfl⟩:∃ z,f=z+1:=⟨f - 1,by omega⟩;obtain⟨i,rfl⟩:∃ z,i=z+1:=⟨i - 1,by omega⟩;refine c0e C hk1 H (λr c m=>⟨rfl,.inl ⟨r,c,rfl,m⟩⟩) (λo2 i2 j2 u v R2 U=>⟨rfl,.inr ⟨_,_,_,_,_,rfl,R2,by omega⟩⟩) λo2 i2 j2 u v R2 U=>⟨_,_,_,_,_,rfl,rfl,R2,by omega⟩
  case po1=>
   rintro c l ⟨rfl,⟨r,G,rfl,m⟩ | ⟨D,f,i,S,J,rfl,H,hij⟩⟩
   ·exact jV ⟨r,_,rfl,L,m⟩
   ·dsimp only;refine a53 ?_;refine jT (kg (kc (I:=λy c p=>∃ B k j N q t,c=(none,k,j,B,N,q,t)/\SG st p/\RdH κ a b B k j/\k+j+y≤f+i)
     (Q:=λc p=>SG st p/\((∃ r G,c=(some r,G)/\Mgd κ a.toList b.toList r.toList)\/∃ B k j N q t,c=(none,k,j,B,N,q,t)/\RdH κ a b B k j/\k+j<f+i)) ?l ?fi2 ⟨_,_,_,_,_,_,rfl,L,H,by omega⟩) ?po2)
    case fi2=>
     rintro c p ⟨B,k,j,N,q,t,rfl,d,F,Y⟩;exact⟨d,.inr ⟨_,_,_,_,_,_,rfl,F,by have:=F.hu;omega⟩⟩
    case l=>
     rintro y c p _ Y ⟨B,k,j,N,q,t,rfl,d,F,hyi⟩;dsimp only;have hu1:=F.hu;have hv1:=F.hv;obtain⟨k,rfl⟩:∃ z,k=z+1:=⟨k - 1,by omega⟩;obtain⟨j,rfl⟩:∃ z,j=z+1:=⟨j - 1,by omega⟩;refine c0g (n:=k+1+(j+1)) C (d.kd.trans hk) F ⟨λr c W T m=>⟨d.trans T,.inl ⟨r,c,rfl,m⟩⟩,λo4 i4 j4 u v w W T X U=>⟨d.trans T,.inr ⟨_,_,_,_,_,_,rfl,X,by omega⟩⟩,λo4 i4 j4 u v w W T X U=>⟨_,_,_,_,_,_,rfl,d.trans T,X,by omega⟩⟩ (by omega)
    case po2=>
     rintro c p ⟨d,⟨r,G,rfl,m⟩ | ⟨B,k,j,N,q,t,rfl,F,U⟩⟩
     ·exact jV ⟨r,_,rfl,d,m⟩
     ·dsimp only;rw[a6B];refine jT (kt (jV ?_));exact⟨_,_,_,_,rfl,⟨d.kd,d.ar,d.pe,d.fl⟩,F,by omega⟩
end
end Tim
namespace Tim
open PySem PyProof.Rows
def SR (κ:KF) (xs:Array Keyed) (lo n:Nat):Prop:=∀ i j,i≤j->j<n->Kk κ xs (lo+i)≤Kk κ xs (lo+j)
def NR (κ:KF) (xs:Array Keyed) (lo n:Nat):Prop:=∀ i j,i≤j->j<n->Kk κ xs (lo+j)≤Kk κ xs (lo+i)
structure Ar (st st':SortSt) (lo:Nat):Prop where
 pm:(arrOf st').Perm (arrOf st)
 pre:∀ i,i<lo->(arrOf st')[i]?=(arrOf st)[i]?
 kd:kindOf st'=kindOf st
 pe:j0 st'=j0 st
 fl:kh st'=kh st
section
variable {M:Model}{A:Around}{E:Value->Shared->Prop}{s:Shared}{κ:KF}{k0:ko}{a₀:Array Keyed}{st st':SortSt}{lo:Nat}
theorem Ar.refl (st:SortSt) (lo:Nat):Ar st st lo:=⟨gK.refl _,λ_ _=>rfl,rfl,rfl,rfl⟩
theorem Ar.trans (p:Ar x y lo) (q:Ar y z lo):Ar x z lo:=⟨q.pm.trans p.pm,λi h=>(q.pre i h).trans (p.pre i h),q.kd.trans p.kd,q.pe.trans p.pe,q.fl.trans p.fl⟩
theorem Ar.tb (q:Ar st st' lo) (B:TB k0 a₀ st):TB k0 a₀ st':=⟨q.pm.trans B.pm,q.kd.trans B.kd,q.fl.trans B.fl⟩
theorem b4r (hs:src<xs.size) (hd:d≤src) (k:Nat) :
  Kk κ (bubble xs src d) k=if k=src - d then Kk κ xs src else if src - d<k/\k≤src then Kk κ xs (k - 1) else Kk κ xs k:=by
 have q:=getElem?_bubble hs d hd k
 by_cases h1:k=src - d
 ·rw[if_pos h1]at q ⊢;exact a5h q
 ·rw[if_neg h1]at q ⊢
  by_cases h2:src - d<k/\k≤src
  ·rw[if_pos h2]at q ⊢;exact a5h q
  ·rw[if_neg h2]at q ⊢;exact a5h q
theorem Ar.bub (hs:src<(arrOf st).size) (hd:d≤src) (h:lo≤src - d):Ar st (setArr st (bubble (arrOf st) src d)) lo:=
 ⟨bubble_perm _ _ _,λi a=>by
  rw[getElem?_bubble hs d hd,if_neg (by omega),if_neg (by omega)],rfl,rfl,rfl⟩
theorem b1N (hj:j≤xs.size) (k:Nat):Kk κ (mirror xs i j ((j - i) / 2)) k=if i≤k/\k<j then Kk κ xs (i+j - 1 - k) else Kk κ xs k:=by
 have q:=getElem?_mirror_all (i:=i) hj k
 by_cases h1:i≤k/\k<j
 ·rw[if_pos h1]at q ⊢;exact a5h q
 ·rw[if_neg h1]at q ⊢;exact a5h q
theorem a5j (hj:j≤xs.size) (hq:∀ k,i≤k->k<j->Kk κ xs k=Kk κ xs (j - 1)) (k:Nat):Kk κ (mirror xs i j ((j - i) / 2)) k=Kk κ xs k:=by
 rw[b1N hj]
 split
 ·grind
 ·rfl
theorem Ar.mir (hj:j≤(arrOf st).size) (h:lo≤i):Ar st (setArr st (mirror (arrOf st) i j ((j - i) / 2))) lo:=
 ⟨mirror_perm _ _ _ _,λk a=>by
  rw[getElem?_mirror_all hj,if_neg (by omega)],rfl,rfl,rfl⟩
theorem b3t (L:LtOk M A E s κ k0 a₀) (B:TB k0 a₀ st) (hn:lo+n≤a₀.size) (hok:ok≤n) (hs:SR κ (arrOf st) lo ok)
  (h:∀ st',Ar st st' lo->SR κ (arrOf st') lo n->Q true st'):wpS M A E s (binarySort' lo n ok) Q st:=by
 rw[binarySort'_eq];refine jT (kg (kc (I:=λk c z=>c=(none,())/\Ar st z lo/\SR κ (arrOf z) lo (min k n)) (Q:=λc z=>c=(none,())/\Ar st z lo/\SR κ (arrOf z) lo n) ?step ?fin ?init) ?post)
 case post=>
  rintro c z ⟨rfl,r1,r2⟩;exact jV (h z r1 r2)
 case init=>
  refine⟨rfl,Ar.refl _ _,λi j hij hj=>?_⟩
  by_cases h1:ok=0
  ·have:i=j:=by omega
   rw[this];exact fb _
  ·exact hs i j hij (by omega)
 case fin=>
  rintro c z ⟨hc,r1,r2⟩;refine⟨hc,r1,?_⟩
  rwa [show min (max (max ok 1) n) n=n by omega]at r2
 case step=>
  rintro k c z hak hkn ⟨rfl,r1,r2⟩;rw[show min k n=k by omega]at r2;have B1:=r1.tb B;refine jT (kg (kc (I:=λx c y=>y=z/\∃ p q,c=(none,p,q)/\p≤q/\q≤k/\q - p≤k - x/\(∀ i,i<p->Kk κ (arrOf z) (lo+i)≤Kk κ (arrOf z) (lo+k))/\(∀ i,q≤i->i<k->Kk κ (arrOf z) (lo+k)<Kk κ (arrOf z) (lo+i)))
   (Q:=λc y=>y=z/\∃ p q,c=(none,p,q)/\p≤k/\(∀ i,i<p->Kk κ (arrOf z) (lo+i)≤Kk κ (arrOf z) (lo+k))/\(∀ i,p≤i->i<k->Kk κ (arrOf z) (lo+k)<Kk κ (arrOf z) (lo+i))) ?istep ?ifin ?iinit) ?ipost)
  case iinit=>exact⟨rfl,0,k,rfl,by omega,by omega,by omega,λi hi=>by omega,λi h1 h2=>by omega⟩
  case ifin=>
   rintro c y ⟨rfl,p,q,rfl,u1,u2,u3,u4,u5⟩
   have:p=q:=by omega
   subst this;exact⟨rfl,p,p,rfl,u2,u4,u5⟩
  case istep=>
   rintro x c y _ hxk ⟨rfl,p,q,rfl,u1,u2,u3,u4,u5⟩;dsimp only
   by_cases hge:p≥q
   ·rw[if_pos hge]
    have:p=q:=by omega
    subst this;exact jV ⟨rfl,p,p,rfl,u2,u4,u5⟩
   ·rw[if_neg hge];refine jT (a7r L B1 (by omega) (by omega) ?_)
    by_cases hless:Kk κ (arrOf y) (lo+k)<Kk κ (arrOf y) (lo+(p+q) / 2)
    ·simp only[hless,decide_true,if_true];refine jV ⟨rfl,p,(p+q) / 2,rfl,by omega,by omega,by omega,u4,λi h1 h2=>?_⟩;exact Int.lt_of_lt_of_le hless (r2 _ _ h1 h2)
    ·simp only[hless,decide_false,gi,if_false];refine jV ⟨rfl,(p+q) / 2+1,q,rfl,by omega,by omega,by omega,λi h1=>?_,u5⟩;exact eP (r2 i ((p+q) / 2) (by omega) (by omega)) (ip.mp hless)
  case ipost=>
   rintro c y ⟨rfl,p,q,rfl,u2,u4,u5⟩
   show wpS _ _ _ _ (do moveDown' (lo+k) (lo+p);pure (ForInStep.yield (none,()))) _ _
   rw[moveDown'_eq];have hks:lo+k<(arrOf y).size:=by rw[B1.sz];omega
   refine jT (kt (jV ⟨rfl,r1.trans (Ar.bub hks (by omega) (by omega)),?_⟩));rw[show min (k+1) n=k+1 by omega];intro i j hij hj
   show Kk κ (bubble (arrOf y) (lo+k) (lo+k - (lo+p))) (lo+i)≤Kk κ (bubble (arrOf y) (lo+k) (lo+k - (lo+p))) (lo+j)
   rw[b4r hks (by omega),b4r hks (by omega),show lo+k - (lo+k - (lo+p))=lo+p by omega];have ek:∀ t,1≤t->lo+t - 1=lo+(t - 1):=λt ht=>by omega
   repeat' split
   all_goals first
    | (exfalso;omega)
    | exact fb _
    | exact u4 _ (by omega)
    | (rw[ek _ (by omega)];exact u4 _ (by omega))
    | exact fk (u5 _ (by omega) (by omega))
    | (rw[ek _ (by omega)];exact fk (u5 _ (by omega) (by omega)))
    | exact r2 _ _ (by omega) (by omega)
    | (rw[ek j (by omega)];exact r2 _ _ (by omega) (by omega))
    | (rw[ek i (by omega)];exact r2 _ _ (by omega) (by omega))
    | (rw[ek i (by omega),ek j (by omega)];exact r2 _ _ (by omega) (by omega))
end
end Tim
namespace Tim
open PySem PyProof.Rows
abbrev U1:=Option (Option Nat)×Nat
abbrev U2:=Option (Option Nat)×Nat×Nat
noncomputable def rise (lo p nr:Nat):SM U1:=forIn [p:nr] ((none,p):U1) λ_ c=>do
 let x <- ltAt' (lo+c.2) (lo+c.2 - 1)
 match x with
 | some sm=>if sm=true then pure (.done (none,c.2)) else pure (.yield (none,c.2+1))
 | _=>pure (.done (some none,c.2))
noncomputable def fin3 (lo n nr:Nat):SM (Option Nat):=do
 lz lo (lo+n)
 let c <- rise lo n nr
 match c.1 with
 | some r=>pure r
 | none=>pure (some c.2)
noncomputable def fall (lo n nr:Nat):SM U2:=forIn [n:nr] ((none,n,0):U2) λ_ c=>do
 let x <- ltAt' (lo+c.2.1) (lo+c.2.1 - 1)
 match x with
 | some sm=>
  if sm=true then
   if c.2.2 > 0 then do
    lz (lo+c.2.1 - (c.2.2+1)) (lo+c.2.1)
    pure (.yield (none,c.2.1+1,0))
   else pure (.yield (none,c.2.1+1,0))
  else do
   let x <- ltAt' (lo+c.2.1 - 1) (lo+c.2.1)
   match x with
   | some lg=>if lg=true then pure (.done (none,c.2.1,c.2.2)) else pure (.yield (none,c.2.1+1,c.2.2+1))
   | _=>pure (.done (some none,c.2.1,c.2.2))
 | _=>pure (.done (some none,c.2.1,c.2.2))
noncomputable def part (lo n nr:Nat):SM (Option Nat):=do
 liftM (rule "list.sort.descending-run")
 let c <- fall lo (n+1) nr
 match c.1 with
 | some r=>pure r
 | none=>
  if c.2.2 > 0 then do
   lz (lo+c.2.1 - (c.2.2+1)) (lo+c.2.1)
   fin3 lo c.2.1 nr
  else fin3 lo c.2.1 nr
theorem a6D (lo nr:Nat):countRun' lo nr=(do
  let c <- rise lo 1 nr
  match c.1 with
  | some r=>pure r
  | none=>
   if (c.2==nr)=true then pure (some c.2)
   else if c.2 > 1 then do
    let x <- ltAt' lo (lo+c.2 - 1)
    match x with
    | some up=>if up=true then pure (some c.2) else do
      lz lo (lo+c.2)
      part lo c.2 nr
    | _=>pure none
   else part lo c.2 nr):=by
 have a:∀ n,(do
   lz lo (lo+n)
   let c <- rise lo n nr
   match c.1 with
   | some r=>pure r
   | none=>pure (some c.2))=fin3 lo n nr:=λn=>rfl
 rw[countRun'_eq];refine bd2 rfl λc=>?_;obtain⟨r,n⟩:=c;have b:∀ n,part lo n nr=part lo n nr:=λn=>rfl;cases r with
 | some r=>rfl
 | none=>
  dsimp only
  split
  ·rfl
  ·split
   ·refine bind_congr λx=>?_;cases x with
    | none=>rfl
    | some up=>
     dsimp only
     split
     ·rfl
     ·refine bind_congr λ_=>bind_congr λ_=>bd2 rfl λc=>?_;obtain⟨r,n,q⟩:=c;cases r with
      | some r=>rfl
      | none=>
       dsimp only
       split
       ·refine bind_congr λ_=>bind_congr λ_=>bd2 rfl λc=>?_;obtain⟨r,n⟩:=c;cases r<;>rfl
       ·refine bind_congr λ_=>bd2 rfl λc=>?_;obtain⟨r,n⟩:=c;cases r<;>rfl
   ·refine bind_congr λ_=>bd2 rfl λc=>?_;obtain⟨r,n,q⟩:=c;cases r with
    | some r=>rfl
    | none=>
     dsimp only
     split
     ·refine bind_congr λ_=>bind_congr λ_=>bd2 rfl λc=>?_;obtain⟨r,n⟩:=c;cases r<;>rfl
     ·refine bind_congr λ_=>bd2 rfl λc=>?_;obtain⟨r,n⟩:=c;cases r<;>rfl
section
variable {M:Model}{A:Around}{E:Value->Shared->Prop}{s:Shared}{κ:KF}{k0:ko}{a₀:Array Keyed}{st:SortSt}{lo nr:Nat}
theorem b3u {α:Type}{f:Unit->SM α}{Q:α->SortSt->Prop}(h:wpS M A E s (f ()) Q (setArr st (mirror (arrOf st) i j ((j - i) / 2)))):wpS M A E s (lz i j >>= f) Q st:=jT (kt h)
theorem SR.one:SR κ xs lo 1:=by grind [SR]
theorem SR.snoc (h:SR κ xs lo n) (h1:1≤n) (c:Kk κ xs (lo+n - 1)≤Kk κ xs (lo+n)):SR κ xs lo (n+1):=λi j a b=>by
 by_cases hjn:j<n
 ·exact h i j a hjn
 ·have e:j=n:=by omega
  subst e
  by_cases e2:i=j
  ·rw[e2];exact fb _
  ·refine eP (h i (j - 1) (by omega) (by omega)) ?_;rw[show lo+(j - 1)=lo+j - 1 by omega];exact c
theorem NR.snoc (h:NR κ xs lo n) (h1:1≤n) (c:Kk κ xs (lo+n)≤Kk κ xs (lo+n - 1)):NR κ xs lo (n+1):=λi j a b=>by
 by_cases hjn:j<n
 ·exact h i j a hjn
 ·have e:j=n:=by omega
  subst e
  by_cases e2:i=j
  ·simp_all
  ·refine eP ?_ (h i (j - 1) (by omega) (by omega));rw[show lo+(j - 1)=lo+j - 1 by omega];exact c
theorem NR.congr (h:NR κ xs lo n) (e:∀ k,Kk κ ys k=Kk κ xs k):NR κ ys lo n:=λi j b a=>by rw[e,e];exact h i j b a
theorem b4s (L:LtOk M A E s κ k0 a₀) (B:TB k0 a₀ st) (hn:lo+nr≤a₀.size) (hp:1≤p) (hpn:p≤nr) (hs:SR κ (arrOf st) lo p)
  (h:∀ n,p≤n->n≤nr->SR κ (arrOf st) lo n->(n=nr\/Kk κ (arrOf st) (lo+n)<Kk κ (arrOf st) (lo+n - 1))->Q (none,n) st):wpS M A E s (rise lo p nr) Q st:=by
 refine kc (I:=λx c z=>z=st/\c=(none,x)/\SR κ _ lo x) ?step ?fin ⟨rfl,rfl,hs⟩
 case fin=>
  rintro c z ⟨rfl,rfl,a⟩;rw[show max p nr=nr by omega]at a ⊢;exact h nr hpn (dM _) a (.inl rfl)
 case step=>
  rintro x c z b d ⟨rfl,rfl,a⟩;refine jT (a7r L B (by omega) (by omega) ?_)
  by_cases q:Kk κ (arrOf z) (lo+x)<Kk κ (arrOf z) (lo+x - 1)
  ·simp only[q];exact jV (h x b (by omega) a (.inr q))
  ·simp only[q];exact jV ⟨rfl,rfl,a.snoc (by omega) (ip.mp q)⟩
theorem b4t (L:LtOk M A E s κ k0 a₀) (B:TB k0 a₀ st) (hn:lo+nr≤a₀.size) (h1:1≤n) (hnn:n≤nr) (hs:NR κ (arrOf st) lo n)
  (h:∀ m z,Ar st z lo->1≤m->m≤nr->SR κ (arrOf z) lo m->Q (some m) z):wpS M A E s (fin3 lo n nr) Q st:=by
 have a:lo+n≤(arrOf st).size:=by rw[B.sz];omega
 refine b3u ?_;have b:Ar st _ lo:=Ar.mir a (dM _);refine jT (b4s L (b.tb B) hn h1 hnn ?_ λm g d c _=>jV (h m _ b (by omega) d c));intro i j e f;rw[b1N a,b1N a,if_pos (by omega),if_pos (by omega),show lo+_ - 1 - _=lo+(n - 1 - i) by omega,show lo+_ - 1 - _=lo+(n - 1 - j) by omega];exact hs _ _ (by omega) (by omega)
theorem b76 (L:LtOk M A E s κ k0 a₀) (B:TB k0 a₀ st) (hn:lo+nr≤a₀.size) (h1:1≤n) (hnn:n≤nr) (hs:NR κ (arrOf st) lo n)
  (h:∀ m e z,Ar st z lo->n≤m->m≤nr->NR κ (arrOf z) lo m->e+1≤m->(∀ i,lo+m - (e+1)≤i->i<lo+m->Kk κ (arrOf z) i=Kk κ (arrOf z) (lo+m - 1))->Q (none,m,e) z):wpS M A E s (fall lo n nr) Q st:=by
 unfold fall;refine kc (I:=λx c z=>∃ e,c=(none,x,e)/\Ar st z lo/\NR κ (arrOf z) lo x/\e+1≤x/\(∀ i,lo+x - (e+1)≤i->i<lo+x->Kk κ (arrOf z) i=Kk κ (arrOf z) (lo+x - 1))) ?step ?fin ⟨0,rfl,Ar.refl _ _,hs,by omega,λi l a=>by congr 1;omega⟩
 case fin=>
  rintro c z ⟨e,rfl,b,a,f,d⟩;rw[show max n nr=nr by omega]at a f d ⊢;exact h nr e z b hnn (dM _) a f d
 case step=>
  rintro x c z p r ⟨e,rfl,b,a,f,d⟩;dsimp only;have k:=b.tb B;have j:lo+x≤(arrOf z).size:=by rw[k.sz];omega
  refine jT (a7r L k (by omega) (by omega) ?_)
  by_cases q:Kk κ (arrOf z) (lo+x)<Kk κ (arrOf z) (lo+x - 1)
  ·simp only[q,decide_true,if_true];have o:=a.snoc (by omega) (fk q)
   by_cases g:e > 0
   ·rw[if_pos g];exact b3u (jV ⟨0,rfl,b.trans (Ar.mir j (by omega)),o.congr (a5j j d),by omega,λi l a=>by congr 1;omega⟩)
   ·rw[if_neg g];exact jV ⟨0,rfl,b,o,by omega,λi l a=>by congr 1;omega⟩
  ·simp only[q,decide_false,if_false];refine jT (a7r L k (by omega) (by omega) ?_)
   by_cases q2:Kk κ (arrOf z) (lo+x - 1)<Kk κ (arrOf z) (lo+x)
   ·simp only[q2,decide_true,if_true];exact jV (h x e z b p (by omega) a f d)
   ·simp only[q2,decide_false,if_false];have g:Kk κ (arrOf z) (lo+x)=Kk κ (arrOf z) (lo+x - 1):=by omega
    refine jV ⟨e+1,rfl,b,a.snoc (by omega) (by omega),by omega,λi l a=>?_⟩;rw[show lo+(x+1) - 1=lo+x by omega]
    by_cases hix:i=lo+x
    ·rw[hix]
    ·grind
theorem b4u (L:LtOk M A E s κ k0 a₀) (B:TB k0 a₀ st) (hn:lo+nr≤a₀.size) (hnn:n+1≤nr) (hs:NR κ (arrOf st) lo (n+1))
  (h:∀ m z,Ar st z lo->1≤m->m≤nr->SR κ (arrOf z) lo m->Q (some m) z):wpS M A E s (part lo n nr) Q st:=by
 refine a53 ?_;refine jT (b76 L B hn (by simp) hnn hs λm e z c l i g o j=>?_);dsimp only;have f:=c.tb B;have a:lo+m≤(arrOf z).size:=by rw[f.sz];omega
 by_cases he:e > 0
 ·rw[if_pos he];have d:Ar st (setArr z (mirror (arrOf z) (lo+m - (e+1)) _ _)) lo:=c.trans (Ar.mir a (by omega));exact b3u (b4t L (d.tb B) hn (by omega) i (g.congr (a5j a j)) λk w b=>h k w (d.trans b))
 ·rw[if_neg he];exact b4t L f hn (by omega) i g λk w b=>h k w (c.trans b)
theorem b5u (L:LtOk M A E s κ k0 a₀) (B:TB k0 a₀ st) (hn:lo+nr≤a₀.size) (h1:1≤nr)
  (h:∀ m z,Ar st z lo->1≤m->m≤nr->SR κ (arrOf z) lo m->Q (some m) z):wpS M A E s (countRun' lo nr) Q st:=by
 rw[a6D];refine jT (b4s L B hn (dM 1) h1 SR.one λn e l b t=>?_);dsimp only
 by_cases hnn:n=nr
 ·rw[if_pos (by simpa using hnn)];exact jV (h n st (Ar.refl _ _) e l b)
 ·rw[if_neg (by simpa using hnn)];have d:=t.resolve_left hnn;have c:lo+n≤(arrOf st).size:=by rw[B.sz];omega
  by_cases hgt:n > 1
  ·rw[if_pos hgt];refine jT (a7r L B (by omega) (by omega) ?_)
   by_cases q:Kk κ (arrOf st) lo<Kk κ (arrOf st) (lo+n - 1)
   ·simp only[q,decide_true,if_true];exact jV (h n st (Ar.refl _ _) e l b)
   ·simp only[q,if_false];have a:∀ k,lo≤k->k<lo+n->Kk κ (arrOf st) k=Kk κ (arrOf st) (lo+n - 1):=λk y x=>by
     have g:=b 0 (k - lo) (by omega) (by omega);have f:=b (k - lo) (n - 1) (by omega) (by omega);rw[show lo+(k - lo)=k by omega]at g f;rw[show lo+(n - 1)=lo+n - 1 by omega]at f;rw[iJ]at g;omega
    have o:Ar st _ lo:=Ar.mir c (dM _);have u:NR κ (arrOf st) lo (n+1):=by
     refine NR.snoc (λi j p r=>?_) (by omega) (fk d);rw[a (lo+i) (by omega) (by omega),a (lo+j) (by omega) (by omega)];exact fb _
    exact b3u (b4u L (o.tb B) hn (by omega) (u.congr (a5j c a)) λk w v=>h k w (o.trans v))
  ·rw[if_neg hgt]
   have:n=1:=by omega
   subst this;refine b4u L B hn (by omega) ?_ h;refine NR.snoc (λi j p r=>?_) (by omega) (fk d)
   have:i=j:=by omega
   rw[this];exact fb _
end
end Tim
namespace Tim
open PySem PyProof.Rows
theorem a8s (i:Nat):mQ i=(do
 let z <- get
 let (some (p,n,w),some (q,m,_)):=((j0 z)[i]?,(j0 z)[i+1]?) | me "internal:list.sort.pending"
 set (lR z (((j0 z).setIfInBounds i (p,n+m,w)).eraseIdxIfInBounds (i+1)))
 let some k <- a2c false (<- elem' (arrOf z) q) (arrOf z) p n 0 | return false
 let (p,n):=(p+k,n - k)
 if n==0 then return true
 let some m <- a2c true (<- elem' (arrOf z) (p+n - 1)) (arrOf z) q m (m - 1) | return false
 if m==0 then return true
 let x:=(arrOf z).extract p q
 let y:=(arrOf z).extract q (q+m)
 let mg <- if n≤m then a4U x y else a6C x y
 modify λz=>setArr z (mg.toList.zipIdx.foldl (λa (v,j)=>a.setIfInBounds (p+j) v) (arrOf z))
 return (kh (<- get)).isNone):=rfl
theorem a9g (bs:Nat):∀ (l:List Keyed) (k:Nat) (xs:Array Keyed),bs+k+l.length≤xs.size ->
  ((l.zipIdx k).foldl (λa (pj:Keyed×Nat)=>a.setIfInBounds (bs+pj.2) pj.1) xs).toList=xs.toList.take (bs+k)++(l++xs.toList.drop (bs+k+l.length))
 | [],k,xs,_=>by simp
 | x::l,k,xs,h=>by
  rw[ej]at h;rw[List.zipIdx_cons,List.foldl_cons,a9g bs l _ _ (by grind)];have e:(xs.setIfInBounds (bs+k) x).toList=xs.toList.set (bs+k) x:=by simp
  rw[e,show bs+_=bs+k+1 by omega,List.drop_set_of_lt (by omega),ej,show bs+k+1+l.length=bs+k+(l.length+1) by omega]
  have:(xs.toList.set (bs+k) x).take (bs+k+1)=xs.toList.take (bs+k)++[x]:=by
   rw[fA,List.take_set_of_le (dM _),gZ (by grind)]
   rfl
  rw[this];simp
section
variable {M:Model}{A:Around}{E:Value->Shared->Prop}{s:Shared}{κ:KF}{k0:ko}{a₀:Array Keyed}{st:SortSt}
theorem c0h (h:Q ⟨⟩ z):wpS M A E s (set z:SM PUnit) Q st:=jR ⟨rfl,h⟩
theorem b4v (e:xs.toList=P++(X++R)) (hi:i<X.length):Kk κ xs (P.length+i)=κ X[i]:=by
 refine a5i ?_;rw[e,fW (by simp),fX (by omega),show P.length+i - P.length=i by omega];exact en hi
theorem a3L (h:Srt κ X) (hij:i≤j) (hj:j<X.length):κ (X[i]'(by omega))≤κ X[j]:=by
 by_cases e:i=j
 ·subst e;exact fb _
 ·exact gJ.mp h i j (by omega) hj (by omega)
theorem a9h {X:List Keyed}(h:x∈X):∃ i,∃ (hi:i<X.length),X[i]=x:=jg.mp h
theorem a7u {X:List Keyed}(h:x∈X.take k):∃ i,∃ (hi:i<X.length),i<k/\X[i]=x:=by
 obtain⟨q,a,d⟩:=a3t h;obtain⟨b,c⟩:=dX.mp d;exact⟨q,b,a,c⟩
theorem a9i {X:List Keyed}(h:x∈X.drop k):∃ i,∃ (hi:i<X.length),k≤i/\X[i]=x:=by
 obtain⟨q,b,e,d⟩:=a3s h;obtain⟨c,a⟩:=dX.mp d;exact⟨q,c,b,a⟩
theorem b1O (L:LtOk M A E s κ k0 a₀) (B:TB k0 a₀ st) (e1:(j0 st)[i]?=some (sa,na,pw)) (e2:(j0 st)[i+1]?=some (sb,nb,pw2))
  (ea:(arrOf st).toList=P++(X++(Y++S))) (hP:P.length=sa) (hX:X.length=na) (hsb:sb=sa+na) (hY:Y.length=nb) (sX:Srt κ X) (sY:Srt κ Y) (h1:0<na) (h2:0<nb)
  (h:∀ st' Z,TB k0 a₀ st'->(arrOf st').toList=P++(Z++S)->Z.length=na+nb->Srt κ Z->j0 st'=((j0 st).setIfInBounds i (sa,na+nb,pw)).eraseIdxIfInBounds (i+1)->Q true st'):wpS M A E s (mQ i) Q st:=by
 have hsz:(arrOf st).size=sa+na+nb+S.length:=by
  rw[<- a1E,ea];simp;omega
 have hmem:∀ p∈(arrOf st).toList,p∈a₀.toList:=λp hp=>(ig.mp B.pm).mem_iff.mp hp;have eb:(arrOf st).toList=(P++X)++(Y++S):=by rw[ea,eD]
 have kX:∀ i,(hi:i<X.length)->Kk κ (arrOf st) (sa+i)=κ X[i]:=λi hi=>by rw[<- hP];exact b4v ea hi
 have kY:∀ i,(hi:i<Y.length)->Kk κ (arrOf st) (sb+i)=κ Y[i]:=λi hi=>by
  rw[hsb,<- hP,<- hX,<- dO];exact b4v eb hi
 rw[a8s];refine jT (kr ?_);rw[e1,e2];dsimp only;refine jT (c0h ?_);have B1:TB k0 a₀ (lR st (((j0 st).setIfInBounds i (sa,na+nb,pw)).eraseIdxIfInBounds (i+1))):=⟨B.pm,B.kd,B.fl⟩;have hs1:arrOf (lR st (((j0 st).setIfInBounds i (sa,na+nb,pw)).eraseIdxIfInBounds (i+1)))=arrOf st:=rfl;have hp1:j0 (lR st (((j0 st).setIfInBounds i (sa,na+nb,pw)).eraseIdxIfInBounds (i+1)))=((j0 st).setIfInBounds i (sa,na+nb,pw)).eraseIdxIfInBounds (i+1):=rfl;generalize lR st (((j0 st).setIfInBounds i (sa,na+nb,pw)).eraseIdxIfInBounds (i+1))=st1 at B1 hs1 hp1;have hy0:sb<(arrOf st).size:=by omega
 have ey:(arrOf st)[sb]?=some (arrOf st)[sb]:=getElem?_pos ..;have hky:κ (arrOf st)[sb]=κ Y[0]:=by
  have:=kY 0 (by omega)
  rw[iJ,a8o ey]at this;exact this
 have hmy:(arrOf st)[sb]∈a₀.toList:=hmem _ (by simp);refine jT (a02 ey (jT ?_));refine a3c L B1.kd hmy hmem (by omega) (by omega) (λp q hp hq=>by rw[kX p (by omega),kX q (by omega)];exact a3L sX hp (by omega)) λk hkn hlt hge=>?_;dsimp only;have lo:∀ q,(hq:q<X.length)->q<k->κ X[q]≤κ Y[0]:=λq hq hqk=>by
  have:=hlt q hqk
  rw[kX q hq,hky]at this;simpa[bq]using this
 have up:∀ q,(hq:q<X.length)->k≤q->κ Y[0]<κ X[q]:=λq hq hqk=>by
  have:=hge q hqk (by omega)
  rw[kX q hq,hky]at this;simpa[bq]using this
 have whole:(∀ x∈X,∀ y∈Y,κ x≤κ y)->Q true st1:=λhxy=>by
  refine h st1 (X++Y) B1 (by rw[hs1,ea,eD]) (by rw[dO,hX,hY]) ?_ hp1;exact eG.mpr ⟨sX,sY,hxy⟩
 by_cases c1:na - k=0
 ·rw[if_pos (by simpa using c1)];refine jV (whole λx hx y hy=>?_);obtain⟨q,hq,rfl⟩:=a9h hx;obtain⟨r,hr,rfl⟩:=a9h hy;exact eP (lo q hq (by omega)) (a3L sY (eI _) hr)
 rw[if_neg (by simpa using c1)];have hl:sa+k+(na - k) - 1<(arrOf st).size:=by omega
 have ex:(arrOf st)[sa+k+(na - k) - 1]?=some (arrOf st)[sa+k+(na - k) - 1]:=getElem?_pos ..;have hkx:κ (arrOf st)[sa+k+(na - k) - 1]=κ X[na - 1]:=by
  have:=kX (na - 1) (by omega)
  rw[show sa+(na - 1)=sa+k+(na - k) - 1 by omega,a8o ex]at this;exact this
 have hmx:(arrOf st)[sa+k+(na - k) - 1]∈a₀.toList:=hmem _ (by simp);refine jT (a02 ex (jT ?_));refine a3c L B1.kd hmx hmem (by omega) (by omega) (λp q hp hq=>by rw[kY p (by omega),kY q (by omega)];exact a3L sY hp (by omega)) λm hmn hlt2 hge2=>?_;dsimp only;have lo2:∀ q,(hq:q<Y.length)->q<m->κ Y[q]<κ X[na - 1]:=λq hq hqk=>by
  have:=hlt2 q hqk
  rw[kY q hq,hkx]at this;simpa[bq]using this
 have up2:∀ q,(hq:q<Y.length)->m≤q->κ X[na - 1]≤κ Y[q]:=λq hq hqk=>by
  have:=hge2 q hqk (by omega)
  rw[kY q hq,hkx]at this;simpa[bq]using this
 by_cases c2:m=0
 ·rw[if_pos (by simpa using c2)];refine jV (whole λx hx y hy=>?_);obtain⟨q,hq,rfl⟩:=a9h hx;obtain⟨r,hr,rfl⟩:=a9h hy;exact eP (a3L sX (by omega) (by omega)) (up2 r hr (by omega))
 rw[if_neg (by simpa using c2)];have lx:((arrOf st).extract (sa+k) sb).toList=X.drop k:=by
  rw[jh,io,ea,iK,<- hP,ik (by omega),gM,show P.length+k - P.length=k by omega,ji (by omega),iu (by rw[eU];omega),fv (by rw[eU];omega)]
 have ly:((arrOf st).extract sb (sb+m)).toList=Y.take m:=by
  rw[jh,io,eb,iK,ik (by rw[dO];omega),gM,show sb - (P++X).length=0 by rw[dO];omega,List.drop_zero,iu (by omega),show sb+m - sb=m by omega]
 have C:MC M A E s κ k0 a₀ ((arrOf st).extract (sa+k) sb) ((arrOf st).extract sb (sb+m)):=by
  refine⟨L,λp hp=>?_,λp hp=>?_,?_,?_,?_,?_,λy hy=>?_,λz hz y hy=>?_⟩
  ·rw[lx]at hp;exact hmem p (by rw[ea];simp[im hp])
  ·rw[ly]at hp;exact hmem p (by rw[ea];simp[fc hp])
  ·rw[lx];exact a1M sX k
  ·rw[ly];exact a2z sY m
  ·rw[<- a1E,lx,eU];omega
  ·rw[<- a1E,ly,dY];omega
  ·rw[lx]at hy;obtain⟨q,hq,hk,rfl⟩:=a9i hy;rw[a5i (z:=Y[0]) (by rw[ly,iq,if_pos (by omega)];exact en _)];exact fk (up q hq hk)
  ·rw[ly]at hy;rw[lx,eU,gI,show k+(X.length - k - 1)=na - 1 by omega,en (show na - 1<X.length by omega)]at hz;cases hz;obtain⟨q,hq,hk,rfl⟩:=a7u hy;exact fk (lo2 q hq hk)
 have fin:∀ (r:Array Keyed) (st2:SortSt),SG st1 st2->Mgd κ ((arrOf st).extract (sa+k) sb).toList ((arrOf st).extract sb (sb+m)).toList r.toList ->
   wpS M A E s (do
    modify λz=>setArr z (r.toList.zipIdx.foldl (λa (pj:Keyed×Nat)=>a.setIfInBounds (sa+k+pj.2) pj.1) (arrOf z))
    return (kh (<- get)).isNone) Q st2:=by
  intro r st2 g2 mg;rw[lx,ly]at mg;have hrl:r.toList.length=na - k+m:=by rw[mg.1.length_eq,dO,eU,dY];omega
  refine jT (kt (jT (kr (jV ?_))));have ha2:arrOf st2=arrOf st:=g2.ar.trans hs1;have ef:=a9g (sa+k) r.toList 0 (arrOf st2) (by rw[ha2];omega);have el:(r.toList.zipIdx.foldl (λa (pj:Keyed×Nat)=>a.setIfInBounds (sa+k+pj.2) pj.1) (arrOf st2)).toList=P++((X.take k++r.toList++Y.drop m)++S):=by
   rw[ef,ha2,iJ,hrl];have t1:(arrOf st).toList.take (sa+k)=P++X.take k:=by
    rw[ea,List.take_append,fv (by omega),<- hP,show P.length+k - P.length=k by omega,iu (by omega)]
   have t2:(arrOf st).toList.drop (sa+k+(na - k+m))=Y.drop m++S:=by
    rw[eb,iK,ik (by rw[dO];omega),gM,show sa+k+(na - k+m) - (P++X).length=m by rw[dO];omega,ji (by omega)]
   rw[t1,t2];simp
  generalize hgz:r.toList.zipIdx.foldl (λa (pj:Keyed×Nat)=>a.setIfInBounds (sa+k+pj.2) pj.1) (arrOf st2)=ar at el;have hperm:(X.take k++r.toList++Y.drop m).Perm (X++Y):=by
   have:(X.take k++r.toList++Y.drop m).Perm (X.take k++(X.drop k++Y.take m)++Y.drop m):=(eH.append_left _ mg.1).append_right _
   refine this.trans ?_;have e:X.take k++(X.drop k++Y.take m)++Y.drop m=X++Y:=by
    rw[<- eD,gj,eD,gj]
   rw[e]
  have pm:ar.Perm (arrOf st):=by
   rw[ig,el,ea];refine eH.append_left _ ?_;rw[<- eD (as:=X)];exact hperm.append_right _
  have hfl:kh (setArr st2 ar)=none:=g2.fl.trans B1.fl;have B2:TB k0 a₀ (setArr st2 ar):=⟨pm.trans B.pm,g2.kd.trans B1.kd,hfl⟩;rw[hfl];refine h _ _ B2 el (by rw[hperm.length_eq,dO,hX,hY]) ?_ (g2.pe.trans hp1);have hr:∀ w∈r.toList,w∈X.drop k\/w∈Y.take m:=λw hw=>dN.mp (mg.1.mem_iff.mp hw);refine eG.mpr ⟨eG.mpr ⟨a2z sX k,mg.2,λx hx w hw=>?_⟩,a1M sY m,λx hx y hy=>?_⟩
  ·obtain⟨q,hq,hk,rfl⟩:=a7u hx;rcases hr w hw with hw | hw
   ·obtain⟨p,hp,hk2,rfl⟩:=a9i hw;exact a3L sX (by omega) hp
   ·obtain⟨p,hp,hk2,rfl⟩:=a7u hw;exact eP (lo q hq hk) (a3L sY (eI _) hp)
  ·obtain⟨p,hp,hk2,rfl⟩:=a9i hy;rcases dN.mp hx with hx | hx
   ·obtain⟨q,hq,hk,rfl⟩:=a7u hx;exact eP (lo q hq hk) (a3L sY (eI _) hp)
   ·rcases hr x hx with hx | hx
    ·obtain⟨q,hq,hk,rfl⟩:=a9i hx;exact eP (a3L sX (by omega) (by omega)) (up2 p hp hk2)
    ·obtain⟨q,hq,hk,rfl⟩:=a7u hx;exact a3L sY (by omega) hp
 split
 ·exact jT (b1L C B1.kd λr st2 g2 mg=>fin r st2 g2 mg)
 ·exact jT (b1M C B1.kd λr st2 g2 mg=>fin r st2 g2 mg)
end
end Tim
namespace Tim
open PySem PyProof.Rows
noncomputable def pr (p:Nat×Nat×Nat):Nat×Nat:=(p.1,p.2.1)
noncomputable def offs:Nat->List (List Keyed)->List (Nat×Nat)
 | _,[]=>[]
 | o,R::Rs=>(o,R.length)::offs (o+R.length) Rs
theorem a2A:∀ (o:Nat) (U V:List (List Keyed)),offs o (U++V)=offs o U++offs (o+U.flatten.length) V
 | o,[],V=>by simp[offs]
 | o,R::U,V=>by
  rw[gN,offs,offs,a2A,gN,jj,dO,jk]
theorem a1Q:∀ (o:Nat) (U:List (List Keyed)),(offs o U).length=U.length
 | _,[]=>rfl
 | o,R::U=>by rw[offs,ej,ej,a1Q]
theorem a7v {α:Type}{q p1 p2:α}{pv:List α}:∀ pu:List α,((pu++p1::p2::pv).set pu.length q).eraseIdx (pu.length+1)=pu++q::pv
 | []=>rfl
 | x::pu=>by rw[gN,ej,List.set_cons_succ,iM,a7v pu,gN]
theorem a7w {α β:Type}{f:α->β}:∀ (l:List α) (k:Nat),(l.map f).eraseIdx k=(l.eraseIdx k).map f
 | [],_=>by simp
 | x::l,0=>by simp
 | x::l,k+1=>by rw[eu,iM,iM,eu,a7w l k]
theorem a9j:∀ {Rs:List (List Keyed)},(∀ R∈Rs,R≠[])->Rs.length≤Rs.flatten.length
 | [],_=>by simp
 | R::Rs,h=>by
  have:=a9j λR a=>h R (.tail _ a)
  have b:=fR.mpr (h R (.head _));rw[jj,dO,ej];omega
def Runs (κ:KF) (st:SortSt) (lo:Nat) (rest:List Keyed):Prop:=∃ Rs:List (List Keyed),(arrOf st).toList=Rs.flatten++rest/\(∀ R∈Rs,Srt κ R/\R≠[])/\Rs.flatten.length=lo/\(j0 st).toList.map pr=offs 0 Rs
section
variable {M:Model}{A:Around}{E:Value->Shared->Prop}{s:Shared}{κ:KF}{k0:ko}{a₀:Array Keyed}{st:SortSt}
theorem a3u {i lo:Nat}(L:LtOk M A E s κ k0 a₀) (B:TB k0 a₀ st) (R:Runs κ st lo rest) (hi:i+1<(j0 st).size)
  (h:∀ st',TB k0 a₀ st'->Runs κ st' lo rest->(j0 st').size+1=(j0 st).size->Q true st'):wpS M A E s (mQ i) Q st:=by
 obtain⟨Rs,t,f,r,b⟩:=R;have m:(j0 st).size=Rs.length:=by
  have:=congrArg eF b
  rw[dJ,a1Q]at this;simpa using this
 obtain⟨U,X,Y,V,rfl,D⟩:∃ U X Y V,Rs=U++X::Y::V/\U.length=i:=by
  refine⟨Rs.take i,Rs[i]'(by omega),Rs[i+1]'(by omega),Rs.drop (i+2),?_,by rw[dY];omega⟩;rw[<- ii,<- ii,gj]
 have n:=f X (by simp);have q:=f Y (by simp);rw[a2A]at b;simp only[offs,ir]at b;have k:∀ (j:Nat) (x:Nat×Nat),(offs 0 U++_::_::offs _ V)[j]?=some x->∃ w,(j0 st)[j]?=some (x.1,x.2,w):=λj x d=>by
  rw[<- b,dQ]at d;rw[<- fm];cases e:(j0 st).toList[j]? with
  | none=>rw[e]at d;cases d
  | some p=>
   rw[e]at d;cases d;exact⟨p.2.2,rfl⟩
 have c:(offs 0 U).length=i:=by rw[a1Q,D]
 obtain⟨J,G⟩:=k i _ (by rw[fW (by omega),c,Nat.sub_self];rfl);obtain⟨I,y⟩:=k (i+1) (U.flatten.length+X.length,Y.length) (by simp_all);have C:(arrOf st).toList=U.flatten++(X++(Y++(V.flatten++rest))):=by rw[t];simp
 refine b1O L B G y C rfl rfl rfl rfl n.1 q.1 (fR.mpr n.2) (fR.mpr q.2) λl Z H F o v u=>?_;have g:(j0 l).toList.map pr=offs 0 (U++Z::V):=by
  rw[u,Array.toList_eraseIdxIfInBounds,Array.toList_setIfInBounds,<- a7w,List.map_set,b,<- c,a7v,a2A];simp only[offs,ir,pr];rw[o,jk]
 refine h l H ⟨U++Z::V,by rw[F];simp,λR a=>?_,?_,g⟩ ?_
 ·rcases dN.mp a with a | a
  ·exact f R (by simp[a])
  ·rcases dU.mp a with rfl | a
   ·exact⟨v,λz=>by rw[z]at o;have:=fR.mpr n.2;simp at o;omega⟩
   ·exact f R (by simp[a])
 ·rw[<- r];simp;omega
 ·grind
theorem Runs.ar {lo n:Nat}(R:Runs κ st lo rest) (q:Ar st st' lo) (hs:SR κ (arrOf st') lo n) (hn:lo+n≤(arrOf st').size) (h1:1≤n):∃ X rest',Srt κ X/\X.length=n/\Runs κ st' lo (X++rest'):=by
 obtain⟨Rs,g,f,c,e⟩:=R;have b:(arrOf st').toList.take lo=Rs.flatten:=by
  refine iN λi=>?_
  by_cases a:i<lo
  ·rw[iq,if_pos a,fm,q.pre i a,<- fm,g,fX (by omega)]
  ·grind
 refine⟨((arrOf st').toList.drop lo).take n,((arrOf st').toList.drop lo).drop n,?_,by rw[dY,eU,a1E];omega,Rs,?_,f,c,by rw[q.pe];exact e⟩
 ·refine gJ.mpr λi j a d k=>?_;rw[dY,eU,a1E]at a d
  have:=hs i j (by omega) (by omega)
  rw[a1w _,a1w _]at this;simpa using this
 ·rw[gj,<- b,gj]
theorem Runs.push {lo n:Nat}(R:Runs κ st lo (X++rest)) (sX:Srt κ X) (hX:X.length=n) (h1:1≤n) (ha:arrOf st'=arrOf st) (hp:(j0 st').toList.map pr=(j0 st).toList.map pr++[(lo,n)]):Runs κ st' (lo+n) rest:=by
 obtain⟨Rs,e,d,b,c⟩:=R;refine⟨Rs++[X],by rw[ha,e];simp,λR a=>?_,by simp[b,hX],?_⟩
 ·rcases dN.mp a with a | a
  ·exact d R a
  ·rw[dP.mp a];exact⟨sX,λz=>by rw[z]at hX;simp at hX;omega⟩
 ·rw[hp,c,a2A,ir,b];simp[offs,hX]
theorem a54 (L:LtOk M A E s κ k0 a₀) (B:TB k0 a₀ st) (hp:j0 st=#[])
  (h:∀ st',TB k0 a₀ st'->Srt κ (arrOf st').toList->Q () st'):wpS M A E s sortRuns' Q st:=by
 rw[sortRuns'_eq];refine jT (kr ?_);dsimp only;rw[B.sz];generalize minRun' a₀.size a₀.size 0=mr;refine jT (kg (kc (I:=λx c z=>∃ d e,c=(none,d)/\TB k0 a₀ z/\Runs κ z d e/\x≤d)
  (Q:=λc z=>∃ d e,c=(none,d)/\TB k0 a₀ z/\Runs κ z d e/\a₀.size≤d) ?step ?fin ⟨0,(arrOf st).toList,rfl,B,⟨[],by simp,λR h=>by simp at h,rfl,by rw[hp];rfl⟩,dM _⟩) ?post)
 case fin=>
  rintro c z ⟨d,e,rfl,t,u,hx⟩;exact⟨d,e,rfl,t,u,by omega⟩
 case step=>
  rintro x c z _ hx ⟨d,e,rfl,t,u,hxl⟩;dsimp only
  by_cases c1:d≥a₀.size
  ·rw[if_pos c1];exact jV ⟨d,e,rfl,t,u,c1⟩
  rw[if_neg c1];refine jT (b5u L t (by omega) (by omega) λm z2 Y m1 m2 m3=>?_);dsimp only
  by_cases c2:m<mr
  ·rw[if_pos c2];refine a53 ?_;refine jT (b3t L (Y.tb t) (by omega) (by omega) m3 λS C D=>?_);rw[if_neg (by decide)];have C:=Y.trans C;have v:1≤min (a₀.size - d) mr:=by omega
   have V:d+min (a₀.size - d) mr≤a₀.size:=by omega
   generalize min (a₀.size - d) mr=n at v V D ⊢;have r:=C.tb t;obtain⟨X,f,J,G,R3⟩:=u.ar C D (by rw[r.sz];omega) v;refine jT (kr ?_);cases hb:(j0 S).back? with
   | none=>
    dsimp only;refine jT (kt (jV ?_));exact⟨d+n,f,rfl,⟨r.pm,r.kd,r.fl⟩,R3.push J G v rfl (by show (((j0 S).push (d,n,0)).toList).map pr=_;rw[eR,dS];rfl),by omega⟩
   | some p=>
    obtain⟨w,o,w1⟩:=p;dsimp only;generalize power' a₀.size (2*w+o) (2*w+o+o+n) a₀.size=pw;refine jT (kg (kc (I:=λ_ c y=>c=(none,())/\TB k0 a₀ y/\Runs κ y d (X++f)) ?w (λ_ _ hh=>hh) ⟨rfl,r,R3⟩) ?p1)
    case w=>
     rintro x c y _ _ ⟨rfl,g,j⟩;refine jT (kr ?_)
     by_cases hgt:(j0 y).size > 1
     ·rw[if_pos hgt];have eo:(j0 y)[(j0 y).size - 2]?=some (j0 y)[(j0 y).size - 2]:=getElem?_pos ..;rw[eo];dsimp only
      split
      ·exact jV ⟨rfl,g,j⟩
      ·refine jT (a3u L g j (by omega) λy2 N H _=>?_);rw[if_neg (by decide)];exact jV ⟨rfl,N,H⟩
     ·rw[if_neg hgt];exact jV ⟨rfl,g,j⟩
    case p1=>
     rintro c y ⟨rfl,g,j⟩;dsimp only;refine jT (kt (jT (kt (jV ?_))));refine⟨d+n,f,rfl,⟨g.pm,g.kd,g.fl⟩,j.push J G v rfl ?_,by omega⟩;have em:∀ (q:Array (Nat×Nat×Nat)) (k:Nat),(q.modify k λ(a,b,_)=>(a,b,pw)).toList.map pr=q.toList.map pr:=λq k=>by
      refine iN λi=>?_;rw[dQ,dQ,fm,fm,jm]
      split
      ·cases q[i]? with
       | none=>rfl
       | some p=>rfl
      ·rfl
     rw[eR,dS,em]
     rfl
  ·rw[if_neg c2];have V:d+m≤a₀.size:=by omega
   have v:=m1;have D:=m3;have C:=Y;generalize m=n at v V D ⊢;generalize z2=S at C D ⊢;have r:=C.tb t;obtain⟨X,f,J,G,R3⟩:=u.ar C D (by rw[r.sz];omega) v;refine jT (kr ?_);cases hb:(j0 S).back? with
   | none=>
    dsimp only;refine jT (kt (jV ?_));exact⟨d+n,f,rfl,⟨r.pm,r.kd,r.fl⟩,R3.push J G v rfl (by show (((j0 S).push (d,n,0)).toList).map pr=_;rw[eR,dS];rfl),by omega⟩
   | some p=>
    obtain⟨w,o,w1⟩:=p;dsimp only;generalize power' a₀.size (2*w+o) (2*w+o+o+n) a₀.size=pw;refine jT (kg (kc (I:=λ_ c y=>c=(none,())/\TB k0 a₀ y/\Runs κ y d (X++f)) ?w (λ_ _ hh=>hh) ⟨rfl,r,R3⟩) ?p1)
    case w=>
     rintro x c y _ _ ⟨rfl,g,j⟩;refine jT (kr ?_)
     by_cases hgt:(j0 y).size > 1
     ·rw[if_pos hgt];have eo:(j0 y)[(j0 y).size - 2]?=some (j0 y)[(j0 y).size - 2]:=getElem?_pos ..;rw[eo];dsimp only
      split
      ·exact jV ⟨rfl,g,j⟩
      ·refine jT (a3u L g j (by omega) λy2 N H _=>?_);rw[if_neg (by decide)];exact jV ⟨rfl,N,H⟩
     ·rw[if_neg hgt];exact jV ⟨rfl,g,j⟩
    case p1=>
     rintro c y ⟨rfl,g,j⟩;dsimp only;refine jT (kt (jT (kt (jV ?_))));refine⟨d+n,f,rfl,⟨g.pm,g.kd,g.fl⟩,j.push J G v rfl ?_,by omega⟩;have em:∀ (q:Array (Nat×Nat×Nat)) (k:Nat),(q.modify k λ(a,b,_)=>(a,b,pw)).toList.map pr=q.toList.map pr:=λq k=>by
      refine iN λi=>?_;rw[dQ,dQ,fm,fm,jm]
      split
      ·cases q[i]? with
       | none=>rfl
       | some p=>rfl
      ·rfl
     rw[eR,dS,em]
     rfl
 case post=>
  rintro c z ⟨d,e,rfl,t,u,hlo⟩;dsimp only;have hsz:∀ y,Runs κ y d e->(j0 y).size≤d:=λy ⟨Rs,T,F,e3,U⟩=>by
   have l:=congrArg eF U;rw[dJ,a1Q]at l;have h2:=a9j λR hR=>(F R hR).2;simp at l;omega
  have W:d=a₀.size:=by
   obtain⟨Rs,T,F,e3,U⟩:=u
   have:=congrArg eF T
   rw[a1E,t.sz,dO]at this;omega
  subst W;refine jT (kg (kc (I:=λx c y=>c=(none,())/\TB k0 a₀ y/\Runs κ y a₀.size e/\((j0 y).size≤1\/(j0 y).size+x≤a₀.size)) (Q:=λc y=>c=(none,())/\TB k0 a₀ y/\Runs κ y a₀.size e/\(j0 y).size≤1) ?s2 ?f2 ⟨rfl,t,u,.inr (hsz z u)⟩) ?p2)
  case f2=>
   rintro c y ⟨rfl,g,j,hc⟩;exact⟨rfl,g,j,by omega⟩
  case s2=>
   rintro x c y _ hx ⟨rfl,g,j,hc⟩;refine jT (kr ?_)
   by_cases l:(j0 y).size≤1
   ·rw[if_pos l];exact jV ⟨rfl,g,j,l⟩
   ·rw[if_neg l];refine jT (a3u L g j ?_ λy2 N H hy2=>?_)
    ·repeat' split
     all_goals omega
    ·rw[if_neg (by decide)];exact jV ⟨rfl,N,H,.inr (by omega)⟩
  case p2=>
   rintro c y ⟨rfl,g,j,hc⟩;obtain⟨Rs,T,F,e3,U⟩:=j;have l:=congrArg eF U;rw[dJ,a1Q]at l;have h2:=congrArg eF T;rw[a1E,g.sz,dO,e3]at h2;have hr:e=[]:=fP.mp (by omega);refine jV (h y g ?_);rw[T,hr,eO]
   match Rs,F,l with
   | [],_,_=>exact .nil
   | [R],F,_=>simpa using (F R (by simp)).1
   | _::_::_,_,l=>simp at l;omega
end
end Tim
namespace Tim
open PySem PyProof.Rows
abbrev kN:KF:=λp=>numOf p.1
theorem b77 (xs:Array Keyed) (i:Nat):K xs i=Kk kN xs i:=rfl
theorem b78 (h:Srt kN xs.toList) (hn:n=xs.size):SortedTo xs n:=λi j a b=>by
 rw[b77,b77]
 have:=a3J (i:=0) h (n:=xs.size) (by simp) i j a (by omega)
 simpa using this
section
variable {prog:jY}{w:World}{A:Around}{E:Value->Shared->Prop}{s:Shared}{a₀:Array Keyed}
theorem b5v (h0:IntKeys a₀):LtOk (model prog w) A E s kN oneType' a₀:=λx y c d g Q e h=>by
 obtain⟨n,t,b⟩:=h0 x c;obtain⟨m,u,a⟩:=h0 y d;have f:Q (some (decide (n<m))) g:=by
  have:kN x<kN y↔n<m:=by show numOf x.1<numOf y.1↔n<m;rw[b,a];rfl
  rw[decide_eq_decide.mpr this]at h;exact h
 rw[lt'_eq];refine jT (kr ?_);rw[e,keyLt'_oneType,b,a];exact jT (mO (kP (oneLt_int ⟨rfl,jV f⟩)))
theorem sort_any (ho:s.heap.get? a=some (seqObj "list" vs.toArray n)) (hI:j8 vs ns) (hz:vs.length≤1000)
  (h:∀ (out:Array Value) (ms:List Int),j8 out.toList ms->ms.Perm ns->ms.Pairwise (·≤·)->P (.done (.ret .none)) { s with heap:=mf s.heap a vs out }):wpAny (model prog w) A (j1.«list.sort» ⟨[.ref a],[]⟩) P E s:=by
 have l:vs.length≤sizeLine:=by rw[kf];omega
 have o:vs.toArray.size≤sizeLine:=by simpa using l
 have t:=Heap.lt_size ho;rw[list_sort_plain];refine jQ (listItems_at ho rfl (jQ (lC ho rfl ?_ o (by simp))));obtain⟨u,x⟩:∃ u,(s.heap.update a (Obj.mapSeq λ_=>#[])).get? a=some (seqObj "list" #[] u):=⟨_,get?_update_seq ho λ_=>#[]⟩;refine jQ (lD x rfl (jQ (mR ?_ (by simpa using l))));refine jQ (mh (ke ?_));have k:(((s.heap.update a (Obj.mapSeq λ_=>#[])).push (seqObj "tuple" vs.toArray 0)).push (seqObj "list" #[] 0)).get? a=some (seqObj "list" #[] u):=by
  rw[Heap.get?_push_ne,Heap.get?_push_ne]
  ·exact x
  ·rw[Heap.size_update];exact ei t
  ·rw[size_push',Heap.size_update];exact ei (fM t)
 dsimp only;have g:∀ y:SortSt,(arrOf y).Perm (kx vs)->Srt kN (arrOf y).toList->P (.done (.ret .none)) { s with heap:=mf s.heap a vs ((arrOf y).map (·.2)) }:=λy p q=>by
  obtain⟨D,C,B,z⟩:=sorted_out hI p (b78 q p.size_eq.symm);exact h _ D C B z
 have i:∀ y:SortSt,(arrOf y).Perm (kx vs)->((arrOf y).map (·.2)).size≤jS+1:=λy p=>by
  rw[jo,p.size_eq,pairsOf_size];omega
 by_cases c:vs.toArray.size<2
 ·rw[if_pos c,if_pos c];refine jQ (jR ?_);rw[StateT.run_pure];refine jQ (jR ?_);dsimp only;have r:(arrOf (SortSt.mk' general' (vs.toArray.zip vs.toArray) #[] 7 none)).Perm (kx vs):=gK.refl _;refine jQ (lD k rfl (jQ (lC k rfl ?_ (by simp) (i _ r))));simp only[bne_self_eq_false,gi,if_false];refine jR (g _ r ?_)
  show Srt kN (kx vs).toList
  rw[mi]
  have:vs.length<2:=by simpa using c
  match vs,this with
  | [],_=>exact .nil
  | [v],_=>exact iF _ _
 ·rw[if_neg c,if_neg c];obtain⟨f,d,b,rfl⟩:∃ f d b,vs=f::d::b:=by
   have:¬ vs.length<2:=by simpa using c
   match vs,this with
   | [],q=>exact absurd (by simp) q
   | [_],q=>exact absurd (by simp) q
   | f::d::b,_=>exact⟨f,d,b,rfl⟩
  rw[keyKind_ints hI];refine jQ (jR (jQ (j7 (a54
   (Q:=λ_ y=>(arrOf y).Perm (kx (f::d::b))/\kh y=none/\Srt kN (arrOf y).toList) (b5v hI.intKeys) ⟨gK.refl _,rfl,rfl⟩ rfl λy j m=>⟨j.pm,j.fl,m⟩) ?_ λ_ _ e=>e)))
  rintro⟨⟨⟩,y⟩ s' ⟨rfl,j,m,q3⟩;dsimp only;refine jQ (lD k rfl (jQ (lC k rfl ?_ (by simp) (i y j))));rw[m];simp only[bne_self_eq_false,gi,if_false];exact jR (g y j q3)
end
end Tim
namespace Tim
open PySem PyProof.Rows
section
variable {prog:jY}{w:World}{A:Around}{E:Value->Shared->Prop}{s:Shared}{κ:KF}{k0:ko}
noncomputable def a3v (h:Heap) (a:Addr) (vs:List Value):Heap:=((h.update a (Obj.mapSeq λ_=>#[])).push (seqObj "tuple" vs.toArray 0)).push (seqObj "list" #[] 0)
theorem b79 (hb:b≠a) (e:h.get? b=some o):(a3v h a vs).get? b=some o:=by
 refine Heap.get?_push_of_some _ (Heap.get?_push_of_some _ ?_);rw[Heap.get?_update_ne _ _ _ _ hb];exact e
theorem b5w (ho:s.heap.get? a=some (seqObj "list" vs.toArray n)) (hz:vs.length≤100000)
  (hK:2≤vs.length->∀ Q:ko->Shared->Prop,Q k0 { s with heap:=a3v s.heap a vs }->wpAny (model prog w) A (keyKind' vs.toArray) Q E { s with heap:=a3v s.heap a vs })
  (hL:2≤vs.length->LtOk (model prog w) A E { s with heap:=a3v s.heap a vs } κ k0 (kx vs))
  (h:∀ ps:List Keyed,ps.Perm (kx vs).toList->Srt κ ps->P (.done (.ret .none)) { s with heap:=mf s.heap a vs (ps.map (·.2)).toArray }):wpAny (model prog w) A (j1.«list.sort» ⟨[.ref a],[]⟩) P E s:=by
 have i:vs.length≤sizeLine:=by rw[kf];omega
 have o:vs.toArray.size≤sizeLine:=by simpa using i
 have t:=Heap.lt_size ho;rw[list_sort_plain];refine jQ (listItems_at ho rfl (jQ (lC ho rfl ?_ o (by simp))));obtain⟨u,m⟩:∃ u,(s.heap.update a (Obj.mapSeq λ_=>#[])).get? a=some (seqObj "list" #[] u):=⟨_,get?_update_seq ho λ_=>#[]⟩;refine jQ (lD m rfl (jQ (mR ?_ (by simpa using i))));refine jQ (mh (ke ?_));have g:(((s.heap.update a (Obj.mapSeq λ_=>#[])).push (seqObj "tuple" vs.toArray 0)).push (seqObj "list" #[] 0)).get? a=some (seqObj "list" #[] u):=by
  rw[Heap.get?_push_ne,Heap.get?_push_ne]
  ·exact m
  ·rw[Heap.size_update];exact ei t
  ·rw[size_push',Heap.size_update];exact ei (fM t)
 dsimp only;have f:=λy p q=>by
  have:=h (arrOf y).toList (ig.mp p) q
  rw[<- Array.toList_map,Array.toArray_toList]at this;exact this
 have b:∀ y:SortSt,(arrOf y).Perm (kx vs)->((arrOf y).map (·.2)).size≤jS+1:=λy p=>by
  rw[jo,p.size_eq,pairsOf_size];omega
 by_cases c:vs.toArray.size<2
 ·rw[if_pos c,if_pos c];refine jQ (jR ?_);rw[StateT.run_pure];refine jQ (jR ?_);dsimp only;have x:(arrOf (SortSt.mk' general' _ #[] 7 none)).Perm (kx vs):=gK.refl _;refine jQ (lD g rfl (jQ (lC g rfl ?_ (by simp) (b _ x))));simp only[bne_self_eq_false,gi,if_false];refine jR (f _ x ?_)
  show Srt κ (kx vs).toList
  rw[mi]
  have:vs.length<2:=by simpa using c
  match vs,this with
  | [],_=>exact .nil
  | [v],_=>exact iF _ _
 ·rw[if_neg c,if_neg c];have r:2≤vs.length:=by simpa using c
  refine jQ (hK r _ ?_);refine jQ (j7 (a54
   (Q:=λ_ y=>(arrOf y).Perm (kx vs)/\kh y=none/\Srt κ (arrOf y).toList) (hL r) ⟨gK.refl _,rfl,rfl⟩ rfl λy d j=>⟨d.pm,d.fl,j⟩) ?_ λ_ _ e=>e)
  rintro⟨⟨⟩,y⟩ l ⟨rfl,d,j,q3⟩;dsimp only;refine jQ (lD g rfl (jQ (lC g rfl ?_ (by simp) (b y d))));rw[j];simp only[bne_self_eq_false,gi,if_false];exact jR (f y d q3)
end
end Tim
namespace Tim
open PySem PyProof.Rows PySem.W
abbrev Pz:=Sum (Option Int) Str
def PtIs:Pz->Value->Prop
 | .inl none,v=>v=.none
 | .inl (some i),v=>∃ t,v=.int i t
 | .inr s,v=>∃ t,v=.str s t
def PtsAre:List Pz->List Value->Prop
 | [],[]=>True
 | x::xs,v::vs=>PtIs x v/\PtsAre xs vs
 | _,_=>False
noncomputable def lt1:Pz->Pz->Bool
 | .inl (some i),.inl (some j)=>decide (i<j)
 | .inr a,.inr b=>decide (a.cps.toList<b.cps.toList)
 | _,_=>false
noncomputable def cmp1:Pz->Pz->Bool
 | .inl (some _),.inl (some _)=>true
 | .inr _,.inr _=>true
 | _,_=>false
noncomputable def ltT:List Pz->List Pz->Bool
 | x::xs,y::ys=>if x=y then ltT xs ys else lt1 x y
 | _,_=>false
noncomputable def cmpT:List Pz->List Pz->Bool
 | x::xs,y::ys=>if x=y then cmpT xs ys else cmp1 x y
 | [],[]=>true
 | _,_=>false
theorem b5x:∀ x:Pz,lt1 x x=false
 | .inl none=>rfl
 | .inl (some i)=>by simp[lt1]
 | .inr a=>by simp[lt1]
theorem b1P:∀ {x y z:Pz},lt1 x y=true->lt1 y z=true->lt1 x z=true
 | .inl (some i),.inl (some j),.inl (some k),h1,h2=>by simp[lt1]at *;omega
 | .inr a,.inr b,.inr c,h1,h2=>by
  simp only[lt1,decide_eq_true_eq]at *;exact List.lt_trans h1 h2
 | .inl none,_,_,h1,_=>by simp[lt1]at h1
 | .inl (some _),.inl none,_,h1,_=>by simp[lt1]at h1
 | .inl (some _),.inr _,_,h1,_=>by simp[lt1]at h1
 | .inr _,.inl _,_,h1,_=>by simp[lt1]at h1
 | .inl (some _),.inl (some _),.inl none,_,h2=>by simp[lt1]at h2
 | .inl (some _),.inl (some _),.inr _,_,h2=>by simp[lt1]at h2
 | .inr _,.inr _,.inl _,_,h2=>by simp[lt1]at h2
theorem ltT_irr:∀ xs:List Pz,ltT xs xs=false
 | []=>rfl
 | x::xs=>by unfold ltT;rw[if_pos rfl];exact ltT_irr xs
theorem a5k:∀ {xs ys zs:List Pz},ltT xs ys=true->ltT ys zs=true->ltT xs zs=true
 | [],_,_,h1,_=>by simp[ltT]at h1
 | _::_,[],_,h1,_=>by simp[ltT]at h1
 | _::_,_::_,[],_,h2=>by simp[ltT]at h2
 | x::xs,y::ys,z::zs,h1,h2=>by
  unfold ltT at *
  by_cases c1:x=y
  ·subst c1;rw[if_pos rfl]at h1
   by_cases c2:x=z
   ·subst c2;rw[if_pos rfl]at h2 ⊢;exact a5k h1 h2
   ·rw[if_neg c2]at h2 ⊢;exact h2
  ·rw[if_neg c1]at h1
   by_cases c2:y=z
   ·simp_all
   ·rw[if_neg c2]at h2;have a:=b1P h1 h2;rw[if_neg (λe=>by rw[e,b5x]at a;cases a)];exact a
theorem b5y:∀ {x y:Pz},cmp1 x y=true->x≠y->lt1 x y=true\/lt1 y x=true
 | .inl (some i),.inl (some j),_,h=>by
  have:i≠j:=λe=>h (by rw[e])
  simp only[lt1,decide_eq_true_eq];omega
 | .inr a,.inr b,_,h=>by
  simp only[lt1,decide_eq_true_eq]
  by_cases c1:a.cps.toList<b.cps.toList
  ·exact .inl c1
  ·by_cases c2:b.cps.toList<a.cps.toList
   ·exact .inr c2
   ·exact absurd (List.le_antisymm (List.not_lt.mp c2) (List.not_lt.mp c1)) λe=>h (by
     have c:=Array.toList_inj.mp e;cases b;cases c;rfl)
 | .inl none,_,h,_=>by simp[cmp1]at h
 | .inl (some _),.inl none,h,_=>by simp[cmp1]at h
 | .inl (some _),.inr _,h,_=>by simp[cmp1]at h
 | .inr _,.inl _,h,_=>by simp[cmp1]at h
theorem ltT_tot:∀ {xs ys:List Pz},cmpT xs ys=true->xs≠ys->ltT xs ys=true\/ltT ys xs=true
 | [],[],_,h=>absurd rfl h
 | [],_::_,h,_=>by simp[cmpT]at h
 | _::_,[],h,_=>by simp[cmpT]at h
 | x::xs,y::ys,h,hn=>by
  unfold cmpT at h;unfold ltT
  by_cases c:x=y
  ·subst c;rw[if_pos rfl]at h;rw[if_pos rfl,if_pos rfl];exact ltT_tot h λe=>hn (by rw[e])
  ·rw[if_neg c]at h;rw[if_neg c,if_neg (Ne.symm c)];exact b5y h c
noncomputable def rk (rows:List (List Pz)) (x:List Pz):Nat:=rows.countP λq=>ltT q x
theorem b4w (h:ltT x y=true):∀ {l:List (List Pz)},x∈l->l.countP (λq=>ltT q x)<l.countP λq=>ltT q y
 | q::l,hm=>by
  have b:l.countP _≤l.countP λq=>ltT q y:=List.countP_mono_left λq _ e=>a5k e h;rw[jp,jp];have a:(if ltT q x=true then 1 else 0)≤(if ltT q y=true then 1 else 0):=by
   by_cases c:ltT q x=true
   ·rw[if_pos c,if_pos (a5k c h)];exact dM _
   ·rw[if_neg c];exact eI _
  rcases dU.mp hm with e | hm
  ·subst e;rw[ltT_irr,h];simp;omega
  ·have:=b4w h hm
   omega
theorem b5z (hx:x∈rows) (h:ltT x y=true):rk rows x<rk rows y:=b4w h hx
theorem b8a (hx:x∈rows) (hy:y∈rows) (hc:cmpT x y=true):rk rows x<rk rows y↔ltT x y=true:=by
 refine⟨λh=>?_,b5z hx⟩
 by_cases e:x=y
 ·grind
 ·rcases ltT_tot hc e with q | q
  ·grind
  ·have:=b5z hy q;omega
def RowIn (h:Heap) (v:Value) (xs:List Pz):Prop:=∃ a o its n,v=.ref a/\h.get? a=some o/\o.cls=.type "tuple"/\o.data=.seq its n/\PtsAre xs its.toList
theorem PtIs.uniq:∀ {x y:Pz}{v:Value},PtIs x v->PtIs y v->x=y
 | .inl none,.inl none,_,_,_=>rfl
 | .inl none,.inl (some _),_,h1,⟨_,h2⟩=>by rw[h1]at h2;cases h2
 | .inl none,.inr _,_,h1,⟨_,h2⟩=>by rw[h1]at h2;cases h2
 | .inl (some _),.inl none,_,⟨_,h1⟩,h2=>by rw[h2]at h1;cases h1
 | .inl (some _),.inl (some _),_,⟨_,h1⟩,⟨_,h2⟩=>by rw[h1]at h2;cases h2;rfl
 | .inl (some _),.inr _,_,⟨_,h1⟩,⟨_,h2⟩=>by rw[h1]at h2;cases h2
 | .inr _,.inl none,_,⟨_,h1⟩,h2=>by rw[h2]at h1;cases h1
 | .inr _,.inl (some _),_,⟨_,h1⟩,⟨_,h2⟩=>by rw[h1]at h2;cases h2
 | .inr _,.inr _,_,⟨_,h1⟩,⟨_,h2⟩=>by rw[h1]at h2;cases h2;rfl
theorem PtsAre.uniq:∀ {xs ys:List Pz}{vs:List Value},PtsAre xs vs->PtsAre ys vs->xs=ys
 | [],[],[],_,_=>rfl
 | x::xs,y::ys,v::vs,⟨a,b⟩,⟨c,d⟩=>by rw[a.uniq c,PtsAre.uniq b d]
 | [],_::_,[],_,h=>h.elim
 | [],_,_::_,h,_=>h.elim
 | _::_,_,[],h,_=>h.elim
 | _::_,[],_::_,_,h=>h.elim
theorem RowIn.uniq (r:RowIn h v xs) (q:RowIn h v ys):xs=ys:=by
 obtain⟨a,o,k,n,rfl,j,_,g,d⟩:=r;obtain⟨p,m,f,l,e,b,_,c,i⟩:=q;cases e;rw[j]at b;cases b;rw[g]at c;cases c;exact d.uniq i
open Classical in
noncomputable def a99 (h:Heap) (v:Value):List Pz:=if e:∃ xs,RowIn h v xs then e.choose else []
theorem a1Y (r:RowIn h v xs):a99 h v=xs:=by
 unfold a99;have e:∃ xs,RowIn h v xs:=⟨xs,r⟩;rw[dif_pos e];exact e.choose_spec.uniq r
noncomputable def kT (h:Heap) (rows:List (List Pz)):KF:=λp=>(rk rows (a99 h p.1):Int)
section
variable {prog:jY}{w:World}{A:Around}{E:Value->Shared->Prop}{s:Shared}{a₀:Array Keyed}{b:Bool}{Q:Bool->Shared->Prop}
theorem a8t (h:Q true s):wpAny (model prog w) A (eqBool .none .none) Q E s:=jQ (kH (jR h))
theorem b8b:∀ {x y:Pz}{p q:Value}{c:Bool},PtIs x p->PtIs y q->cmp1 x y=true->Q (lt1 x y) s->wpAny (model prog w) A (oneLt' c p q) Q E s
 | .inl (some i),.inl (some j),_,_,c,⟨t,rfl⟩,⟨u,rfl⟩,_,h=>by
  cases c with
  | true=>exact oneLt_int h
  | false=>exact kat_one _ _ (PyProof.Rows.lt_int h)
 | .inr a,.inr b,_,_,c,⟨t,rfl⟩,⟨u,rfl⟩,_,h=>by
  cases c with
  | true=>exact oneLt_str h
  | false=>exact kat_one _ _ (PyProof.Rows.lt_str h)
 | .inl none,_,_,_,_,_,_,h,_=>by simp[cmp1]at h
 | .inl (some _),.inl none,_,_,_,_,_,h,_=>by simp[cmp1]at h
 | .inl (some _),.inr _,_,_,_,_,_,h,_=>by simp[cmp1]at h
 | .inr _,.inl _,_,_,_,_,_,h,_=>by simp[cmp1]at h
theorem b8c:∀ {x y:Pz}{p q:Value},PtIs x p->PtIs y q->(x=y\/cmp1 x y=true)->Q (decide (x=y)) s->wpAny (model prog w) A (eqBool p q) Q E s
 | .inl (some i),.inl (some j),_,_,⟨t,rfl⟩,⟨u,rfl⟩,_,h=>wpAny_eqBool_int (by
   have:(i==j)=decide ((Sum.inl (some i):Pz)=.inl (some j)):=by grind
   rw[this];exact h)
 | .inr a,.inr b,_,_,⟨t,rfl⟩,⟨u,rfl⟩,_,h=>wpAny_eqBool_str (by simp_all)
 | .inl none,.inl none,_,_,h1,h2,_,h=>by
  rw[h1,h2];exact a8t (by simp_all)
 | .inl none,.inl (some _),_,_,_,_,h,_=>by rcases h with h | h<;>simp[cmp1]at h
 | .inl none,.inr _,_,_,_,_,h,_=>by rcases h with h | h<;>simp[cmp1]at h
 | .inl (some _),.inl none,_,_,_,_,h,_=>by rcases h with h | h<;>simp[cmp1]at h
 | .inl (some _),.inr _,_,_,_,_,h,_=>by rcases h with h | h<;>simp[cmp1]at h
 | .inr _,.inl none,_,_,_,_,h,_=>by rcases h with h | h<;>simp[cmp1]at h
 | .inr _,.inl (some _),_,_,_,_,h,_=>by rcases h with h | h<;>simp[cmp1]at h
theorem b4x:∀ {xs ys:List Pz}{vs us:List Value}{i:Nat},PtsAre xs vs->PtsAre ys us->cmpT xs ys=true->Q (ltT xs ys) s->KatLex prog w A b false Q (vs.zip us) i s
 | [],[],[],[],_,_,_,_,h=>h
 | x::xs,y::ys,p::vs,q::us,i,⟨a,c⟩,⟨d,e⟩,hc,h=>by
  unfold cmpT at hc;unfold ltT at h
  by_cases exy:x=y
  ·rw[if_pos exy]at hc h;refine kat_cons (b8c a d (.inl exy) ?_);rw[decide_eq_true exy];exact kat_yes (b4x c e hc h)
  ·rw[if_neg exy]at hc h;refine kat_cons (b8c a d (.inr hc) ?_);rw[decide_eq_false exy];exact kat_no (b8b a d hc h)
 | [],_::_,_,_,_,_,_,hc,_=>by simp[cmpT]at hc
 | _::_,[],_,_,_,_,_,hc,_=>by simp[cmpT]at hc
 | [],[],_::_,_,_,h,_,_,_=>h.elim
 | [],[],[],_::_,_,_,h,_,_=>h.elim
 | _::_,_::_,[],_,_,h,_,_,_=>h.elim
 | _::_,_::_,_::_,[],_,_,h,_,_=>h.elim
theorem a8u:∀ {xs:List Pz}{vs:List Value},PtsAre xs vs->vs.length=xs.length
 | [],[],_=>rfl
 | _::_,_::_,⟨_,h⟩=>by rw[ej,ej,a8u h]
 | [],_::_,h=>h.elim
 | _::_,[],h=>h.elim
theorem b5A (h0:∀ p∈a₀.toList,∃ x∈rows,RowIn s.heap p.1 x) (hm:∀ x∈rows,x.length=m) (hc:∀ x∈rows,∀ y∈rows,cmpT x y=true):LtOk (model prog w) A E s (kT s.heap rows) (tuples' b) a₀:=λp q L I u Q J h=>by
 obtain⟨x,d,i⟩:=h0 p L;obtain⟨y,c,g⟩:=h0 q I;have B:Q (some (ltT x y)) u:=by
  have e:decide (kT s.heap rows p<kT s.heap rows q)=ltT x y:=by
   unfold kT;rw[a1Y i,a1Y g]
   have:=b8a d c (hc x d y c)
   cases e:ltT x y
   ·grind
   ·grind
  rw[e]at h;exact h
 obtain⟨a,o,j,n,D,H,M,C,t⟩:=i;obtain⟨T,S,f,N,G,v,R,F,r⟩:=g;rw[lt'_eq];refine jT (kr ?_);rw[J,D,G];refine jT (mO (kP (kat_lt H C v F ?_)));have k:=a8u t;have l:=a8u r;rw[hm x d]at k;rw[hm y c]at l;rw[e4]at k l;rw[decide_eq_false (by omega)];exact b4x t r (hc x d y c) ⟨rfl,jV B⟩
end
end Tim
namespace Tim
open PySem PyProof.Rows PySem.W
theorem a6E {α:Type}:∀ vs:List α,vs.zip vs=vs.map λv=>(v,v)
 | []=>rfl
 | v::vs=>by rw[List.zip_cons_cons,eu,a6E vs]
def RowsIn (h:Heap):List Value->List (List Pz)->Prop
 | [],[]=>True
 | v::vs,x::xs=>RowIn h v x/\RowsIn h vs xs
 | _,_=>False
theorem RowsIn.len:∀ {vs:List Value}{rows:List (List Pz)},RowsIn h vs rows->vs.length=rows.length
 | [],[],_=>rfl
 | _::_,_::_,⟨_,r⟩=>by rw[ej,ej,RowsIn.len r]
 | [],_::_,r=>r.elim
 | _::_,[],r=>r.elim
theorem RowsIn.mem:∀ {vs:List Value}{rows:List (List Pz)},RowsIn h vs rows->∀ v∈vs,∃ x∈rows,RowIn h v x
 | v::vs,x::xs,⟨r,q⟩,u,hu=>by
  rcases dU.mp hu with rfl | hu
  ·exact⟨x,.head _,r⟩
  ·obtain⟨y,b,a⟩:=q.mem u hu;exact⟨y,.tail _ b,a⟩
 | [],[],_,u,hu=>by simp at hu
 | [],_::_,r,_,_=>r.elim
 | _::_,[],r,_,_=>r.elim
theorem RowsIn.map:∀ {vs:List Value}{rows:List (List Pz)},RowsIn h vs rows->vs.map (a99 h)=rows
 | [],[],_=>rfl
 | v::vs,x::xs,⟨r,q⟩=>by rw[eu,a1Y r,q.map]
 | [],_::_,r=>r.elim
 | _::_,[],r=>r.elim
theorem RowIn.mid {vs ws:List Value}(ho:h.get? a=some (seqObj "list" ws.toArray n)) (r:RowIn h v x):RowIn (a3v h a vs) v x:=by
 obtain⟨b,o,d,m,i,c,e,g,f⟩:=r;refine⟨b,o,d,m,i,b79 (λz=>?_) c,e,g,f⟩;rw[z,ho]at c;cases c;simp at e
theorem RowsIn.mid {us ws:List Value}(ho:h.get? a=some (seqObj "list" ws.toArray n)):∀ {vs:List Value}{rows:List (List Pz)},RowsIn h vs rows->RowsIn (a3v h a us) vs rows
 | [],[],_=>trivial
 | _::_,_::_,⟨r,q⟩=>⟨r.mid ho,q.mid ho⟩
 | [],_::_,r=>r.elim
 | _::_,[],r=>r.elim
def a3M (rows:List (List Pz)):Prop:=∀ x∈rows,∃ (s:Str) (r:List Pz),x=.inr s::r
theorem RowsIn.kat:∀ {vs:List Value}{rows:List (List Pz)},RowsIn h vs rows->a3M rows->∃ fs:List Value,KatTups h vs fs/\fs.length=vs.length/\∀ v∈fs,∃ s t,v=.str s t
 | [],[],_,_=>⟨[],trivial,rfl,λv a=>by simp at a⟩
 | v::vs,x::xs,⟨r,q⟩,hf=>by
  obtain⟨g,n,l,k⟩:=q.kat λy i=>hf y (.tail _ i);obtain⟨s,u,rfl⟩:=hf x (.head _);obtain⟨b,o,d,m,rfl,p,e,j,c⟩:=r;cases hi:d.toList with
  | nil=>rw[hi]at c;exact c.elim
  | cons f fr=>
   rw[hi]at c;obtain⟨⟨t,rfl⟩,_⟩:=c;refine⟨.str s t::g,KatTups.cons p e j (by rw[<- fm,hi];rfl) n,by rw[ej,ej,l],λv a=>?_⟩;rcases dU.mp a with rfl | a
   ·exact⟨s,t,rfl⟩
   ·simp_all
 | [],_::_,r,_=>r.elim
 | _::_,[],r,_=>r.elim
section
variable {prog:jY}{w:World}{A:Around}{E:Value->Shared->Prop}{s:Shared}
theorem sort_tups (ho:s.heap.get? a=some (seqObj "list" vs.toArray n)) (hz:vs.length≤100000) (hr:RowsIn s.heap vs rows) (hf:a3M rows)
  (hm:∀ x∈rows,x.length=m) (hc:∀ x∈rows,∀ y∈rows,cmpT x y=true)
  (h:∀ (out:List Value) (os:List (List Pz)),out.Perm vs->os=out.map (a99 s.heap)->os.Perm rows->os.Pairwise (λx y=>ltT y x=false)->P (.done (.ret .none)) { s with heap:=mf s.heap a vs out.toArray }):wpAny (model prog w) A (j1.«list.sort» ⟨[.ref a],[]⟩) P E s:=by
 have k:RowsIn (a3v s.heap a vs) vs rows:=hr.mid ho;refine b5w (k0:=tuples' true) ho hz (λR Q N=>?_) (λR=>b5A (λp d=>?_) hm hc) λo d S=>?_
 ·obtain⟨fs,I,k2,G⟩:=k.kat hf;refine kat_kind (T:=.type "str") I (by omega) (λv j=>?_) (by rfl) N;obtain⟨x,t,rfl⟩:=G v j;exact .now
 ·rw[mi,a6E]at d;obtain⟨v,j,rfl⟩:=eq.mp d;exact k.mem v j
 ·rw[mi,a6E]at d;have z:(o.map (·.2)).Perm vs:=by
   have:=d.map (·.2)
   rw[fK,show (_∘λv:Value=>_)=id from rfl,List.map_id]at this;exact this
  have i:∀ p∈o,p.1=p.2/\p.2∈vs:=λp g=>by
   obtain⟨v,j,rfl⟩:=eq.mp (d.mem_iff.mp g);exact⟨rfl,j⟩
  have D:((o.map (·.2)).map (a99 s.heap)).Perm rows:=by
   rw[<- hr.map];exact z.map _
  refine h _ _ z rfl D ?_;rw[fD,fD];refine e7.imp_of_mem (λ{p q} g B r=>?_) S;obtain⟨L,F⟩:=i p g;obtain⟨J,H⟩:=i q B;obtain⟨x,x1,u⟩:=hr.mem _ F;obtain⟨y,M,C⟩:=hr.mem _ H;rw[a1Y u,a1Y C];unfold kT at r;rw[L,J,a1Y (u.mid ho),a1Y (C.mid ho)]at r;cases e:ltT y x with
  | false=>rfl
  | true=>have:=b5z M e;omega
end
end Tim
namespace SetW
open PySem
def Up (xs:Array Nat):Prop:=xs.toList.Pairwise (·<·)
structure TOk (led:Bool) (t:jX):Prop where
 up:Up t.place
 dm:t.dummies=#[]
 ld:t.led=led
theorem b3v (h:Up xs) (hij:i<j) (hj:j<xs.size):xs[i]'(by omega)<xs[j]:=by
 have:=gJ.mp h i j (by simp;omega) (by omega) hij
 simpa using this
theorem a6F (h:Up xs) (j:Nat):∀ (fuel lo hi:Nat),hi - lo≤fuel->lo≤hi->hi≤xs.size->(∀ i,(hi':i<xs.size)->i<lo->xs[i]<j)->(∀ i,(hi':i<xs.size)->hi≤i->j≤xs[i]) ->
  jX.below.go xs j fuel lo hi≤xs.size/\(∀ i,(hi':i<xs.size)->i<jX.below.go xs j fuel lo hi->xs[i]<j)/\(∀ i,(hi':i<xs.size)->jX.below.go xs j fuel lo hi≤i->j≤xs[i])
 | 0,lo,hi,hf,h1,h2,h3,h4=>by
  have:lo=hi:=by omega
  subst this;unfold jX.below.go;exact⟨h2,h3,h4⟩
 | fuel+1,lo,hi,hf,h1,h2,h3,h4=>by
  unfold jX.below.go
  split
  ·next hlt=>
   have b:(lo+hi) / 2<xs.size:=by omega
   have f:xs.getD ((lo+hi) / 2) j=xs[(lo+hi) / 2]:=by simp[Array.getD,b]
   dsimp only;rw[f]
   split
   ·next c=>
    refine a6F h j fuel _ _ (by omega) (by omega) h2 (λi a d=>?_) h4
    by_cases e:i=(lo+hi) / 2
    ·subst e;exact c
    ·exact fZ (b3v h (by omega) b) c
   ·next c=>
    refine a6F h j fuel _ _ (by omega) (by omega) (by omega) h3 λi a d=>?_
    by_cases e:i=(lo+hi) / 2
    ·subst e;omega
    ·have:=b3v h (show (lo+hi) / 2<i by omega) a;omega
  ·next hlt=>
   have:lo=hi:=by omega
   subst this;exact⟨h2,h3,h4⟩
theorem a9k (h:Up xs) (j:Nat):jX.below xs j≤xs.size/\(∀ i,(hi':i<xs.size)->i<jX.below xs j->xs[i]<j)/\(∀ i,(hi':i<xs.size)->jX.below xs j≤i->j≤xs[i]):=
 a6F h j xs.size 0 xs.size (by simp) (by simp) (dM _) (λi _ a=>by omega) λi b a=>by omega
theorem a8v {α:Type}{xs:Array α}{x:α}:(jX.insertAt xs p x).toList=xs.toList.take p++x::xs.toList.drop p:=by
 unfold jX.insertAt;simp[fv]
theorem b8d (h:Up xs) (hn:xs[jX.below xs j]?≠some j):Up (jX.insertAt xs (jX.below xs j) j):=by
 obtain⟨w,s,i⟩:=a9k h j;unfold Up at h ⊢;rw[a8v];refine eG.mpr ⟨e7.sublist (gC _ _) h,et.mpr ⟨λy d=>?_,e7.sublist (iG _ _) h⟩,λx r y d=>?_⟩
 ·obtain⟨m,a⟩:=fJ d;rw[gI]at a;obtain⟨l,e⟩:=dX.mp a;have b:jX.below xs j+m<xs.size:=by simpa using l
  have f:=i _ b (by omega);have o:xs[jX.below xs j+m]=y:=by simpa using e
  by_cases c:y=j
  ·subst c;exfalso
   by_cases hm0:m=0
   ·simp_all
   ·have t:=b3v h (show jX.below xs y<jX.below xs y+m by omega) b;have z:=i _ (by omega) (dM _);omega
  ·omega
 ·obtain⟨m,a⟩:=fJ r;have g:=(dX.mp a).1;rw[dY]at g;rw[iq,if_pos (by omega)]at a;obtain⟨l,e⟩:=dX.mp a;have b:m<xs.size:=by simpa using l
  have f:=s m b (by omega);have o:xs[m]=x:=by simpa using e
  rw[o]at f;rcases dU.mp d with rfl | d
  ·exact f
  ·obtain⟨k,q⟩:=fJ d;rw[gI]at q;obtain⟨p,u⟩:=dX.mp q;have n:jX.below xs j+k<xs.size:=by simpa using p
   have t:=i _ n (by omega);have v:xs[jX.below xs j+k]=y:=by simpa using u
   omega
theorem b1Q (j:Nat):jX.has #[] j=false:=by unfold jX.has;simp
theorem a9l (hd:t.dummies=#[]):∀ (fuel:Nat) (p:jX.Probe) (j:Nat) (d:Option Nat),p.dummy=none->jX.probe.go t ha h fuel p=some (.empty j d)->d=none/\t.slot j=.empty
 | 0,p,j,d,_,e=>by unfold jX.probe.go at e;cases e
 | fuel+1,p,j,d,a,e=>by
  have b:∀ p:jX.Probe,p.dummy=none->(t.advance p).dummy=none:=λp a=>by
   unfold jX.advance
   split
   ·omega
   ·omega
  unfold jX.probe.go at e;cases hs:t.slot p.j with
  | empty=>
   rw[hs]at e;simp at e;obtain⟨rfl,rfl⟩:=e;exact⟨a,hs⟩
  | dummy=>
   unfold jX.slot at hs;dsimp only at hs;rw[hd,b1Q]at hs
   split at hs
   ·cases hs
   ·simp_all
  | live i=>
   rw[hs]at e;dsimp only at e
   split at e
   ·grind
   ·exact a9l hd fuel _ j d (b p a) e
theorem b0a {t:jX}(h:t.slot j=.empty):t.place[jX.below t.place j]?≠some j:=λe=>by
 unfold jX.slot at h;dsimp only at h;rw[e]at h;simp at h
theorem b5B {t:jX}(hd:t.dummies=#[]) (e:t.freeSlot h=some (j,b)):b=false/\t.place[jX.below t.place j]?≠some j:=by
 unfold jX.freeSlot at e
 split at e
 ·next j' d hp=>
  obtain⟨rfl,a⟩:=a9l hd _ _ j' d rfl hp;simp at e;obtain⟨rfl,rfl⟩:=e;exact⟨rfl,b0a a⟩
 ·cases e
theorem TOk.standIn (h:TOk led t) (n:Nat):TOk led (t.standIn n):=by
 refine⟨?_,rfl,h.ld⟩
 show Up (Array.range n)
 unfold Up;rw[Array.toList_range];exact jq
theorem TOk.orStandIn (h:TOk led t) (n:Nat):TOk led (t.orStandIn n):=by
 unfold jX.orStandIn
 split
 ·omega
 ·exact h.standIn n
theorem TOk.layNew (h:TOk led t) (es:Array (Int×Value)) (hh:Int) (x:Value):TOk led (layNew t es hh x).2.1:=by
 unfold PySem.layNew;cases e:t.freeSlot hh with
 | none=>exact h.standIn _
 | some p=>
  obtain⟨j,b⟩:=p;obtain⟨_,a⟩:=b5B h.dm e
  have:TOk led (t.put j).1:=by
   unfold jX.put;refine⟨b8d h.up a,?_,h.ld⟩;rw[h.dm,b1Q];rfl
  exact this.orStandIn _
theorem b5C (f:Nat->Option Nat):(((fq n).filterMap λj=>(f j).map (j,·)).map (·.1)).Pairwise (·<·):=by
 have e:∀ l:List Nat,l.Pairwise (·<·)->((l.filterMap λj=>(f j).map (j,·)).map (·.1)).Pairwise (·<·)/\∀ x∈(l.filterMap λj=>(f j).map (j,·)).map (·.1),x∈l:=by
  intro l
  induction l with
  | nil=>intro _;exact⟨.nil,λx c=>by simp at c⟩
  | cons a l ih=>
   intro m;obtain⟨i,h⟩:=et.mp m;obtain⟨g,d⟩:=ih h;rw[fF];cases f a with
   | none=>exact⟨g,λx c=>.tail _ (d x c)⟩
   | some b=>
    exact⟨et.mpr ⟨λy k=>i y (d y k),g⟩,λx c=>by
     rcases dU.mp c with rfl | c
     ·exact .head _
     ·exact .tail _ (d x c)⟩
 exact (e _ jq).1
theorem TOk.relay (h:TOk led t) (es:Array (Int×Value)) (n:Nat):TOk led (lE t es n).2.1:=by
 unfold lE;cases e:t.relaid _ n with
 | none=>exact h.standIn _
 | some p=>
  dsimp only
  split
  ·unfold jX.relaid jX.laid at e;cases ho:jX.layClean _ _ with
   | none=>rw[ho]at e;cases e
   | some owner=>
    rw[ho]at e;obtain⟨rfl,_⟩:=e;refine⟨?_,rfl,h.ld⟩;exact b5C _
  ·exact h.standIn _
end SetW
namespace SetW
open PySem PyProof.Rows
noncomputable def byT (w:World):Bool:=w.params.followText "set-order"
structure SO (prog:jY) (w:World) (h:Heap) (a:Addr) (es:Array (Int×Value)) (ep:Nat) (t:jX) (ms:List Int):Prop where
 at_:∃ o,h.get? a=some o/\o.ExactSet/\o.data=.set es ep t
 el:ElemsOf (ki prog w) es.toList
 nums:j8 (es.toList.map (·.2)) ms
 sc:es.size<kG
 fit:t.fits es.size=true
 ok:TOk (!byT w) t
def SI (prog:jY) (w:World) (h:Heap) (a:Addr) (ms:List Int):Prop:=∃ es ep t,SO prog w h a es ep t ms
theorem a1Z (h:j8 vs ns) (p:vs'.Perm vs):∃ ns',j8 vs' ns'/\ns'.Perm ns:=by
 refine⟨vs'.map numOf,intsAre_map _ λv a=>h.all v (p.mem_iff.mp a),?_⟩
 have:=p.map numOf
 rwa [h.nums]at this
theorem b1R (h:j8 vs ns):j8 (vs++[.int k u]) (ns++[k]):=by
 induction h with
 | nil=>exact .cons k u .nil
 | cons n t _ ih=>exact .cons n t ih
section
variable {prog:jY}{w:World}{A:Around}{E:Value->Shared->Prop}{s:Shared}{a:Addr}{es:Array (Int×Value)}{ep:Nat}{t:jX}{ms:List Int}{k:Int}{u:Tok}
theorem SO.mem (S:SO prog w s.heap a es ep t ms):(∃ e∈es.toList,(ki prog w).is k e.2=true)↔k∈ms:=by
 have h:=S.nums.nums
 constructor
 ·rintro⟨e,b,c⟩;rw[<- h];obtain⟨n,i,d⟩:=S.nums.all e.2 (ff b);rw[d]at c
  have:k=n:=by
   have:=c
   simp[ki,Value.isInt]at this;exact this.symm
  exact eq.mpr ⟨e.2,ff b,by rw[d,this];rfl⟩
 ·intro c;rw[<- h,fK]at c;obtain⟨e,b,g⟩:=eq.mp c;obtain⟨n,i,d⟩:=S.nums.all e.2 (ff b);refine⟨e,b,?_⟩;simp at g;rw[d]at g ⊢
  have:n=k:=g
  rw[this];exact mS _ _ _ _
theorem SO.stored {h:Heap}(ho:h.get? a=some o) (hx:o.ExactSet) (hd:o.data=.set es ep t) (hel:ElemsOf (ki prog w) es'.toList) (hi:j8 (es'.toList.map (·.2)) ms') (hs:es'.size<kG) (hf:t'.fits es'.size=true) (hk:TOk (!byT w) t') :
  (h.update a (Obj.putSet es' t')).get? a=some { o with data:=.set es' (ep+1) t' }/\SO prog w (h.update a (Obj.putSet es' t')) a es' (ep+1) t' ms':=by
 have b:(h.update a (Obj.putSet es' t')).get? a=some { o with data:=.set es' (ep+1) t' }:=by
  have q:=Heap.get?_update_self (Obj.putSet es' t') ho (by rw[putSet_of es' t' hd];rfl);rw[putSet_of es' t' hd]at q;exact q
 exact⟨b,⟨⟨_,b,hx,rfl⟩,hel,hi,hs,hf,hk⟩⟩
theorem TOk.plain (h:TOk led t):TOk led ({ t with plain:=b }:jX):=⟨h.up,h.dm,h.ld⟩
theorem b5D (S:SO prog w s.heap a es ep t ms) (hr:ms.length+1<kG)
  (h:∀ h' ms' b,Heap.SameBut a s.heap h'->SI prog w h' a ms'->ms'.Perm (if k∈ms then ms else ms++[k])->Q b { s with heap:=h' }) :
  wpAny (model prog w) A (setAddHashed a (.int k u) ((ki prog w).hash k)) Q E s:=by
 obtain⟨⟨o,D,Y,F⟩,l,v,hsc,y,hok⟩:=id S;have m:(ki prog w).is k (.int k u)=true:=mS _ _ _ _;have T:es.size=ms.length:=by
  have q:=congrArg eF v.nums;simpa using q
 refine ke (jQ (lF D F y ?_));dsimp only;rw[byScan_of rfl hsc l];simp;unfold setAddByScan;refine jQ (jQ (kH (jQ (wpAny_setScan_of m D F y l ?_))));cases hf:List.findIdx? _ es.toList with
 | some j=>
  dsimp only;obtain⟨hj,R,_⟩:=List.findIdx?_eq_some_iff_getElem.mp hf;have g:=S.mem.mp ⟨_,fB hj,R⟩;refine jR (jR ?_);have q:=h s.heap ms false (Heap.SameBut.refl a s.heap) ⟨es,ep,t,S⟩ (by rw[if_pos g]);exact q
 | none=>
  dsimp only;have g:k∉ms:=λz=>by
   obtain⟨e,he,R⟩:=S.mem.mpr z;have q:=List.findIdx?_eq_none_iff.mp hf e he;rw[R]at q;cases q
  have i:=layNew_perm t es ((ki prog w).hash k) (.int k u);have C:=layNew_fits t es ((ki prog w).hash k) (.int k u);have B:=hok.layNew es ((ki prog w).hash k) (.int k u);generalize layNew t es ((ki prog w).hash k) (.int k u)=L at i C B ⊢;obtain⟨c,t1,wd,X⟩:=L;dsimp only at i C B ⊢;rw[eR]at i;have M:=(l.push m rfl).perm i;have sz1:c.size=ms.length+1:=by rw[<- e4,i.length_eq,dO,e4,T];rfl
  obtain⟨ms1,I,G⟩:=a1Z (vs':=c.toList.map (·.2)) (b1R v) (by
   have q:=i.map (·.2);rw[dS]at q;exact q)
  have J:c.size<scanBound:=by omega
  have H:∀ d,d.fits c.size=true->TOk (!byT w) d->wpAny (model prog w) A (do
    mT a c d
    if (!wd&&d.tooFull)=true then do
     (match (lE d c (jX.grown c.size)).2.2 with | true=>rule "set.scan.the-table-gave-way" | false=>pure ())
     mT a (lE d c (jX.grown c.size)).1 (lE d c (jX.grown c.size)).2.1
     pure (some true)
    else pure (some true)) (λr V=>wpAny (model prog w) A (match r with | some added=>pure added | none=>setAddHashedIn a (.int k u) ((ki prog w).hash k) 99999) Q E V) E s:=by
   intro d f2 k2;refine jQ (wpAny_storeSet_of D F ?_ (fits_of_scanBound J));obtain⟨g1,S1⟩:=SO.stored D Y F M I J f2 k2;have b1:=Heap.SameBut.update s.heap a (Obj.putSet c d)
   split
   ·have n:=relayAll_perm d c (jX.grown c.size);have N:=relayAll_fits d c (jX.grown c.size);have U:=k2.relay c (jX.grown c.size);generalize lE d c (jX.grown c.size)=W at n N U ⊢;obtain⟨x,t3,g3⟩:=W;dsimp only at n N U ⊢;have sz2:x.size=c.size:=by rw[<- e4,n.length_eq,e4]
    obtain⟨ms2,im2,aa⟩:=a1Z I (n.map (·.2));refine jQ ?_;have p:wpAny (model prog w) A (mT a x t3 >>= λ_=>pure (some true)) (λr V=>wpAny (model prog w) A (match r with | some added=>pure added | none=>setAddHashedIn a (.int k u) ((ki prog w).hash k) 99999) Q E V) E { s with heap:=s.heap.update a (Obj.putSet c d) }:=by
     refine jQ (wpAny_storeSet_of g1 rfl ?_ (fits_of_scanBound (by omega)));obtain⟨_,S2⟩:=SO.stored g1 Y rfl (M.perm n) im2 (by omega) N U;refine jR (jR ?_);exact h _ ms2 true (b1.trans (Heap.SameBut.update _ a _)) ⟨x,_,t3,S2⟩ (by rw[if_neg g];exact aa.trans G)
    cases g3 with
    | true=>exact kH p
    | false=>exact jR p
   ·exact jR (jR (h _ ms1 true b1 ⟨c,_,d,S1⟩ (by rw[if_neg g];exact G)))
  have gw:∀ {β:Type}{f:Unit->Sem β}{Q':β->Shared->Prop},wpAny (model prog w) A (f ()) Q' E s->wpAny (model prog w) A ((match X with | true=>rule "set.scan.the-table-gave-way" | false=>pure ()) >>= f) Q' E s:=λhq=>by
   cases X with
   | true=>exact jQ (kH hq)
   | false=>exact jQ (jR hq)
  refine gw ?_
  split
  ·refine jQ ?_;refine jR ?_;exact H t1 C B
  ·refine jQ (jR ?_);exact H t1 C B
end
end SetW
namespace SetW
open PySem PyProof.Rows
theorem SI.at (S:SI prog w h a ms) (k:∀ o,h.get? a=some o->h'.get? a=some o):SI prog w h' a ms:=by
 obtain⟨f,e,t,⟨o,g,x,d⟩,b,j,l,c,i⟩:=S;exact⟨f,e,t,⟨o,k o g,x,d⟩,b,j,l,c,i⟩
def Met (val:Nat->Int) (i:Nat) (ms:List Int):Prop:=ms.Nodup/\ms.length≤i/\∀ x,x∈ms↔∃ j,j<i/\val j=x
theorem Met.step (h:Met val i ms) (p:ms'.Perm (if val i∈ms then ms else ms++[val i])):Met val (i+1) ms':=by
 obtain⟨d,f,b⟩:=h;have a:∀ x,(∃ j,j<i+1/\val j=x)↔(∃ j,j<i/\val j=x)\/x=val i:=λx=>by grind
 by_cases c:val i∈ms
 ·rw[if_pos c]at p;refine⟨p.nodup_iff.mpr d,by rw[p.length_eq];omega,λx=>?_⟩;rw[p.mem_iff,a,b];exact⟨.inl,λz=>z.elim id λe=>(b x).mp (e▸c)⟩
 ·rw[if_neg c]at p;refine⟨p.nodup_iff.mpr ?_,by rw[p.length_eq];simp;exact f,λx=>?_⟩
  ·rw[gq];exact⟨d,by simp,λx l y g=>by rw[dP.mp g];rintro rfl;exact c l⟩
  ·rw[p.mem_iff,a,dN,b,dP]
section
variable {prog:jY}{w:World}{A:Around}{R:Result->Shared->Prop}{I:Addr}{fp wr:List Addr}{G:Array mj->Array mj->Prop}{n:Nat}{P:Nat->Value->Prop}{St:Nat->Shared->Prop}
theorem b3w (W:WalksS prog w A.in1 I fp wr G n P St) (S:Addr) (hSf:S∉fp) (val:Nat->Int) (hv:∀ i v,P i v->∃ t,v=.int (val i) t) (hb:n+1<kG) :
  ∀ (k i:Nat) (s:Shared) (ms:List Int),n - i=k->i≤n->St i s->SI prog w s.heap S ms->Met val i ms ->
   (∀ s' ms',Moved (S::wr) G s s'->SI prog w s'.heap S ms'->Met val n ms'->R (.ok (.ret .none)) s') ->
   kl (model prog w) A (.builtin "set.update.loop" ⟨[.ref S,.ref I],[]⟩) R s:=by
 have u:S∉wr:=λz=>hSf (W.sub _ z);have H:∀ b∈wr,b∈S::wr:=λb z=>eX _ z;intro k
 induction k with
 | zero=>
  intro i s m X M l p f q;have e:i=n:=by omega
  subst e;refine kQ PyProof.Rows.F.entry_set_update_loop ?_;refine jQ (W.done s _ _ l λa d=>?_)
  show wpAny _ A.in1 (ret Value.none) _ _ a
  exact jR (q a m (d.mono H) (p.at λo g=>d.heap S o u g) f)
 | succ k ih=>
  intro i s m X M l p f q;refine kQ PyProof.Rows.F.entry_set_update_loop ?_;refine jQ (W.item i s _ _ (by omega) l λv a N r d=>?_);obtain⟨y,rfl⟩:=hv i v N;obtain⟨U,Q,t,S1⟩:=p.at λo g=>d.heap S o u g
  show wpAny _ A.in1 _ _ _ a
  refine jQ (ke ?_);unfold setAdd;refine ke (jQ ((ki prog w).pyHash (mS _ _ _ _) ?_));have T:=S1;refine b5D T (by have:=f.2.1;omega) λY B b h D V=>?_;refine jR ⟨lc PyProof.Rows.F.plain_set_update_loop _,ih (i+1) _ B (by omega) (by omega) (W.frame _ a _ _ r (fL _) λc j o g=>?_) D (f.step V) λL J C E x=>?_⟩
  ·rw[h.2 c λz=>hSf (z▸j)];exact g
  ·refine q L J (Moved.trans W.gtrans ((d.mono H).then_heap (fL _) λc o j g=>?_) C) E x;rw[h.2 c λz=>j (by rw[z];exact fh)];exact g
end
section
variable {prog:jY}{w:World}{A:Around}{E:Value->Shared->Prop}{s:Shared}
abbrev a1B (w:World):Obj:={ cls:=.type "set",dict:=none,data:=.set #[] 0 (.fresh 0 0 (!byT w)) }
theorem SI.fresh (g:h.get? a=some (a1B w)):SI prog w h a []:=
 ⟨#[],0,.fresh 0 0 _,⟨_,g,⟨rfl,rfl,rfl⟩,rfl⟩,λe b=>by simp at b,.nil,by decide,rfl,⟨.nil,rfl,rfl⟩⟩
theorem b5E (a:Value) (h:Q (.ref s.heap.objs.size) { s with heap:=s.heap.push (a1B w) }) :
  kl (model prog w) A (.call (.builtin "set.__new__") ⟨[.type "set",a],[]⟩) (wants Q E) s:=by
 refine codeAny_of_tree ?_
 show wpAny _ A.in1 (do mL "set.__new__" ⟨[.type "set",a],[]⟩;again (.builtin "set.__new__" ⟨[.type "set",a],[]⟩)) _ _ s
 refine jQ (wpAny_of_eq (PySem.F.newCall_set_1 a) (jR ⟨lc PySem.F.plain_set_new _,kQ PySem.F.entry_set_new ?_⟩));rw[Around.under_plainId PySem.F.plain_set_new _];unfold j1.«set.__new__» j1.Frozenset.newClass;have sub:=sub_set_self;obtain⟨hp,g,d,tk,os⟩:=s;dsimp only
 wp_walk
 refine mU (jR ?_);dsimp only;simp only[newObj];refine jQ (wpAny_alloc (jR ?_));exact jR h
set_option maxHeartbeats 3200000 in
/-- set(a list of whole numbers) -/
theorem call_set (hh:A.handled=none) (hl:s.heap.IsList l items) (hi:j8 items.toList ns) (hb:items.size+1<kG)
  (h:∀ (h':Heap) (tk:Nat) (ms:List Int),SI prog w h' s.heap.objs.size ms->Met (λi=>ns.getD i 0) items.size ms->(∀ b o,b<s.heap.objs.size->s.heap.get? b=some o->h'.get? b=some o)->Q (.ref s.heap.objs.size) { s with heap:=h',toks:=tk }) :
  wpAny (model prog w) A (call (.type "set") [.ref l]) Q E s:=by
 obtain⟨mc,mt,mro⟩:=PySem.F.called_set.mro;have md:=PySem.F.called_set.made;have sb:=PySem.F.called_set.sub;refine lj (codeAny_of_tree ?_)
 show wpAny _ _ (callAny (.type "set") _) _ _ _
 refine jR ⟨Code.quiet_builtin _ (by decide +kernel),kQ PySem.F.entry_type_call ?_⟩;rw[Around.under_plain (weight_type_call_type "set" [.ref l] []) rfl];have nt:=PySem.F.called_set.notType;have cc:=PySem.F.called_set.canCreate;have tc:=PySem.F.typeCall_set_1 (.ref l)
 repeat (any_goals (first | assumption | wp_step))
 refine kL (b5E (w:=w) (.ref l) (E:=E) (Q:=λobj s1=>obj=.ref s.heap.objs.size/\s1={ s with heap:=s.heap.push (a1B w) }) ⟨rfl,rfl⟩) λr s1 hr=>?_;cases r with
 | error e=>exact hr
 | ok fl=>
  cases fl with
  | ret obj=>
   obtain⟨rfl,rfl⟩:=hr;have gS:(s.heap.push (a1B w)).get? s.heap.objs.size=some (a1B w):=Heap.get?_push_size _ rfl;have tS:Shared.TypeIs { s with heap:=s.heap.push (a1B w) } (.ref s.heap.objs.size) "set":=⟨_,gS,rfl⟩;have li:=PySem.F.called_set.init.lookup;have bi:=PySem.F.called_set.init.bind (.ref s.heap.objs.size)
   repeat (any_goals (first | assumption | wp_step))
   refine kL (codeAny_call_builtin (R:=wants (λr s2=>r=.none/\∃ h' tk ms,s2={ s with heap:=h',toks:=tk }/\SI prog w h' s.heap.objs.size ms/\Met (λi=>ns.getD i 0) items.size ms /\
     (∀ b o,b<s.heap.objs.size->s.heap.get? b=some o->h'.get? b=some o)) E) PySem.F.called_set.init.plain PySem.F.entry_set_init (check_set_init_1 tS ?_)) λr2 s2 hr2=>?_
   ·obtain⟨ol,gl,cl,nl,dl⟩:=hl;obtain⟨oc,od,ob,osl⟩:=ol;simp only at cl dl;subst cl dl;have gl':(s.heap.push (a1B w)).get? l=some { cls:=.type "list",dict:=od,data:=.seq items nl,slots:=osl }:=Heap.get?_push_of_some _ gl;have s1:=PySem.F.sub_list_set;have s2:=PySem.F.sub_list_frozenset;have ne:(Value.type "list"==Value.type "dict")=false:=by decide
    have il:(s.heap.push (a1B w)).IsList l items:=⟨_,gl',rfl,nl,rfl⟩;unfold j1.«set.__init__» noKeywords j1.Frozenset.updateFrom;generalize hPI:pyIter=PI
    wp_walk
    subst hPI;refine lW il (jQ (wpAny_runValue ?_));have ll:l<s.heap.objs.size:=Heap.lt_size gl;have h3:A.in1.in1.in1.handled=none:=by simp[hh]
    have nI:l≠(s.heap.push (a1B w)).objs.size:=by rw[Heap.size_push];exact ei (fM ll)
    have nf:s.heap.objs.size∉[(s.heap.push (a1B w)).objs.size,l]:=by
     rw[Heap.size_push];simp only[dU,dP,fu,or_false,not_or];exact⟨ei (hG _),fV ll⟩
    refine b3w ((Walks.list h3 _ l nI items).toS) s.heap.objs.size nf (λi=>ns.getD i 0) (λi v e=>j8.int_at hi i v (by rw[fm];exact e)) hb (items.size - 0) 0 _ [] (by omega) (eI _)
     ⟨⟨_,Heap.get?_push_size _ rfl,rfl,rfl⟩,(il.push _)⟩ (SI.fresh (Heap.get?_push_of_some _ gS)) ⟨.nil,dM _,λx=>by simp⟩ λs' ms mv hS hM=>?_
    obtain⟨h',g',d',tk',os'⟩:=s';have eg:g'=s.gens:=mv.gens;have ed:d'=s.drawn:=mv.drawn;have eo:os'=s.os:=mv.os;subst eg ed eo
    show wpAny _ _ _ _ _ _
    refine jR ?_
    show wpAny _ _ (ret Value.none) _ _ _
    refine jR ⟨rfl,h',tk',ms,rfl,hS,hM,λb o hb e=>?_⟩;refine mv.heap b o ?_ (Heap.get?_push_of_some _ (Heap.get?_push_of_some _ e));simp only[dU,dP,fu,or_false,not_or];exact⟨ei hb,by rw[Heap.size_push];exact ei (fM hb)⟩
   ·cases r2 with
    | error e=>exact hr2
    | ok f2=>
     cases f2 with
     | ret r=>
      obtain⟨rfl,h',tk,ms,rfl,hS,hM,hk⟩:=hr2
      repeat (any_goals (first | assumption | wp_step))
      exact h _ _ _ hS hM hk
     | _=>exact hr2.elim
  | _=>exact hr.elim
end
end SetW
namespace SetW
open PySem PyProof.Rows
theorem sit_next:Slot "set_iterator" "__next__" "set_iterator.__next__":=.of (owner:="set_iterator") (n:="__next__") (by rw[typeLookup_type,builtinLookup_eq_fast];kernel_rfl) (by decide +kernel) (by decide +kernel) (by decide +kernel) (by first | exact .inl (by decide +kernel) | exact .inr (by decide +kernel)) (by rw[mV];kernel_rfl)
theorem a1C:ml table "set_iterator.__next__"=some j1.«set_iterator.__next__»:=entryFor_of_tree (by kernel_rfl)
theorem a9m:Slot "set_iterator" "__iter__" "set_iterator.__iter__":=.of (owner:="set_iterator") (n:="__iter__") (by rw[typeLookup_type,builtinLookup_eq_fast];kernel_rfl) (by decide +kernel) (by decide +kernel) (by decide +kernel) (by first | exact .inl (by decide +kernel) | exact .inr (by decide +kernel)) (by rw[mV];kernel_rfl)
theorem a5I:ml table "set_iterator.__iter__"=some j1.«dict_keyiterator.__iter__»:=entryFor_alias (id':="dict_keyiterator.__iter__") (by kernel_rfl) rfl (by decide +kernel) (by kernel_rfl)
theorem a5J:ml table "set.__iter__"=some j1.«frozenset.__iter__»:=entryFor_alias (id':="frozenset.__iter__") (by kernel_rfl) rfl (by decide +kernel) (by kernel_rfl)
theorem a7x:Manifest.owners.lookup (String.ofList ['r','o','t','a','r','e','t','i','_','t','e','s'].reverse)=some Manifest.sig_set_iterator:=by kernel_rfl
theorem a1N (a:Value):argsOk "set_iterator.__next__" ⟨[a],[]⟩:=by unfold argsOk;rw[signature?_of (n:=['_','_','t','x','e','n','_','_']) (by kernel_rfl) a7x];kernel_rfl
theorem a6G (a:Value):argsOk "set_iterator.__iter__" ⟨[a],[]⟩:=by unfold argsOk;rw[signature?_of (n:=['_','_','r','e','t','i','_','_']) (by kernel_rfl) a7x];kernel_rfl
def SetIt (h:Heap) (it a:Addr) (first:Value) (i n ep:Nat):Prop:=∃ o,h.get? it=some o/\o.cls=.type "set_iterator"/\o.data=.fields #[first,.int i 0,.ref a,.int n 0,.int ep 0]
theorem SetIt.ty {s:Shared}(x:SetIt s.heap it a f i n ep):s.TypeIs (.ref it) "set_iterator":=let ⟨o,g,c,_⟩:=x;⟨o,g,c⟩
theorem SetIt.at (x:SetIt h it a f i n ep) (e:∀ o,h.get? it=some o->h'.get? it=some o):SetIt h' it a f i n ep:=let ⟨o,g,r⟩:=x;⟨o,e _ g,r⟩
section
variable {prog:jY}{w:World}{A:Around}{E:Value->Shared->Prop}{s:Shared}{it a:Addr}{f:Value}{i n ep:Nat}{o:Obj}{es:Array (Int×Value)}{t:jX}
theorem a6H (x:SetIt s.heap it a f i n ep) (h:Q (.ref it) s):wpAny (model prog w) A (pyIter (.ref it)) Q E s:=by
 refine wpAny_pyIter_slot x.ty a9m (kF a9m x.ty a5I ?_ (a6G _));exact jR ⟨_,rfl,"set_iterator",_,x.ty,sit_next.lookup,h⟩
theorem a9n (hh:A.handled=none) (hQ:∀ h':Heap,(∀ b o,s.heap.get? b=some o->h'.get? b=some o)->Q none { s with heap:=h' }) :
  wpAny (model prog w) A.in1 (newExc (.type "StopIteration") [] >>= λe=>(raiseNew e:Sem Final)) (λ_ _=>False) (λe s'=>wpAny (model prog w) A (do if <- isInstance e (.type "StopIteration") then pure (none:Option Value) else throw e) Q E s') s:=by
 refine jQ ?_;refine jQ (kM ?_ (by size_fits));refine jQ (wpAny_of_eq (by first | rfl | (simp;rfl)) ?_)
 refine kM ?_ (by size_fits);refine jQ (wpAny_handled ?_);rw[hh];refine jQ (jR (wpAny_throw ?_));refine jQ (wpAny_isInstance ⟨_,Heap.get?_push_size _ rfl,rfl⟩ isSubtype_stop ?_);exact jR (hQ _ λb o e=>Heap.get?_push_of_some _ (Heap.get?_push_of_some _ e))
end
end SetW
namespace SetW
open PySem PyProof.Rows
section
variable {prog:jY}{w:World}{A:Around}{E:Value->Shared->Prop}{s:Shared}{it a:Addr}{f:Value}{i n ep k:Nat}{o:Obj}{es:Array (Int×Value)}{t:jX}{ms:List Int}
theorem a7y (S:SO prog w s.heap a es ep t ms) (hT:byT w=true) (h:Q (((kz (w.params.setOrder a ep) es)[i]?).map λe=>(e.2,k)) s) :
  wpAny (model prog w) A (mm a k i ep) Q E s:=by
 obtain⟨⟨o,f,n,d⟩,j,g,m,b,l⟩:=id S;refine jQ (lF f d b ?_);refine lG (λ_=>?_) λc=>absurd hT c;simp;refine jQ ?_;refine jQ (lF f d b ?_);refine lG (λ_=>?_) λc=>absurd hT c;refine jQ (mU (jR (jR ?_)));exact h
theorem a55 (S:SO prog w s.heap a es ep t ms) (hT:byT w=false) (hp:(!t.plain&&decide (es.size > 1))=false)
  (h:Q (match es[jX.below t.place k]?,t.place[jX.below t.place k]? with | some (_,x),some j=>some (x,j+1) | _,_=>none) s) :
  wpAny (model prog w) A (mm a k i ep) Q E s:=by
 obtain⟨⟨o,f,n,e⟩,l,g,m,b,d⟩:=id S;refine jQ (lF f e b ?_);refine lG (λc=>by rw[show (model prog w).w.params.followText "set-order"=byT w from rfl,hT]at c;cases c) λ_=>?_
 show wpAny _ _ (if (!t.plain&&decide _)=true then _ else _) _ _ _
 rw[hp]
 show wpAny _ _ ((if _=true then _ else _) >>= _) _ _ _
 rw[d.ld,hT];exact jQ (jR (jR h))
theorem a7z (x:SetIt s.heap it a (.int k 0) i es.size ep) (S:SO prog w s.heap a es ep t ms)
  (hnx:∀ (B:Around) (F:Value->Shared->Prop) (R:Option (Value×Nat)->Shared->Prop),R (some (v,nx)) s->wpAny (model prog w) B (mm a k i ep) R F s)
  (hQ:∀ h',SetIt h' it a (.int nx 0) (i+1) es.size ep->Heap.SameBut it s.heap h'->Q (some v) { s with heap:=h' }):wpAny (model prog w) A (pyNext (.ref it)) Q E s:=by
 obtain⟨u,c,h,b⟩:=id x;obtain⟨⟨o,j,C,p⟩,z,l,r,d,y⟩:=id S;refine jQ (kP (wpAny_callSpecial?_slot x.ty sit_next (kF sit_next x.ty a1C ?_ (a1N _))));refine jQ (jR ?_);refine jQ (mn c b ?_);refine jQ (lS j p d ?_);simp;refine jQ (hnx _ _ _ ?_);refine jQ (kO c b (by simp) ?_);have f:=Heap.get?_update_self (Obj.mapFields (·.setIfInBounds 0 (rawInt nx))) c (Obj.isFreed_of_fields (Obj.data_mapFields b _));have e:=Obj.data_mapFields b (·.setIfInBounds 0 (rawInt nx));refine jQ (kO f e (by simp) ?_);have g:=Heap.get?_update_self (Obj.mapFields (·.setIfInBounds 1 (rawInt (i+1)))) f (Obj.isFreed_of_fields (Obj.data_mapFields e _));have q:=Obj.data_mapFields e (·.setIfInBounds 1 (rawInt (i+1)));have n:SetIt _ it a (.int nx 0) (i+1) es.size ep:=
  ⟨_,g,(Obj.cls_mapFields ..).trans ((Obj.cls_mapFields ..).trans h),by rw[q];simp[rawInt]⟩
 refine jR ⟨_,rfl,?_⟩;exact jR (hQ _ n ((Heap.SameBut.update ..).trans (Heap.SameBut.update ..)))
theorem a9o (hh:A.handled=none) (x:SetIt s.heap it a (.int k 0) i es.size ep) (S:SO prog w s.heap a es ep t ms)
  (hnx:∀ (B:Around) (F:Value->Shared->Prop) (R:Option (Value×Nat)->Shared->Prop),R none s->wpAny (model prog w) B (mm a k i ep) R F s)
  (hQ:∀ h',(∀ b o,b≠it->s.heap.get? b=some o->h'.get? b=some o)->Q none { s with heap:=h' }):wpAny (model prog w) A (pyNext (.ref it)) Q E s:=by
 obtain⟨u,f,D,d⟩:=id x;obtain⟨⟨o,g,G,j⟩,r,p,v,c,y⟩:=id S;refine jQ (kP (wpAny_callSpecial?_slot x.ty sit_next (kF sit_next x.ty a1C ?_ (a1N _))));refine jQ (jR ?_);refine jQ (mn f d ?_);refine jQ (lS g j c ?_);simp;refine jQ (hnx _ _ _ ?_);refine jQ (kO f d (by simp) ?_);refine j7 (a9n hh λn h=>?_) (λ_ _ z=>z.elim) λe C z=>z;have q:=hQ n λb o l e=>h b o ((Heap.SameBut.update s.heap it _).extBut b o l e);exact q
end
end SetW
namespace SetW
open PySem PyProof.Rows
theorem a4g {α:Type}:∀ (l:List α) {i:Nat}(h:i<l.length),l.Perm (l[i]::l.eraseIdx i)
 | x::l,0,_=>by simp
 | x::l,i+1,h=>by
  have q:=a4g l (by simpa using h);exact (eH.cons x q).trans (eH.swap _ _ _)
theorem b1S {α:Type}(next:Nat->Nat):∀ (fuel k:Nat) (left:List α) (out:Array α),fuel=left.length->(kz.go next fuel k left out).toList.Perm (out.toList++left)
 | 0,k,left,out,h=>by
  have:=fP.mp h.symm
  subst this;unfold kz.go;simp
 | fuel+1,k,left,out,h=>by
  unfold kz.go;have a:next k % left.length<left.length:=Nat.mod_lt _ (by omega);rw[en a];refine (b1S next fuel _ _ _ (by grind)).trans ?_;rw[eR,eD];exact eH.append_left _ (a4g left a).symm
theorem a7A {α:Type}(next:Nat->Nat) (xs:Array α):(kz next xs).toList.Perm xs.toList:=by
 have:=b1S next xs.size 0 xs.toList #[] (by simp)
 simpa[kz]using this
noncomputable def a3N (t:jX):Nat->Nat
 | 0=>0
 | j+1=>t.place.getD j 0+1
theorem a56 (h:TOk led t) (hi:i≤t.place.size):jX.below t.place (a3N t i)=i:=by
 obtain⟨f,a,d⟩:=a9k h.up (a3N t i);cases i with
 | zero=>
  by_cases c:jX.below t.place (a3N t 0)=0
  ·grind
  ·have:=a 0 (by omega) (by omega)
   have z:a3N t 0=0:=rfl;omega
 | succ j=>
  have b:j<t.place.size:=by omega
  have e:a3N t (j+1)=t.place[j]+1:=by show t.place.getD j 0+1=_;rw[jr,fE b];rfl
  rcases Nat.lt_trichotomy (jX.below t.place (a3N t (j+1))) (j+1) with c | c | c
  ·grind
  ·omega
  ·have q:=a (j+1) (by omega) c;have r:=b3v h.up (show j<j+1 by omega) (by omega);omega
theorem SO.at (S:SO prog w h a es ep t ms) (k:∀ o,h.get? a=some o->h'.get? a=some o):SO prog w h' a es ep t ms:=by
 obtain⟨⟨o,g,x,d⟩,e,i,b,c,f⟩:=S;exact⟨⟨o,k o g,x,d⟩,e,i,b,c,f⟩
section
variable {prog:jY}{w:World}{A:Around}{E:Value->Shared->Prop}{s:Shared}{it a T:Addr}{f:Value}{i n ep k:Nat}{o:Obj}{es:Array (Int×Value)}{t:jX}{ms:List Int}{ps:List Nat}
noncomputable def b3x (w:World) (a:Addr) (ep:Nat) (es:Array (Int×Value)):List Value:=(kz (w.params.setOrder a ep) es).toList.map (·.2)
theorem b1T (hh:A.handled=none) (hne:a≠it) (hT:byT w=true):Walks prog w A it [it,a] [it] es.size (λi v=>(b3x w a ep es)[i]?=some v) (λi h=>SetIt h it a (.int (0:Nat) 0) i es.size ep/\SO prog w h a es ep t ms):=by
 have p:(kz (w.params.setOrder a ep) es).size=es.size:=by rw[<- e4,(a7A _ es).length_eq,e4]
 refine⟨λb d=>by simp at d;simp[d],λ_ _ _ c l=>⟨c.1.at λo e=>l it (by simp) o e,c.2.at λo e=>l a (by simp) o e⟩,λi s Q E q c f=>?_,λs Q E c f=>?_,λ_ _ _ _ c f=>a6H c.1 f⟩
 ·have k:(kz (w.params.setOrder a ep) es)[i]?=some ((kz (w.params.setOrder a ep) es)[i]'(by omega)):=fE _;refine a7z (v:=((kz (w.params.setOrder a ep) es)[i]'(by omega)).2) (nx:=0) c.1 c.2 (λB F R j=>a7y c.2 hT ?_) λg x m=>?_
  ·simp_all
  ·refine f _ g s.toks ?_ ⟨x,c.2.at λo e=>m.extBut a o hne e⟩ λb o d e=>m.extBut b o (λz=>d (by simp[z])) e;unfold b3x;rw[dQ,fm,k]
   rfl
 ·refine a9o hh c.1 c.2 (λB F R j=>a7y c.2 hT ?_) λg n=>f g s.toks λb o d e=>n b o (λz=>d (by simp[z])) e;rw[js (by omega)];exact j
theorem b0b (hh:A.handled=none) (hne:a≠it) (hT:byT w=false) (hp:(!t.plain&&decide (es.size > 1))=false) (hf:t.fits es.size=true) (ok:TOk (!byT w) t) :
  Walks prog w A it [it,a] [it] es.size (λi v=>(es.toList.map (·.2))[i]?=some v) (λi h=>SetIt h it a (.int (a3N t i) 0) i es.size ep/\SO prog w h a es ep t ms):=by
 have q:t.place.size=es.size:=by
  simp only[jX.fits,fz,beq_iff_eq]at hf;exact hf.1
 refine⟨λb d=>by simp at d;simp[d],λ_ _ _ c m=>⟨c.1.at λo e=>m it (by simp) o e,c.2.at λo e=>m a (by simp) o e⟩,λi s Q E n c f=>?_,λs Q E c f=>?_,λ_ _ _ _ c f=>a6H c.1 f⟩
 ·have j:i<t.place.size:=by omega
  refine a7z (v:=es[i].2) (nx:=a3N t (i+1)) c.1 c.2 (λB F R g=>a55 c.2 hT hp ?_) λk x l=>?_
  ·rw[a56 ok (by omega),fE n,fE j];have e:a3N t (i+1)=t.place[i]+1:=by show t.place.getD i 0+1=_;rw[jr,fE j];rfl
   rw[e]at g;exact g
  ·refine f _ k s.toks ?_ ⟨x,c.2.at λo e=>l.extBut a o hne e⟩ λb o d e=>l.extBut b o (λz=>d (by simp[z])) e;rw[dQ,fm,fE n]
   rfl
 ·refine a9o hh c.1 c.2 (λB F R g=>a55 c.2 hT hp ?_) λk p=>f k s.toks λb o d e=>p b o (λz=>d (by simp[z])) e;rw[a56 ok (by omega),js (by omega)];exact g
end
end SetW
namespace SetW
open PySem PyProof.Rows
section
variable {prog:jY}{w:World}{A:Around}{E:Value->Shared->Prop}{s:Shared}{it a T:Addr}{f:Value}{i n ep k:Nat}{o:Obj}{es:Array (Int×Value)}{t:jX}{ms:List Int}{ps:List Nat}
theorem b5F (hn:n≠0) (h:∀ i d',i<n->Q i { s with drawn:=d' }):wpAny (model prog w) A (choose src n) Q E s:=
 λ_ _ _=>⟨hn,h _ _ (Nat.mod_lt _ (Nat.pos_of_ne_zero hn))⟩
theorem a9p {α:Type}:∀ (n:Nat) (xs:List α) (s:Shared) (Q:List α->Shared->Prop),xs.length=n->(∀ ys d',ys.Perm xs->Q ys { s with drawn:=d' })->wpAny (model prog w) A (drawOrder n xs) Q E s
 | 0,xs,s,Q,hl,h=>by
  have:=fP.mp hl
  subst this;exact jR (h [] s.drawn .nil)
 | n+1,[],s,Q,hl,h=>by cases hl
 | n+1,x::xs,s,Q,hl,h=>by
  refine jQ (b5F (by simp) λi e a=>?_);rw[en a];refine jQ (a9p n _ _ _ (by grind) λd c b=>?_);refine jR ?_;exact h _ c ((eH.cons _ b).trans (a4g _ a).symm)
def PlacesAt (h:Heap) (T:Addr) (ps:List Nat):Prop:=∃ o c,h.get? T=some o/\o.data=.seq (ps.map λ(i:Nat)=>rawInt i).toArray c
theorem PlacesAt.at (x:PlacesAt h T ps) (k:∀ o,h.get? T=some o->h'.get? T=some o):PlacesAt h' T ps:=let ⟨o,c,g,d⟩:=x;⟨o,c,k _ g,d⟩
theorem b0c (x:SetIt s.heap it a (.ref T) i es.size ep) (S:SO prog w s.heap a es ep t ms) (y:PlacesAt s.heap T ps) (hp:ps[i]?=some p) (he:es[p]?=some e)
  (hQ:∀ h',SetIt h' it a (.ref T) (i+1) es.size ep->Heap.SameBut it s.heap h'->Q (some e.2) { s with heap:=h' }):wpAny (model prog w) A (pyNext (.ref it)) Q E s:=by
 obtain⟨u,f,j,d⟩:=id x;obtain⟨⟨o,g,F,h⟩,C,k,D,b,B⟩:=id S;obtain⟨G,c,r,z⟩:=y;refine jQ (kP (wpAny_callSpecial?_slot x.ty sit_next (kF sit_next x.ty a1C ?_ (a1N _))));refine jQ (jR ?_);refine jQ (mn f d ?_);refine jQ (lS g h b ?_);rw[if_neg (by simp)];refine jQ (jQ (lI r ?_));rw[z];refine jR ?_;dsimp only;have l:(ps.map λ(i:Nat)=>rawInt i).toArray[(i:Int).toNat]?=some (rawInt p):=by simp_all
 rw[l]
 show wpAny _ _ (setNextDrawn a (p:Int).toNat (ep:Int).toNat >>= _) _ _ _
 refine jQ ?_;refine jQ (lF g h b ?_);simp;rw[he];refine jR ?_;refine jQ (kO f d (by simp) ?_);have q:=Heap.get?_update_self (Obj.mapFields (·.setIfInBounds 1 (rawInt ((i:Int)+1)))) f (Obj.isFreed_of_fields (Obj.data_mapFields d _));have v:=Obj.data_mapFields d (·.setIfInBounds 1 (rawInt ((i:Int)+1)));have n:SetIt _ it a (.ref T) (i+1) es.size ep:=
  ⟨_,q,(Obj.cls_mapFields ..).trans j,by rw[v];simp[rawInt]⟩
 refine jR ⟨_,rfl,?_⟩;exact jR (hQ _ n (Heap.SameBut.update ..))
theorem b1U (hh:A.handled=none) (x:SetIt s.heap it a (.ref T) i es.size ep) (S:SO prog w s.heap a es ep t ms) (y:PlacesAt s.heap T ps) (hp:ps[i]?=none)
  (hQ:∀ h',(∀ b o,b≠it->s.heap.get? b=some o->h'.get? b=some o)->Q none { s with heap:=h' }):wpAny (model prog w) A (pyNext (.ref it)) Q E s:=by
 obtain⟨u,f,M,d⟩:=id x;obtain⟨⟨o,p,L,j⟩,H,B,F,g,G⟩:=id S;obtain⟨J,c,k,v⟩:=y;unfold pyNext;refine jQ (kP (wpAny_callSpecial?_slot x.ty sit_next (kF sit_next x.ty a1C ?_ (a1N _))));refine jQ (jR ?_);refine jQ (mn f d ?_);dsimp only;refine jQ (lS p j g ?_);rw[if_neg (by simp)];unfold seqItems?;refine jQ (jQ (lI k ?_));rw[v];refine jR ?_;dsimp only;have h:(ps.map λ(i:Nat)=>rawInt i).toArray[(i:Int).toNat]?=none:=by simp_all
 rw[h];dsimp only;refine jQ (kO f d (by simp) ?_);have D:=Heap.get?_update_self (Obj.mapFields (·.setIfInBounds 0 (rawInt 0))) f (Obj.isFreed_of_fields (Obj.data_mapFields d _));have r:=Obj.data_mapFields d (·.setIfInBounds 0 (rawInt 0));refine jQ (kO D r (by simp) ?_);refine j7 (a9n hh λl n=>?_) (λ_ _ z=>z.elim) λe I z=>z;have q:=hQ l λb o C e=>n b o (((Heap.SameBut.update s.heap it _).trans (Heap.SameBut.update _ it _)).extBut b o C e);exact q
noncomputable def a7B (es:Array (Int×Value)) (ps:List Nat):List Value:=ps.map λp=>((es[p]?).getD (0,.none)).2
theorem b0d (hh:A.handled=none) (hne:a≠it) (hnT:T≠it) (hps:ps.Perm (fq es.size)) :
  Walks prog w A it [it,a,T] [it] es.size (λi v=>(a7B es ps)[i]?=some v) (λi h=>SetIt h it a (.ref T) i es.size ep/\SO prog w h a es ep t ms/\PlacesAt h T ps):=by
 have r:ps.length=es.size:=by rw[hps.length_eq,jt]
 refine⟨λb d=>by simp at d;simp[d],λ_ _ _ c l=>⟨c.1.at λo e=>l it (by simp) o e,c.2.1.at λo e=>l a (by simp) o e,c.2.2.at λo e=>l T (by simp) o e⟩,λi s Q E q c g=>?_,λs Q E c g=>?_,λ_ _ _ _ c g=>a6H c.1 g⟩
 ·have f:i<ps.length:=by omega
  have m:=iB.mp (hps.mem_iff.mp (fB f));refine b0c c.1 c.2.1 c.2.2 (en f) (fE m) λj x k=>?_;refine g _ j s.toks ?_ ⟨x,c.2.1.at λo e=>k.extBut a o hne e,c.2.2.at λo e=>k.extBut T o hnT e⟩ λb o d e=>k.extBut b o (λz=>d (by simp[z])) e;unfold a7B;rw[dQ,en f,gH,fE m]
  rfl
 ·exact b1U hh c.1 c.2.1 c.2.2 (ju (by omega)) λj n=>g j s.toks λb o d e=>n b o (λz=>d (by simp[z])) e
end
end SetW
namespace SetW
open PySem PyProof.Rows
section
variable {prog:jY}{w:World}{A:Around}{E:Value->Shared->Prop}{s:Shared}{it a T:Addr}{f:Value}{i n ep k:Nat}{o:Obj}{es:Array (Int×Value)}{t:jX}{ms:List Int}{ps:List Nat}
theorem b1V {α:Type}(d:α) (l:Array α):(fq l.size).map (λp=>(l[p]?).getD d)=l.toList:=by
 refine jv (by simp) λi b a=>?_
 have:i<l.size:=by omega
 simp[this]
theorem b0e (hps:ps.Perm (fq es.size)):(a7B es ps).Perm (es.toList.map (·.2)):=by
 have q:=hps.map λp=>((es[p]?).getD (0,Value.none)).2;refine q.trans (eH.of_eq ?_);rw[<- b1V (0,Value.none) es,fK]
 rfl
theorem SO.ty (S:SO prog w s.heap a es ep t ms):s.TypeIs (.ref a) "set":=let ⟨o,g,x,_⟩:=S.at_;⟨o,g,x.1⟩
theorem SO.len (S:SO prog w s.heap a es ep t ms):es.size=ms.length:=by
 have q:=congrArg eF S.nums.nums;simpa using q
abbrev b8e (f:Value) (a:Addr) (n ep:Nat):Obj:={ cls:=.type "set_iterator",data:=.fields #[f,.int (0:Nat) 0,.ref a,.int n 0,.int ep 0] }
theorem a5l {h:Heap}:SetIt (h.push (b8e f a n ep)) h.objs.size a f 0 n ep:=⟨_,Heap.get?_push_size _ rfl,rfl,rfl⟩
theorem b3y (hh:A.handled=none) (S:SI prog w s.heap a ms)
  (h:∀ (I:Addr) (fp:List Addr) (g:Heap) (d':Drawn) (vs:List Value) (ns:List Int) (St:Nat->Heap->Prop),(∀ b o,s.heap.get? b=some o->g.get? b=some o)->s.heap.objs.size≤I->(∀ b∈fp,b=a\/s.heap.objs.size≤b) ->
   j8 vs ns->ns.Perm ms->Walks prog w A I fp [I] vs.length (λi v=>vs[i]?=some v) St->St 0 g->Q (.ref I) { s with heap:=g,drawn:=d' }) :
  wpAny (model prog w) A (pyIter (.ref a)) Q E s:=by
 obtain⟨es,ep,t,S⟩:=S;obtain⟨⟨o,u,hx,y⟩,hel,n,hsc,f,hok⟩:=id S;have C:a<s.heap.objs.size:=Heap.lt_size u;refine wpAny_pyIter_slot S.ty PySem.F.slot_set_iter (kF PySem.F.slot_set_iter S.ty a5J ?_ (PySem.F.args_set_iter_1 _));unfold j1.«frozenset.__iter__» j1.Frozenset.slot0 j1.Frozenset.sizeOf;refine jQ (jQ (jR (jR ?_)));refine jQ (jQ (lS u y f (jR ?_)));unfold setDrawn setsByText;refine jQ (jQ (lF u y f (jQ (jQ (mU (jR ?_))))));dsimp only;refine jR ?_
 show wpAny _ _ (if (!byT w&&(!t.plain&&decide (es.size > 1)))=true then _ else _) _ _ _
 have B:(es.toList.map (·.2)).length=es.size:=by simp
 by_cases c:(!byT w&&(!t.plain&&decide (es.size > 1)))=true
 ·rw[if_pos c];refine jQ (a9p es.size (fq es.size) _ _ (by simp) λx d' q=>?_);have r:x.length=es.size:=by rw[q.length_eq,jt]
  have sb:kG≤16777216:=by decide
  refine jQ (mR ?_ (by rw[dJ,r,kf];omega));refine jQ (wpAny_setEpoch_of (Heap.get?_push_of_some _ u) y f ?_);unfold newFields;refine jQ (kM (jR ⟨_,rfl,"set_iterator",_,⟨_,Heap.get?_push_size _ rfl,rfl⟩,sit_next.lookup,?_⟩));obtain⟨D,H,G⟩:=a1Z n (b0e (es:=es) q);have k:s.heap.objs.size<(s.heap.push { cls:=.type "tuple",data:=.seq (x.map λ(i:Nat)=>rawInt i).toArray }).objs.size:=by rw[Heap.size_push];exact hG _
  have j:=b0d (prog:=prog) (w:=w) (A:=A) (t:=t) (ms:=ms) (ep:=ep) (a:=a) hh (ei (fZ C k)) (ei k) q;have e:(a7B es x).length=es.size:=by unfold a7B;rw[dJ,r]
  rw[<- e]at j;refine h _ _ _ _ _ D _ (λb o g=>Heap.get?_push_of_some _ (Heap.get?_push_of_some _ g)) (fw k) (λb p=>?_) H G j ⟨?_,S.at λo g=>Heap.get?_push_of_some _ (Heap.get?_push_of_some _ g),⟨_,_,Heap.get?_push_of_some _ (Heap.get?_push_size _ rfl),rfl⟩⟩
  ·simp only[dU,fu,or_false]at p;rcases p with rfl | rfl | rfl
   ·exact .inr (fw k)
   ·exact .inl rfl
   ·exact .inr (dM _)
  ·rw[e];exact a5l
 ·rw[if_neg c];refine jQ (jR ?_);refine jQ (wpAny_setEpoch_of u y f ?_);unfold newFields;refine jQ (kM (jR ⟨_,rfl,"set_iterator",_,⟨_,Heap.get?_push_size _ rfl,rfl⟩,sit_next.lookup,?_⟩));have z:∀ b∈[s.heap.objs.size,a],b=a\/s.heap.objs.size≤b:=λb p=>by
   simp only[dU,fu,or_false]at p;rcases p with rfl | rfl
   ·exact .inr (dM _)
   ·exact .inl rfl
  cases k:byT w with
  | true=>
   have J:(b3x w a ep es).Perm (es.toList.map (·.2)):=(a7A _ es).map _;obtain⟨D,H,G⟩:=a1Z n J;have j:=b1T (prog:=prog) (w:=w) (A:=A) (t:=t) (ms:=ms) (ep:=ep) (es:=es) (a:=a) hh (ei C) k;have e:(b3x w a ep es).length=es.size:=by rw[J.length_eq,B]
   rw[<- e]at j;refine h _ _ _ _ _ D _ (λb o g=>Heap.get?_push_of_some _ g) (dM _) z H G j ⟨?_,S.at λo g=>Heap.get?_push_of_some _ g⟩;rw[e];exact a5l
  | false=>
   have hp:(!t.plain&&decide (es.size > 1))=false:=by
    rw[k]at c;simpa using c
   have j:=b0b (prog:=prog) (w:=w) (A:=A) (t:=t) (ms:=ms) (ep:=ep) (es:=es) (a:=a) hh (ei C) k hp f hok;rw[<- B]at j;refine h _ _ _ _ _ ms _ (λb o g=>Heap.get?_push_of_some _ g) (dM _) z n (eH.refl _) j ⟨?_,S.at λo g=>Heap.get?_push_of_some _ g⟩;rw[B];exact a5l
end
end SetW
namespace SetW
open PySem PyProof.Rows
section
variable {prog:jY}{w:World}{A:Around}{E:Value->Shared->Prop}{s:Shared}{a:Addr}{ms:List Int}
theorem b3z (y:s.TypeIs (.ref a) "set") (h:Q false s):wpAny (model prog w) A (j1.List.listLengthHint (.ref a)) Q E s:=by
 refine jQ (wpAny_specialOf y PySem.F.slot_set_len.lookup ?_);generalize e0:_=z;refine jQ (wpAny_isInstance (b:=true) y (by rw[mV];kernel_rfl) ?_);exact jQ (l5 y (jR h))
theorem b3A (h:ItemsOf (λi v=>vs[i]?=some v) acc vs.length):acc.toList=vs:=by
 obtain⟨a,b⟩:=h;refine jv (by omega) λi d c=>?_;have e:i<acc.size:=by omega
 have:vs[i]?=some acc[i]:=b i acc[i] (fE e)
 rw[en c]at this;simpa using this.symm
theorem b0f (hh:A.handled=none) (S:SI prog w s.heap a ms) (L:Addr) (hL:L≠a) (res:Value) (c0:Nat) (gL:s.heap.get? L=some { cls:=.type "list",data:=.seq #[] c0 })
  (hR:∀ g tk d' acc c' ns,(∀ b o,b≠L->s.heap.get? b=some o->g.get? b=some o)->g.get? L=some { cls:=.type "list",dict:=none,data:=.seq acc c',slots:=#[] }->j8 acc.toList ns->ns.Perm ms->R (.ok (.ret res)) { s with heap:=g,drawn:=d',toks:=tk }) :
  wpAny (model prog w) A.in1 (j1.List.listExtendWith (.ref L) (.ref a) res)
   (λfin s'=>match fin with | .done f=>R (.ok f) s' | .again c'=>c'.quiet=true/\kl (model prog w) A c' R s') (λe s'=>R (.error e) s') s:=by
 have ty:s.TypeIs (.ref a) "set":=let ⟨_,_,_,S'⟩:=S;S'.ty
 have small:ms.length≤sizeLine:=by
  obtain⟨es,ep,t,S'⟩:=S;have q1:=S'.len;have q2:=S'.sc;have sb:kG≤16777216:=by decide
  rw[kf];omega
 have lL:=Heap.lt_size gL;unfold j1.List.listExtendWith;refine jQ (l5 (T:="set") ty ?_);have n1:j1.List.listSameRef (.ref L) (.ref a)=false:=by simp[j1.List.listSameRef,hL]
 have n2:(Value.type "set"==Value.type "list")=false:=by decide
 have n3:(Value.type "set"==Value.type "tuple")=false:=by decide
 simp only[n1,n2,n3,Bool.or_false,gi,if_false];refine jQ (b3y (A:=A.in1) hh S λI fp g d' vs ns St kp hI hfp i1 i2 wk st=>?_);have nf:L∉fp:=λz=>(hfp L z).elim hL λq=>eM _ (eA lL q);have hz:vs.length≤sizeLine:=by
  have q:=congrArg eF i1.nums;rw[dJ,i2.length_eq]at q;omega
 have key:∀ (g2:Heap) (c1:Nat),St 0 g2->(∀ b o,b≠L->g.get? b=some o->g2.get? b=some o)->g2.get? L=some { cls:=.type "list",data:=.seq #[] c1 } ->
   kl (model prog w) A (.builtin "list.extend.loop" ⟨[.ref L,.ref I,res],[]⟩) R { s with heap:=g2,drawn:=d' }:=by
  intro g2 c1 st2 k2 gL2;refine codeAny_extend_loopS wk.toS hz L nf res vs.length 0 _ #[] c1 rfl (eI _) st2 gL2 (ItemsOf.nil _) λs3 acc c3 mv g3 hacc=>?_;rw[Moved.eq_with mv];refine hR s3.heap s3.toks d' acc c3 ns (λb o nb e=>mv.heap b o (λhm=>?_) (k2 b o nb (kp b o e))) g3 (by rw[b3A hacc];exact i1) i2;rcases dU.mp hm with q | q
  ·exact nb q
  ·rw[dP.mp q]at e;exact eM _ (eA (Heap.lt_size e) hI)
 have gL1:=kp L _ gL;refine jQ (ke (b3z (let ⟨o,e,c⟩:=ty;⟨o,kp _ _ e,c⟩) ?_));refine lG (λ_=>?_) λ_=>jR ⟨lc PySem.F.plain_extend_loop _,key _ c0 st (λb o _ e=>e) gL1⟩;refine jQ (kH (jQ ?_))
 show wpAny _ _ (updateSeq L (·.push .none) >>= λ_=>updateSeq L (·.pop)) _ _ _
 refine jQ (wpAny_updateSeq gL1 rfl ?_);have g2:=Heap.get?_update_self (Obj.mapSeq (·.push Value.none)) gL1 rfl;refine wpAny_updateSeq (hz:=by seq_fits) g2 rfl ?_;have g3:=Heap.get?_update_self (Obj.mapSeq (·.pop)) g2 rfl;have oth:∀ b o,b≠L->g.get? b=some o->((g.update L (Obj.mapSeq (·.push Value.none))).update L (Obj.mapSeq (·.pop))).get? b=some o:=λb o nb e=>
  (Heap.get?_update_other _ _ (Ne.symm nb)).trans ((Heap.get?_update_other _ _ (Ne.symm nb)).trans e)
 exact jR ⟨lc PySem.F.plain_extend_loop _,key _ _ (wk.frame 0 _ _ st λb hb o e=>oth b o (λq=>nf (q▸hb)) e) oth g3⟩
theorem collect_set (hh:A.handled=none) (S:SI prog w s.heap a ms)
  (h:∀ (g:Heap) (tk:Nat) (d':Drawn) (vs:List Value) (ns:List Int),(∀ b o,s.heap.get? b=some o->g.get? b=some o)->j8 vs ns->ns.Perm ms->R vs { s with heap:=g,drawn:=d',toks:=tk }) :
  wpAny (model prog w) A (collect (.ref a)) R E s:=by
 have B:=let ⟨_,_,_,S'⟩:=S;let ⟨_,g,_⟩:=S'.at_;Heap.lt_size g
 refine jQ (wpAny_runValue (kQ PySem.F.entry_proto_collect ?_));rw[Around.under_plainId PySem.F.plain_proto_collect _];refine jQ (kM (jR ⟨lc PySem.F.plain_list_iadd _,kQ PySem.F.entry_list_iadd ?_⟩));rw[Around.under_plainId PySem.F.plain_list_iadd _];have z:(s.heap.push { cls:=.type "list",data:=.seq ([]).toArray }).get? s.heap.objs.size=some { cls:=.type "list",data:=.seq #[] }:=Heap.get?_push_size _ rfl;have u:=b0f (s:={ s with heap:=s.heap.push { cls:=.type "list",data:=.seq ([]).toArray } })
  (R:=λq t=>∃ (g:Heap) (j:Nat) (i:Drawn) (c:Array Value) (r:Nat) (d:List Int),q=.ok _/\t={ s with heap:=g,drawn:=i,toks:=j } /\
   (∀ b o,s.heap.get? b=some o->g.get? b=some o)/\g.get? s.heap.objs.size=some { cls:=.type "list",dict:=none,data:=.seq c r,slots:=#[] }/\j8 c.toList d/\d.Perm ms)
  hh (S.at λo e=>Heap.get?_push_of_some _ e) s.heap.objs.size (fV B) (.ref s.heap.objs.size) 0 z
  λg j i c r d k m p n=>⟨g,j,i,c,r,d,rfl,rfl,λb o e=>k b o (ei (Heap.lt_size e)) (Heap.get?_push_of_some _ e),m,p,n⟩
 refine j7 u (λv t x=>?_) λe t x=>?_
 ·cases v with
  | done f=>
   obtain⟨g,j,i,c,r,d,e,rfl,k,m,p,n⟩:=x;cases e;exact jQ (lI m (jR (h g j i _ d k p n)))
  | again c1=>
   refine⟨x.1,kL x.2 λq D y=>?_⟩;obtain⟨g,j,i,c,r,d,rfl,rfl,k,m,p,n⟩:=y;exact jQ (lI m (jR (h g j i _ d k p n)))
 ·obtain⟨_,_,_,_,_,_,C,_⟩:=x;cases C
end
end SetW
namespace L2
open PySem PySem.Spec PyProof.Rows
theorem a4X:∀ {vs:List Value}{ns:List Int},j8 vs ns->vs.length=ns.length
 | _,_,.nil=>rfl
 | _,_,.cons n t h=>by rw[ej,ej,a4X h]
theorem a5m:∀ {vs:List Value}{ns:List Int},j8 vs ns->Vals (ns.map V.int) vs
 | _,_,.nil=>.nil
 | _,_,.cons n t h=>.cons ⟨t,rfl⟩ (a5m h)
theorem b1W:∀ {vs:List Value}{ns:List Int},vs.length=ns.length->(∀ (i:Nat) v,vs[i]?=some v->∃ n t,ns[i]?=some n/\v=.int n t)->j8 vs ns
 | [],[],_,_=>.nil
 | [],_::_,h,_=>by simp at h
 | _::_,[],h,_=>by simp at h
 | v::vs,n::ns,h,q=>by
  obtain⟨m,t,a,b⟩:=q 0 v rfl;simp at a;subst a b;exact .cons _ t (b1W (by simpa using h) λi v e=>by simpa using q (i+1) v (by simpa using e))
section
variable {P:jY}{w:World}{A:Around}{E:Value->Shared->Prop}{s:Shared}
theorem a7C (hmx:ns.length≤1000)
  (hcol:∀ R:List Value->Shared->Prop,(∀ (g:Heap) (tk:Nat) (d:Drawn) (vs:List Value) (ks:List Int),(∀ b o,s.heap.get? b=some o->g.get? b=some o)->j8 vs ks->ks.Perm ns->R vs { s with heap:=g,drawn:=d,toks:=tk })->wpAny (model P w) A.in1 (collect (.ref r)) R E s)
  (h:∀ (g g':Heap) (tk:Nat) (d:Drawn) (out:List Value) (n:Nat) (ms:List Int),(∀ b o,s.heap.get? b=some o->g.get? b=some o)->(∀ b o,g.get? b=some o->g'.get? b=some o)->g'.get? g.objs.size=some { cls:=.type "list",data:=.seq out.toArray n } ->
   j8 out ms->ms.Perm ns->ms.Pairwise (·≤·)->Q (.ref g.objs.size) { s with heap:=g',drawn:=d,toks:=tk }):wpAny (model P w) A (call (.builtin "sorted") [.ref r]) Q E s:=by
 refine Calls.call_function_entry kind_sorted plain_sorted entry_sorted (args_sorted1 _) ?_;refine jQ (jR (jQ (hcol _ λg t d f ks p l k=>?_)));have hl:=(a4X l).trans k.length_eq;have v:f.length≤sizeLine:=by rw[kf];omega
 refine jQ (mh ?_ v);have j:(g.push _).get? g.objs.size=some (seqObj "list" f.toArray 0):=Heap.get?_push_size _ rfl;refine jQ (ke (kF slot_list_sort ⟨_,j,rfl⟩ entry_list_sort (Tim.sort_any j l (by omega) λout u y x q=>⟨_,rfl,?_⟩) (args_list_sort _)));have c:=sortedHeap_at (out:=out) j;obtain⟨n,c⟩:=c;refine jR ⟨_,rfl,h g _ t d out.toList n u p (λb o e=>?_) (by omega) y (x.trans k) q⟩;have i:=Heap.lt_size e;rw[sortedHeap_old (ei i) (by rw[Heap.size_push];exact fM i)];exact Heap.get?_push_of_some _ e
end
section
variable {X:Cx}
theorem Inv.drew (I:Inv X pins σ H s) (d:Drawn):Inv X pins σ H { s with drawn:=d }:=
 I.step (ch:=[]) (λb a=>nomatch a) (λb o _ _ _ e _=>e) (λb o _ _ _ e _=>⟨o.slots,e⟩) (λ_ _ _ _ n=>n) (λb o _ e=>⟨o,e⟩) (λ_ _ e=>e) (λ_ _ _ e=>e) (λb f e=>⟨#[],by rw[e];simp⟩) (λm c=>c) I.hok I.bare
def b5G (K:Fg):List V->Hp->VK->Prop:=λxs H Q=>∃ (p:Addr) (ns:List Int),xs=[.ref p]/\(SqL K H p (ns.map V.int)\/∃ kvs:List (Key×V),H p=some (.dK kvs)/\kvs.map (·.1)=ns.map λi=>(Sum.inl (some i):Key))/\ns.length≤1000 /\
 ∀ (t:Addr) (ms:List Int),H t=none->ms.Perm ns->ms.Pairwise (·≤·)->Q (.ref t) (upd H t (.lst (ms.map V.int)))
theorem a8w (hc:X.calm=true):CallR X (.builtin "sorted") (b5G X.K):=by
 intro F s σ H xs us Q I r h;obtain⟨p,ns,rfl,C,G,q⟩:=h;obtain⟨u,rfl,rx⟩:=a20 r;cases rx;have hh:=I.ok.hd hc;refine a7C G (λR T=>?_) λg g' l d ab n L k1 k2 e a1 S a3=>?_
 ·rcases C with C | ⟨kvs,hd,hk⟩
  ·obtain⟨M,rv,pl,_⟩:=I.list C;have U:=a5W rv;refine collect_list pl.isList ?_ (by rw[a4X U,kf];omega);refine T _ s.toks s.drawn M _ (λb o e=>?_) U (eH.refl _);have ac:=Heap.lt_size e;rw[Heap.get?_update_ne _ _ _ _ (ei ac)];exact Heap.get?_push_of_some _ e
  ·obtain⟨z,lo,E,B,dd⟩:=b67 I.hok hd;obtain⟨ep,ad⟩:=dd.dictAt;have Y:E.length=ns.length:=by rw[<- B.length,<- dJ,hk,dJ]
   refine PySem.W.kdu_collect (PySem.W.kdl_dict lo) hh ad (by rw[Y,kf];omega) λg l aa kp c=>?_;refine T g l s.drawn aa.toList ns kp (b1W (by rw[e4,c.1,Y]) λi v e=>?_) (eH.refl _);obtain⟨k,x,e1,e2⟩:=c.2 i v (by simp_all);have y:E.map (·.1)=ns.map λi=>(Sum.inl (some i):Key):=by rw[<- B.keys];exact hk
   have j:(ns.map λi=>(Sum.inl (some i):Key))[i]?=some k:=by rw[<- y,dQ,e1];rfl
   rw[dQ]at j;cases hn:ns[i]? with
   | none=>rw[hn]at j;cases j
   | some n=>
    rw[hn]at j;cases j;have D:Value.isInt n v=true:=e2;cases v with
    | int m t=>exact⟨n,t,rfl,by simp[Value.isInt]at D;rw[D]⟩
    | _=>simp[Value.isInt]at D
 ·have J:Inv X F σ H { s with heap:=g,drawn:=d,toks:=l }:=(I.drew d).kept k1;exact⟨.ref g.objs.size,_,J.laid k2 (dM _) (show ObjOk X.prog X.w _ g' _ (.lst (L.map V.int)) from ⟨by rw[dJ,S.length_eq,kf];omega,ab,n,a5m a1,e⟩),rfl,q _ L (J.hok.fresh (dM _)) S a3⟩
end
end L2
namespace L2
open PySem PySem.Spec PyProof.Rows
structure Zs where
 it:Addr
 tp:Bool
 l:Addr
def Zs.At (z:Zs) (k:Nat) (h:Heap):Prop:=if z.tp=true then h.IsTupleIter z.it z.l k else h.IsListIter z.it z.l k
def Zs.Has (z:Zs) (h:Heap) (xs:Array Value):Prop:=if z.tp=true then h.IsTuple z.l xs else h.IsList z.l xs
theorem Zs.At.keep {z:Zs}(a:z.At k h) (q:∀ o,h.get? z.it=some o->h'.get? z.it=some o):z.At k h':=by
 unfold Zs.At at a ⊢
 split
 ·next e=>rw[if_pos e]at a;exact a.at q
 ·next e=>rw[if_neg e]at a;exact a.at q
theorem Zs.Has.keep {z:Zs}(a:z.Has h xs) (q:∀ o,h.get? z.l=some o->h'.get? z.l=some o):z.Has h' xs:=by
 unfold Zs.Has at a ⊢
 split
 ·next e=>rw[if_pos e]at a;exact let ⟨o,ho,r⟩:=a;⟨o,q o ho,r⟩
 ·next e=>rw[if_neg e]at a;exact let ⟨o,ho,r⟩:=a;⟨o,q o ho,r⟩
theorem Zs.At.obj {z:Zs}(a:z.At k h):∃ o,h.get? z.it=some o/\∀ v,o.data≠.cell v:=by
 unfold Zs.At at a
 split at a<;>(obtain⟨o,e,_,d⟩:=a;exact⟨o,e,λv q=>by rw[d]at q;cases q⟩)
section
variable {P:jY}{w:World}{A:Around}{E:Value->Shared->Prop}{s:Shared}
end
end L2
namespace L2
open PySem PySem.Spec PyProof.Rows
section
variable {P:jY}{w:World}{A:Around}{E:Value->Shared->Prop}{s:Shared}
end
end L2
namespace L2
open PySem PySem.Spec PyProof.Rows
section
variable {X:Cx}{pins:List (Addr×Obj)}{σ:St}{H:Hp}{s:Shared}{h':Heap}
end
def SrcV (K:Fg) (H:Hp) (y:Zs) (xs:List V):Prop:=if y.tp=true then SqT K H y.l xs else SqL K H y.l xs
theorem SrcV.has (I:Inv X pins σ H s) (h:SrcV X.K H y xs):∃ its:List Value,Vals xs its/\y.Has s.heap its.toArray:=by
 unfold SrcV at h;unfold Zs.Has
 split at h
 ·next e=>obtain⟨a,r,p,_⟩:=I.tuple h;exact⟨a,r,by rw[if_pos e];exact p⟩
 ·next e=>obtain⟨a,r,p,_⟩:=I.list h;exact⟨a,r,by rw[if_neg e];exact p.isList⟩
theorem SrcV.inj (I:Inv X pins σ H s) (h:SrcV X.K H y xs) (h':SrcV X.K H y xs'):xs=xs':=by
 unfold SrcV at h h'
 split at h
 ·next e=>rw[if_pos e]at h';exact I.tuple_inj h h'
 ·next e=>rw[if_neg e]at h';exact I.list_inj h h'
end L2
namespace L2
open PySem PySem.Spec PyProof.Rows
def SrcP (K:Fg) (H:Hp) (p:Bool×Addr) (xs:List V):Prop:=if p.1=true then SqT K H p.2 xs else SqL K H p.2 xs
theorem Turn.imp {P:jY}{w:World}{K:Fg}{tg:Expr}{J J':It}{fp:List Addr}{it:Addr}{tn:Nat->Heap->Prop}(t:Turn P w K tg J fp it tn) (g:∀ i H,J'.go i H->J.go i H) (y:∀ i H x H',J'.go i H->J.yld i H x H'->J'.yld i H x H') (s:∀ i H,J'.stop i H->J.stop i H):Turn P w K tg J' fp it tn where
 mem:=t.mem
 obj:=t.obj
 keep:=t.keep
 item:=λX h1 h2 h3 h4 i pins s σ H E I hf st hg=>j7 (t.item X h1 h2 h3 h4 i pins s σ H E I hf st (g i H hg)) (λr s1 ⟨u,e,q⟩=>⟨u,e,j7 q (λ_ s2 ⟨x,H',a,b,c,d,e⟩=>⟨x,H',a,b,y i H x H' hg c,d,e⟩) λ_ _ z=>z⟩) λ_ _ z=>z
 done:=λX h1 h2 h3 h4 i pins s' σ H E I hf st hg=>t.done X h1 h2 h3 h4 i pins s' σ H E I hf st (s i H hg)
 self:=t.self
end L2
namespace L2
open PySem PySem.Spec PyProof.Rows
noncomputable def Itv (K:Fg) (a:Addr) (n:Nat):It:=
 ⟨λi H=>i<n/\∃ xs,SqL K H a xs/\xs.length=n,λi H x H'=>H'=H/\∀ xs,SqL K H a xs->xs[n - 1 - i]?=some x,λi _=>i=n⟩
theorem b3B {P:jY}{w:World}{K:Fg}{tg:Expr}(a it:Addr) (n:Nat):Turn P w K tg (Itv K a n) [it] it (λi h=>i≤n/\h.IsRevIter it a ((n:Int) - 1 - (i:Nat))) where
 mem:=by simp
 obj:=λi h st b hb=>by
  have e:b=it:=by simpa using hb
  subst e;obtain⟨o,e,c,d⟩:=st.2;exact⟨o,e,λv z=>by rw[d]at z;cases z⟩
 keep:=λi h h' st k=>⟨st.1,st.2.at λo e=>k it (by simp) o e⟩
 item:=by
  intro X hP hw hK hc i pins s σ H E I hf st hg;subst hP hw hK;obtain⟨hi,xs,hq,hx⟩:=hg;obtain⟨its,rv,p,hz⟩:=I.list hq;have hx':=en (show n - 1 - i<xs.length by omega);obtain⟨u,hu,ru⟩:=rv.get hx';obtain⟨f0,f1,f2,f3,f4,f5⟩:=hf it (by simp);have st':=st.2;have e1:(n:Int) - 1 - (i:Nat)=((n - 1 - i:Nat):Int):=by omega
  rw[e1]at st';refine wpAny_pyNext_rev_item st' p.isList (x:=u) (by simpa using hu) λh' s2 sb=>?_;have I1:Inv X pins σ H { s with heap:=h' }:=I.turned (t':=s.toks) (λb o hb e=>(sb.2 b hb).trans e) f0 f1 f3 f4 f5;obtain⟨o,e,c,d⟩:=id s2;refine⟨u,rfl,a9Q (s:={ s with heap:=h' }) e c d (by decide) ⟨xs[n - 1 - i],H,I1,ru,⟨rfl,λys hy=>by rw[I.list_inj hy hq];exact hx'⟩,⟨by omega,?_⟩,λb hb=>(hf b hb).1⟩⟩;have e2:(n:Int) - 1 - ((i+1:Nat):Int)=((n - 1 - i:Nat):Int) - 1:=by omega
  rw[e2];exact s2
 done:=by
  intro X hP hw hK hc i pins s σ H E I hf st hg;subst hP hw hK;obtain⟨f0,f1,f2,f3,f4,f5⟩:=hf it (by simp);have hi:i=n:=hg;have st':=st.2;have e1:(n:Int) - 1 - (i:Nat)=-1:=by omega
  rw[e1]at st';exact wpAny_pyNext_rev_end (I.ok.hd hc) st' λh' eb=>⟨rfl,I.turned (t':=s.toks) (λb o hb e=>eb b o hb e) f0 f1 f3 f4 f5⟩
 self:=λ_ _ _ _ _ st h=>wpAny_pyIter_revIter st.2 h
def c0i (K:Fg) (ta:TA):TI:=fun σ H R=>ta σ H λvs H1=>∃ a xs,vs=[.ref a]/\SqL K H1 a xs/\R (Itv K a xs.length) H1
theorem b8f (hg:Gl X "reversed") (hm:X.mg "reversed"=none) (ha:PA X [e] ta)
  (he:jU [e] X.env=(false,eval e X.env)::jU [] X.env:=by rfl):PI X tg (.Call (.Name "reversed" p) [e] [] pos) (c0i X.K ta):=by
 intro i s σ H R I h;refine Call_ (a69 I hg hm boot_reversed (PyProof.Rows.callWith_type1 (thn (ha pos i s σ H _ I h) λy c ⟨A,v,f,k,l⟩=>?_) he rfl));obtain⟨a,d,rfl,n,q⟩:=l;obtain⟨u,rfl,r⟩:=a20 k;cases r;obtain⟨j,m,w,z⟩:=f.list n;have x:j.toArray.size=d.length:=by rw[eZ,m.length]
 refine call_reversed_list w.isList ?_;rw[x];have g:(c.heap.push (revObj a ((d.length) - 1))).IsRevIter c.heap.objs.size a ((d.length) - 1 - 0):=⟨_,Heap.get?_push_size _ rfl,rfl,by simp[revObj]⟩;refine wpAny_pyIter_revIter g ?_;refine⟨c.heap.objs.size,[c.heap.objs.size],_,_,v,rfl,f.kept λb o e=>Heap.get?_push_of_some _ e,b3B a _ d.length,⟨eI _,g⟩,λb t=>?_,q⟩;have e:b=c.heap.objs.size:=by simp_all
 subst e;exact f.fpOk (dM _) (f.hok.fresh (dM _))
end L2
namespace L2
open PySem PySem.Spec PyProof.Rows
section
variable {X:Cx}
noncomputable def b0g (x y:Str):Int:=match j1.Str.occurrences x y 0 x.length 1 with
 | i::_=>(i:Int)
 | []=>-1
theorem b5H:MtR X "str.find" (λx vs H Q=>∃ (z y:Str),x=.str z/\vs=[.str y]/\Q (.int (b0g z y)) H):=by
 intro c s σ H x f v g Q I b d h;obtain⟨z,y,rfl,rfl,q⟩:=h;obtain⟨t,rfl⟩:=b;obtain⟨u,rfl,e⟩:=a20 d;obtain⟨a,rfl⟩:=e;exact call_gives PySem.F.slot_str_find (kS _ _ _) PySem.F.entry_str_find (PySem.F.args_str_find_2 _ _) (gives_str_find z y t a) ⟨.int _,H,I.tok _,⟨_,rfl⟩,q⟩
end
end L2
namespace L3
open PySem PySem.Spec PyProof.Rows L2
section
variable {X:Cx}
def b8g:Z->List Z->Hq->K3->Prop:=λx xs G R=>match x,xs with
 | .str z,[.str y]=>R (.int (b0g z y)) G
 | _,_=>False
theorem b8h:MtQ X "str.find" b8g:=a8g b5H λx g H Q e=>e.un λw c G R a b d h f=>by
 match w,c,h with
 | .str z,[.str y],h=>
  obtain⟨v,rfl,r⟩:=b.one;exact⟨z,y,a,by rw[r],f _ _ _ _ h (by rw[a0v]) d (.refl _ _)⟩
theorem b8i (h:R (.int (b0g z y)) G):b8g (.str z) [.str y] G R:=h
noncomputable def putZ (kvs:List (Key×Z)) (k:Key) (v:Z):List (Key×Z):=
 if (kvs.any λkv=>decide (kv.1=k))=true then kvs.map (λkv=>if kv.1=k then (kv.1,v) else kv) else kvs++[(k,v)]
theorem b1X {α β:Type}:∀ {kvs:List (Key×α)}{us:List (Key×β)},us.map (·.1)=kvs.map (·.1)->(us.any λkv=>decide (kv.1=k))=kvs.any λkv=>decide (kv.1=k)
 | [],[],_=>rfl
 | [],_::_,h=>by simp at h
 | _::_,[],h=>by simp at h
 | p::ps,q::qs,h=>by
  rw[eu,eu]at h;injection h with h1 h2
  rw[fY,fY,b1X h2,h1]
theorem a9q {K:Fg}(rv:Rep K H w v) (hk:us.map (·.1)=kvs.map (·.1)) (hr:Reps K H (kvs.map (·.2)) (us.map (·.2))) :
  (putK us k v).map (·.1)=(putZ kvs k w).map (·.1)/\Reps K H ((putZ kvs k w).map (·.2)) ((putK us k v).map (·.2)):=by
 unfold putK putZ;rw[b1X hk]
 split
 ·have l:∀ {d:List _}{f:List _},f.map (·.1)=d.map (·.1)->Reps K H (d.map (·.2)) (f.map (·.2))->((f.map λc=>if c.1=k then (c.1,v) else c).map (·.1)=(d.map λc=>if c.1=k then (c.1,w) else c).map (·.1)/\Reps K H ((d.map λc=>if c.1=k then (c.1,w) else c).map (·.2)) ((f.map λc=>if c.1=k then (c.1,v) else c).map (·.2))):=by
   intro d
   induction d with
   | nil=>intro f g h;cases f with
    | nil=>exact⟨rfl,.nil⟩
    | cons _ _=>simp at g
   | cons p ps ih=>
    intro f g h;cases f with
    | nil=>simp at g
    | cons q qs=>
     rw[eu,eu]at g h;injection g with h3 h4
     obtain⟨a,b,e,j,m⟩:=h;injection e with e1 e2
     subst e1 e2;have i:=ih h4 m;simp only[eu]
     by_cases e:p.1=k
     ·rw[if_pos e,if_pos (h3.trans e)];exact⟨by rw[i.1,h3],.cons rv i.2⟩
     ·rw[if_neg e,if_neg (λz=>e (h3.symm.trans z))];exact⟨by rw[i.1,h3],.cons j i.2⟩
  exact l hk hr
 ·rw[dS,dS,hk,dS,dS];exact⟨rfl,hr.append (.cons rv .nil)⟩
noncomputable def keyZ:Z->Option Key
 | .non=>some (.inl none)
 | .int i=>some (.inl (some i))
 | .str x=>some (.inr x)
 | _=>none
theorem a6I {K:Fg}(h:keyZ i=some k) (r:Rep K H i v):v=kV k:=by
 cases i with
 | non=>rw[a0V]at r;cases h;exact r
 | int j=>rw[a0v]at r;cases h;exact r
 | str j=>rw[a0L]at r;cases h;exact r
 | _=>cases h
theorem b5I {α β:Type}{kvs:List (Key×α)}{us:List (Key×β)}(h:us.map (·.1)=kvs.map (·.1)):us.length=kvs.length:=by
 rw[<- dJ,h,dJ]
def b5J:List Z->Hq->K3->Prop:=λxs G R=>match xs with
 | [.ref p]=>∃ ns:List Int,(G p=some (.lst (ns.map Z.int))\/∃ kvs,G p=some (.dK kvs)/\kvs.map (·.1)=ns.map λi=>Sum.inl (some i))/\ns.length≤1000/\∀ (t:Addr) (ms:List Int),G t=none->ms.Perm ns->ms.Pairwise (·≤·)->R (.ref t) (put G t (.lst (ms.map Z.int)))
 | _=>False
theorem b_sorted (hc:X.calm=true):a2U X (.builtin "sorted") b5J:=a1g (a8w hc) λw H Q n=>n.un λm G R o b h q=>by
 match m,h with
 | [.ref p],h=>
  obtain⟨v,rfl,r⟩:=o.one;obtain⟨l,a,e,h⟩:=h;refine⟨p,l,by rw[r],?_,e,λt g c i j=>q _ _ _ _ (h t g (b.out c) i j) (by rw[a0K]) (b.set (.new c) (a1i (a2i _) (.new c))) (.new c)⟩;rcases a with a | ⟨kvs,a,hk⟩
  ·obtain⟨u,d,f⟩:=b _ _ a
   have:=a5b f
   subst this;exact .inl (SqL.of d)
  ·obtain⟨k,d,s,_⟩:=b _ _ a;exact .inr ⟨k,d,s.trans hk⟩
variable {tg:Expr}{t:A3}
def iRev (t:A3):I3:=fun σ G R=>t σ G λws G1=>∃ a xs,ws=[.ref a]/\G1 a=some (.lst xs)/\R xs.reverse (λG=>G a=some (.lst xs)) G1
theorem b1Y {K:Fg}:a6y K ws.reverse (λG=>G a=some (.lst ws)) (Itv K a ws.length) H0:=λi G H g t l m=>by
 obtain⟨f,e,d⟩:=g a _ l;rw[jw]at m ⊢;refine⟨λh=>h,λw c=>?_⟩;have b:i<ws.length:=by
  have:=(dX.mp c).1
  rwa [jw]at this
 rw[List.getElem?_reverse b]at c;obtain⟨v,j,k⟩:=d.get c;refine⟨⟨b,f,SqL.of e,d.length.symm⟩,?_⟩;rintro x n ⟨rfl,y⟩
 have:=y f (SqL.of e)
 rw[j]at this;cases this;exact⟨k,g,.refl _ _⟩
theorem a8x (hg:Gl X "reversed") (hm:X.mg "reversed"=none) (ha:QA X [e] t)
  (he:jU [e] X.env=(false,eval e X.env)::jU [] X.env:=by rfl):QI X tg (.Call (.Name "reversed" p) [e] [] pos) (iRev t):=a94 (b8f hg hm ha.p he) fun τ H R2 i=>i.un fun σ G R k hg h o=>by
 refine⟨σ,G,_,k,hg,h,λws G1 vs H1 ⟨a,xs,e,f,l⟩ g b j=>?_⟩;subst e;obtain⟨v,rfl,r⟩:=g.one;subst r;obtain⟨m,n,d⟩:=b a _ f;exact⟨a,m,rfl,SqL.of n,by rw[<- d.length];exact o _ _ _ _ _ l b1Y b j⟩
theorem SrcP.uniq {K:Fg}(h:SrcP K H p xs) (g:(if p.1=true then H p.2=some (.tup ys) else H p.2=some (.lst ys))):SrcP K H p ys:=by
 unfold SrcP
 split
 ·next e=>rw[if_pos e]at g;exact SqT.of g
 ·next e=>rw[if_neg e]at g;exact SqL.of g
theorem b8j (h:t σ G λws G1=>∃ a xs,ws=[.ref a]/\G1 a=some (.lst xs)/\Ri xs.reverse (λG=>G a=some (.lst xs)) G1):iRev t σ G Ri:=h
end
end L3
namespace L3
open PySem PySem.Spec PyProof.Rows L2
noncomputable def putQ (f:Str) (y:Z):List (Str×Z)->List (Str×Z)
 | []=>[(f,y)]
 | (g,x)::r=>if g=f then (g,y)::r else (g,x)::putQ f y r
section
variable {K:Fg}{H:Hp}
theorem a3O:∀ {fs:List (Str×Z)}{gs:List (Str×V)},gs.map (·.1)=fs.map (·.1)->Reps K H (fs.map (·.2)) (gs.map (·.2))->(fs.lookup f=none->gs.lookup f=none)/\∀ z,fs.lookup f=some z->∃ v,gs.lookup f=some v/\Rep K H z v
 | [],[],_,_=>⟨λ_=>rfl,λ_ h=>by cases h⟩
 | [],_::_,h,_=>by simp at h
 | _::_,[],h,_=>by simp at h
 | (k,x)::fs,(k',v)::gs,h,r=>by
  simp at h;obtain⟨rfl,h⟩:=h;obtain⟨i,g,e,d,b⟩:=r;obtain⟨rfl,rfl⟩:=fN.inj e;have a:=a3O (f:=f) h b;rw[fj,fj];cases c:f==k' with
  | true=>
   refine⟨λe=>?_,λz e=>?_⟩
   ·cases e
   ·simp_all
  | false=>exact a
theorem a8y (ry:Rep K H y u):∀ {fs:List (Str×Z)}{gs:List (Str×V)},gs.map (·.1)=fs.map (·.1)->Reps K H (fs.map (·.2)) (gs.map (·.2))->(putF f u gs).map (·.1)=(putQ f y fs).map (·.1)/\Reps K H ((putQ f y fs).map (·.2)) ((putF f u gs).map (·.2))
 | [],[],_,_=>⟨rfl,by show Reps K H [y] [u];rw[a1f];exact⟨u,[],rfl,ry,by rw[a0B]⟩⟩
 | [],_::_,h,_=>by simp at h
 | _::_,[],h,_=>by simp at h
 | (k,x)::fs,(k',v)::gs,h,r=>by
  simp at h;obtain⟨rfl,h⟩:=h;obtain⟨i,g,e,d,b⟩:=r;obtain⟨rfl,rfl⟩:=fN.inj e;have a:=a8y (f:=f) ry h b;unfold putQ putF
  by_cases c:k'=f
  ·rw[if_pos c,if_pos c];exact⟨by simp[h],by show Reps K H (y::fs.map _) _;rw[a1f];exact⟨u,_,rfl,ry,b⟩⟩
  ·rw[if_neg c,if_neg c];exact⟨by simp[a.1],by show Reps K H (x::(putQ f y fs).map _) _;rw[a1f];exact⟨v,_,rfl,d,a.2⟩⟩
end
section
variable {X:Cx}{C f:Addr}{fd:jZ}{ps:List Str}{sp:P3}{k:Nat}{a m x:Str}{p pos pos' tpos apos:Pos}{e o value:Expr}{es:List Expr}{te to:E3}{t:A3}
def uFld (C:Addr) (te:E3) (a:Str):E3:=fun σ G R=>te σ G λx G1=>∃ q dx fs v,x=.ref q/\G1 q=some (.ins C dx fs)/\fs.lookup a=some v/\R v G1
theorem a8z (hc:Cls X.K C) (hn:NoAttr X.K C a) (he:QE X e te) (hb:kR e a X.env (eval e X.env)=eval e X.env:=by rfl):QE X (.Attribute e a pos) (uFld C te a):=⟨a1s (b6T he.p hb) fun τ H Q x=>x.un fun σ G R s t h k=>
 ⟨σ,G,_,s,t,h,λw D v B ⟨q,r,E,z,i,A,j,d⟩ c b l=>by
  subst i;obtain⟨u,m,g,y⟩:=b _ _ A;obtain⟨o,f,n⟩:=(a3O g y).2 _ j;exact⟨q,C,r,u,o,c,m,hc,hn,f,k _ _ _ _ d n b l⟩⟩⟩
def b1Z (C:Addr) (to te:E3) (a:Str):X3:=λnx _ _ _ σ G=>te σ G λy G1=>to σ G1 λx G2=>∃ q dx fs,x=.ref q/\G2 q=some (.ins C dx fs)/\fs.length<1000/\nx σ (put G2 q (.ins C dx (putQ a y fs)))
theorem b8k (hc:Cls X.K C) (hn:NoAttr X.K C a) (ho:QE X o to) (hv:QE X value te) (hs:kD value (some (.Attribute o a pos')) pos.line X.env=pure false:=by rfl):QS X (.Assign [.Attribute o a pos'] value pos) (b1Z C to te a):=⟨a4E (b6U ho.p hv.p hs) λD τ H J=>J.un fun σ G nx rt bk ct hs x h F u2 u3 u4=>
 ⟨σ,G,_,hs,x,h,λy A u H1 E t r e=>⟨σ,A,_,hs.mono e,r,E,λw G2 v i ⟨q,j,fs,z,ea,hl,B⟩ k d g=>by
  subst z;obtain⟨n,l,m,I⟩:=d _ _ ea;have b:TK X.K i (L2.upd i q (.ins C j (putF a u n))):=.ins l;have s:=a8y (f:=a) (t.mono g) m I;exact⟨q,C,j,n,k,l,hc,hn,by have:=congrArg eF m;simp at this;omega,F _ _ _ _ B (hs.mono ((e.trans g).trans b)) (d.set b ⟨_,a0A,s.1,s.2.mono b⟩) ((e.trans g).trans b)⟩⟩⟩⟩
def b10 (C:Addr) (to te:E3) (r:R3) (a:Str):X3:=λnx _ _ _ σ G=>to σ G λx G1=>∃ q dx fs v,x=.ref q/\G1 q=some (.ins C dx fs)/\fs.lookup a=some v/\te σ G1 λy G2=>r v y G2 λz G3=>∃ dx' fs',G3 q=some (.ins C dx' fs')/\fs'.length<1000/\nx σ (put G3 q (.ins C dx' (putQ a z fs')))
theorem b3C (hc:Cls X.K C) (hn:NoAttr X.K C a) (ho:QE X o to) (hv:QE X value te) (hop:OpQ X (lZ op) r):QS X (.AugAssign (.Attribute o a tpos) op value pos) (b10 C to te r a):=⟨a4E (b0T ho.p hv.p hop) λD τ H hx=>hx.un fun σ G nx rt bk ct j Q h u1 u2 u3 u4=>
 ⟨σ,G,_,j,Q,h,λw R v H1 ⟨q,I,fs,z,ew,J,S,hq⟩ l e s=>by
  subst ew;obtain⟨Y,e1,e2,M⟩:=e _ _ J;obtain⟨v',L,r'⟩:=(a3O e2 M).2 _ S;refine⟨q,C,I,Y,v',l,e1,hc,hn,L,σ,R,_,j.mono s,e,hq,λy T u H2 U V t F=>⟨z,y,T,_,r'.mono F,V,t,U,λz2 G3 v3 n ⟨g,fs',x,hl,B⟩ N b W=>?_⟩⟩;obtain⟨c,d,i,m⟩:=b _ _ x;have k:TK X.K n (L2.upd n q (.ins C g (putF a v3 c))):=.ins d;have A:=a8y (f:=a) N i m;have E:=((s.trans F).trans W).trans k;exact⟨g,c,d,by have:=congrArg eF i;simp at this;omega,u1 _ _ _ _ B (j.mono E) (b.set k ⟨_,a0A,A.1,A.2.mono k⟩) E⟩⟩⟩
def b5K (C:Addr) (m:Str) (sp:P3) (to:E3) (t:A3):E3:=fun σ G R=>to σ G λx G1=>∃ q dx fs,x=.ref q/\G1 q=some (.ins C dx fs)/\fs.lookup m=none/\t σ G1 λws G2=>sp (.ref q::ws) G2 R
theorem b3D (h:low X.K (b5K C m sp to t) τ H Q) (h1:o'=low X.K to) (h2:t'=lowA X.K t):b6Y C m (lowP X.K sp) [] E o' t' τ H Q:=by
 subst h1 h2;obtain⟨σ,G,R,f,s,h,D⟩:=h;refine⟨σ,G,_,f,s,h,λw B v H1 ⟨q,r,fs,y,n,A,x⟩ b a e=>?_⟩;subst y;obtain⟨u,g,z,p⟩:=a _ _ n;refine⟨q,r,u,b,g,(a3O z p).1 A,σ,B,_,f.mono e,a,x,λj o k H2 h2 i c l=>?_⟩;exact⟨.ref q::j,o,R,by rw[eO,a1f];exact⟨v,k,rfl,by rw[a0K];exact b,i⟩,c,h2,D.mono (e.trans l)⟩
theorem a9r (ho:QE X o to) (c:Cls X.K C) (hm:Meth X.K C m f) (F:FnOk X.prog X.w X.K X.mg X.base CX0 k f fd ps (lowP X.K sp)) (hr:Room k X.A) (hb:Binds X.K fd ps []) (ha:QA X (e::es) t)
  (hst:jU (e::es) X.env=(false,eval e X.env)::jU es X.env:=by rfl) (hpl:(backTo pos (jU es X.env)).any (·.1)=false:=by rfl)
  (ht:eval (.Call (.Attribute o m apos) (e::es) [] pos) X.env=(do
   let ov <- eval o X.env
   kE apos.atName
   let (f,first) <- kj [ov] (lK ov m pl)
   mF pos f first (backTo pos (jU (e::es) X.env)) (lN pos (lO [] X.env))):=by rfl):QE X (.Call (.Attribute o m apos) (e::es) [] pos) (b5K C m sp to t):=
 ⟨a1s (b0X ho.p c hm F hr hb .nil b5c ha.p hst hpl ht) λ_ _ _ h=>b3D h rfl rfl⟩
def b8l (C:Addr) (sp:P3) (t:A3):E3:=fun σ G R=>t σ G λws G1=>∀ q dx,G1 q=none->sp (.ref q::ws) (put G1 q (.ins C dx [])) λv G2=>v=.non/\R (.ref q) G2
theorem made (h1:∀ q dx,G1 q=none->sp (.ref q::ws) (put G1 q (.ins C dx [])) λv G2=>v=.non/\R (.ref q) G2) (rs:Reps X.K H1 ws vs) (hg1:RH X.K G1 H1) (up:UpV X.K H1 R Q) (q dx:Addr) (n1:H1 q=none) (n2:H1 dx=none) (ne:dx≠q) :
  lowP X.K sp (.ref q::(vs++[])) (L2.upd (L2.upd H1 dx (.own q)) q (.ins C dx [])) (λv H2=>v=.non/\Q (.ref q) H2) E:=by
 have a:L2.upd H1 dx (.own q) q=none:=by rw[a0w (Ne.symm ne)];exact n1
 have d:TK X.K H1 (L2.upd _ q (.ins C dx [])):=(TK.new n2).trans (TK.new a);refine⟨.ref q::ws,put G1 q (.ins C dx []),_,?_,?_,h1 q dx (hg1.out n1),?_⟩
 ·rw[eO,a1f];exact⟨_,vs,rfl,by rw[a0K],rs.mono d⟩
 ·exact (hg1.hid n2).set (TK.new a) ⟨[],a0A,rfl,by rw[eK,a0B];rfl⟩
 ·rintro w h v i ⟨f,g⟩ b c e;subst f;exact⟨b,up _ _ _ _ g (by rw[a0K]) c (d.trans e)⟩
theorem b11 (M:Mk X.K C f) (F:FnOk X.prog X.w X.K X.mg X.base CX0 k f fd ps (lowP X.K sp)) (hr:Room (k+1) X.A) (hg:Gl X x) (hm:X.mg x=some (.ref C)) (hb:Binds X.K fd ps [])
  (hdb:(x==("__debug__":Str))=false:=by decide):QE X (.Call (.Name x p) [] [] pos) (b8l C sp uNil):=
 ⟨a1s (b20 M F hr hg hm hb .nil b5c hdb) fun τ H Q ⟨σ,G,R,hs,hg,h,g⟩ q c d e b=>made h (by rw[a0B]) hg g q c d e b⟩
variable {σ:S3}{G:Hq}{R:K3}{nx bk ct:C3}{rt:K3}{q dx:Addr}{fs:List (Str×Z)}{v:Z}{Ra:List Z->Hq->Prop}
theorem b8m (h:te σ G λx G1=>∃ q dx fs v,x=.ref q/\G1 q=some (.ins C dx fs)/\fs.lookup a=some v/\R v G1):uFld C te a σ G R:=h
theorem b8n (h:te σ G λy G1=>to σ G1 λx G2=>∃ q dx fs,x=.ref q/\G2 q=some (.ins C dx fs)/\fs.length<1000/\nx σ (put G2 q (.ins C dx (putQ a y fs)))):b1Z C to te a nx rt bk ct σ G:=h
theorem b5L (h:to σ G λx G1=>∃ q dx fs,x=.ref q/\G1 q=some (.ins C dx fs)/\fs.lookup m=none/\t σ G1 λws G2=>sp (.ref q::ws) G2 R):b5K C m sp to t σ G R:=h
theorem b5M (h:t σ G λws G1=>∀ q dx,G1 q=none->sp (.ref q::ws) (put G1 q (.ins C dx [])) λv G2=>v=.non/\R (.ref q) G2):b8l C sp t σ G R:=h
theorem b8o (h:to σ G λx G1=>∃ q dx fs v,x=.ref q/\G1 q=some (.ins C dx fs)/\fs.lookup a=some v/\te σ G1 λy G2=>r v y G2 λz G3=>∃ dx' fs',G3 q=some (.ins C dx' fs')/\fs'.length<1000/\nx σ (put G3 q (.ins C dx' (putQ a z fs')))):b10 C to te r a nx rt bk ct σ G:=h
end
end L3
namespace L2
open PySem PySem.Spec PyProof.Rows
section
variable {X:Cx}{pins:List (Addr×Obj)}{σ:St}{H:Hp}{s:Shared}{a:Addr}{kvs:List (Key×V)}{k:Key}{d:V}{u r:Value}{A:Around}{E:Value->Shared->Prop}
theorem b8p (I:Inv X pins σ H s) (e:H a=some (.dK kvs)) (ry:RelV (kV k) u) (rd:RelV d r) (hz:kvs.length<jS)
  (h1:∀ v w' s',valV kvs k=some v->Inv X pins σ H s'->RelV v w'->Q w' s') (h2:valV kvs k=none->∀ s',Inv X pins σ (upd H a (.dK (putK kvs k d))) s'->Q r s') :
  wpAny (model X.prog X.w) A (call (.builtin "dict.setdefault") [.ref a,u,r]) Q E s:=by
 obtain⟨z,f,n,b,h⟩:=b67 I.hok e;have l:(putK kvs k d).length≤sizeLine:=by have:=a49 kvs k d;omega
 refine mJ PySem.F.slot_dict_setdefault h.typeIs PySem.F.entry_dict_setdefault (PySem.F.args_dict_setdefault_3 _ _ _) (kt_meets_setdefault _ a (b05 ry) f r) ⟨n,h,by rw[<- b.length];exact z,λm i=>?_,λx p c o=>?_⟩
 ·cases hv:valV kvs k with
  | none=>
   have:=(b.val k).isSome_eq
   rw[hv,i]at this;cases this
  | some v=>
   have g:=b.val k;rw[hv,i]at g;exact h1 v m _ hv (I.tok _) g
 ·have j:valV kvs k=none:=by
   have:=(b.val k).isSome_eq
   rw[x]at this;cases hv:valV kvs k with
   | none=>rfl
   | some v=>rw[hv]at this;cases this
  have t:∃ q,p.get? a=some q:=let ⟨q,_,_,hq,_⟩:=c;⟨q,hq⟩
  exact h2 j _ (b5e I (by rw[e];exact True.intro) o t (b68 l f (b.put k rd) c))
end
section
variable {X:Cx}
theorem b5N (hu:X.A.units+66<cLine):MtR X "dict.get" (λx vs H Q=>∃ a y d o,x=.ref a/\vs=[y,d]/\DGet H a y o/\Q (o.getD d) H):=by
 intro f s σ H x m v t Q I c k ⟨a,y,d,o,h,e,g,q⟩;subst h e;cases c;obtain⟨u,r,rfl,j,l⟩:=a9U k;exact b7b (by omega) I g j l λn p i b=>⟨_,H,i,b,q⟩
theorem b5O:MtR X "dict.setdefault" (λx vs H Q=>∃ a kvs k d,x=.ref a/\vs=[kV k,d]/\H a=some (.dK kvs)/\kvs.length<jS/\(∀ v,valV kvs k=some v->Q v H)/\(valV kvs k=none->Q d (upd H a (.dK (putK kvs k d))))):=by
 intro m s σ H x z v B Q I i p ⟨a,y,k,d,n,j,e,q,g,t⟩;subst n j;cases i;obtain⟨u,r,rfl,o,f⟩:=a9U p;exact b8p I e o f q (λv A w l b c=>⟨v,H,b,c,g v l⟩) λh w b=>⟨d,_,b,f,t h⟩
end
end L2
namespace L3
open PySem PySem.Spec PyProof.Rows L2
noncomputable def valZ (kvs:List (Key×Z)) (k:Key):Option Z:=(kvs.find? λkv=>decide (kv.1=k)).map (·.2)
theorem a2B {K:Fg}:∀ {kvs:List (Key×Z)}{us:List (Key×V)},us.map (·.1)=kvs.map (·.1)->Reps K H (kvs.map (·.2)) (us.map (·.2))->(valZ kvs k=none->valV us k=none)/\∀ z,valZ kvs k=some z->∃ v,valV us k=some v/\Rep K H z v
 | [],[],_,_=>⟨λ_=>rfl,λ_ h=>by cases h⟩
 | [],_::_,h,_=>by simp at h
 | _::_,[],h,_=>by simp at h
 | (c,x)::fs,(c',v)::gs,h,r=>by
  simp at h;obtain⟨rfl,h⟩:=h;obtain⟨g,f,e,d,a⟩:=r;obtain⟨rfl,rfl⟩:=fN.inj e;have b:=a2B (k:=k) h a;unfold valZ valV;rw[fi,fi];cases q:decide (c'=k) with
  | true=>
   refine⟨λe=>?_,λz e=>?_⟩
   ·cases e
   ·cases e;exact⟨v,rfl,d⟩
  | false=>exact b
section
variable {X:Cx}
def b5P:Z->List Z->Hq->K3->Prop:=λx xs G R=>match x,xs with
 | .ref p,[y,d]=>∃ kvs k,(G p=some (.dK kvs)\/G p=some (.dF kvs))/\keyZ y=some k/\R ((valZ kvs k).getD d) G
 | _,_=>False
theorem b4y (hu:X.A.units+66<cLine):MtQ X "dict.get" b5P:=a8g (b5N hu) λx E H Q m=>m.un λw B G R j s i h l=>by
 match w,B,h with
 | .ref p,[y,d],h=>
  obtain⟨v,q,rfl,t,o⟩:=s.two;obtain⟨g,k,e,D,h⟩:=h;obtain⟨a,f,c,b⟩:∃ a,Rd H p (.dK a)/\a.map _=g.map _/\Reps X.K H _ (a.map _):=by
   rcases e with e | e
   ·obtain⟨a,f,c,b⟩:=i _ _ e;exact⟨a,.inl f,c,b⟩
   ·obtain⟨C,a,f,c,b⟩:=i _ _ e;exact⟨a,.inr ⟨C,f⟩,c,b⟩
  refine⟨p,v,q,valV a k,j,rfl,by rw[a6I D t];exact .inl ⟨a,k,f,rfl,rfl⟩,?_⟩;cases hz:valZ g k with
  | none=>
   rw[hz]at h;rw[(a2B c b).1 hz];exact l _ _ _ _ h o i (.refl _ _)
  | some z=>
   rw[hz]at h;obtain⟨u,r,n⟩:=(a2B c b).2 z hz;rw[r];exact l _ _ _ _ h n i (.refl _ _)
def b8q:Z->List Z->Hq->K3->Prop:=λx xs G R=>match x,xs with
 | .ref p,[y,d]=>∃ kvs k,G p=some (.dK kvs)/\keyZ y=some k/\kvs.length<jS/\(∀ z,valZ kvs k=some z->R z G)/\(valZ kvs k=none->R d (put G p (.dK (putZ kvs k d))))
 | _,_=>False
theorem a4A:MtQ X "dict.setdefault" b8q:=a8g b5O λx M H Q C=>C.un λw t G R i F l h r=>by
 match w,t,h with
 | .ref p,[y,d],h=>
  obtain⟨v,E,rfl,B,q⟩:=F.two;obtain⟨b,k,e,L,A,s,J⟩:=h;obtain⟨D,c,f,g⟩:=l _ _ e;refine⟨p,D,k,E,i,by rw[a6I L B],c,by rw[b5I f];exact A,λu a=>?_,λa=>?_⟩
  ·cases hq:valZ b k with
   | none=>rw[(a2B f g).1 hq]at a;cases a
   | some z=>
    obtain⟨I,j,m⟩:=(a2B f g).2 z hq;rw[j]at a;cases a;exact r _ _ _ _ (s z hq) m l (.refl _ _)
  ·cases hq:valZ b k with
   | some z=>
    obtain⟨I,j,m⟩:=(a2B f g).2 z hq;rw[j]at a;cases a
   | none=>
    have n:=a9q (k:=k) q f g;exact r _ _ _ _ (J hq) (q.mono (.dK c)) (l.set (.dK c) ⟨_,a0A,n.1,n.2.mono (.dK c)⟩) (.dK c)
theorem b8r (e:G p=some (.dK kvs)) (a:keyZ y=some k) (h:R ((valZ kvs k).getD d) G):b5P (.ref p) [y,d] G R:=⟨kvs,k,.inl e,a,h⟩
theorem b5Q (e:G p=some (.dK kvs)\/G p=some (.dF kvs)) (a:keyZ y=some k) (h:R ((valZ kvs k).getD d) G):b5P (.ref p) [y,d] G R:=⟨kvs,k,e,a,h⟩
theorem b4z (e:G p=some (.dK kvs)) (a:keyZ y=some k) (z:kvs.length<jS) (h1:∀ z,valZ kvs k=some z->R z G) (h2:valZ kvs k=none->R d (put G p (.dK (putZ kvs k d)))):b8q (.ref p) [y,d] G R:=⟨kvs,k,e,a,z,h1,h2⟩
theorem b5R {P:Prop}(e:G p=some (.dK kvs)) (h:P):tyZ "dict" (.ref p) G/\P:=⟨.inr ⟨rfl,kvs,.inl e⟩,h⟩
theorem c0j {P:Prop}(e:G p=some (.dK kvs)\/G p=some (.dF kvs)) (h:P):tyZ "dict" (.ref p) G/\P:=⟨.inr ⟨rfl,kvs,e⟩,h⟩
end
end L3
namespace L3
open PySem PySem.Spec PyProof.Rows L2
noncomputable def a4B (kvs more:List (Key×Z)):List (Key×Z):=more.foldl (λacc kv=>putZ acc kv.1 kv.2) kvs
def PReps (K:Fg) (H:Hp):List (Z×Z)->List (V×V)->Prop:=Paired λp q=>Rep K H p.1 q.1/\Rep K H p.2 q.2
theorem PReps.mono {K:Fg}(t:TK K H H'):∀ {ps:List (Z×Z)}{vs:List (V×V)},PReps K H ps vs->PReps K H' ps vs
 | _,_,.nil=>.nil
 | _,_,.cons r s=>.cons ⟨r.1.mono t,r.2.mono t⟩ (PReps.mono t s)
section
variable {X:Cx}
end
end L3
namespace L3
theorem ln0 {α:Type}{C:List α->Prop}(h:C []):∀ us:List α,us.length=0->C us
 | [],_=>h
theorem lnS {α:Type}{C:List α->Prop}(h:∀ a,∀ us:List α,us.length=n->C (a::us)):∀ us:List α,us.length=n+1->C us
 | a::us,e=>h a us (Nat.succ.inj e)
end L3
namespace L2
open PySem PySem.Spec PyProof.Rows
section
variable {X:Cx}
noncomputable def setO (X:Cx) (t:Addr) (ms:List Int):HO:=.ext λh=>SetW.SI X.prog X.w h t ms
def b8s (X:Cx):List V->Hp->VK->Prop:=λxs H Q=>∃ (p:Addr) (ns:List Int),xs=[.ref p]/\SqL X.K H p (ns.map V.int)/\ns.length≤1000 /\
 ∀ (t:Addr) (ms:List Int),H t=none->SetW.Met (λi=>ns.getD i 0) ns.length ms->Q (.ref t) (upd H t (setO X t ms))
theorem b0h (hc:X.calm=true):CallR X (.type "set") (b8s X):=by
 intro a s σ H D E Q I r h;obtain⟨p,v,rfl,t,B,q⟩:=h;obtain⟨u,rfl,A⟩:=a20 r;cases A;obtain⟨f,m,n,_⟩:=I.list t;have j:=a5W m;have z:=a4X j;have C:1001<scanBound:=by decide
 have i:f.toArray.size=v.length:=by grind
 refine SetW.call_set (I.ok.hd hc) n.isList (by omega) (by grind) λg d c S M k=>?_;rw[i]at M;have l:=
  I.laid (t':=d) (λb o e=>k b o (Heap.lt_size e) e) (dM _) (show ObjOk X.prog X.w _ g _ (setO X s.heap.objs.size c) from ⟨S,let ⟨_,_,_,S'⟩:=S;let ⟨o,e,_⟩:=S'.at_;⟨o,e⟩,λ_ _ x y=>x.at y⟩)
 exact⟨.ref s.heap.objs.size,_,l,rfl,q _ c (I.hok.fresh (dM _)) M⟩
def b3E (X:Cx):List V->Hp->VK->Prop:=λxs H Q=>∃ (p:Addr) (ms:List Int),xs=[.ref p]/\H p=some (setO X p ms)/\ms.length≤1000 /\
 ∀ (t:Addr) (ks:List Int),H t=none->ks.Perm ms->ks.Pairwise (·≤·)->Q (.ref t) (upd H t (.lst (ks.map V.int)))
theorem a7D (hc:X.calm=true):CallR X (.builtin "sorted") (b3E X):=by
 intro c s σ H xs us Q I r h;obtain⟨p,ns,rfl,t,m,q⟩:=h;obtain⟨u,rfl,x⟩:=a20 r;cases x;have D:=I.ok.hd hc;have S:=(I.hok p _ t).1;refine a7C m (λR E=>SetW.collect_set D S λg a d o y v J C=>E g a d o y v J C) λg G a d j n i l z e F k B=>?_;have f:Inv X c σ H { s with heap:=g,drawn:=d,toks:=a }:=(I.drew d).kept l;exact⟨.ref g.objs.size,_,f.laid z (dM _) (show ObjOk X.prog X.w _ G _ (.lst _) from ⟨by rw[dJ,k.length_eq,kf];omega,j,n,a5m F,e⟩),rfl,q _ i (f.hok.fresh (dM _)) k B⟩
end
end L2
namespace L3
open PySem PySem.Spec PyProof.Rows L2
theorem b5S {ns ms:List Int}(h:SetW.Met (λi=>ns.getD i 0) ns.length ms):∀ x,x∈ms↔x∈ns:=λx=>by
 rw[h.2.2 x]
 constructor
 ·rintro⟨j,a,e⟩;have e:ns.getD j 0=x:=e;rw[ie,en a]at e;exact e▸fB a
 ·intro b;obtain⟨j,a,e⟩:=jg.mp b;exact⟨j,a,by show ns.getD j 0=x;rw[ie,en a];exact e⟩
theorem a7E:∀ {ks:List Int},ks.Nodup->ks.Pairwise (·≤·)->ks.Pairwise (·<·)
 | [],_,_=>.nil
 | k::ks,h1,h2=>by
  obtain⟨b,c⟩:=eQ.mp h1;obtain⟨f,d⟩:=et.mp h2;refine et.mpr ⟨λx a=>?_,a7E c d⟩;have h:=f x a;have g:k≠x:=λe=>b (e▸a);omega
section
variable {X:Cx}{e:Expr}{es:List Expr}{t:A3}{x y:Str}{p p2 pos pos2:Pos}
def uSS (t:A3):E3:=fun σ G R=>t σ G λws G1=>∃ (p:Addr) (ns:List Int),ws=[.ref p]/\G1 p=some (.lst (ns.map Z.int))/\ns.length≤1000 /\
 ∀ (t:Addr) (ks:List Int),G1 t=none->ks.Pairwise (·<·)->(∀ x,x∈ks↔x∈ns)->ks.length≤ns.length->R (.ref t) (put G1 t (.lst (ks.map Z.int)))
theorem q_ss (hc:X.calm=true) (hg:Gl X x) (hm:X.mg x=none) (hv:kC x=some (.builtin "sorted")) (hg2:Gl X y) (hm2:X.mg y=none) (hv2:kC y=some (.type "set")) (ha:QA X (e::es) t)
  (he:jU (e::es) X.env=(false,eval e X.env)::jU es X.env) (hpl:(backTo pos2 (jU es X.env)).any (·.1)=false)
  (hn:x≠"__name__":=by decide) (hdb:(x==("__debug__":Str))=false:=by decide) (hn2:y≠"__name__":=by decide) (hdb2:(y==("__debug__":Str))=false:=by decide) :
  QE X (.Call (.Name x p) [.Call (.Name y p2) (e::es) [] pos2] [] pos) (uSS t):=⟨a1s (a81 (a7D hc) hg hm hv (b0V (a7f (b0h hc) hg2 hm2 hv2 ha.p hn2 hdb2 he hpl) b4c rfl) hn hdb rfl rfl) fun τ H Q n=>n.un fun σ G R hs hg h s=>
 ⟨σ,G,_,hs,hg,h,λws G1 vs H1 f rs c w=>by
  obtain⟨p,B,rfl,A,z,f⟩:=f;obtain⟨v,rfl,r⟩:=rs.one;obtain⟨vs',o,k⟩:=c _ _ A
  have:=a5b k
  subst this;refine⟨p,B,by rw[r],SqL.of o,z,λa j ha M=>⟨a,j,rfl,a0A,dW M.2.1 z,λu q b g m=>?_⟩⟩;have l:=c.hid (u:=setO X a j) ha;exact s _ _ _ _ (f u q (l.out b) (a7E (g.nodup_iff.mpr M.1) m) (λx=>by rw[g.mem_iff];exact b5S M x) (by rw[g.length_eq];exact M.2.1)) (by rw[a0K]) (l.set (.new b) (a1i (a2i _) (.new b))) (w.trans ((TK.new ha).trans (.new b)))⟩⟩
end
end L3
namespace L3
open PySem PySem.Spec PyProof.Rows L2
section
variable {X:Cx}
end
end L3
namespace L2
open PySem PySem.Spec PyProof.Rows
section
variable {X:Cx}
theorem b0i:CallR X (.type "str") (λxs H Q=>(∃ i:Int,xs=[.int i]/\i.natAbs.log2<1920/\Q (.str (Str.ofString (toString i))) H)\/∃ x,xs=[.str x]/\Q (.str x) H):=by
 intro b s σ H c d Q I r h;rcases h with ⟨i,rfl,hi,q⟩ | ⟨x,rfl,q⟩
 ·obtain⟨u,rfl,a⟩:=a20 r;obtain⟨t,rfl⟩:=a;exact PySem.P.str_of_int hi ⟨.str _,H,I.tok _,⟨_,rfl⟩,q⟩
 ·obtain⟨u,rfl,a⟩:=a20 r;obtain⟨t,rfl⟩:=a;exact PySem.P.str_of_str ⟨.str _,H,I,⟨_,rfl⟩,q⟩
theorem b0j:CallR X (.type "int") (λxs H Q=>∃ (x:Str) (n:Int),xs=[.str x]/\intText? x=some n/\x.length≤640/\Q (.int n) H):=by
 intro d s σ H e f Q I r h;obtain⟨x,n,rfl,b,a,q⟩:=h;obtain⟨u,rfl,c⟩:=a20 r;obtain⟨t,rfl⟩:=c;exact PySem.W.KIN.call_text b a ⟨.int n,H,I.tok _,⟨_,rfl⟩,q⟩
def KD (X:Cx) (a:Addr) (kvs:List (Key×V)):Prop:=kvs.length≤jS/\(a==kB)=false/\∃ vs,KV kvs vs/\∀ h:Heap,X.K.In h->h.DictOf (a0Q X.prog X.w) a vs
end
end L2
namespace L3
open PySem PySem.Spec PyProof.Rows L2
section
variable {X:Cx}
theorem a3P (h:PE X e (tC (.ref a))):QE X e (uC (.ref a)):=a8h h λ_=>by rw[a0K]
theorem a1O (hg:Gl X x) (hm:X.mg x=some (.ref a)) (hd:(x==("__debug__":Str))=false:=by decide):PE X (.Name x pos) (tC (.ref a)):=b0F hg hm rfl hd
def zStr:List Z->Hq->K3->Prop:=λxs G R=>match xs with
 | [.int i]=>i.natAbs.log2<1920/\R (.str (Str.ofString (toString i))) G
 | [.str x]=>R (.str x) G
 | _=>False
theorem b_str:a2U X (.type "str") zStr:=a1g b0i λf H Q d=>d.un λe G R a b h c=>by
 match e,h with
 | [.int i],h=>
  obtain⟨v,rfl,r⟩:=a.one;exact .inl ⟨i,by rw[r],h.1,c _ _ _ _ h.2 (by rw[a0L]) b (.refl _ _)⟩
 | [.str x],h=>
  obtain⟨v,rfl,r⟩:=a.one;exact .inr ⟨x,by rw[r],c _ _ _ _ h (by rw[a0L]) b (.refl _ _)⟩
def c0k:List Z->Hq->K3->Prop:=λxs G R=>match xs with
 | [.str x]=>∃ n,intText? x=some n/\x.length≤640/\R (.int n) G
 | _=>False
theorem b_int:a2U X (.type "int") c0k:=a1g b0j λi H Q f=>f.un λc G R e b h a=>by
 match c,h with
 | [.str x],h=>
  obtain⟨v,rfl,r⟩:=e.one;obtain⟨n,g,d,h⟩:=h;exact⟨x,n,by rw[r],g,d,a _ _ _ _ h (by rw[a0v]) b (.refl _ _)⟩
def b8t:List Z->Hq->K3->Prop:=λxs G R=>match xs with
 | [.ref p]=>∃ ws,G p=some (.lst ws)/\R (.tup ws) G
 | _=>False
theorem b_tuple:a2U X (.type "tuple") b8t:=a1g a6r λl H Q f=>f.un λk G R j b h g=>by
 match k,h with
 | [.ref p],h=>
  obtain⟨v,rfl,r⟩:=j.one;obtain⟨m,e,h⟩:=h;obtain⟨d,i,c⟩:=b _ _ e;exact⟨p,d,by rw[r],.inl ⟨SqL.of i,λt a=>g _ _ _ _ h (by rw[a2a];exact⟨t,d,rfl,a0A,c.mono (.new a)⟩) (b.hid a) (.new a)⟩⟩
noncomputable def zV:Z->V
 | .str x=>.str x
 | .ref a=>.ref a
 | .int i=>.int i
 | _=>.non
noncomputable def b8u:Z->Bool
 | .str _=>true
 | .ref _=>true
 | .int _=>true
 | _=>false
def KDZ (X:Cx) (a:Addr) (kvs:List (Key×Z)):Prop:=(∀ kv∈kvs,b8u kv.2=true)/\KD X a (kvs.map λkv=>(kv.1,zV kv.2))
def KTup (K:Fg) (a:Addr) (ss:List Str):Prop:=∃ (o:Obj) (its:Array Value) (n:Nat),K.lookup a=some o/\o.cls=.type "tuple"/\o.data=.seq its n/\its.size≤jS/\Vals (ss.map V.str) its.toList
theorem KTup.sq {K:Fg}(h:KTup K a ss):SqT K H a (ss.map V.str):=.inr h
variable {t:A3}
end
end L3
namespace L3
open PySem PySem.Spec PyProof.Rows L2
def KDk (w:World) (K:Fg) (a:Addr) (kvs:List (Key×Z)):Prop:=(∀ kv∈kvs,b8u kv.2=true)/\kvs.length≤jS/\(a==kB)=false/\∃ vs:List (Key×Value),KV (kvs.map λkv=>(kv.1,zV kv.2)) vs/\∀ (P:jY) (h:Heap),K.In h->h.DictOf (a0Q P w) a vs
theorem KDk.at (h:KDk X.w X.K a kvs):KDZ X a kvs:=⟨h.1,by rw[dJ];exact h.2.1,h.2.2.1,let ⟨vs,r,q⟩:=h.2.2.2;⟨vs,r,q X.prog⟩⟩
end L3
namespace L2
open PySem PySem.W
theorem b8v (ea:hasDictIn K D=true) (eb:findIn K (.ref D) "__getattribute__"=some (some (.builtin "BaseException.__getattribute__"))) (ec:findIn K (.ref D) "__getattr__"=some none) (ed:findIn K (.ref D) "__class__"=some (some (.builtin "object.__class__")))
  (ee:specialIn K (.builtin "object.__class__") "__get__"=some (some (.builtin "getset_descriptor.__get__"))) (ef:takesIn K (.builtin "object.__class__")=some true) (eg:mroIn K D (.type "object")=some true) (eh:mroIn K D (.type "BaseException")=some true):ExK K D:=
 ⟨by obtain⟨b,a,_⟩:=any_some ea;rw[a];rfl,eb,ec,ed,ee,ef,eg,eh⟩
theorem b8w (xb:subIn K (.ref D) (.type "BaseException")=some true) (xt:typeIn K (.ref D)=some (.type "type")) (xs:subIn K (.ref C) (.ref D)=some true) (xh:hasDictIn K D=true):exmOne K (.ref C) (.ref D)=some true:=by
 obtain⟨b,a,_⟩:=any_some xh;unfold exmOne;rw[if_pos (by simp_all)]
 show (if _=true then subIn K _ _ else none)=some true
 rw[if_pos (by simp_all)];exact xs
end L2
namespace L2
open PySem PySem.Spec PyProof.Rows
section
variable {X:Cx}{e:Addr}{oe:Obj}{C:Addr}
def rIsX (K:Fg) (C e:Addr):List V->Hp->VK->Prop:=λxs H Q=>∃ y b,xs=[.ref e,y]/\((∃ D,y=.ref D/\PySem.W.kitOne K (.ref C) (.ref D)=some b)\/(∃ T,y=.ty T/\PySem.W.kitOne K (.ref C) (.type T)=some b) \/
 ∃ (p:Addr) (ds:List Addr),y=.ref p/\SqT K H p (ds.map V.ref)/\PySem.W.kitAny K (.ref C) (ds.map Value.ref)=some b)/\Q (.bl b) H
theorem b12:∀ {ds:List Addr}{us:List Value},Vals (ds.map V.ref) us->us=ds.map Value.ref
 | [],us,r=>by rw[eK]at r;cases r;rfl
 | T::Ts,us,r=>by
  cases r with
  | cons r1 r2=>rw[b12 r2,r1];rfl
theorem b3F (hc:oe.cls=.ref C) (hd:oe.dict=none) (hn:PySem.W.notCls oe=true) (k:ExK X.K C):CallR (X.hnd e oe) (.builtin "isinstance") (rIsX X.K C e):=by
 intro m s σ H B E Q I r h;obtain⟨y,b,rfl,t,q⟩:=h;obtain⟨u,d,rfl,v,c⟩:=a9U r;cases (v);have J:PySem.W.InstAt s.heap e oe C none:=⟨(I.pin _ (.head _)).1,hc,hn,by rw[hd];exact True.intro⟩;rcases t with ⟨D,rfl,e1⟩ | ⟨T,rfl,e1⟩ | ⟨p,ds,rfl,hq,e1⟩
 ·cases (c);exact PySem.W.kia_one (a6x k) I.kIn J e1 (λz=>nomatch z) λa=>⟨.bl b,H,I.tok a,rfl,q⟩
 ·cases (c);exact PySem.W.kia_one (a6x k) I.kIn J e1 (λz=>nomatch z) λa=>⟨.bl b,H,I.tok a,rfl,q⟩
 ·cases (c);obtain⟨w,i,o,_⟩:=I.tuple hq;have l:=b12 i;subst l;obtain⟨⟨F,A,x,G⟩,j,g,n,f⟩:=o;cases g;cases f;exact PySem.W.kia_tup (a6x k) I.kIn J j e1 (λz=>nomatch z) λa=>⟨.bl b,H,I.tok a,rfl,q⟩
end
end L2
namespace L3
open PySem PySem.Spec PyProof.Rows L2
abbrev PX3:=List Z->Hq->K3->(Addr->Hq->Prop)->Prop
def UpX (K:Fg) (H:Hp) (EE:Addr->Hq->Prop) (E:XK):Prop:=∀ C G H',EE C G->RH K G H'->TK K H H'->E (.ref C) none H'
def a2C (K:Fg) (sp:PX3):Sp:=λvs H Q E=>∃ ws G R EE,Reps K H ws vs/\RH K G H/\sp ws G R EE/\UpV K H R Q/\UpX K H EE E
theorem b8x {K:Fg}(t:TKs H H'):TK K H H':=⟨t.tup,λa b h=>by
 rcases h with ⟨o,h⟩ | h
 ·exact .inl ⟨o,t.frz _ _ _ h⟩
 ·exact .inr h,t.frz⟩
def UpN (K:Fg) (EE:Addr->Hq->Prop) (E:XK):Prop:=∀ C G H',EE C G->RH K G H'->E (.ref C) none H'
theorem UpX.since {K:Fg}(h:UpX K H EE E):UpN K EE (since H E):=λC G a q r t=>h C G a q r (b8x t)
abbrev EE0:Addr->Hq->Prop:=λ_ _=>False
theorem up0 {K:Fg}:UpN K EE0 E0:=λ_ _ _ z _=>z.elim
theorem a5n:a2N (CXx X.prog X.w) X E0:=by simp[a2N,CXx]
section
variable {X:Cx}{E:XK}{EE:Addr->Hq->Prop}{e e0:Expr}{es:List Expr}{x n:Str}{p pos np cpos hpos tpos:Pos}{t:A3}{te:E3}{k:Nat}{f C D:Addr}{fd:jZ}{ps:List Str}{sp:PX3}
def b4A (sp:PX3) (EE:Addr->Hq->Prop) (t:A3):E3:=fun σ G R=>t σ G λws G1=>sp ws G1 R EE
theorem a2D (hp:a2N (CXx X.prog X.w) X E) (hU:UpN X.K EE E) (F:FnOk X.prog X.w X.K X.mg X.base (CXx X.prog X.w) k f fd ps (a2C X.K sp)) (hr:Room k X.A) (hg:Gl X x) (hm:X.mg x=some (.ref f)) (hk:PySem.W.keepIn X.K (.ref f)=true) (hb:Binds X.K fd ps []) (ha:QA X (e::es) t)
  (hdb:(x==("__debug__":Str))=false:=by decide) (he:jU (e::es) X.env=(false,eval e X.env)::jU es X.env:=by rfl) (hpl:(backTo pos (jU es X.env)).any (·.1)=false:=by rfl) :
  QE X (.Call (.Name x p) (e::es) [] pos) (b4A sp EE t):=⟨a1s (b0W F hr hg hm hk hb .nil hp ha.p hdb he hpl) fun τ H Q l=>l.un fun σ G R i hg h n=>⟨σ,G,_,i,hg,h,λo g vs H1 c d b j=>⟨o,g,R,EE,by rw[eO];exact d,b,c,n.mono j,λC G m z r _=>hU C G m z r⟩⟩⟩
def b4B (EE:Addr->Hq->Prop) (C:Addr) (te:E3):X3:=λ_ _ _ _ σ G=>te σ G λ_ G1=>EE C G1
theorem a8A (O:Outs X E) (hU:UpX X.K X.H₀ EE E) (hc:X.calm=true) (hg:Gl X x) (hm:X.mg x=some (.ref C)) (hq:PySem.W.excIn X.K C veM "ValueError.__new__"=true) (he:QE X e0 te)
  (hs:jU [e0] X.env=(false,eval e0 X.env)::jU [] X.env:=by rfl) (hp:(backTo cpos (jU [] X.env)).any (·.1)=false:=by rfl) (hd:(x==("__debug__":Str))=false:=by decide) :
  QS X (.Raise (some (.Call (.Name x np) [e0] [] cpos)) none pos) (b4B EE C te):=⟨a4E (b3h O hc hg hm hq he.p hs hp hd) λD τ H d=>d.un fun σ G nx rt bk ct hs hg h u1 u2 u3 u4=>⟨σ,G,_,hs,hg,h,λw G1 v H1 e rv a t1=>λt=>hU _ _ _ e a (b8x t)⟩⟩
theorem RSt.unset {K:Fg}:∀ {σ:S3}{τ:L2.St},RSt K H σ τ->∀ i:Nat,RSt K H (σ.set i none) (τ.set i none)
 | _,_,.nil,_=>by rw[List.set_nil,List.set_nil];exact .nil
 | _,_,.cons r h,0=>.cons (λ_ z=>nomatch z) h
 | _,_,.cons r h,i+1=>.cons r (RSt.unset h i)
variable {o:Expr}{m:Str}{apos:Pos}{to:E3}{PC:Addr->Prop}
def b4C (C:Addr) (m:Str) (sp:PX3) (EE:Addr->Hq->Prop) (to:E3) (t:A3):E3:=fun σ G R=>to σ G λx G1=>∃ q dx fs,x=.ref q/\G1 q=some (.ins C dx fs)/\fs.lookup m=none/\t σ G1 λws G2=>sp (.ref q::ws) G2 R EE
theorem a5o (hp:a2N (CXx X.prog X.w) X E) (hU:UpN X.K EE E) (ho:QE X o to) (c:Cls X.K C) (hm:Meth X.K C m f) (F:FnOk X.prog X.w X.K X.mg X.base (CXx X.prog X.w) k f fd ps (a2C X.K sp)) (hr:Room k X.A) (hb:Binds X.K fd ps []) (ha:QA X (e::es) t)
  (hst:jU (e::es) X.env=(false,eval e X.env)::jU es X.env:=by rfl) (hpl:(backTo pos (jU es X.env)).any (·.1)=false:=by rfl)
  (ht:eval (.Call (.Attribute o m apos) (e::es) [] pos) X.env=(do
   let ov <- eval o X.env
   kE apos.atName
   let (f,first) <- kj [ov] (lK ov m pl)
   mF pos f first (backTo pos (jU (e::es) X.env)) (lN pos (lO [] X.env))):=by rfl):QE X (.Call (.Attribute o m apos) (e::es) [] pos) (b4C C m sp EE to t):=
 ⟨a1s (b0X ho.p c hm F hr hb .nil hp ha.p hst hpl ht) fun τ H Q D=>D.un fun σ G R i T h M=>by
  refine⟨σ,G,_,i,T,h,λw u v H1 ⟨q,j,fs,L,V,B,n⟩ b a g=>?_⟩;subst L;obtain⟨S,I,N,l⟩:=a _ _ V;refine⟨q,j,S,b,I,(a3O N l).1 B,σ,u,_,i.mono g,a,n,λx J Y H2 W U d s=>?_⟩;exact⟨.ref q::x,J,R,EE,by rw[eO,a1f];exact⟨v,Y,rfl,by rw[a0K];exact b,U⟩,d,W,M.mono (g.trans s),λC G y z r _=>hU C G y z r⟩⟩
def zIsX (K:Fg) (C e:Addr):List Z->Hq->K3->Prop:=λxs G R=>∃ y b,xs=[.ref e,y]/\((∃ D,y=.ref D/\PySem.W.kitOne K (.ref C) (.ref D)=some b)\/(∃ T,y=.ty T/\PySem.W.kitOne K (.ref C) (.type T)=some b) \/
 ∃ ds:List Addr,y=.tup (ds.map Z.ref)/\PySem.W.kitAny K (.ref C) (ds.map Value.ref)=some b)/\R (.bl b) G
theorem a7F {K:Fg}:∀ {bs:List Addr}{vs:List V},Reps K H (bs.map Z.ref) vs->vs=bs.map V.ref
 | [],vs,h=>by rw[eK,a0B]at h;subst h;rfl
 | n::ns,vs,h=>by
  obtain⟨v,r,rfl,a,b⟩:=h;rw[a,a7F b];rfl
theorem b5T {e:Addr}(hc:oe.cls=.ref C) (hd:oe.dict=none) (hn:PySem.W.notCls oe=true) (k:ExK X.K C):a2U (X.hnd e oe) (.builtin "isinstance") (zIsX X.K C e):=a1g (b3F hc hd hn k) λs H Q j=>j.un λn G R d i h m=>by
 obtain⟨y,b,rfl,f,q⟩:=h;obtain⟨v,g,rfl,r,a⟩:=d.two;subst r;refine⟨g,b,rfl,?_,m _ _ _ _ q (by rw[a0U]) i (.refl _ _)⟩;rcases f with ⟨D,rfl,e1⟩ | ⟨T,rfl,e1⟩ | ⟨ds,rfl,e1⟩
 exact .inl ⟨D,a,e1⟩;exact .inr (.inl ⟨T,a,e1⟩)
 ·rw[a2a]at a;obtain⟨p,o,rfl,l,c⟩:=a
  have:=a7F c
  subst this;exact .inr (.inr ⟨p,ds,rfl,SqT.of l,e1⟩)
end
section
variable {X:Cx}{EW:XK}{N':List Str}{sc:Scope}{cap:List (Option Nat)}{tg iter elt:Expr}{ifs:List Expr}{wi:I3}{pt:Pt}{tt:T3}{te:E3}{pos:Pos}
theorem c0l (hE:a4b X EW sc) (hc:X.calm=true) (hNN:X.N=N₀) (hso:X.env.scope=so) (ck:capB N₀ so sc N' cap=true) (hp:(pt.slots.all λj=>decide (cap[j]?=some none))=true) (hi:QI X tg iter wi)
  (hg:∀ C s H fp,QP (cxC X EW N' sc C s H fp) tg pt) (ht:∀ C s H fp,QIfs (cxC X EW N' sc C s H fp) ifs tt) (he:∀ C s H fp,QE (cxC X EW N' sc C s H fp) elt te)
  (hs:∀ x,kK iter X.env x=pure x:=by intro _;rfl):QE X (.ListComp elt [⟨tg,iter,ifs,0⟩] sc pos) (uLC wi cap pt tt te):=⟨a1s (b7d (g:=gP X.K pt) (tt:=lowT X.K tt) hc hE hNN hso ck hi hg ht (λC s H a=>(he C s H a).p) hs) λ_ _ _=>b1u hp⟩
end
section
variable {P:jY}{w:World}{K:Fg}{mg:Str->Option Value}{base:Heap}
theorem fn3x {st:Stmt}(F:Fun K x qual st f fd) (S:FnScope N ps (a0i st)) (len:∀ ws G R EE,sp ws G R EE->ws.length=ps.length)
  (hbody:∀ (cdv:Value) (A:Around) (outer:List Env) (s:Shared) (H:Hp) (E:XK) (ws:List Z) (G:Hq) (R:K3) (EE:Addr->Hq->Prop),Room k (A.deeper (envOfC qual (a0i st) s.heap.objs.size f cdv))->sp ws G R EE->UpX K H EE E ->
   ∃ t,QSs (cxOf (CXx P w) P w K mg base N qual (a0i st) f cdv A outer s H E) (a18 st) t/\t (λ_ G'=>R .non G') R (λ_ _=>False) (λ_ _=>False) (a4y N ws) G):FnOk P w K mg base (CXx P w) (k+1) f fd ps (a2C K sp):=by
 obtain⟨I,T,U,C,M,V,m,L,z,rfl,n,g⟩:=F.ex;refine b6Z n g S (λo H Q E ⟨b,G,R,e,c,j,h,d,l⟩=>by rw[<- c.length];exact len _ _ _ _ h) ?_;rintro A a s H o Q E r ⟨b,G,R,e,c,j,h,d,l⟩;obtain⟨t,v,q⟩:=hbody m A a s H E b G R e r h l;exact⟨_,v.p,a4y N b,G,_,R,_,_,.start c,j,q,fun σ' J τ' D u B i y=>d _ _ _ _ u (by rw[a0V]) i y,d,λ_ _ _ _ h _ _ _=>h.elim,λ_ _ _ _ h _ _ _=>h.elim⟩
end
end L3
namespace L3
open PySem PySem.Spec PyProof.Rows L2
mutual
def DZ (G:Hq):PyData->Z->Prop
 | .none,x=>x=.non
 | .bool b,x=>x=.bl b
 | .int i,x=>x=.int i
 | .str s,x=>x=.str s
 | .list ds,x=>∃ p ws,x=.ref p/\G p=some (.lst ws)/\DZs G ds ws
 | .tuple ds,x=>∃ ws,x=.tup ws/\DZs G ds ws
 | .dict _,_=>False
def DZs (G:Hq):List PyData->List Z->Prop
 | [],ws=>ws=[]
 | d::ds,ws=>∃ w r,ws=w::r/\DZ G d w/\DZs G ds r
end
mutual
theorem DZ.sm {G G':Hq}(s:Sm G G'):∀ {d:PyData}{w:Z},DZ G d w->DZ G' d w
 | .none,w,q=>by unfold DZ at q ⊢;exact q
 | .bool b,w,q=>by unfold DZ at q ⊢;exact q
 | .int i,w,q=>by unfold DZ at q ⊢;exact q
 | .str _,w,q=>by unfold DZ at q ⊢;exact q
 | .list ds,w,q=>by
  unfold DZ at q ⊢;obtain⟨p,ws,e,hp,q⟩:=q;exact⟨p,ws,e,s _ _ hp,DZs.sm s q⟩
 | .tuple ds,w,q=>by
  unfold DZ at q ⊢;obtain⟨ws,e,q⟩:=q;exact⟨ws,e,DZs.sm s q⟩
 | .dict _,w,q=>by unfold DZ at q;exact q.elim
theorem DZs.sm {G G':Hq}(s:Sm G G'):∀ {ds:List PyData}{ws:List Z},DZs G ds ws->DZs G' ds ws
 | [],ws,q=>by unfold DZs at q ⊢;exact q
 | d::ds,ws,q=>by
  unfold DZs at q ⊢;obtain⟨w,r,e,q1,q2⟩:=q;exact⟨w,r,e,DZ.sm s q1,DZs.sm s q2⟩
end
section
variable {X:Cx}
end
def b8y:List Z->Hq->K3->Prop:=λxs G R=>match xs with
 | [.bl b]=>R (.int (if b then 1 else 0)) G
 | _=>False
end L3
namespace L2
open PySem PySem.Spec PyProof.Rows
theorem b13:CallR X (.type "int") (λxs H Q=>∃ b:Bool,xs=[.bl b]/\Q (.int (if b then 1 else 0)) H):=by
 intro c s σ H e d Q I r h;obtain⟨b,rfl,q⟩:=h;obtain⟨u,rfl,a⟩:=a20 r;cases (a);exact PySem.call_int_bool ⟨.int _,H,I.tok _,⟨_,rfl⟩,q⟩
end L2
namespace L3
open PySem PySem.Spec PyProof.Rows L2
theorem b8z:a2U X (.type "int") b8y:=a1g b13 λg H Q d=>d.un λc G R a f h e=>by
 match c,h with
 | [.bl b],h=>
  obtain⟨v,rfl,r⟩:=a.one;exact⟨b,by rw[r],e _ _ _ _ h (by rw[a0v]) f (.refl _ _)⟩
theorem b8A (h:R (.int (if b then 1 else 0)) G):b8y [.bl b] G R:=h
section
variable {X:Cx}{E:XK}{e:Expr}{es:List Expr}{x n:Str}{p pos np hpos tpos:Pos}{t:A3}{k:Nat}{f D:Addr}{fd:jZ}{ps:List Str}{sp:PX3}
def b8B (PC:Addr->Prop) (i:Nat) (sp:PX3) (t:A3) (th:Addr->Addr->X3):X3:=λnx rt bk ct σ G=>t σ G λws G1=>sp ws G1 (λ_ G2=>nx σ G2) λC' G2=>PC C'/\∀ e,th C' e (fun σ' G'=>nx (σ'.set i none) G') rt (fun σ' G'=>bk (σ'.set i none) G') (fun σ' G'=>ct (σ'.set i none) G') (σ.set i (some (.ref e))) G2
theorem b8C (PC:Addr->Prop) (hst:X.stack=X.env::X.outer) (hex:X.ex=[]) (hfm:X.env.frame=some X.env.locals)
  (F:FnOk X.prog X.w X.K X.mg X.base (CXx X.prog X.w) k f fd ps (a2C X.K sp)) (hr:Room k X.A) (hgf:Gl X y) (hmf:X.mg y=some (.ref f)) (hk:PySem.W.keepIn X.K (.ref f)=true) (hb:Binds X.K fd ps []) (ha:QA X.nox (e::es) t)
  (hg:Gl X x) (hm:X.mg x=some (.ref D)) (hD:∀ C,PC C->PySem.W.exmOne X.K (.ref C) (.ref D)=some true) (hN:X.N.Nodup) (hi:X.N[i]?=some n) (hl:X.env.scope.names.lookup n=some .local)
  (hh:∀ C e oe,PC C->oe.cls=.ref C->oe.dict=none->PySem.W.notCls oe=true->QSs (X.hnd e oe) (b₀::suite) (th C e))
  (he:jU (e::es) X.env=(false,eval e X.env)::jU es X.env:=by rfl) (hpl:(backTo cp (jU es X.env)).any (·.1)=false:=by rfl) (hdb:(y==("__debug__":Str))=false:=by decide)
  (hs:kD (.Call (.Name y p) (e::es) [] cp) none pos.line X.env=pure false:=by rfl) (hd:(x==("__debug__":Str))=false:=by decide) :
  QS X (.Try [.Expr (.Call (.Name y p) (e::es) [] cp) pos] [.ExceptHandler (some (.Name x np)) (some n) (b₀::suite) hpos] [] [] tpos) (b8B PC i sp t th):=
 ⟨a4E (b7j (PC:=PC) (th:=λC e=>lowS X.K (th C e)) (np:=np) hst hex hfm (b5g F hr hgf hmf hk hb ha.p hdb he hpl) hg hm hD hN hi hl (λC e oe z h1 a h3=>(hh C e oe z h1 a h3).p) hs hd) λD τ H hx=>hx.un fun σ G nx rt bk ct hs hg h u1 u2 u3 u4=>by
  refine⟨λc _ H'=>∃ l G',c=.ref l/\(PC l/\∀ e,th l e (fun σ' G'=>nx (σ'.set i none) G') rt (fun σ' G'=>bk (σ'.set i none) G') (fun σ' G'=>ct (σ'.set i none) G') (σ.set i (some (.ref e))) G')/\RH X.K G' H'/\TK X.K H H',?_,?_⟩
  ·exact⟨σ,G,_,hs,hg,h,λws G1 vs H1 h1 rs hg1 t1=>⟨ws,G1,_,_,by rw[eO];exact rs,hg1,h1,λw m v o a _ b g=>u1 _ _ _ _ a (hs.mono (t1.trans g)) b (t1.trans g),λl m o a r2 g=>⟨l,m,rfl,a,r2,t1.trans g⟩⟩⟩
  ·rintro c H' ⟨l,G',rfl,⟨hC',hth⟩,hg',t'⟩;refine⟨l,rfl,hC',λe _=>⟨σ.set i (some (.ref e)),G',_,_,_,_,(hs.mono t').set (by rw[a0K]) i,hg',hth e,?_,u2.mono t',?_,?_⟩⟩
   ·exact fun σ2 m τ2 o a j b g=>u1 _ _ _ _ a (RSt.unset j i) b (t'.trans g)
   ·exact fun σ2 m τ2 o a j b g=>u3 _ _ _ _ a (RSt.unset j i) b (t'.trans g)
   ·exact fun σ2 m τ2 o a j b g=>u4 _ _ _ _ a (RSt.unset j i) b (t'.trans g)⟩
theorem b8D {PC:Addr->Prop}(h:t σ G λws G1=>sp ws G1 (λ_ G2=>nx σ G2) λC' G2=>PC C'/\∀ e,th C' e (fun σ' G'=>nx (σ'.set i none) G') rt (fun σ' G'=>bk (σ'.set i none) G') (fun σ' G'=>ct (σ'.set i none) G') (σ.set i (some (.ref e))) G2):b8B PC i sp t th nx rt bk ct σ G:=h
end
end L3
namespace L2
open PySem PySem.Spec PyProof.Rows
noncomputable def ItD (o:Obj) (a:Addr) (kvs:List (Key×V)):It:=
 ⟨λi H=>H a=some (.frz o (.dK kvs))/\i<kvs.length,λi H x H'=>H'=H/\∃ p,kvs[i]?=some p/\x=kV p.1,λi H=>H a=some (.frz o (.dK kvs))/\kvs.length≤i⟩
theorem c0m (h:(a0Q P w).is k u=true):RelV (kV k) u:=by
 rcases a0J h with ⟨i,t,rfl,rfl⟩ | ⟨x,t,rfl,rfl⟩ | ⟨rfl,rfl⟩
 ·exact⟨t,rfl⟩
 ·exact⟨t,rfl⟩
 ·rfl
theorem a9s:∀ {kvs:List (Key×V)}{vs:List (Key×Value)},KV kvs vs->vs.length=kvs.length
 | [],vs,h=>by cases h;rfl
 | p::kvs,vs,h=>by
  cases h with
  | cons h1 h2=>rw[ej,ej,a9s h2]
theorem b4D:∀ {kvs:List (Key×V)}{vs:List (Key×Value)}{i:Nat}{p:Key×V},KV kvs vs->kvs[i]?=some p->∃ q,vs[i]?=some q/\p.1=q.1
 | [],vs,i,p,h,e=>by simp at e
 | p0::kvs,vs,i,p,h,e=>by
  cases h with
  | cons h1 h2=>
   cases i with
   | zero=>cases e;exact⟨_,rfl,h1.1⟩
   | succ i=>exact b4D (i:=i) h2 (by simpa using e)
theorem b14 {P:jY}{w:World}{K:Fg}{tg:Expr}(a it:Addr) {o:Obj}(kvs:List (Key×V)) {es:Array mE}{ep:Nat}(hd:o.data=.dict es ep):Turn P w K tg (ItD o a kvs) [it] it (λi h=>h.IsKeyIter it a i kvs.length ep) where
 mem:=by simp
 obj:=λi h st b hb=>by
  have e:b=it:=by simpa using hb
  subst e;obtain⟨o,e,c,d⟩:=st;exact⟨o,e,λv z=>by rw[d]at z;cases z⟩
 keep:=λi h h' st k=>st.at λo e=>k it (by simp) o e
 item:=by
  intro X hP hw hK hc i pins s σ H E I hf st hg;subst hP hw hK;obtain⟨ha,hi⟩:=hg;obtain⟨g,hz,hsm,vs,kv,dof⟩:=(show ObjOk X.prog X.w H s.heap a (.frz o (.dK kvs)) from I.hok a _ ha);obtain⟨f0,f1,f2,f3,f4,f5⟩:=hf it (by simp);have hl:=a9s kv;have dat:s.heap.DictAt (a0Q X.prog X.w) a vs ep:=by
   obtain⟨o',es',ep',h1,h2,h3,h4⟩:=dof;rw[g]at h1;cases h1;rw[hd]at h3;cases h3;exact⟨o,es,g,h2,hd,h4⟩
  obtain⟨p,hp⟩:∃ p,kvs[i]?=some p:=⟨kvs[i],en hi⟩;obtain⟨⟨k,v⟩,hq,e1⟩:=b4D kv hp;refine wpAny_pyNext_dict_item (by rw[hl];exact st) dat hq λkey h' hk st' sb=>?_;have I1:Inv X pins σ H { s with heap:=h' }:=I.turned (t':=s.toks) (λb o hb e=>(sb.2 b hb).trans e) f0 f1 f3 f4 f5;rw[hl]at st';obtain⟨oi,e,c,d⟩:=id st';exact⟨key,rfl,a9Q (s:={ s with heap:=h' }) e c d (by decide) ⟨kV p.1,H,I1,by rw[e1];exact c0m hk,⟨rfl,p,hp,rfl⟩,st',λb hb=>(hf b hb).1⟩⟩
 done:=by
  intro X hP hw hK hc i pins s σ H E I hf st hg;subst hP hw hK;obtain⟨ha,hi⟩:=hg;obtain⟨g,hz,hsm,vs,kv,dof⟩:=(show ObjOk X.prog X.w H s.heap a (.frz o (.dK kvs)) from I.hok a _ ha);obtain⟨f0,f1,f2,f3,f4,f5⟩:=hf it (by simp);have hl:=a9s kv;have dat:s.heap.DictAt (a0Q X.prog X.w) a vs ep:=by
   obtain⟨o',es',ep',h1,h2,h3,h4⟩:=dof;rw[g]at h1;cases h1;rw[hd]at h3;cases h3;exact⟨o,es,g,h2,hd,h4⟩
  exact wpAny_pyNext_dict_end (I.ok.hd hc) (by rw[hl];exact st) dat (ju (by omega)) λh' eb=>⟨rfl,I.turned (t':=s.toks) (λb o hb e=>eb b o hb e) f0 f1 f3 f4 f5⟩
 self:=λ_ _ _ _ _ st h=>wpAny_pyIter_keyiter st h
section
variable {X:Cx}{pins:List (Addr×Obj)}{σ:St}{H:Hp}{s:Shared}{a:Addr}{kvs:List (Key×V)}{tg:Expr}
theorem Inv.freeze (I:Inv X pins σ H s) (e:H a=some (.dK kvs)):∃ o,Inv X pins σ (upd H a (.frz o (.dK kvs))) s:=by
 obtain⟨p,k,t,x,h⟩:=(I.hok a _ e);have i:=h;obtain⟨o,C,B,g,r⟩:=i;refine⟨o,?_⟩;have l:∀ b,H b=none->b≠a:=λb q z=>by rw[z,e]at q;cases q
 have j:∀ b d,H b=some (.tup d)->b≠a:=λb d q z=>by rw[z,e]at q;cases q
 have A:∀ b o u,H b=some (.frz o u)->b≠a:=λb o u q z=>by rw[z,e]at q;cases q
 have y:∀ b f,H b=some (.tbl f)->b≠a:=λb f q z=>by rw[z,e]at q;cases q
 have m:∀ b c,H b=some (.own c)->b≠a:=λb c q z=>by rw[z,e]at q;cases q
 refine I.un ⟨λb o q _ _ _=>q,λb o q _ _ _=>⟨o.slots,q⟩,λb o q n _=>by rw[a0w (l b n)];exact n,λb o q _=>⟨o,q⟩,λb d q=>by rw[a0w (j b d q)];exact q,λb o u q=>by rw[a0w (A b o u q)];exact q,λb f q=>⟨#[],by rw[a0w (y b f q),Array.append_empty];exact q⟩⟩ λb u q=>?_
 by_cases hb:b=a
 ·subst hb;rw[a0A]at q;cases q;exact⟨g,p,k,t,x,h⟩
 ·rw[a0w hb]at q;exact (I.hok b u q).stay (λc v _ r=>r) (λc r=>by rw[a0w (m c b r)];exact r) λc d r=>by rw[a0w (j c d r)];exact r
def iDct (tl:TE):TI:=fun σ H R=>tl σ H λx H1=>∃ a kvs,x=.ref a/\((H1 a=some (.dK kvs)/\∀ o,R (ItD o a kvs) (upd H1 a (.frz o (.dK kvs))))\/∃ o,H1 a=some (.frz o (.dK kvs))/\R (ItD o a kvs) H1)
theorem b5U (hl:PE X l tl):PI X tg l (iDct tl):=by
 intro c s σ H R I h;refine thn (hl c s σ H _ I h) λv d ⟨x,B,r,C,E⟩=>?_;obtain⟨a,f,e,q⟩:=E;subst e;cases C;have k:∀ o i,Inv X c σ i d->i a=some (.frz o (.dK f))->R _ i->wpAny _ X.A _ (PIE X c σ tg R) X.xe d:=λo i j m q=>by
  obtain⟨g,M,t,L,D,y⟩:=(j.hok a _ m);obtain⟨N,n⟩:=y.dictAt;have p:=n;obtain⟨J,G,u,_,F,_⟩:=p;rw[g]at u;cases u;refine wpAny_pyIter_dict t n ?_;refine⟨d.heap.objs.size,[d.heap.objs.size],_,_,i,rfl,j.kept λb o e=>Heap.get?_push_of_some _ e,b14 a _ f F,⟨_,Heap.get?_push_size _ rfl,rfl,by rw[a9s D];rfl⟩,λb z=>?_,q⟩;have e:b=d.heap.objs.size:=by grind
  subst e;exact j.fpOk (dM _) (j.hok.fresh (dM _))
 rcases q with ⟨m,q⟩ | ⟨o,m,q⟩
 ·obtain⟨o,j⟩:=r.freeze m;exact k o _ j a0A (q o)
 ·exact k o B r m q
end
end L2
namespace L3
open PySem PySem.Spec PyProof.Rows L2
noncomputable def keyW:Key->Z
 | .inl (some i)=>.int i
 | .inl none=>.non
 | .inr s=>.str s
theorem b3G {K:Fg}:∀ k:Key,Rep K H (keyW k) (kV k)
 | .inl (some i)=>by show Rep K H (.int i) (.int i);rw[a0v]
 | .inl none=>by show Rep K H .non .non;rw[a0V]
 | .inr s=>by show Rep K H (.str s) (.str s);rw[a0L]
def wkD (x:Z) (G:Hq) (R:List Z->(Hq->Prop)->Hq->Prop):Prop:=match x with
 | .ref a=>∃ kvs,(G a=some (.dK kvs)\/G a=some (.dF kvs))/\R (kvs.map λp=>keyW p.1) (λ_=>True) (put G a (.dF kvs))
 | _=>False
def iD (tl:E3):I3:=fun σ G R=>tl σ G λx G1=>wkD x G1 R
theorem a57 {K:Fg}{kvs:List (Key×Z)}(e:H0 a=some (.frz o (.dK us))) (hn:us.map (·.1)=kvs.map (·.1)):a6y K (kvs.map λp=>keyW p.1) (λ_=>True) (ItD o a us) H0:=λi G H g t n j=>by
 have d:=t.frd _ _ _ e;have l:us.length=kvs.length:=by have:=congrArg eF hn;simpa using this
 rw[dJ]at j;refine⟨λh=>⟨d,by rw[dJ]at h;omega⟩,λw b=>?_⟩;rw[dQ]at b;cases hk:kvs[i]? with
 | none=>rw[hk]at b;cases b
 | some p=>
  rw[hk]at b;cases b;have k:=(dX.mp hk).1;refine⟨⟨d,by omega⟩,?_⟩;rintro x m ⟨rfl,q,f,rfl⟩
  have:q.1=p.1:=by
   have c:(us.map (·.1))[i]?=some q.1:=by rw[dQ,f];rfl
   rw[hn,dQ,hk]at c;exact (eY.inj c).symm
  rw[this];exact⟨b3G _,g,.refl _ _⟩
section
variable {X:Cx}{tg l:Expr}{tl:E3}
theorem a8B (hl:QE X l tl):QI X tg l (iD tl):=a94 (b5U hl.p) fun τ H B u=>u.un fun σ G R z A h t=>by
 refine⟨σ,G,_,z,A,h,λw r v q d k c s=>?_⟩;cases w with
 | ref a=>
  obtain⟨j,e,d⟩:=d;rcases e with e | e
  ·obtain⟨g,f,i,n⟩:=c _ _ e;refine⟨a,g,k,.inl ⟨f,λo=>?_⟩⟩;have m:TK X.K q (L2.upd q a (.frz o (.dK g))):=.dK f;exact t _ _ _ _ _ d (a57 a0A i) (c.set m ⟨o,g,a0A,i,n.mono m⟩) (s.trans m)
  ·have x:=e;obtain⟨o,g,f,i,n⟩:=c _ _ e;refine⟨a,g,k,.inr ⟨o,f,?_⟩⟩;have y:put r a (.dF j)=r:=by
    funext b
    unfold put
    split
    ·simp_all
    ·rfl
   rw[y]at d;exact t _ _ _ _ _ d (a57 f i) c s
 | _=>exact dR d
theorem i_iD (h:tl σ G λx G1=>wkD x G1 R):iD tl σ G R:=h
theorem b5V (e:G p=some (.dK kvs)\/G p=some (.dF kvs)) (h:R (kvs.map λp=>keyW p.1) (λ_=>True) (put G p (.dF kvs))):wkD (.ref p) G R:=⟨kvs,e,h⟩
end
end L3
namespace L2
open PySem PySem.Spec PyProof.Rows
theorem b15:∀ {ss:List Str}{us:List Value},Vals (ss.map V.str) us->StrsAre us ss
 | [],us,r=>by rw[eK]at r;cases r;exact .nil
 | s::ss,us,r=>by
  cases r with
  | cons r1 r2=>obtain⟨t,rfl⟩:=r1;exact .cons s t (b15 r2)
theorem a7G:∀ {vs:List Value}{ss:List Str},StrsAre vs ss->Vals (ss.map V.str) vs
 | _,_,.nil=>.nil
 | _,_,.cons s t h=>.cons ⟨t,rfl⟩ (a7G h)
def b3H (K:Fg):List V->Hp->VK->Prop:=λxs H Q=>∃ (p:Addr) (ss:List Str),xs=[.ref p]/\SqL K H p (ss.map V.str)/\ss.length<64 /\
 ∀ (t:Addr) (ts:List Str),H t=none->ts.Perm ss->sortedS ts=true->Q (.ref t) (upd H t (.lst (ts.map V.str)))
theorem a7H:CallR X (.builtin "sorted") (b3H X.K):=by
 intro k s σ H y z Q I r h;obtain⟨p,x,rfl,g,t,q⟩:=h;obtain⟨u,rfl,i⟩:=a20 r;cases i;obtain⟨c,n,m,_⟩:=I.list g;have f:=b15 n;have v:=f.length;refine sorted_strs m.isList f (by omega) λa b o d l=>?_;obtain⟨e,j⟩:=sortedAll_at s.heap c a;exact⟨.ref _,_,I.laid (λ_ _=>sortedAll_old) (fL _) (show ObjOk X.prog X.w _ _ _ (.lst _) from ⟨by rw[dJ,d.length_eq,kf];omega,a.toList,e,a7G o,by simpa using j⟩),rfl,q _ b (I.hok.fresh (fL _)) d l⟩
end L2
namespace L3
open PySem PySem.Spec PyProof.Rows L2
theorem a58 {K:Fg}:∀ ss:List Str,Reps K H (ss.map Z.str) (ss.map V.str)
 | []=>by rw[eK,eK,a0B]
 | s::ss=>by
  exact⟨_,_,rfl,by rw[a0L],a58 ss⟩
theorem a59 {K:Fg}:∀ {ss:List Str}{vs:List V},Reps K H (ss.map Z.str) vs->vs=ss.map V.str
 | [],vs,h=>by rw[eK,a0B]at h;subst h;rfl
 | s::ss,vs,h=>by
  obtain⟨v,r,rfl,a,b⟩:=h;rw[a,a59 b];rfl
def a9t:List Z->Hq->K3->Prop:=λxs G R=>match xs with
 | [.ref p]=>∃ ss:List Str,G p=some (.lst (ss.map Z.str))/\ss.length<64/\∀ (t:Addr) (ts:List Str),G t=none->ts.Perm ss->sortedS ts=true->R (.ref t) (put G t (.lst (ts.map Z.str)))
 | _=>False
theorem b16:a2U X (.builtin "sorted") a9t:=a1g a7H λu H Q n=>n.un λg G R j b h q=>by
 match g,h with
 | [.ref p],h=>
  obtain⟨v,rfl,r⟩:=j.one;obtain⟨i,e,d,h⟩:=h;obtain⟨s,k,l⟩:=b _ _ e
  have:=a59 l
  subst this;exact⟨p,i,by rw[r],SqL.of k,d,λt a c f m=>q _ _ _ _ (h t a (b.out c) f m) (by rw[a0K]) (b.set (.new c) ⟨_,a0A,a58 a⟩) (.new c)⟩
theorem b17 (e:G p=some (.lst (ss.map Z.str))) (z:ss.length<64) (h:∀ (t:Addr) (ts:List Str),G t=none->ts.Perm ss->sortedS ts=true->R (.ref t) (put G t (.lst (ts.map Z.str)))):a9t [.ref p] G R:=⟨ss,e,z,h⟩
end L3
namespace L2
open PySem PySem.Spec PyProof.Rows
structure Cl where
 x:Str
 np:Pos
 b₀:Stmt
 suite:List Stmt
 hp:Pos
noncomputable def Cl.h (n:Str) (c:Cl):ExceptHandler:=.ExceptHandler (some (.Name c.x c.np)) (some n) (c.b₀::c.suite) c.hp
inductive Picks (X:Cx) (C:Addr) (th:Addr->TS):List Cl->Prop
 | here {c:Cl} {cs:List Cl} {D:Addr} (hg:Gl X c.x) (hm:X.mg c.x=some (.ref D)) (hd:(c.x==("__debug__":Str))=false) (hD:PySem.W.exmOne X.K (.ref C) (.ref D)=some true)
   (hh:∀ e oe,oe.cls=.ref C->oe.dict=none->PySem.W.notCls oe=true->PSs (X.hnd e oe) (c.b₀::c.suite) (th e)):Picks X C th (c::cs)
 | next {c:Cl} {cs:List Cl} {D:Addr} (hg:Gl X c.x) (hm:X.mg c.x=some (.ref D)) (hd:(c.x==("__debug__":Str))=false) (hD:PySem.W.exmOne X.K (.ref C) (.ref D)=some false) (hp:Picks X C th cs):Picks X C th (c::cs)
section
variable {X:Cx}{n:Str}{pos tpos:Pos}{ce:Expr}
end
end L2
namespace L3
open PySem PySem.Spec PyProof.Rows L2
inductive Alt (X:Cx) (cs:List Cl):List (Addr×(Addr->X3))->Prop
 | nil:Alt X cs []
 | cons {C:Addr} {th:Addr->X3} {l:List (Addr×(Addr->X3))} (h:Picks X C (λe=>lowS X.K (th e)) cs) (hs:Alt X cs l):Alt X cs ((C,th)::l)
theorem Alt.get:∀ {l:List (Addr×(Addr->X3))},Alt X cs l->∀ p∈l,Picks X p.1 (λe=>lowS X.K (p.2 e)) cs
 | _,.nil,p,h=>by simp at h
 | _,.cons h hs,p,hp=>by
  rcases dU.mp hp with rfl | hp
  ·omega
  ·exact hs.get p hp
section
variable {X:Cx}{e:Expr}{es:List Expr}{n:Str}{p pos tpos:Pos}{t:A3}{k:Nat}{f:Addr}{fd:jZ}{ps:List Str}{sp:PX3}
end
end L3
namespace L2
open PySem PySem.W
end L2
namespace L2
open PySem PySem.Spec PyProof.Rows
theorem Inv.melt (I:Inv X pins σ H s) (e:H a=some (.frz o (.dK kvs))) (n:∀ o u,X.H₀ a≠some (.frz o u)):Inv X pins σ (upd H a (.dK kvs)) s:=by
 obtain⟨g,E,j,A,B,t⟩:=(I.hok a _ e);have i:∀ b,H b=none->b≠a:=λb q z=>by rw[z,e]at q;cases q
 have k:∀ b d,H b=some (.tup d)->b≠a:=λb d q z=>by rw[z,e]at q;cases q
 have D:∀ b f,H b=some (.tbl f)->b≠a:=λb f q z=>by rw[z,e]at q;cases q
 have L:∀ b c,H b=some (.own c)->b≠a:=λb c q z=>by rw[z,e]at q;cases q
 refine⟨I.ok,I.os,I.bare,⟨I.base.keep,I.base.slot,λb o F C y=>?_,I.base.there,λb d q=>?_,λb o u q=>?_,λb f q=>?_⟩,I.loc,I.cell,?_,λx c q=>?_,λp M=>?_,λb u q=>?_,I.len⟩
 ·have h:=I.base.free b o F C y;rw[a0w (i b h)];exact h
 ·have h:=I.base.tups b d q;rw[a0w (k b d h)];exact h
 ·rw[a0w (λz=>n o u (by simp_all))];exact I.base.frzs b o u q
 ·obtain⟨m,h⟩:=I.base.tbls b f q;exact⟨m,by rw[a0w (D b _ h)];exact h⟩
 ·rw[a0w (i _ I.free)];exact I.free
 ·have h:=I.freeC x c q;rw[a0w (i _ h)];exact h
 ·obtain⟨G,l,J⟩:=I.pin p M;exact⟨G,by rw[a0w (i _ l)];exact l,J⟩
 ·by_cases hb:b=a
  ·subst hb;rw[a0A]at q;cases q;exact⟨E,j,A,B,t⟩
  ·rw[a0w hb]at q;exact (I.hok b u q).stay (λc v _ r=>r) (λc r=>by rw[a0w (L c b r)];exact r) λc d r=>by rw[a0w (k c d r)];exact r
end L2
namespace L3
open PySem PySem.Spec PyProof.Rows L2
section
variable {X:Cx}{K:Fg}{H H1:Hp}{a:Addr}{us us1:List (Key×V)}{o:Obj}{e:Expr}{t:E3}{G:Hq}{kvs:List (Key×Z)}
theorem a5p (h:H1 a=some (.frz o (.dK us1))):TW K H1 (upd H1 a (.dK us1)):=
 ⟨λc b q=>by rw[a0w (λz=>by rw[z,h]at q;cases q)];exact q,λc b q=>by
  rcases q with ⟨o',q⟩ | q
  ·exact .inl ⟨o',by rw[a0w (λz=>by rw[z,h]at q;cases q)];exact q⟩
  ·exact .inr q⟩
theorem b5W (h0:H a=some (.dK us)) (t:TK K H H1) (h:H1 a=some (.frz o (.dK us1))):TK K H (upd H1 a (.dK us1)):=
 ⟨λc b q=>(a5p (K:=K) h).tup c b (t.tup c b q),λc b q=>(a5p (K:=K) h).frz c b (t.frz c b q),λc d u q=>by
  rw[a0w (λz=>by rw[z,h0]at q;cases q)];exact t.frd c d u q⟩
theorem c0n (t:TW K H H1) (e:H1 b=H b) (h:ROb K H b o'):ROb K H1 b o':=by
 cases o' with
 | lst ws=>obtain⟨a,q,r⟩:=h;exact⟨a,e.trans q,r.monoW t⟩
 | dK kvs=>obtain⟨a,q,n,r⟩:=h;exact⟨a,e.trans q,n,r.monoW t⟩
 | ins C dx fs=>obtain⟨a,q,n,r⟩:=h;exact⟨a,e.trans q,n,r.monoW t⟩
 | dF kvs=>obtain⟨c,a,q,n,r⟩:=h;exact⟨c,a,e.trans q,n,r.monoW t⟩
theorem b5X (g:RH K G H1) (e1:G a=some (.dF kvs)):∃ o us1,H1 a=some (.frz o (.dK us1))/\RH K (put G a (.dK kvs)) (upd H1 a (.dK us1)):=by
 obtain⟨o,c,h,d,f⟩:=g _ _ e1;refine⟨o,c,h,λb e q=>?_⟩
 by_cases hb:b=a
 ·subst hb;rw[a0e]at q;cases q;exact⟨c,a0A,d,f.monoW (a5p h)⟩
 ·rw[a0o hb]at q;exact c0n (a5p h) (a0w hb) (g b e q)
def uUnf (t:E3):E3:=fun σ G R=>∃ a kvs,G a=some (.dK kvs)/\t σ G λv G'=>G' a=some (.dF kvs)/\R v (put G' a (.dK kvs))
theorem c0o (h:QE X e t):QE X e (uUnf t):=⟨λf s τ H Q I z=>by
 obtain⟨σ,G,R,y,j,⟨a,d,x,A⟩,C⟩:=z;obtain⟨F,k,L,J⟩:=j _ _ x;refine thn (h.p f s τ H (λv c=>∃ w b,Rep X.K c w v/\RH X.K b c/\TK X.K H c/\b a=some _/\R w _) I ⟨σ,G,_,y,j,A,λw b v c q r g t=>⟨w,b,r,g,t,q.1,q.2⟩⟩) λu E ⟨v,c,l,m,w,b,r,g,t,n,q⟩=>?_;obtain⟨o,D,i,B⟩:=b5X g n;exact⟨v,_,l.melt i (λo u z=>by have:=I.base.frzs a o u z;rw[k]at this;cases this),m,C w _ v _ q (r.monoW (a5p i)) B (b5W k t i)⟩⟩
theorem c0p (e:G a=some (.dK kvs)) (h:t σ G λv G'=>G' a=some (.dF kvs)/\R v (put G' a (.dK kvs))):uUnf t σ G R:=⟨a,kvs,e,h⟩
end
end L3
namespace DictP
open PySem PyProof.Rows
theorem a6a:ml table "dict.update.loop"=some j1.«dict.update.loop»:=entryFor_of_tree (by kernel_rfl)
theorem a3e:plainId "dict.update.loop"=true:=by decide +kernel
theorem b5Y:typeLookup (.type "list") "keys"=pure none:=am_miss_of_fast (by decide +kernel)
section
variable {prog:jY}{w:World}{A:Around}{E:Value->Shared->Prop}{s:Shared}{a:Addr}{xs:Array Value}{k:Nat}{sl:Array (Option Value)}
theorem b18 (hx:s.heap.get? a=some { cls:=.type "list",dict:=none,data:=.seq xs k,slots:=sl }) (hA:A.handled=none)
  (h:∀ h' tk,(∀ b ob,s.heap.get? b=some ob->h'.get? b=some ob)->Q none { s with heap:=h',toks:=tk }):wpAny (model prog w) A (getAttr? (.ref a) "keys") Q E s:=by
 obtain⟨hp,g,d,tk,os⟩:=s;have hT:∀ tk',(⟨hp,g,d,tk',os⟩:Shared).TypeIs (.ref a) "list":=λ_=>⟨_,hx,rfl⟩;have f1:=sub_AttributeError;have f3:=F.slot_list_getattribute.lookup;have f4:=F.slot_list_getattribute.bind (.ref a);have f5:=am_list_getattr_none;unfold getAttr? getAttrBy? getAttrBy
 repeat (any_goals (first | assumption | exact hT _ | ((with_reducible show wpAny _ _ (call (Value.builtin "list.__getattribute__") _ _) _ _ _);refine l7 F.slot_list_getattribute (hT _) am_entry_list_getattribute (F.args_list_getattribute_2 _ _) (meets_getattribute_miss_list a xs k sl "keys" _ b5Y (by decide +kernel)) ⟨hx,hA,λh' tk' e hx'=>?_⟩) | wp_step))
 obtain⟨t',u',he⟩:=hx'.there
 show wpAny _ _ (getattributeRaised _ _ _ _ _ _ _) _ _ _
 unfold getattributeRaised
 repeat (any_goals (first | assumption | wp_step))
 exact h _ _ hx'.keeps
theorem b0k (g:s.heap.get? t=some o) (hc:o.cls=.type "tuple") (hd:o.data=.seq #[x,y] n) (h:Q [x,y] s):wpAny (model prog w) A (j1.Dict.pairItems (.ref t)) Q E s:=by
 obtain⟨c,a,b,e⟩:=o;simp only at hc hd;subst hc hd
 repeat (any_goals (first | assumption | wp_step))
end
section
variable {prog:jY}{w:World}{A:Around}{R:Result->Shared->Prop}{I:Addr}{fp wr:List Addr}{G:Array mj->Array mj->Prop}{n:Nat}{P:Nat->Value->Prop}{St:Nat->Shared->Prop}{K:Type}[DecidableEq K] {knd:KeyKind prog w K}
def PairAt (knd:KeyKind prog w K) (h:Heap) (v:Value) (r:K×Value):Prop:=∃ t o key m,v=.ref t/\h.get? t=some o/\o.cls=.type "tuple"/\o.data=.seq #[key,r.2] m/\knd.is r.1 key=true
theorem loop (W:WalksS prog w A.in1 I fp wr G n P St) (d:Addr) (hdf:d∉fp) (rows:List (K×Value)) (hn:n=rows.length) (hz:rows.length≤jS) :
  ∀ (k i:Nat) (s:Shared),n - i=k->i≤n->St i s->(∀ j v,P j v->∃ r,rows[j]?=some r/\PairAt knd s.heap v r/\v≠.ref d)->(∀ j v,P j v->∀ b,v=.ref b->b∉wr)->s.heap.DictOf knd d (merged [] (rows.take i)) ->
   (∀ s',Moved (d::wr) G s s'->s'.heap.DictOf knd d (merged [] rows)->R (.ok (.ret .none)) s') ->
   kl (model prog w) A (.builtin "dict.update.loop" ⟨[.ref d,.ref I,rawInt i,.none],[]⟩) R s:=by
 have x:d∉wr:=λh=>hdf (W.sub _ h);have up:∀ b∈wr,b∈d::wr:=λb p=>eX _ p;intro k
 induction k with
 | zero=>
  intro i s hk hi q N l u M;have V:i=n:=by omega
  subst V;refine kQ a6a ?_;rw[Around.under_plainId a3e _];refine jQ (W.done s _ _ q λa f=>?_)
  show wpAny _ A.in1 _ _ _ a
  refine jQ (jR (jR (M a (f.mono up) ?_)));rw[fv (by omega)]at u;obtain⟨o,J,S,L,c⟩:=u;exact⟨o,J,S,f.heap d _ x L,c⟩
 | succ k ih=>
  intro i s hk hi q N l u M;have U:i<n:=by omega
  refine kQ a6a ?_;rw[Around.under_plainId a3e _];refine jQ (W.item i s _ _ U q λv a C H f=>?_);obtain⟨r,hr,⟨t,o,y,m,rfl,g,hc,hd,D⟩,hne⟩:=N i v C;have g':=f.heap t _ (l i _ C t rfl) g;have X:a.heap.DictOf knd d (merged [] (rows.take i)):=by
   obtain⟨o,J,S,L,c⟩:=u;exact⟨o,J,S,f.heap d _ x L,c⟩
  refine jQ (ke ?_);refine jQ (wpAny_tryCatch (b0k g' hc hd ?_));refine ke ?_;have hl:(merged [] (rows.take i)).length≤sizeLine:=by
   have:=merged_length_le [] (rows.take i)
   rw[dY]at this;simp at this;omega
  refine wpAny_dictSet_pairs D X (λh' B hsb=>?_) hl;rw[<- merged_take_succ _ _ _ _ hr]at B;have Q:∀ b o,b≠d->a.heap.get? b=some o->h'.get? b=some o:=λb o nb e=>by rw[hsb.2 b nb];exact e
  refine jR ⟨lc a3e _,?_⟩
  have:=ih (i+1) { a with heap:=h',toks:=a.toks+1 } (by omega) (by omega) (W.frame _ a _ _ H (fL _) λb p o e=>Q b o (λz=>hdf (z▸p)) e) (λj v hv=>?_) l B λT E F=>?_
  ·exact this
  ·obtain⟨r,h1,⟨t,o,y,m,rfl,h2,h3⟩,Y⟩:=N j v hv;exact⟨r,h1,⟨t,o,y,m,rfl,Q t o (λz=>Y (by rw[z])) (f.heap t _ (l j _ hv t rfl) h2),h3⟩,Y⟩
  ·refine M T (Moved.trans W.gtrans ((f.mono up).then_heap (fL _) λb o p e=>Q b o (λz=>p (by rw[z];exact fh)) e) E) F
theorem call_pairs (hh:A.handled=none)
  (hl:s.heap.get? l=some { cls:=.type "list",dict:=none,data:=.seq items c,slots:=sl }) (hi:∀ (j:Nat) v,items[j]?=some v->∃ r,rows[j]?=some r/\PairAt knd s.heap v r) (hn:items.size=rows.length) (hz:rows.length≤jS)
  (h:∀ (h':Heap) (tk:Nat),h'.DictOf knd s.heap.objs.size (merged [] rows)->(∀ b o,s.heap.get? b=some o->h'.get? b=some o)->Q (.ref s.heap.objs.size) { s with heap:=h',toks:=tk }) :
  wpAny (model prog w) A (call (.type "dict") [.ref l]) Q E s:=by
 refine callType_codes (Q₁:=λx C=>x=.ref s.heap.objs.size/\C={ s with heap:=s.heap.push { cls:=.type "dict",data:=.dict #[] } }) F.kt_called_dict (F.kt_typeCall_dict_1 _) F.entry_dict_init (kt_code_dict_new _ ⟨rfl,rfl⟩) ?_;rintro x C ⟨rfl,rfl⟩;have a:(s.heap.push { cls:=.type "dict",data:=.dict #[] }).DictOf knd s.heap.objs.size []:=Heap.DictOf.new s.heap;have f:(s.heap.push { cls:=.type "dict",data:=.dict #[] }).get? l=some { cls:=.type "list",dict:=none,data:=.seq items c,slots:=sl }:=Heap.get?_push_of_some _ hl;have V:Shared.TypeIs { s with heap:=s.heap.push { cls:=.type "dict",data:=.dict #[] } } (.ref l) "list":=⟨_,f,rfl⟩;refine⟨a.typeIs,F.args_dict_init_2 _ _,?_⟩;unfold j1.«dict.__init__»;refine jQ ?_;unfold j1.Dict.selfAndRest;refine jQ (wpAny_notOrdered_dict a.typeIs ?_)
 show wpAny _ _ (pure (s.heap.objs.size,[Value.ref l])) _ _ _
 refine jR ?_
 show wpAny _ _ (j1.Dict.updateFrom "dict.__init__" s.heap.objs.size (.ref l) [] .none) _ _ _
 unfold j1.Dict.updateFrom;refine jQ (l5 V ?_);rw[if_pos (by decide)];refine jQ (b18 f (by simp[hh]) λd t1 k=>?_);rw[if_pos (show (none:Option Value).isNone=true from rfl)];have gd:=k _ _ (Heap.get?_push_size _ rfl);have y:=λb o e=>k b o (Heap.get?_push_of_some _ e);have J:d.IsList l items:=⟨_,k l _ f,rfl,c,rfl⟩;refine jQ (kH (jQ (lW J ?_)));refine jR ⟨lc a3e _,?_⟩;have I:=Heap.lt_size hl;have i:=Heap.lt_size gd;have h3:A.in1.in1.handled=none:=by simp[hh]
 have nI:l≠d.objs.size:=ei (fZ I i);have U:s.heap.objs.size∉[d.objs.size,l]:=by
  simp;exact⟨ei i,fV I⟩
 have N:∀ (j:Nat) v,items[j]?=some v->∀ b,v=.ref b->b<s.heap.objs.size:=λj v e b B=>by
  obtain⟨r,_,t,o,u,m,G,q,_⟩:=hi j v e;rw[B]at G;cases G;exact Heap.lt_size q
 refine loop (knd:=knd) ((Walks.list h3 _ l nI items).toS) s.heap.objs.size U rows hn hz (items.size - 0) 0 _ (by omega) (eI _)
  ⟨⟨_,Heap.get?_push_size _ rfl,rfl,rfl⟩,J.push _⟩ (λj v e=>?_) (λj v e b B g=>?_) ?_ λM p hD=>?_
 ·obtain⟨r,W,t,o,u,m,rfl,q,R⟩:=hi j v e;refine⟨r,W,⟨t,o,u,m,rfl,Heap.get?_push_of_some _ (y _ _ q),R⟩,λz=>?_⟩;injection z with z
  exact absurd (Heap.lt_size q) (by rw[z];exact eM _)
 ·have:=N j v e b B
  rw[dP.mp g]at this;exact absurd (fZ this i) (eM _)
 ·rw[List.take_zero]
  show Heap.DictOf knd _ _ []
  obtain⟨o,Y,L,g0,r0⟩:=a;exact⟨o,Y,L,Heap.get?_push_of_some _ (k _ _ g0),r0⟩
 ·obtain⟨S,g',d',H,D⟩:=M;have T:g'=s.gens:=p.gens;have ed:d'=s.drawn:=p.drawn;have X:D=s.os:=p.os;subst T ed X;refine⟨rfl,h S H hD λb o e=>p.heap b o (λg=>?_) (Heap.get?_push_of_some _ (y b o e))⟩;have n:=Heap.lt_size e;simp at g;rcases g with z | z
  ·rw[z]at n;exact eM _ n
  ·rw[z]at n;exact eM _ (fZ n i)
end
end DictP
namespace L2
open PySem PySem.Spec PyProof.Rows
section
variable {X:Cx}
noncomputable def b0l (rows:List (Addr×Key×V)) (acc:List (Key×V)):List (Key×V):=rows.foldl (λacc r=>putK acc r.2.1 r.2.2) acc
def b8E (X:Cx):List V->Hp->VK->Prop:=λxs H Q=>∃ (p:Addr) (rows:List (Addr×Key×V)),xs=[.ref p]/\SqL X.K H p (rows.map λr=>V.ref r.1)/\(∀ r∈rows,H r.1=some (.tup [kV r.2.1,r.2.2]))/\rows.length≤1000 /\
 ∀ t,H t=none->Q (.ref t) (upd H t (.dK (b0l rows [])))
theorem a9u (ok:HOk P w H h):∀ {rows:List (Addr×Key×V)},(∀ r∈rows,H r.1=some (.tup [kV r.2.1,r.2.2]))->∃ vs:List (Key×Value),vs.length=rows.length /\
  (∀ (j:Nat) r,rows[j]?=some r->∃ q,vs[j]?=some q/\DictP.PairAt (a0Q P w) h (.ref r.1) q)/\∀ acc bcc,KV acc bcc->KV (b0l rows acc) (merged bcc vs)
 | [],_=>⟨[],rfl,λj r e=>by simp at e,λ_ _ k=>k⟩
 | r::rows,hr=>by
  obtain⟨m,p,d,l⟩:=a9u ok λr a=>hr r (.tail _ a);obtain⟨_,y,s,o,i,f,n,t⟩:=(ok _ _ (hr r (.head _)));obtain⟨b,u,rfl,g,c⟩:=Vals.two s;refine⟨(r.2.1,u)::m,by rw[ej,ej,p],λj q e=>?_,λx v k=>l _ _ (k.put r.2.1 c)⟩;cases j with
  | zero=>
   cases e;exact⟨_,rfl,r.1,o,b,n,rfl,i,f,t,b05 g⟩
  | succ j=>exact d j q (by simp_all)
theorem a7I:∀ (rows:List (Addr×Key×V)) (acc:List (Key×V)),(b0l rows acc).length≤acc.length+rows.length
 | [],_=>dM _
 | r::rows,acc=>by
  have:=a7I rows (putK acc r.2.1 r.2.2)
  have:=a49 acc r.2.1 r.2.2
  show (b0l rows (putK acc r.2.1 r.2.2)).length≤_
  rw[ej];omega
theorem b0m (hc:X.calm=true):CallR X (.type "dict") (b8E X):=by
 intro f s σ H xs us Q I r h;obtain⟨p,rows,rfl,T,ht,hz,q⟩:=h;obtain⟨u,rfl,V⟩:=a20 r;cases V;obtain⟨d,z,⟨o,n,F,C,E,B⟩,_⟩:=I.list T;obtain⟨c,dd,dt,sl⟩:=o;subst C E B;obtain⟨A,k,h2,W⟩:=a9u I.hok ht;have G:d.length=rows.length:=by have:=z.length;rw[dJ]at this;omega
 have b:A.length≤sizeLine:=by grind
 refine DictP.call_pairs (knd:=a0Q X.prog X.w) (I.ok.hd hc) F (λj v e=>?_) (by grind) b λg t M U=>?_
 ·have l:d[j]?=some v:=by simpa using e
  obtain⟨r,D⟩:∃ r,rows[j]?=some r:=⟨rows[j]'(by grind),en _⟩;obtain⟨q,m,pa⟩:=h2 j r D;obtain⟨u,y,N⟩:=z.get (by rw[dQ,D];rfl);rw[l]at y;cases y;rw[N];exact⟨q,m,pa⟩
 ·have L:=W [] [] .nil;have S:=I.hok.fresh (dM s.heap.objs.size);have Y:=(a83 (P:=X.prog) (w:=X.w) (H:=λ_=>none) s.heap I.big).2.1;have R:=a7I rows [];have J:=
   I.laid (t':=t) U (dM _) (show ObjOk X.prog X.w _ g _ (.dK _) from ⟨by rw[kf];simp at R;omega,Y,_,L,M⟩)
  exact⟨.ref s.heap.objs.size,_,J,rfl,q _ S⟩
end
section
variable {P:jY}{w:World}{A:Around}{E:Value->Shared->Prop}{s:Shared}
end
section
variable {X:Cx}
end
end L2
namespace L3
open PySem PySem.Spec PyProof.Rows L2
section
variable {X:Cx}{K:Fg}{H:Hp}
theorem b3I (h:Rep K H (keyW k) v):v=kV k:=by
 match k,h with
 | .inl (some i),h=>rw[show keyW _=.int i from rfl,a0v]at h;exact h
 | .inl none,h=>rw[show keyW _=.non from rfl,a0V]at h;exact h
 | .inr x,h=>rw[show keyW _=.str x from rfl,a0L]at h;exact h
noncomputable def prZ (r:Key×Z):Z:=.tup [keyW r.1,r.2]
theorem b19:∀ {rows:List (Key×Z)}{vs:List V},Reps K H (rows.map prZ) vs->∃ rs:List (Addr×Key×V),vs=rs.map (λr=>V.ref r.1)/\(∀ r∈rs,H r.1=some (.tup [kV r.2.1,r.2.2]))/\rs.length=rows.length /\
  ∀ acc bcc,bcc.map (·.1)=acc.map (·.1)->Reps K H (acc.map (·.2)) (bcc.map (·.2))->(b0l rs bcc).map (·.1)=(a4B acc rows).map (·.1)/\Reps K H ((a4B acc rows).map (·.2)) ((b0l rs bcc).map (·.2))
 | [],vs,h=>by
  exact⟨[],h,λr e=>by simp at e,rfl,λf g b c=>⟨b,c⟩⟩
 | r::rows,vs,h=>by
  obtain⟨v,x,rfl,b,c⟩:=h;obtain⟨t,rfl,l,n,u⟩:=b19 c;obtain⟨a,y,rfl,p,e⟩:=b;obtain⟨z,w,rfl,j,i⟩:=e.two
  have:=b3I j
  subst this;refine⟨(a,r.1,w)::t,rfl,λq d=>?_,by rw[ej,ej,n],λf g b s=>?_⟩
  ·rcases dU.mp d with rfl | d
   ·grind
   ·exact l q d
  ·obtain⟨m,o⟩:=a9q i b s;exact u _ _ m o
def b4E:List Z->Hq->K3->Prop:=λxs G R=>match xs with
 | [.ref p]=>∃ rows:List (Key×Z),G p=some (.lst (rows.map prZ))/\rows.length≤1000/\∀ t,G t=none->R (.ref t) (put G t (.dK (a4B [] rows)))
 | _=>False
theorem b5Z (hc:X.calm=true):a2U X (.type "dict") b4E:=a1g (b0m hc) λx H Q n=>n.un λg G R d b h q=>by
 match g,h with
 | [.ref p],h=>
  obtain⟨v,rfl,r⟩:=d.one;obtain⟨c,e,w,h⟩:=h;obtain⟨s,j,l⟩:=b _ _ e;obtain⟨d,rfl,f,u,k⟩:=b19 l;obtain⟨m,i⟩:=k [] [] rfl .nil;exact⟨p,d,by rw[r],SqL.of j,f,by omega,λt a=>q _ _ _ _ (h t (b.out a)) (by rw[a0K]) (b.set (.new a) ⟨_,a0A,m,i.mono (.new a)⟩) (.new a)⟩
theorem b50 (e:G p=some (.lst (rows.map prZ))) (z:rows.length≤1000) (h:∀ t,G t=none->R (.ref t) (put G t (.dK (a4B [] rows)))):b4E [.ref p] G R:=⟨rows,e,z,h⟩
theorem Reps.dropLast:∀ {ws:List Z}{vs:List V},Reps K H ws vs->Reps K H ws.dropLast vs.dropLast
 | [],vs,h=>by rw[a0B]at h;subst h;exact .nil
 | [w],vs,h=>by
  obtain⟨v,rfl,_⟩:=h.one;exact .nil
 | w::w'::ws,vs,h=>by
  obtain⟨v,r,rfl,c,b⟩:=h;have a:=b;obtain⟨e,d,rfl,_,_⟩:=a;exact .cons c (Reps.dropLast b)
end
end L3
namespace L2
open PySem PySem.Spec PyProof.Rows Tim
noncomputable def ptV:Pz->V
 | .inl none=>.non
 | .inl (some i)=>.int i
 | .inr s=>.str s
theorem c0q:∀ {x:Pz}{u:Value},RelV (ptV x) u->PtIs x u
 | .inl none,_,h=>h
 | .inl (some _),_,h=>h
 | .inr _,_,h=>h
theorem a8C:∀ {xs:List Pz}{us:List Value},Vals (xs.map ptV) us->PtsAre xs us
 | [],us,r=>by rw[eK]at r;cases r;trivial
 | x::xs,us,r=>by
  cases r with
  | cons r1 r2=>exact⟨c0q r1,a8C r2⟩
theorem a9v:∀ {bs:List Addr}{us:List Value},Vals (bs.map V.ref) us->us=bs.map Value.ref
 | [],us,r=>by rw[eK]at r;cases r;rfl
 | b::bs,us,r=>by
  cases r with
  | cons r1 r2=>rw[a9v r2,r1];rfl
theorem a6b:∀ bs:List Addr,Vals (bs.map V.ref) (bs.map Value.ref)
 | []=>.nil
 | b::bs=>.cons rfl (a6b bs)
theorem b0n:∀ {bs:List Addr}{out:List Value},out.Perm (bs.map Value.ref)->∃ cs:List Addr,out=cs.map Value.ref:=λ{g a} h=>by
 have:∀ v∈a,∃ b,v=Value.ref b:=λv f=>by
  obtain⟨b,_,e⟩:=eq.mp (h.mem_iff.mp f);exact⟨b,e.symm⟩
 clear h
 induction a with
 | nil=>exact⟨[],rfl⟩
 | cons v a ih=>
  obtain⟨b,rfl⟩:=this v (.head _);obtain⟨d,rfl⟩:=ih λu c=>this u (.tail _ c);exact⟨b::d,rfl⟩
def a6c (H:Hp) (bs:List Addr) (rows:List (List Pz)):Prop:=bs.length=rows.length/\∀ (i:Nat) (b:Addr) (x:List Pz),bs[i]?=some b->rows[i]?=some x->H b=some (.tup (x.map ptV))
theorem a7J (I:Inv X pins σ H s):∀ {bs:List Addr}{rows:List (List Pz)},a6c H bs rows->RowsIn s.heap (bs.map Value.ref) rows
 | [],[],_=>trivial
 | [],_::_,h=>by have:=h.1;simp at this
 | _::_,[],h=>by have:=h.1;simp at this
 | b::bs,x::rows,h=>by
  refine⟨?_,a7J I ⟨by have:=h.1;simpa using this,λi c y e d=>h.2 (i+1) c y (by simp_all) (by simp_all)⟩⟩;obtain⟨_,j,r,o,g,a,n,f⟩:=(I.hok b _ (h.2 0 b x rfl rfl));exact⟨b,o,_,n,rfl,g,a,f,by simpa using a8C r⟩
def b3J (K:Fg):List V->Hp->VK->Prop:=λxs H Q=>∃ (p:Addr) (bs:List Addr) (rows:List (List Pz)) (m:Nat),xs=[.ref p]/\SqL K H p (bs.map V.ref)/\a6c H bs rows/\bs.length≤100000/\a3M rows/\(∀ x∈rows,x.length=m)/\(∀ x∈rows,∀ y∈rows,cmpT x y=true) /\
 ∀ (t:Addr) (cs:List Addr) (os:List (List Pz)),H t=none->a6c H cs os->os.Perm rows->os.Pairwise (λx y=>ltT y x=false)->Q (.ref t) (upd H t (.lst (cs.map V.ref)))
theorem a7K:CallR X (.builtin "sorted") (b3J X.K):=by
 intro t s σ H xs us Q I r h;obtain⟨p,a,k,m,rfl,hq,C,hbl,hf,hm,hc,q⟩:=h;obtain⟨u,rfl,rx⟩:=a20 r;cases rx;obtain⟨N,rv,pl,_⟩:=I.list hq
 have:=a9v rv
 subst this;have R:(a.map Value.ref).length≤sizeLine:=by rw[dJ,kf];omega
 refine Calls.call_function_entry kind_sorted plain_sorted entry_sorted (args_sorted1 _) ?_;unfold j1.«sorted»;refine jQ (jR (jQ (collect_list pl.isList ?_ R)));have G:∀ b o,s.heap.get? b=some o->((s.heap.push (seqObj "list" #[] 0)).update s.heap.objs.size (Obj.mapSeq (·++(a.map Value.ref).toArray))).get? b=some o:=λb o e=>by
  have d:=Heap.lt_size e;rw[Heap.get?_update_ne _ _ _ _ (ei d)];exact Heap.get?_push_of_some _ e
 generalize (s.heap.push (seqObj "list" #[] 0)).update s.heap.objs.size (Obj.mapSeq (·++(a.map Value.ref).toArray))=g at G ⊢;have z:=I.kept (t':=s.toks) G;refine jQ (mh ?_ R);have D:(g.push _).get? g.objs.size=some (seqObj "list" (a.map Value.ref).toArray 0):=Heap.get?_push_size _ rfl;have U:Inv X t σ H { s with heap:=g.push (seqObj "list" (a.map Value.ref).toArray 0) }:=z.kept (t':=s.toks) λb o e=>Heap.get?_push_of_some _ e;refine jQ (ke (kF slot_list_sort ⟨_,D,rfl⟩ entry_list_sort (Tim.sort_tups D (by rw[dJ];omega) (a7J U C) hf hm hc λout S A F a3 a4=>⟨_,rfl,?_⟩) (args_list_sort _)));have l:=sortedHeap_at (out:=out.toArray) D;obtain⟨n,l⟩:=l;obtain⟨f,rfl⟩:=b0n A;have hcl:f.length=a.length:=by have:=A.length_eq;simpa using this
 have tc:a6c H f S:=by
  refine⟨by rw[F,dJ,dJ],λi c x T M=>?_⟩;rw[F,dQ,dQ,T]at M;cases M;have B:=A.mem_iff.mp (ff (er T));obtain⟨c',E,e⟩:=eq.mp B;cases e;obtain⟨j,L⟩:=fJ E;obtain⟨y,hy⟩:∃ y,k[j]?=some y:=⟨k[j]'(by have:=(dX.mp L).1;rw[<- C.1];exact this),by simp⟩;have J:=C.2 j c y L hy;obtain⟨_,N,r,o,Y,W,n,h3⟩:=(U.hok c _ J)
  have:RowIn (g.push (seqObj "list" (a.map Value.ref).toArray 0)) (.ref c) y:=⟨c,o,_,n,rfl,Y,W,h3,by simpa using a8C r⟩
  show H c=some _
  rw[a1Y this];exact J
 refine jR ⟨_,rfl,?_⟩;exact⟨.ref g.objs.size,_,z.laid (t':=s.toks) (λb o e=>by
  have d:=Heap.lt_size e;rw[sortedHeap_old (ei d) (by rw[Heap.size_push];exact fM d)];exact Heap.get?_push_of_some _ e) (dM _) (show ObjOk X.prog X.w _ _ _ (.lst (f.map V.ref)) from ⟨by rw[dJ,kf];omega,f.map Value.ref,n,a6b f,by simpa using l⟩),rfl,q _ f S (z.hok.fresh (dM _)) tc a3 a4⟩
end L2
namespace L3
open PySem PySem.Spec PyProof.Rows L2 Tim
noncomputable def ptZ:Pz->Z
 | .inl none=>.non
 | .inl (some i)=>.int i
 | .inr s=>.str s
noncomputable def tupZ (x:List Pz):Z:=.tup (x.map ptZ)
theorem rep_pt {K:Fg}:∀ {x:Pz}{v:V},Rep K H (ptZ x) v↔v=ptV x
 | .inl none,v=>by unfold ptZ ptV;rw[a0V]
 | .inl (some _),v=>by unfold ptZ ptV;rw[a0v]
 | .inr _,v=>by unfold ptZ ptV;rw[a0L]
theorem reps_pts {K:Fg}:∀ {xs:List Pz}{vs:List V},Reps K H (xs.map ptZ) vs↔vs=xs.map ptV
 | [],vs=>by rw[eK,a0B,eK]
 | x::xs,vs=>by
  rw[eu,a1f,eu]
  constructor
  ·rintro⟨v,r,rfl,a,b⟩;rw[rep_pt.mp a,reps_pts.mp b]
  ·rintro rfl;exact⟨_,_,rfl,rep_pt.mpr rfl,reps_pts.mpr rfl⟩
theorem a7L {K:Fg}:∀ {rows:List (List Pz)}{vs:List V},Reps K H (rows.map tupZ) vs->∃ bs:List Addr,vs=bs.map V.ref/\a6c H bs rows
 | [],vs,h=>by
  subst h;exact⟨[],rfl,rfl,λi b x e=>by simp at e⟩
 | x::rows,vs,h=>by
  obtain⟨v,r,rfl,c,m⟩:=h;obtain⟨a,n,rfl,e,k⟩:=c;rw[reps_pts.mp k]at e;obtain⟨l,rfl,j,g⟩:=a7L m;refine⟨a::l,rfl,by rw[ej,ej,j],λi b y d f=>?_⟩;cases i with
  | zero=>cases d;cases f;exact e
  | succ i=>exact g i b y (by simp_all) (by simp_all)
theorem a7M {K:Fg}:∀ {bs:List Addr}{rows:List (List Pz)},a6c H bs rows->Reps K H (rows.map tupZ) (bs.map V.ref)
 | [],[],_=>by rw[eK,eK,a0B]
 | [],_::_,h=>by have:=h.1;simp at this
 | _::_,[],h=>by have:=h.1;simp at this
 | b::bs,x::rows,h=>by
  refine⟨_,_,rfl,?_,a7M ⟨by have:=h.1;simpa using this,λi c y d a=>h.2 (i+1) c y (by simp_all) (by simp_all)⟩⟩;exact⟨b,_,rfl,h.2 0 b x rfl rfl,reps_pts.mpr rfl⟩
def a9w:List Z->Hq->K3->Prop:=λxs G R=>match xs with
 | [.ref p]=>∃ (rows:List (List Pz)) (m:Nat),G p=some (.lst (rows.map tupZ))/\rows.length≤100000/\a3M rows/\(∀ x∈rows,x.length=m)/\(∀ x∈rows,∀ y∈rows,cmpT x y=true)/\∀ (t:Addr) (os:List (List Pz)),G t=none->os.Perm rows->os.Pairwise (λx y=>ltT y x=false)->R (.ref t) (put G t (.lst (os.map tupZ)))
 | _=>False
theorem a7N:a2U X (.builtin "sorted") a9w:=a1g a7K λL H Q y=>y.un λn G R B d h J=>by
 match n,h with
 | [.ref p],h=>
  obtain⟨v,rfl,r⟩:=B.one;obtain⟨c,m,e,w,k,I,s,h⟩:=h;obtain⟨M,u,D⟩:=d _ _ e;obtain⟨A,rfl,g⟩:=a7L D;exact⟨p,A,c,m,by rw[r],SqL.of u,g,by rw[g.1];exact w,k,I,s,λt N f a j l E=>J _ _ _ _ (h t f (d.out a) l E) (by rw[a0K]) (d.set (.new a) ⟨_,a0A,a7M ⟨j.1,λi b x C F=>by
   have q:=j.2 i b x C F;rw[a0w (λz=>by rw[z,a]at q;cases q)];exact q⟩⟩) (.new a)⟩
theorem a7O (e:G p=some (.lst (rows.map tupZ))) (z:rows.length≤100000) (hf:a3M rows) (hm:∀ x∈rows,x.length=m) (hc:∀ x∈rows,∀ y∈rows,cmpT x y=true) (h:∀ (t:Addr) (os:List (List Pz)),G t=none->os.Perm rows->os.Pairwise (λx y=>ltT y x=false)->R (.ref t) (put G t (.lst (os.map tupZ)))):a9w [.ref p] G R:=⟨rows,m,e,z,hf,hm,hc,h⟩
end L3
namespace L2
open PySem PySem.Spec PyProof.Rows
theorem b3K:IxR X (λx y H Q=>∃ a kvs k v,x=.ref a/\y=kV k/\Rd H a (.dK kvs)/\valV kvs k=some v/\Q v H):=by
 intro h i b s σ H x y v u Q I B j ⟨a,D,k,w,A,m,e,l,q⟩ p;subst A m;cases B;obtain⟨z,E,t,d,c⟩:=b5d I.hok e;obtain⟨f,C,g⟩:=RelO.some_of (by rw[<- l];exact d.val k);exact mI c.typeIs PySem.F.slot_dict_getitem.lookup (wpAny_getItem_of (b05 j) c.mapOf C ⟨rfl,w,H,I.tok _,g,q⟩) p
end L2
namespace L3
open PySem PySem.Spec PyProof.Rows L2
def b8F:R3:=λx y G R=>match x with
 | .ref p=>∃ kvs k z,(G p=some (.dK kvs)\/G p=some (.dF kvs))/\keyZ y=some k/\valZ kvs k=some z/\R z G
 | _=>False
theorem b4F:IxQ X b8F:=b7m b3K λx y H Q u=>u.un λa b G R l o j h v=>by
 cases a with
 | ref p=>
  obtain⟨i,k,z,e,m,t,h⟩:=h;obtain⟨c,f,d,g⟩:∃ c,Rd H p (.dK c)/\c.map _=i.map _/\Reps X.K H _ (c.map _):=by
   rcases e with e | e
   ·obtain⟨c,f,d,g⟩:=j _ _ e;exact⟨c,.inl f,d,g⟩
   ·obtain⟨q,c,f,d,g⟩:=j _ _ e;exact⟨c,.inr ⟨q,f⟩,d,g⟩
  obtain⟨s,n,r⟩:=(a2B d g).2 z t;exact⟨p,c,k,s,l,a6I m o,f,n,v _ _ _ _ h r j (.refl _ _)⟩
 | _=>exact dR h
theorem b4G (e:G p=some (.dK kvs)\/G p=some (.dF kvs)) (a:keyZ y=some k) (v:valZ kvs k=some w) (h:R w G):b8F (.ref p) y G R:=⟨kvs,k,w,e,a,v,h⟩
end L3
set_option maxHeartbeats 4000000
namespace L3
set_option genInjectivity false in
inductive Ex4 {α0 α1 α2 α3:Type}(p:α0->α1->α2->α3->Prop):Prop
 | mk (a0:α0) (a1:α1) (a2:α2) (a3:α3) (h:p a0 a1 a2 a3):Ex4 p
set_option genInjectivity false in
inductive Ex5 {α0 α1 α2 α3 α4:Type}(p:α0->α1->α2->α3->α4->Prop):Prop
 | mk (a0:α0) (a1:α1) (a2:α2) (a3:α3) (a4:α4) (h:p a0 a1 a2 a3 a4):Ex5 p
set_option genInjectivity false in
inductive Ex6 {α0 α1 α2 α3 α4 α5:Type}(p:α0->α1->α2->α3->α4->α5->Prop):Prop
 | mk (a0:α0) (a1:α1) (a2:α2) (a3:α3) (a4:α4) (a5:α5) (h:p a0 a1 a2 a3 a4 a5):Ex6 p
set_option genInjectivity false in
inductive Ex7 {α0 α1 α2 α3 α4 α5 α6:Type}(p:α0->α1->α2->α3->α4->α5->α6->Prop):Prop
 | mk (a0:α0) (a1:α1) (a2:α2) (a3:α3) (a4:α4) (a5:α5) (a6:α6) (h:p a0 a1 a2 a3 a4 a5 a6):Ex7 p
set_option genInjectivity false in
inductive Ex8 {α0 α1 α2 α3 α4 α5 α6 α7:Type}(p:α0->α1->α2->α3->α4->α5->α6->α7->Prop):Prop
 | mk (a0:α0) (a1:α1) (a2:α2) (a3:α3) (a4:α4) (a5:α5) (a6:α6) (a7:α7) (h:p a0 a1 a2 a3 a4 a5 a6 a7):Ex8 p
set_option genInjectivity false in
inductive Ex9 {α0 α1 α2 α3 α4 α5 α6 α7 α8:Type}(p:α0->α1->α2->α3->α4->α5->α6->α7->α8->Prop):Prop
 | mk (a0:α0) (a1:α1) (a2:α2) (a3:α3) (a4:α4) (a5:α5) (a6:α6) (a7:α7) (a8:α8) (h:p a0 a1 a2 a3 a4 a5 a6 a7 a8):Ex9 p
set_option genInjectivity false in
inductive Ex10 {α0 α1 α2 α3 α4 α5 α6 α7 α8 α9:Type}(p:α0->α1->α2->α3->α4->α5->α6->α7->α8->α9->Prop):Prop
 | mk (a0:α0) (a1:α1) (a2:α2) (a3:α3) (a4:α4) (a5:α5) (a6:α6) (a7:α7) (a8:α8) (a9:α9) (h:p a0 a1 a2 a3 a4 a5 a6 a7 a8 a9):Ex10 p
set_option genInjectivity false in
inductive Ex15 {α0 α1 α2 α3 α4 α5 α6 α7 α8 α9 α10 α11 α12 α13 α14:Type}(p:α0->α1->α2->α3->α4->α5->α6->α7->α8->α9->α10->α11->α12->α13->α14->Prop):Prop
 | mk (a0:α0) (a1:α1) (a2:α2) (a3:α3) (a4:α4) (a5:α5) (a6:α6) (a7:α7) (a8:α8) (a9:α9) (a10:α10) (a11:α11) (a12:α12) (a13:α13) (a14:α14) (h:p a0 a1 a2 a3 a4 a5 a6 a7 a8 a9 a10 a11 a12 a13 a14):Ex15 p
end L3
namespace Lw
open PySem L2 L3
noncomputable def top (i:Nat):Stmt:=PySem.Challenge.pw_twotimes_k42_joined_by_worth.main.body.getD i (.Pass ⟨0,0,0,0⟩)
abbrev a2E:Stmt:=top 15
abbrev a2F:Stmt:=top 16
abbrev a2d:Stmt:=top 17
abbrev a1R:Stmt:=top 18
abbrev a4h:Stmt:=top 19
abbrev a15:Stmt:=top 22
abbrev a03:Stmt:=top 24
abbrev a2G:Stmt:=top 23
abbrev a4i:Stmt:=top 21
abbrev a1l:Stmt:=top 35
abbrev a04:Stmt:=a3o (top 39) 7
abbrev a2e:Stmt:=top 33
abbrev a0Z:Stmt:=a3o (top 39) 9
abbrev a1S:Stmt:=a3o (top 39) 5
abbrev a1m:Stmt:=a3o (top 39) 6
abbrev a16:Stmt:=top 26
abbrev a2f:Stmt:=top 28
abbrev a1F:Stmt:=top 31
abbrev a23:Stmt:=top 30
abbrev a1x:Stmt:=top 34
abbrev a1y:Stmt:=top 37
abbrev a1T:Stmt:=top 38
abbrev a5q:Stmt:=top 41
abbrev a5r:Stmt:=top 42
abbrev a6J:Stmt:=top 43
abbrev a5s:Stmt:=top 44
abbrev a3w:Stmt:=top 45
abbrev a5t:Stmt:=top 46
abbrev b51:Stmt:=top 47
abbrev a8D:Stmt:=top 48
abbrev a6K:Stmt:=top 49
abbrev b2a:Stmt:=top 50
abbrev a8E:Stmt:=top 51
abbrev a8F:Stmt:=top 52
abbrev a5u:Stmt:=top 53
abbrev a1G:Stmt:=a3o (top 39) 0
abbrev a1z:Stmt:=a3o (top 39) 8
abbrev a24:Stmt:=a3o (top 39) 1
abbrev a6L:Stmt:=top 54
theorem a01 (hr:Room k A):A.units+66<cLine:=by have:=hr.un;omega
local macro_rules | `(tactic| walk_at "sc")=>`(tactic| exact⟨rfl,rfl,rfl,by decide +kernel,rfl,by decide +kernel,by decide +kernel⟩)
theorem a7P:FnScope ["thing"] ["thing"] (a0i a2E):=by walk_at "sc"
theorem a5K:FnScope ["thing"] ["thing"] (a0i a2F):=by walk_at "sc"
theorem a5v:FnScope ["begin","end"] ["begin","end"] (a0i a2d):=by walk_at "sc"
theorem a4I:FnScope ["end","other"] ["end","other"] (a0i a1R):=by walk_at "sc"
theorem sc_p_common:FnScope ["one","other","begin","end"] ["one","other"] (a0i a4h):=by walk_at "sc"
theorem a6M:FnScope ["line","moment"] ["line","moment"] (a0i a15):=by walk_at "sc"
theorem sc_p_with_alike_joined:FnScope ["pieces","told","piece"] ["pieces"] (a0i a03):=by walk_at "sc"
theorem a7Q:FnScope ["line","moment"] ["line","moment"] (a0i a2G):=by walk_at "sc"
theorem sc_p_put_on:FnScope ["line","begin","end","worth","pieces"] ["line","begin","end","worth"] (a0i a4i):=by walk_at "sc"
theorem a3x:FnScope ["knowing","last"] ["knowing","last"] (a0i a1l):=by walk_at "sc"
theorem a2W:FnScope ["self","knowing"] ["self","knowing"] (a0i a04):=by walk_at "sc"
theorem a5w:FnScope ["thing"] ["thing"] (a0i a2e):=by walk_at "sc"
theorem sc_Sheet_known_line:FnScope ["self","key","knowing","since","line"] ["self","key","knowing"] (a0i a0Z):=by walk_at "sc"
theorem a4J:FnScope ["self","key","knowing"] ["self","key","knowing"] (a0i a1S):=by walk_at "sc"
theorem a4K:FnScope ["self","knowing"] ["self","knowing"] (a0i a1m):=by walk_at "sc"
theorem a6N:FnScope ["sheet","knowing"] ["sheet","knowing"] (a0i a16):=by walk_at "sc"
theorem sc_p_holders_in:FnScope ["table","holders","key","begin","end","worth"] ["table"] (a0i a2f):=by walk_at "sc"
theorem sc_p_held_by_both:FnScope ["holders","other_holders","told","key","begin","end","other_key","other_begin","other_end","both"] ["holders","other_holders"] (a0i a1F):=by walk_at "sc"
theorem sc_p_by_worth:FnScope ["sheet","knowing","other","other_knowing","holders","other_holders","told","worth","row"] ["sheet","knowing","other","other_knowing"] (a0i a23):=by walk_at "sc"
theorem a3Q:FnScope ["begin","end"] ["begin","end"] (a0i a1x):=by walk_at "sc"
theorem sc_p_check_telling:FnScope ["telling","name"] ["telling"] (a0i a1y):=by walk_at "sc"
theorem sc_p_line_behind:FnScope ["line","telling","worth"] ["line","telling"] (a0i a1T):=by walk_at "sc"
theorem b0o:FnScope ["script","k"] ["script","k"] (a0i a5q):=by walk_at "sc"
theorem sc_tumbled:FnScope ["cell","k","stir"] ["cell","k"] (a0i a5r):=by walk_at "sc"
theorem sc_words:FnScope ["cell","letters","word","at","first","last","moved"] ["cell"] (a0i a6J):=by walk_at "sc"
theorem sc_stretch:FnScope ["cell","kind","begin"] ["cell"] (a0i a5s):=by walk_at "sc"
theorem sc_by_digits:FnScope ["cell","keys","worths","begin","end"] ["cell","keys","worths"] (a0i a3w):=by walk_at "sc"
theorem sc_telling:FnScope ["cell","keys","worths","key","begin","end"] ["cell","keys","worths"] (a0i a5t):=by walk_at "sc"
theorem b8G:FnScope ["telling","moment"] ["telling","moment"] (a0i b51):=by walk_at "sc"
theorem sc_worth:FnScope ["tellings","key","moment","found","telling"] ["tellings","key","moment"] (a0i a8D):=by walk_at "sc"
theorem sc_points:FnScope ["tellings","found","telling"] ["tellings"] (a0i a6K):=by walk_at "sc"
theorem sc_pair:FnScope ["rows","one","other","points","at","worth","end"] ["rows","one","other","points"] (a0i b2a):=by walk_at "sc"
theorem sc_due:FnScope ["one","other","keys","points","lines","beside","rows","k","j","worth","begin","end","found","head"] ["one","other","keys"] (a0i a8E):=by walk_at "sc"
theorem sc_right:FnScope ["sheets","tellings","knowings","keys","due","found","row"] ["sheets","tellings","knowings","keys"] (a0i a8F):=by walk_at "sc"
theorem sc_refused:FnScope ["sheets","knowings","right","other","e"] ["sheets","knowings"] (a0i a5u):=by walk_at "sc"
theorem a4j:FnScope ["self"] ["self"] (a0i a1G):=by walk_at "sc"
theorem a3R:FnScope ["self","key","line"] ["self","key","line"] (a0i a1z):=by walk_at "sc"
theorem sc_Sheet_tell:FnScope ["self","telling","key","line"] ["self","telling"] (a0i a24):=by walk_at "sc"
theorem sc_law:FnScope ["script","keys","worths","sheets","tellings","cell","at","xs","last","some","own","bad"] ["script"] (a0i a6L):=by walk_at "sc"
theorem c0r:eV (α:=Str) ["sign"]:=by decide +kernel
theorem b0p:eV (α:=Str) ["begin","end","worth","moment"]:=by decide +kernel
theorem b52:eV (α:=Str) ["begin","end","worth"]:=by decide +kernel
theorem c0s:eV (α:=Str) ["key","knowing","self"]:=by decide +kernel
theorem c0t:eV (α:=Str) ["key","knowing","sheet"]:=by decide +kernel
theorem c0u:eV (α:=Str) ["k","letters","cell"]:=by decide +kernel
theorem c0v:eV (α:=Str) ["key","one","points"]:=by decide +kernel
theorem c0w:eV (α:=Str) ["point","one","key"]:=by decide +kernel
theorem c0x:eV (α:=Str) ["key","other","points"]:=by decide +kernel
theorem c0y:eV (α:=Str) ["point","other","key"]:=by decide +kernel
theorem b8H:eV (α:=Str) ["row"]:=by decide +kernel
theorem b8I:eV (α:=Str) ["row","head"]:=by decide +kernel
theorem b8J:eV (α:=Str) ["k","script"]:=by decide +kernel
set_option genInjectivity false in
structure Ad where
 f0:Addr
 d0:jZ
 f1:Addr
 d1:jZ
 f2:Addr
 d2:jZ
 f3:Addr
 d3:jZ
 f4:Addr
 d4:jZ
 f5:Addr
 d5:jZ
 f6:Addr
 d6:jZ
 f7:Addr
 d7:jZ
 f8:Addr
 d8:jZ
 f9:Addr
 d9:jZ
 f10:Addr
 d10:jZ
 f11:Addr
 d11:jZ
 f12:Addr
 d12:jZ
 f13:Addr
 d13:jZ
 f14:Addr
 d14:jZ
 f15:Addr
 d15:jZ
 f16:Addr
 d16:jZ
 f17:Addr
 d17:jZ
 f18:Addr
 d18:jZ
 f19:Addr
 d19:jZ
 f20:Addr
 d20:jZ
 f21:Addr
 d21:jZ
 f22:Addr
 d22:jZ
 f23:Addr
 d23:jZ
 f24:Addr
 d24:jZ
 f25:Addr
 d25:jZ
 f26:Addr
 d26:jZ
 f27:Addr
 d27:jZ
 f28:Addr
 d28:jZ
 f29:Addr
 d29:jZ
 f30:Addr
 d30:jZ
 f31:Addr
 d31:jZ
 f32:Addr
 d32:jZ
 f33:Addr
 d33:jZ
 f34:Addr
 d34:jZ
 f35:Addr
 d35:jZ
 f36:Addr
 d36:jZ
 f37:Addr
 d37:jZ
 f38:Addr
 d38:jZ
 c_Sheet:Addr
 x_NoKnowing:Addr
 x_NoName:Addr
 x_NoStretch:Addr
 x_TimesError:Addr
 x_Broken:Addr
 x_Forgotten:Addr
 x_NoFit:Addr
 x_NoLog:Addr
 x_NoRow:Addr
 x_NoSheet:Addr
structure Fns (K:Fg) (a:Ad):Prop where
 n0:Fun K "is_name" "is_name" a2E a.f0 a.d0
 n1:Fun K "is_moment" "is_moment" a2F a.f1 a.d1
 n2:Fun K "is_stretch" "is_stretch" a2d a.f2 a.d2
 n3:Fun K "earlier_end" "earlier_end" a1R a.f3 a.d3
 n4:Fun K "common" "common" a4h a.f4 a.d4
 n5:Fun K "ahead_of" "ahead_of" a15 a.f5 a.d5
 n6:Fun K "with_alike_joined" "with_alike_joined" a03 a.f6 a.d6
 n7:Fun K "from_on" "from_on" a2G a.f7 a.d7
 n8:Fun K "put_on" "put_on" a4i a.f8 a.d8
 n9:Fun K "check_in_reach" "check_in_reach" a1l a.f9 a.d9
 n10:Fun K "check_knowing" "Sheet.check_knowing" a04 a.f10 a.d10
 n11:Fun K "check_name" "check_name" a2e a.f11 a.d11
 n12:Fun K "known_line" "Sheet.known_line" a0Z a.f12 a.d12
 n13:Fun K "line_at" "Sheet.line_at" a1S a.f13 a.d13
 n14:Fun K "keys_at" "Sheet.keys_at" a1m a.f14 a.d14
 n15:Fun K "table_at" "table_at" a16 a.f15 a.d15
 n16:Fun K "holders_in" "holders_in" a2f a.f16 a.d16
 n17:Fun K "held_by_both" "held_by_both" a1F a.f17 a.d17
 n18:Fun K "by_worth" "by_worth" a23 a.f18 a.d18
 n19:Fun K "check_stretch" "check_stretch" a1x a.f19 a.d19
 n20:Fun K "check_telling" "check_telling" a1y a.f20 a.d20
 n21:Fun K "line_behind" "line_behind" a1T a.f21 a.d21
 n22:Fun K "_law_cell_at" "_law_cell_at" a5q a.f22 a.d22
 n23:Fun K "_law_tumbled" "_law_tumbled" a5r a.f23 a.d23
 n24:Fun K "_law_words" "_law_words" a6J a.f24 a.d24
 n25:Fun K "_law_stretch" "_law_stretch" a5s a.f25 a.d25
 n26:Fun K "_law_by_digits" "_law_by_digits" a3w a.f26 a.d26
 n27:Fun K "_law_telling" "_law_telling" a5t a.f27 a.d27
 n28:Fun K "_law_has" "_law_has" b51 a.f28 a.d28
 n29:Fun K "_law_worth" "_law_worth" a8D a.f29 a.d29
 n30:Fun K "_law_points" "_law_points" a6K a.f30 a.d30
 n31:Fun K "_law_pair" "_law_pair" b2a a.f31 a.d31
 n32:Fun K "_law_due" "_law_due" a8E a.f32 a.d32
 n33:Fun K "_law_right" "_law_right" a8F a.f33 a.d33
 n34:Fun K "_law_refused" "_law_refused" a5u a.f34 a.d34
 n35:Fun K "__init__" "Sheet.__init__" a1G a.f35 a.d35
 n36:Fun K "keep_line" "Sheet.keep_line" a1z a.f36 a.d36
 n37:Fun K "tell" "Sheet.tell" a24 a.f37 a.d37
 n38:Fun K "law" "law" a6L a.f38 a.d38
theorem a7R {K:Fg}{a:Ad}(F:Fns K a):Binds K a.d0 ["thing"] []:=F.n0.binds λ_ _ _ _ _ _=>lnS λ_=>ln0 rfl
theorem a3l {K:Fg}{a:Ad}(F:Fns K a):Binds K a.d1 ["thing"] []:=F.n1.binds λ_ _ _ _ _ _=>lnS λ_=>ln0 rfl
theorem a5x {K:Fg}{a:Ad}(F:Fns K a):Binds K a.d2 ["begin","end"] []:=F.n2.binds λ_ _ _ _ _ _=>lnS λ_=>lnS λ_=>ln0 rfl
theorem a2P {K:Fg}{a:Ad}(F:Fns K a):Binds K a.d3 ["end","other"] []:=F.n3.binds λ_ _ _ _ _ _=>lnS λ_=>lnS λ_=>ln0 rfl
theorem a8G {K:Fg}{a:Ad}(F:Fns K a):Binds K a.d4 ["one","other"] []:=F.n4.binds λ_ _ _ _ _ _=>lnS λ_=>lnS λ_=>ln0 rfl
theorem a6O {K:Fg}{a:Ad}(F:Fns K a):Binds K a.d5 ["line","moment"] []:=F.n5.binds λ_ _ _ _ _ _=>lnS λ_=>lnS λ_=>ln0 rfl
theorem a2X {K:Fg}{a:Ad}(F:Fns K a):Binds K a.d6 ["pieces"] []:=F.n6.binds λ_ _ _ _ _ _=>lnS λ_=>ln0 rfl
theorem a7S {K:Fg}{a:Ad}(F:Fns K a):Binds K a.d7 ["line","moment"] []:=F.n7.binds λ_ _ _ _ _ _=>lnS λ_=>lnS λ_=>ln0 rfl
theorem a8H {K:Fg}{a:Ad}(F:Fns K a):Binds K a.d8 ["line","begin","end","worth"] []:=F.n8.binds λ_ _ _ _ _ _=>lnS λ_=>lnS λ_=>lnS λ_=>lnS λ_=>ln0 rfl
theorem a3y {K:Fg}{a:Ad}(F:Fns K a):Binds K a.d9 ["knowing","last"] []:=F.n9.binds λ_ _ _ _ _ _=>lnS λ_=>lnS λ_=>ln0 rfl
theorem a1t {K:Fg}{a:Ad}(F:Fns K a):Binds K a.d10 ["self","knowing"] []:=F.n10.binds λ_ _ _ _ _ _=>lnS λ_=>lnS λ_=>ln0 rfl
theorem a25 {K:Fg}{a:Ad}(F:Fns K a):Binds K a.d11 ["thing"] []:=F.n11.binds λ_ _ _ _ _ _=>lnS λ_=>ln0 rfl
theorem a09 {K:Fg}{a:Ad}(F:Fns K a):Binds K a.d12 ["self","key","knowing"] []:=F.n12.binds λ_ _ _ _ _ _=>lnS λ_=>lnS λ_=>lnS λ_=>ln0 rfl
theorem a4L {K:Fg}{a:Ad}(F:Fns K a):Binds K a.d13 ["self","key","knowing"] []:=F.n13.binds λ_ _ _ _ _ _=>lnS λ_=>lnS λ_=>lnS λ_=>ln0 rfl
theorem a4M {K:Fg}{a:Ad}(F:Fns K a):Binds K a.d14 ["self","knowing"] []:=F.n14.binds λ_ _ _ _ _ _=>lnS λ_=>lnS λ_=>ln0 rfl
theorem a3S {K:Fg}{a:Ad}(F:Fns K a):Binds K a.d15 ["sheet","knowing"] []:=F.n15.binds λ_ _ _ _ _ _=>lnS λ_=>lnS λ_=>ln0 rfl
theorem a26 {K:Fg}{a:Ad}(F:Fns K a):Binds K a.d16 ["table"] []:=F.n16.binds λ_ _ _ _ _ _=>lnS λ_=>ln0 rfl
theorem a4k {K:Fg}{a:Ad}(F:Fns K a):Binds K a.d17 ["holders","other_holders"] []:=F.n17.binds λ_ _ _ _ _ _=>lnS λ_=>lnS λ_=>ln0 rfl
theorem a2H {K:Fg}{a:Ad}(F:Fns K a):Binds K a.d18 ["sheet","knowing","other","other_knowing"] []:=F.n18.binds λ_ _ _ _ _ _=>lnS λ_=>lnS λ_=>lnS λ_=>lnS λ_=>ln0 rfl
theorem a3T {K:Fg}{a:Ad}(F:Fns K a):Binds K a.d19 ["begin","end"] []:=F.n19.binds λ_ _ _ _ _ _=>lnS λ_=>lnS λ_=>ln0 rfl
theorem a3U {K:Fg}{a:Ad}(F:Fns K a):Binds K a.d20 ["telling"] []:=F.n20.binds λ_ _ _ _ _ _=>lnS λ_=>ln0 rfl
theorem a4N {K:Fg}{a:Ad}(F:Fns K a):Binds K a.d21 ["line","telling"] []:=F.n21.binds λ_ _ _ _ _ _=>lnS λ_=>lnS λ_=>ln0 rfl
theorem a4l {K:Fg}{a:Ad}(F:Fns K a):Binds K a.d22 ["script","k"] []:=F.n22.binds λ_ _ _ _ _ _=>lnS λ_=>lnS λ_=>ln0 rfl
theorem a0x {K:Fg}{a:Ad}(F:Fns K a):Binds K a.d23 ["cell","k"] []:=F.n23.binds λ_ _ _ _ _ _=>lnS λ_=>lnS λ_=>ln0 rfl
theorem a9x {K:Fg}{a:Ad}(F:Fns K a):Binds K a.d24 ["cell"] []:=F.n24.binds λ_ _ _ _ _ _=>lnS λ_=>ln0 rfl
theorem b0q {K:Fg}{a:Ad}(F:Fns K a):Binds K a.d25 ["cell"] []:=F.n25.binds λ_ _ _ _ _ _=>lnS λ_=>ln0 rfl
theorem a7T {K:Fg}{a:Ad}(F:Fns K a):Binds K a.d26 ["cell","keys","worths"] []:=F.n26.binds λ_ _ _ _ _ _=>lnS λ_=>lnS λ_=>lnS λ_=>ln0 rfl
theorem b0r {K:Fg}{a:Ad}(F:Fns K a):Binds K a.d27 ["cell","keys","worths"] []:=F.n27.binds λ_ _ _ _ _ _=>lnS λ_=>lnS λ_=>lnS λ_=>ln0 rfl
theorem b8K {K:Fg}{a:Ad}(F:Fns K a):Binds K a.d28 ["telling","moment"] []:=F.n28.binds λ_ _ _ _ _ _=>lnS λ_=>lnS λ_=>ln0 rfl
theorem a9y {K:Fg}{a:Ad}(F:Fns K a):Binds K a.d29 ["tellings","key","moment"] []:=F.n29.binds λ_ _ _ _ _ _=>lnS λ_=>lnS λ_=>lnS λ_=>ln0 rfl
theorem a7U {K:Fg}{a:Ad}(F:Fns K a):Binds K a.d30 ["tellings"] []:=F.n30.binds λ_ _ _ _ _ _=>lnS λ_=>ln0 rfl
theorem b53 {K:Fg}{a:Ad}(F:Fns K a):Binds K a.d31 ["rows","one","other","points"] []:=F.n31.binds λ_ _ _ _ _ _=>lnS λ_=>lnS λ_=>lnS λ_=>lnS λ_=>ln0 rfl
theorem b8L {K:Fg}{a:Ad}(F:Fns K a):Binds K a.d32 ["one","other","keys"] []:=F.n32.binds λ_ _ _ _ _ _=>lnS λ_=>lnS λ_=>lnS λ_=>ln0 rfl
theorem a6P {K:Fg}{a:Ad}(F:Fns K a):Binds K a.d33 ["sheets","tellings","knowings","keys"] []:=F.n33.binds λ_ _ _ _ _ _=>lnS λ_=>lnS λ_=>lnS λ_=>lnS λ_=>ln0 rfl
theorem a6d {K:Fg}{a:Ad}(F:Fns K a):Binds K a.d34 ["sheets","knowings"] []:=F.n34.binds λ_ _ _ _ _ _=>lnS λ_=>lnS λ_=>ln0 rfl
theorem a2m {K:Fg}{a:Ad}(F:Fns K a):Binds K a.d35 ["self"] []:=F.n35.binds λ_ _ _ _ _ _=>lnS λ_=>ln0 rfl
theorem a3V {K:Fg}{a:Ad}(F:Fns K a):Binds K a.d36 ["self","key","line"] []:=F.n36.binds λ_ _ _ _ _ _=>lnS λ_=>lnS λ_=>lnS λ_=>ln0 rfl
theorem a6Q {K:Fg}{a:Ad}(F:Fns K a):Binds K a.d37 ["self","telling"] []:=F.n37.binds λ_ _ _ _ _ _=>lnS λ_=>lnS λ_=>ln0 rfl
def FE (K:Fg) (x q:Str) (st:Stmt) (f:Addr):Prop:=∃ d,Fun K x q st f d
theorem fe_mk {K:Fg}{x qual:Str}{st:Stmt}{f:Addr}{oc:Value}{od an:Option Addr}{osl:Array (Option Value)}{kV doc pm cdv ct:Value}(l:K.lookup f=some ⟨oc,od,.func (PySem.W.fnOf x qual (a3p st) (a18 st) (a0i st) .none kV doc pm an cdv ct),osl⟩) (c:PySem.W.codeIn K cdv qual=true) (k:PySem.W.keepIn K (.ref f)=true):FE K x qual st f:=⟨_,b4f l c k⟩
structure Txt (K:Fg) (mg:Str->Option Value) (a:Ad):Prop where
 m0:mg "is_name"=some (.ref a.f0)
 m1:mg "is_moment"=some (.ref a.f1)
 m2:mg "is_stretch"=some (.ref a.f2)
 m3:mg "earlier_end"=some (.ref a.f3)
 m4:mg "common"=some (.ref a.f4)
 m5:mg "ahead_of"=some (.ref a.f5)
 m6:mg "with_alike_joined"=some (.ref a.f6)
 m7:mg "from_on"=some (.ref a.f7)
 m8:mg "put_on"=some (.ref a.f8)
 m9:mg "check_in_reach"=some (.ref a.f9)
 mt10:Meth K a.c_Sheet "check_knowing" a.f10
 m11:mg "check_name"=some (.ref a.f11)
 mt12:Meth K a.c_Sheet "known_line" a.f12
 mt13:Meth K a.c_Sheet "line_at" a.f13
 mt14:Meth K a.c_Sheet "keys_at" a.f14
 m15:mg "table_at"=some (.ref a.f15)
 m16:mg "holders_in"=some (.ref a.f16)
 m17:mg "held_by_both"=some (.ref a.f17)
 m18:mg "by_worth"=some (.ref a.f18)
 m19:mg "check_stretch"=some (.ref a.f19)
 m20:mg "check_telling"=some (.ref a.f20)
 m21:mg "line_behind"=some (.ref a.f21)
 m22:mg "_law_cell_at"=some (.ref a.f22)
 m23:mg "_law_tumbled"=some (.ref a.f23)
 m24:mg "_law_words"=some (.ref a.f24)
 m25:mg "_law_stretch"=some (.ref a.f25)
 m26:mg "_law_by_digits"=some (.ref a.f26)
 m27:mg "_law_telling"=some (.ref a.f27)
 m28:mg "_law_has"=some (.ref a.f28)
 m29:mg "_law_worth"=some (.ref a.f29)
 m30:mg "_law_points"=some (.ref a.f30)
 m31:mg "_law_pair"=some (.ref a.f31)
 m32:mg "_law_due"=some (.ref a.f32)
 m33:mg "_law_right"=some (.ref a.f33)
 m34:mg "_law_refused"=some (.ref a.f34)
 mt35:Meth K a.c_Sheet "__init__" a.f35
 mt36:Meth K a.c_Sheet "keep_line" a.f36
 mt37:Meth K a.c_Sheet "tell" a.f37
 m38:mg "law"=some (.ref a.f38)
 b_all:mg "all"=none
 b_isinstance:mg "isinstance"=none
 b_str:mg "str"=none
 b_len:mg "len"=none
 b_bool:mg "bool"=none
 b_int:mg "int"=none
 b_min:mg "min"=none
 b_max:mg "max"=none
 b_reversed:mg "reversed"=none
 b_sorted:mg "sorted"=none
 b_dict:mg "dict"=none
 b_range:mg "range"=none
 b_set:mg "set"=none
 b_list:mg "list"=none
 b_tuple:mg "tuple"=none
 b_ValueError:mg "ValueError"=none
 cl_Sheet:Cls K a.c_Sheet
 mg_Sheet:mg "Sheet"=some (.ref a.c_Sheet)
 mk_Sheet:Mk K a.c_Sheet a.f35
 na_last:NoAttr K a.c_Sheet "last"
 na_kept:NoAttr K a.c_Sheet "kept"
 x_NoKnowing:mg "NoKnowing"=some (.ref a.x_NoKnowing)
 x_NoName:mg "NoName"=some (.ref a.x_NoName)
 x_NoStretch:mg "NoStretch"=some (.ref a.x_NoStretch)
 x_TimesError:mg "TimesError"=some (.ref a.x_TimesError)
 x_Broken:mg "Broken"=some (.ref a.x_Broken)
 x_Forgotten:mg "Forgotten"=some (.ref a.x_Forgotten)
 x_NoFit:mg "NoFit"=some (.ref a.x_NoFit)
 x_NoLog:mg "NoLog"=some (.ref a.x_NoLog)
 x_NoRow:mg "NoRow"=some (.ref a.x_NoRow)
 x_NoSheet:mg "NoSheet"=some (.ref a.x_NoSheet)
 xi_NoKnowing:PySem.W.excIn K a.x_NoKnowing veM "ValueError.__new__"=true
 xi_NoName:PySem.W.excIn K a.x_NoName veM "ValueError.__new__"=true
 xi_NoStretch:PySem.W.excIn K a.x_NoStretch veM "ValueError.__new__"=true
 xm_NoKnowing_TimesError:PySem.W.exmOne K (.ref a.x_NoKnowing) (.ref a.x_TimesError)=some true
 xk_NoKnowing:ExK K a.x_NoKnowing
 kt_NoKnowing_ValueError:PySem.W.kitOne K (.ref a.x_NoKnowing) (.type "ValueError")=some true
 ka_NoKnowing_0:PySem.W.kitAny K (.ref a.x_NoKnowing) [.ref a.x_Broken,.ref a.x_Forgotten,.ref a.x_NoFit,.ref a.x_NoLog,.ref a.x_NoName,.ref a.x_NoRow,.ref a.x_NoSheet,.ref a.x_NoStretch]=some false
 c_LONGEST_NAME:∃ t,mg "LONGEST_NAME"=some (.int 8 t)
 c_LAST_MOMENT:∃ t,mg "LAST_MOMENT"=some (.int 1000000000000 t)
theorem a9z (hg:Gl X x) (hm:∃ t,X.mg x=some (.int i t)) (hd:(x==("__debug__":Str))=false:=by decide):PE X (.Name x pos) (tC (.int i)):=by
 obtain⟨t,h⟩:=hm;exact b0F hg h ⟨t,rfl⟩ hd
theorem c0z (h:t σ G λws G1=>∃ (p:Addr) (ns:List Int),ws=[.ref p]/\G1 p=some (.lst (ns.map Z.int))/\ns.length≤1000 /\
  ∀ (t:Addr) (ks:List Int),G1 t=none->ks.Pairwise (·<·)->(∀ x,x∈ks↔x∈ns)->ks.length≤ns.length->R (.ref t) (put G1 t (.lst (ks.map Z.int)))):uSS t σ G R:=h
def a7V:P3:=λws G R=>∃ a ns,ws=[.scr a ns]/\ns.length≤63/\∀ G',R (.bl true) G'
theorem b2b {K:Fg}{H:Hp}{E:XK}(a:Addr) (ns:List Int) (hl:ns.length≤63) (f:Fz K H a (ns.map V.int)):lowP K a7V [.ref a] H (λv _=>v=.bl true) E:=
 ⟨[.scr a ns],λ_=>none,λw _=>w=.bl true,.cons (by rw[a4c];exact⟨rfl,f⟩) .nil,λ_ _ e=>(nomatch e),⟨a,ns,rfl,hl,λ_=>rfl⟩,λw G v b e r _ _=>by subst e;rw[a0U]at r;exact r⟩
theorem lenK (h:Nat.ble n 1000=true):n≤sizeLine:=fw (a0r (ja h))
theorem a17 (h:n≤1000):n≤sizeLine:=fw (a0r h)
def b8M (x w:Int):Prop:=w=0\/(w=1/\0≤x/\x<536870909)
abbrev RowO (x w:Int):O:=.lst [.int x,.int w]
def RowAt (G:Hq) (r:Addr):Prop:=∃ x w,G r=some (RowO x w)/\b8M x w
local macro_rules | `(tactic| walk_at "sd")=>`(tactic| first | assumption | (exact a17 (by first | decide | omega | (simp;done) | (simp;omega))) | (exact a0r (by first | decide | omega | (simp;done) | (simp;omega))) | decide | omega)
local macro_rules | `(tactic| walk_at "hp")=>`(tactic| first | assumption | exact a0e | (refine a0q ?_ (by assumption);walk_at "hp") | (refine Sm.get (by assumption) ?_;walk_at "hp"))
local macro_rules | `(tactic| walk_at "go1")=>`(tactic| with_reducible (first
 | refine b9V ?_ | refine b9M (by with_unfolding_all rfl) ?_ | refine i_c ?_ | refine i_op ?_ | refine i_un ?_ | refine b7K ?_ | refine b5s ?_ | refine b9N ?_ | refine i_or ?_ | refine b9O ?_ | refine b7L ?_ | refine b9P ?_ | refine b7M ?_ | refine i_if ?_
 | refine b9Q ?_ | refine i_truI ?_ | refine i_truB ?_ | refine i_sl ?_ | refine b3o ?_ | refine b7N ?_ | refine b9R ?_ | refine b7O ?_ | refine b9S ?_ | refine b9T ?_ | refine i_cb ?_ | refine c0z ?_ | refine b9U ?_ | refine i_bm ?_ | refine b7P ?_
 | refine b7Q ?_ | refine b7R ?_ | refine b9W ?_ | refine i_retN ?_ | refine b9X ?_ | refine b9Y ?_ | refine b9Z ?_ | refine i_aug (by with_unfolding_all rfl) ?_ | refine i_break ?_ | refine i_cont ?_ | refine b71 ?_ | refine b97 ?_ | refine i_iL ?_ | refine i_iT ?_ | refine i_iS ?_ | refine b98 ?_ | refine i_iR2 ?_ | refine i_wkC ?_ | refine b99 ?_ | refine c0a ?_ | refine i_tt ?_
 | refine b7S ?_ | refine i_I0 ?_ | refine b90 ?_ | refine i_CI ?_ | refine i_CS ?_ | refine b91 ?_ | refine i_isB ?_ | refine b7T ?_ | refine i_eqB ?_ | refine b7U ?_ | refine b92 ?_ | refine i_inS ?_ | refine b7Y ?_ | refine i_nm ?_ | refine a2V (by with_unfolding_all rfl) ?_ | refine i_lenT ?_ | refine b7Z ?_ | refine i_mm ?_ | refine b96 ?_
 | refine ifT ?_ | refine ifF ?_ | refine ifNN ?_ | refine ifNI ?_ | refine ifNS ?_ | refine ifNU ?_ | refine ifMN ?_ | refine ifMI ?_ | refine ifMS ?_ | refine ifMU ?_ | refine a2V at0 ?_ | refine a2V at1 ?_ | refine a2V at2 ?_ | refine b8i ?_ | refine b8j ?_ | refine i_iR3 ?_ | refine i_iZip ?_ | refine b8m ?_ | refine b5L ?_ | refine b5M ?_ | refine b8n ?_ | refine b8o ?_ | refine i_disp ?_ | refine i_pcons ?_ | refine i_pnil ?_ | refine⟨_,rfl,?_⟩))
local macro_rules | `(tactic| walk_at "go")=>`(tactic| repeat walk_at "go1")
def a6e:P3:=λws G R=>∃ p ns k,ws=[.scr p ns,.int k]/\0≤k/\∀ i,R (.int i) G
theorem a8I (h:a6e ws G R):ws.length=2:=by obtain⟨_,_,_,rfl,_⟩:=h;rfl
variable {P:jY}{w:World}{K:Fg}{mg:Str->Option Value}{base:Heap}{a:Ad}
theorem b0s (F:Fns K a) (T:Txt K mg a):FnOk P w K mg base CX0 1 a.f22 a.d22 ["script","k"] (lowP K a6e):=by
 refine fn3 F.n22 b0o (λf G R h=>(by exact a8I h)) (λl A b s H E f G R g h=>?_);refine⟨_,(a0k (z_if (a0z o_lt (a0c (pv 1)) (a0C b_len rfl T.b_len PySem.boot_len (a0b (a0c (pv 0)) a0h a0a)) (a0u _))
  (a0n (a0H (q_ix x_ix (a0c (pv 0)) (a0c (pv 1)) (λ_ _=>rfl))))
  a06)
  (a0n (a0H a0g))),?_⟩
 obtain⟨p,i,k,rfl,e,q⟩:=h;walk_at "go";refine ifD (λc=>?_) λ_=>?_
 ·obtain⟨j,rfl⟩:=fS e;have d:j<i.length:=by omega
  walk_at "go";exact b93 (a1e (en d)) (q _)
 ·walk_at "go";exact q _
theorem m9 (x:Int):0≤x % 536870909/\x % 536870909<536870909:=⟨eS _ (by decide),eW _ (by decide)⟩
theorem RowAt.new (h:RowAt G r) (n:G p=none):RowAt (put G p o) r:=by
 obtain⟨x,w,e,k⟩:=h;exact⟨x,w,a0q e n,k⟩
theorem RowAt.at {G:Hq}{r:Addr}{x w:Int}(k:b8M x w):RowAt (put G r (RowO x w)) r:=⟨x,w,a0e,k⟩
structure Rw where
 b:Int
 e:Option Int
 w:List Z
@[reducible] noncomputable def oz:Option Int->Z
 | none=>.non
 | some i=>.int i
noncomputable def Rw.z (r:Rw):Z:=.tup (.int r.b::oz r.e::r.w)
noncomputable def bef (t:Int):Option Int->Bool
 | none=>true
 | some e=>decide (t<e)
noncomputable def Rw.has (r:Rw) (t:Int):Bool:=decide (r.b≤t)&&bef t r.e
def Rw.good (r:Rw):Prop:=bef r.b r.e=true
noncomputable def val (l:List Rw) (t:Int):Option (List Z):=(l.find? (·.has t)).map (·.w)
theorem a1H:val [] t=none:=rfl
theorem a0M:val (r::l) t=if r.has t=true then some r.w else val l t:=by
 unfold val;rw[fi];cases h:r.has t<;>simp
theorem a1c:val (l++m) t=(val l t).or (val m t):=by
 unfold val;rw[jx];cases h:l.find? _<;>simp
def Lt (r s:Rw):Prop:=∃ e,r.e=some e/\e≤s.b
def Lt2 (r s:Rw):Prop:=∃ e,r.e=some e/\e≤s.b/\(e=s.b->r.w≠s.w)
def Rise (l:List Rw):Prop:=(∀ r∈l,r.good)/\l.Pairwise Lt
def Can (l:List Rw):Prop:=(∀ r∈l,r.good)/\l.Pairwise Lt2
theorem Lt2.lt {r s:Rw}(h:Lt2 r s):Lt r s:=let ⟨e,a,b,_⟩:=h;⟨e,a,b⟩
theorem Can.rise (h:Can l):Rise l:=⟨h.1,h.2.imp Lt2.lt⟩
theorem Can.nil:Can []:=⟨λ_ h=>by simp at h,.nil⟩
theorem Rise.nil:Rise []:=Can.nil.rise
theorem Can.tail (h:Can (r::l)):Can l:=⟨λs a=>h.1 s (.tail _ a),(et.mp h.2).2⟩
theorem Rise.tail (h:Rise (r::l)):Rise l:=⟨λs a=>h.1 s (.tail _ a),(et.mp h.2).2⟩
theorem a6R {r:Rw}(h:r.good):r.has r.b=true:=by
 unfold Rw.has;rw[h];simp
theorem Lt.has (h:Lt r s) (a:r.has t=true):s.has t=false:=by
 obtain⟨e,c,d⟩:=h;unfold Rw.has at a ⊢;rw[c]at a;simp only[bef,fz,decide_eq_true_eq]at a
 have:decide (s.b≤t)=false:=decide_eq_false (by omega)
 rw[this,jy]
theorem Lt.b (g:r.good) (h:Lt r s):r.b<s.b:=by
 obtain⟨e,a,c⟩:=h
 have:bef r.b r.e=true:=g
 rw[a]at this;simp only[bef,decide_eq_true_eq]at this;omega
theorem a6S (h:∀ r∈l,r.has t=false):val l t=none:=by simp_all[val]
theorem a4Y {l:List Rw}{t:Int}{w:List Z}(h:val l t=some w):∃ r∈l,r.has t=true/\r.w=w:=by
 induction l with
 | nil=>cases h
 | cons r l ih=>
  rw[a0M]at h
  split at h
  ·simp_all
  ·obtain⟨s,a,b⟩:=ih h;exact⟨s,.tail _ a,b⟩
theorem b2c {r:Rw}(h:t<r.b):r.has t=false:=by
 unfold Rw.has;rw[decide_eq_false (by omega),jy]
theorem b8N (h:Can (r::l)) (h':Can (s::m)) (q:∀ t,val (r::l) t=val (s::m) t):¬ r.b<s.b:=λc=>by
 have d:=q r.b;rw[a0M,a6R (h.1 r (.head _)),if_pos rfl,a6S]at d
 ·grind
 ·intro x a;refine b2c ?_;rcases dU.mp a with rfl | a
  ·omega
  ·have:=(((et.mp h'.2).1 x a).lt).b (h'.1 s (.head _))
   omega
theorem b54 (h:Can (r::l)) (hb:r.b=s.b) (hw:r.w=s.w) (q:∀ t,val (r::l) t=val (s::m) t) (he:r.e=some e):bef e s.e=false:=by
 cases hc:bef e s.e with
 | false=>rfl
 | true=>
  exfalso;have g:bef r.b r.e=true:=h.1 r (.head _)
  rw[he]at g;simp only[bef,decide_eq_true_eq]at g;have c:=q e;have i:s.has e=true:=by unfold Rw.has;rw[hc,decide_eq_true (show s.b≤e by omega)];rfl
  have k:r.has e=false:=by unfold Rw.has;rw[he];simp[bef]
  rw[a0M,a0M,i,k,if_pos rfl,if_neg (by simp)]at c;obtain⟨x,n,a,d⟩:=a4Y c;obtain⟨u,f,p,j⟩:=(et.mp h.2).1 x n;rw[he]at f;cases f;have o:x.b≤e:=by unfold Rw.has at a;simp at a;exact a.1
  exact j (by omega) (by simp_all)
theorem b2d:∀ {l m:List Rw},Can l->Can m->(∀ t,val l t=val m t)->l=m
 | [],[],_,_,_=>rfl
 | [],s::m,_,h',q=>by
  have:=q s.b
  rw[a1H,a0M,a6R (h'.1 s (.head _)),if_pos rfl]at this;cases this
 | r::l,[],h,_,q=>by
  have:=q r.b
  rw[a1H,a0M,a6R (h.1 r (.head _)),if_pos rfl]at this;cases this
 | r::l,s::m,h,h',q=>by
  have a:r.b=s.b:=by
   have f:=b8N h h' q;have g:=b8N h' h λt=>(q t).symm;omega
  have c:r.w=s.w:=by
   have f:=q r.b;have g:s.has r.b=true:=by rw[a];exact a6R (h'.1 s (.head _))
   rw[a0M,a0M,a6R (h.1 r (.head _)),g,if_pos rfl,if_pos rfl]at f;exact eY.inj f
  have i:r.e=s.e:=by
   cases e1:r.e with
   | none=>
    cases e2:s.e with
    | none=>rfl
    | some e=>
     have:=b54 h' a.symm c.symm (λt=>(q t).symm) e2
     rw[e1]at this;cases this
   | some e=>
    have:=b54 h a c q e1
    cases e2:s.e with
    | none=>rw[e2]at this;cases this
    | some e'=>
     have k:=b54 h' a.symm c.symm (λt=>(q t).symm) e2;rw[e1]at k;rw[e2]at this;simp only[bef,decide_eq_false_iff_not]at this k
     congr 1
     omega
  have j:r=s:=by
   obtain⟨_,_,_⟩:=r;simp only at a c i;rw[a,c,i]
  subst j
  congr 1
  refine b2d h.tail h'.tail λt=>?_;cases ht:r.has t with
  | true=>
   rw[a6S λx d=>((et.mp h.2).1 x d).lt.has ht,a6S λx d=>((et.mp h'.2).1 x d).lt.has ht]
  | false=>
   have:=q t
   rw[a0M,a0M,ht,if_neg (by simp),if_neg (by simp)]at this;exact this
noncomputable def jn (told:List Rw) (p:Rw):List Rw:=match told.getLast? with
 | some l=>if l.e=some p.b/\l.w=p.w then told.dropLast++[⟨l.b,p.e,p.w⟩] else told++[p]
 | none=>told++[p]
noncomputable def join (ps:List Rw):List Rw:=ps.foldl jn []
theorem a3W {α:Type}{l:List α}{x:α}(h:l.getLast?=some x):l=l.dropLast++[x]:=by
 obtain⟨a,rfl⟩:=List.getLast?_eq_some_iff.mp h;simp
theorem c0A (h:Can told) (g:p.good) (hlt:∀ r∈told,Lt r p):Can (jn told p)/\(∀ t,val (jn told p) t=(val told t).or (val [p] t))/\(∀ x,(∀ r∈told,Lt r x)->Lt p x->∀ r∈jn told p,Lt r x)/\(jn told p).length≤told.length+1/\∀ r∈jn told p,r.w=p.w\/∃ r'∈told,r.w=r'.w:=by
 unfold jn;cases hl:told.getLast? with
 | none=>
  have:told=[]:=iO.mp hl
  subst this;exact⟨⟨λr a=>by simp at a;rw[a];exact g,by simp⟩,λt=>by simp[a1H],λx _ f r a=>by simp at a;rw[a];exact f,by simp,λr a=>by simp at a;rw[a];exact .inl rfl⟩
 | some l=>
  have d:=a3W hl;generalize told.dropLast=init at d;subst d;have i:l∈init++[l]:=by simp
  have k:=eG.mp h.2;dsimp only
  split
  ·next hc=>
   obtain⟨n,o⟩:=hc;have D:l.b<p.b:=by
    have:bef l.b l.e=true:=h.1 l i
    rw[n]at this;simpa[bef]using this
   have v:(⟨l.b,p.e,p.w⟩:Rw).good:=by
    show bef l.b p.e=true
    have:bef p.b p.e=true:=g
    cases hpe:p.e with
    | none=>rfl
    | some e=>
     rw[hpe]at this;simp only[bef,decide_eq_true_eq]at this ⊢;omega
   refine⟨⟨λr a=>?_,?_⟩,λt=>?_,λx m f r a=>?_,by simp,λr a=>?_⟩
   ·rcases dN.mp a with a | a
    ·exact h.1 r (by simp[a])
    ·rw[dP.mp a];exact v
   ·refine eG.mpr ⟨k.1,by simp,λr a s d=>?_⟩;rw[dP.mp d];obtain⟨e,c,j,A⟩:=k.2.2 r a l (by simp);exact⟨e,c,j,λz=>by rw[<- o];exact A z⟩
   ·rw[a1c,a1c];cases val init t with
    | some w=>rfl
    | none=>
     have y:(⟨l.b,p.e,p.w⟩:Rw).has t=(l.has t||p.has t):=by
      unfold Rw.has;rw[n]
      have:bef p.b p.e=true:=g
      cases hpe:p.e with
      | none=>
       simp only[bef,iw]
       by_cases c1:l.b≤t<;>by_cases c2:t<p.b<;>by_cases c3:p.b≤t<;>simp[c1,c2,c3]<;>omega
      | some e=>
       rw[hpe]at this;simp only[bef,decide_eq_true_eq]at this ⊢
       by_cases c1:l.b≤t<;>by_cases c2:t<p.b<;>by_cases c3:p.b≤t<;>by_cases c4:t<e<;>simp[c1,c2,c3,c4]<;>omega
     simp only[a0M,a1H,y,o,Option.none_or];cases l.has t<;>cases p.has t<;>simp
   ·rcases dN.mp a with a | a
    ·exact m r (by simp[a])
    ·rw[dP.mp a];obtain⟨e,c,j⟩:=f;exact⟨e,c,j⟩
   ·rcases dN.mp a with a | a
    ·exact .inr ⟨r,by simp[a],rfl⟩
    ·rw[dP.mp a];exact .inl rfl
  ·next hc=>
   refine⟨⟨λr a=>?_,?_⟩,λt=>a1c,λx m f r a=>?_,by simp,λr a=>?_⟩
   ·rcases dN.mp a with a | a
    ·exact h.1 r a
    ·rw[dP.mp a];exact g
   ·refine eG.mpr ⟨h.2,by simp,λr a s d=>?_⟩;rw[dP.mp d];obtain⟨e,c,j⟩:=hlt r a;refine⟨e,c,j,λz u=>?_⟩;rcases dN.mp a with hr' | hr'
    ·obtain⟨C,q,B,_⟩:=k.2.2 r hr' l (by simp);rw[c]at q;cases q
     have:=(hlt l i).b (h.1 l i)
     omega
    ·simp_all
   ·rcases dN.mp a with a | a
    ·exact m r a
    ·rw[dP.mp a];exact f
   ·rcases dN.mp a with a | a
    ·exact .inr ⟨r,a,rfl⟩
    ·rw[dP.mp a];exact .inl rfl
theorem b2e:∀ (ps told:List Rw),Can told->Rise ps->(∀ r∈told,∀ p∈ps,Lt r p)->Can (ps.foldl jn told)/\(∀ t,val (ps.foldl jn told) t=(val told t).or (val ps t))/\(ps.foldl jn told).length≤told.length+ps.length/\∀ r∈ps.foldl jn told,∃ r'∈told++ps,r.w=r'.w
 | [],told,h,_,_=>⟨h,λt=>by simp[a1H],by simp,λr f=>⟨r,by simpa using f,rfl⟩⟩
 | p::ps,told,h,f,hlt=>by
  have l:=et.mp f.2;have a:=c0A h (f.1 p (.head _)) λr q=>hlt r q p (.head _);have b:=b2e ps _ a.1 f.tail λr q x j=>a.2.2.1 x (λg k=>hlt g k x (.tail _ j)) (l.1 x j) r q;refine⟨b.1,λt=>?_,?_,λr i=>?_⟩
  ·show val (ps.foldl jn _) t=_
   rw[b.2.1 t,a.2.1 t,show p::ps=[p]++ps from rfl,a1c,Option.or_assoc]
  ·grind
  ·obtain⟨g,c,d⟩:=b.2.2.2 r i;rcases dN.mp c with c | c
   ·rcases a.2.2.2.2 g c with e | ⟨r2,e1,e2⟩
    ·exact⟨p,by simp,d.trans e⟩
    ·grind
   ·exact⟨g,by simp[c],d⟩
theorem a5y (h:Rise ps):Can (join ps)/\(∀ t,val (join ps) t=val ps t)/\(join ps).length≤ps.length/\∀ r∈join ps,∃ r'∈ps,r.w=r'.w:=by
 have:=b2e ps [] .nil h λr a=>by simp at a
 unfold join;exact⟨this.1,λt=>by rw[this.2.1 t];rfl,by simpa using this.2.2.1,by simpa using this.2.2.2⟩
noncomputable def emin:Option Int->Option Int->Option Int
 | none,o=>o
 | some e,none=>some e
 | some e,some o=>some (if o<e then o else e)
noncomputable def a3m (m:Option Int) (r:Rw):Option Rw:=if bef r.b m=true then some ⟨r.b,emin r.e m,r.w⟩ else none
noncomputable def ahead (m:Option Int) (l:List Rw):List Rw:=l.filterMap (a3m m)
noncomputable def a6T (m:Int) (r:Rw):Option Rw:=if bef m r.e=true then some ⟨if m > r.b then m else r.b,r.e,r.w⟩ else none
noncomputable def fromOn (m:Int) (l:List Rw):List Rw:=l.filterMap (a6T m)
theorem b2f (h1:∀ r r',f r=some r'->r'.has t=(r.has t&&c)/\r'.w=r.w) (h2:∀ r,f r=none->(r.has t&&c)=false):∀ l:List Rw,val (l.filterMap f) t=if c=true then val l t else none
 | []=>by simp[a1H]
 | r::l=>by
  have a:=b2f h1 h2 l;rw[fF];cases hf:f r with
  | none=>
   have:=h2 r hf
   rw[a,a0M];cases c with
   | true=>rw[iw]at this;rw[this];rfl
   | false=>rfl
  | some r'=>
   obtain⟨d,b⟩:=h1 r r' hf;rw[a0M,a,d,b,a0M];cases c<;>cases r.has t<;>rfl
theorem a4Z:bef t (emin x y)=(bef t x&&bef t y):=by
 cases x with
 | none=>cases y<;>simp[bef,emin]
 | some a=>
  cases y with
  | none=>simp[bef,emin]
  | some b=>
   simp only[bef,emin];rw[<- Bool.decide_and];apply a0P;rw[eq_iff_iff]
   split<;>omega
theorem a7W (m:Option Int) (l:List Rw) (t:Int):val (ahead m l) t=if bef t m=true then val l t else none:=by
 refine b2f (λr a h=>?_) (λr h=>?_) l
 ·unfold a3m at h
  split at h
  ·cases h;refine⟨?_,rfl⟩;unfold Rw.has;simp only[a4Z,Bool.and_assoc]
  ·cases h
 ·unfold a3m at h
  split at h
  ·cases h
  ·next hc=>
   unfold Rw.has;cases m with
   | none=>exact absurd rfl hc
   | some m=>
    simp only[bef,decide_eq_true_eq]at hc ⊢
    by_cases c1:r.b≤t
    ·rw[decide_eq_false (show ¬ t<m by omega),h8]
    ·rw[decide_eq_false c1];rfl
theorem b3L (m:Int) (l:List Rw) (t:Int):val (fromOn m l) t=if m≤t then val l t else none:=by
 have:(if m≤t then val l t else none)=if decide (m≤t)=true then val l t else none:=by simp
 rw[this];refine b2f (λr a h=>?_) (λr h=>?_) l
 ·unfold a6T at h
  split at h
  ·cases h;unfold Rw.has
   have:decide ((if m > r.b then m else r.b)≤t)=(decide (r.b≤t)&&decide (m≤t)):=by grind
   rw[this];cases decide (r.b≤t)<;>cases decide (m≤t)<;>simp
  ·cases h
 ·unfold a6T at h
  split at h
  ·cases h
  ·next hc=>
   unfold Rw.has;cases he:r.e with
   | none=>rw[he]at hc;exact absurd rfl hc
   | some e=>
    rw[he]at hc;simp only[bef]at hc ⊢
    by_cases c1:m≤t
    ·grind
    ·simp_all
theorem a3X (h:x∈ahead m l):∃ r∈l,bef r.b m=true/\x=⟨r.b,emin r.e m,r.w⟩:=by
 obtain⟨r,d,a⟩:=ft.mp h;unfold a3m at a
 split at a
 ·next c=>cases a;exact⟨r,d,c,rfl⟩
 ·cases a
theorem a40 (h:x∈fromOn m l):∃ r∈l,bef m r.e=true/\x=⟨if m > r.b then m else r.b,r.e,r.w⟩:=by
 obtain⟨r,d,a⟩:=ft.mp h;unfold a6T at a
 split at a
 ·next c=>cases a;exact⟨r,d,c,rfl⟩
 ·cases a
theorem b55 (hf:∀ r s r' s',R r s->f r=some r'->f s=some s'->R r' s'):∀ {l:List Rw},l.Pairwise R->(l.filterMap f).Pairwise R
 | [],_=>by simp
 | r::l,h=>by
  have b:=et.mp h;have c:=b55 hf b.2;rw[fF];cases e:f r with
  | none=>exact c
  | some r'=>
   refine et.mpr ⟨λs i=>?_,c⟩;obtain⟨a,d,g⟩:=ft.mp i;exact hf r a r' s (b.1 a d) e g
theorem b2g {x:Int}{m:Option Int}:∃ e,emin (some x) m=some e/\e≤x:=by
 cases m with
 | none=>exact⟨x,rfl,fb _⟩
 | some o=>
  refine⟨_,rfl,?_⟩
  split<;>omega
theorem b0t (m:Option Int) (h:Rise l):Rise (ahead m l):=by
 refine⟨λx j=>?_,b55 (λr s t p d a c=>?_) h.2⟩
 ·obtain⟨r,k,i,rfl⟩:=a3X j
  show bef r.b _=true
  rw[a4Z,i,iw];exact h.1 r k
 ·unfold a3m at a c
  split at a
  ·split at c
   ·cases a;cases c;obtain⟨e,g,o⟩:=d;obtain⟨f,n,q⟩:=@b2g e m;exact⟨f,by rw[<- n,<- g],by show f≤s.b;omega⟩
   ·grind
  ·grind
theorem b2h (m:Int) (h:Rise l):Rise (fromOn m l):=by
 refine⟨λx j=>?_,b55 (λr s n k d a c=>?_) h.2⟩
 ·obtain⟨r,f,g,rfl⟩:=a40 j
  split
  ·exact g
  ·exact h.1 r f
 ·unfold a6T at a c
  split at a
  ·split at c
   ·cases a;cases c;obtain⟨e,i,o⟩:=d;exact⟨e,i,by show e≤(if m > s.b then m else s.b);split<;>omega⟩
   ·grind
  ·grind
theorem a7X (m:Option Int) (l:List Rw):(ahead m l).length≤l.length:=fO _ _
theorem b3M (m:Int) (l:List Rw):(fromOn m l).length≤l.length:=fO _ _
theorem a9A (hbe:b≤e):∀ {l:List Rw},Rise l->(ahead (some b) l).length+(fromOn e l).length≤l.length+1
 | [],_=>by simp[ahead,fromOn]
 | r::l,h=>by
  have i:=a9A hbe h.tail;have d:=(et.mp h.2).1;have c:(ahead (some b) (r::l)).length=(if bef r.b (some b)=true then 1 else 0)+(ahead (some b) l).length:=by
   unfold ahead;unfold a3m
   split
   ·grind
   ·grind
  have a:(fromOn e (r::l)).length=(if bef e r.e=true then 1 else 0)+(fromOn e l).length:=by
   unfold fromOn;unfold a6T
   split
   ·grind
   ·grind
  rw[c,a,ej]
  by_cases c1:bef r.b (some b)=true
  ·by_cases c2:bef e r.e=true
   ·have:ahead (some b) l=[]:=by
     unfold ahead;rw[List.filterMap_eq_nil_iff];intro s g;unfold a3m;obtain⟨j,f,k⟩:=d s g;rw[f]at c2;simp only[bef,decide_eq_true_eq]at c1 c2 ⊢;rw[if_neg (by omega)]
    have:=b3M e l
    simp_all;omega
   ·grind
  ·rw[if_neg c1];split<;>omega
noncomputable def a2Q (l:List Rw) (b:Int) (e:Option Int) (w:Option (List Z)):List Rw:=
 ahead (some b) l++(match w with | some w=>[⟨b,e,w⟩] | none=>[])++(match e with | some e=>fromOn e l | none=>[])
theorem a7Y {l:List Rw}{b:Int}{e:Option Int}{w:Option (List Z)}(h:Rise l) (g:bef b e=true):Rise (a2Q l b e w)/\(∀ t,val (a2Q l b e w) t=if (decide (b≤t)&&bef t e)=true then w else val l t)/\(a2Q l b e w).length≤l.length+2:=by
 have p:=b0t (some b) h;have m:∀ r∈ahead (some b) l,∃ x,r.e=some x/\x≤b:=λr a=>by
  obtain⟨f,_,_,rfl⟩:=a3X a
  show ∃ x,emin f.e (some b)=some x/\x≤b
  cases f.e with
  | none=>exact⟨b,rfl,fb _⟩
  | some x=>refine⟨_,rfl,?_⟩;split<;>omega
 have v:Rise (match w with | some w=>[(⟨b,e,w⟩:Rw)] | none=>[]):=by
  cases w with
  | none=>exact .nil
  | some w=>exact⟨λr a=>by rw[dP.mp a];exact g,by simp⟩
 have n:∀ r∈(match w with | some w=>[(⟨b,e,w⟩:Rw)] | none=>[]),r.b=b/\r.e=e:=λr a=>by
  cases w with
  | none=>simp at a
  | some w=>rw[dP.mp a];exact⟨rfl,rfl⟩
 have z:∀ t,val (match w with | some w=>[(⟨b,e,w⟩:Rw)] | none=>[]) t=if (decide (b≤t)&&bef t e)=true then w else none:=λt=>by
  cases w with
  | none=>simp[a1H]
  | some w=>rw[a0M,a1H];rfl
 have j:∀ {A B:List Rw},Rise A->Rise B->(∀ r∈A,∀ s∈B,Lt r s)->Rise (A++B):=λo u y=>⟨λr a=>(dN.mp a).elim (o.1 r) (u.1 r),eG.mpr ⟨o.2,u.2,y⟩⟩;unfold a2Q;cases e with
 | none=>
  dsimp only;rw[eO];refine⟨j p v λr a s d=>?_,λt=>?_,?_⟩
  ·obtain⟨x,i,k⟩:=m r a;exact⟨x,i,by rw[(n s d).1];exact k⟩
  ·rw[a1c,a7W,z];simp only[bef,iw,decide_eq_true_eq]
   by_cases c:b≤t
   ·rw[if_neg (by omega),if_pos c,if_pos c];rfl
   ·rw[if_pos (by omega),if_neg c,if_neg c];simp
  ·rw[dO]
   have:=a7X (some b) l
   cases w<;>simp<;>omega
 | some e=>
  have E:b<e:=by simpa[bef]using g
  have D:=b2h e h;have C:∀ s∈fromOn e l,e≤s.b:=λs d=>by
   obtain⟨f,_,_,rfl⟩:=a40 d
   show e≤(if e > f.b then e else f.b)
   split<;>omega
  dsimp only;refine⟨j (j p v λr a s d=>?_) D λr a s d=>?_,λt=>?_,?_⟩
  ·obtain⟨x,i,k⟩:=m r a;exact⟨x,i,by rw[(n s d).1];exact k⟩
  ·have q:=C s d;rcases dN.mp a with a | a
   ·obtain⟨x,i,k⟩:=m r a;exact⟨x,i,by omega⟩
   ·exact⟨e,(n r a).2,q⟩
  ·rw[a1c,a1c,a7W,z,b3L];simp only[bef,fz,decide_eq_true_eq]
   by_cases c1:b≤t
   ·by_cases c2:t<e
    ·rw[if_neg (by omega),if_pos ⟨c1,c2⟩,if_neg (by omega),if_pos ⟨c1,c2⟩];simp
    ·rw[if_neg (by omega),if_neg (by omega),if_pos (by omega),if_neg (by omega)];rfl
   ·grind
  ·rw[dO,dO]
   have:=a9A (b:=b) (e:=e) (by omega) h
   cases w<;>simp<;>omega
noncomputable def pcs (f:Int->Option (List Z)):List Int->List Rw
 | []=>[]
 | b::bs=>(match f b with | some w=>[⟨b,bs.head?,w⟩] | none=>[])++pcs f bs
theorem a6U:∀ {bs:List Int}{r:Rw},r∈pcs f bs->r.b∈bs/\f r.b=some r.w
 | [],_,h=>by simp[pcs]at h
 | b::bs,r,h=>by
  rcases dN.mp h with h | h
  ·cases e:f b with
   | none=>rw[e]at h;simp at h
   | some w=>rw[e]at h;rw[dP.mp h];exact⟨.head _,e⟩
  ·obtain⟨c,a⟩:=a6U h;exact⟨.tail _ c,a⟩
theorem a4m (f:Int->Option (List Z)):∀ bs:List Int,(pcs f bs).length≤bs.length
 | []=>by simp[pcs]
 | b::bs=>by
  have:=a4m f bs
  unfold pcs;cases f b<;>simp<;>omega
theorem a3Y (f:Int->Option (List Z)):∀ {bs:List Int},bs.Pairwise (·<·)->Rise (pcs f bs)
 | [],_=>by simp[pcs];exact .nil
 | b::bs,h=>by
  have g:=et.mp h;have i:=a3Y f g.2;unfold pcs;cases e:f b with
  | none=>simpa using i
  | some w=>
   refine⟨λr a=>?_,eG.mpr ⟨by simp,i.2,λr a s j=>?_⟩⟩
   ·rcases dN.mp a with a | a
    ·rw[dP.mp a]
     show bef b bs.head?=true
     cases bs with
     | nil=>rfl
     | cons c cs=>simpa[bef]using g.1 c (.head _)
    ·exact i.1 r a
   ·rw[dP.mp a];have d:=(a6U j).1;cases bs with
    | nil=>simp at d
    | cons c cs=>
     refine⟨c,rfl,?_⟩;rcases dU.mp d with q | q
     ·omega
     ·have:=(et.mp g.2).1 _ q
      omega
theorem b2i:∀ {bs:List Int},bs.Pairwise (·<·)->(∀ t b,b∈bs->b≤t->(∀ c∈bs,c≤t->c≤b)->f t=f b)->∀ t,val (pcs f bs) t=if (bs.any λb=>decide (b≤t))=true then f t else none
 | [],_,_,t=>by simp[pcs,a1H]
 | b::bs,h,hf,t=>by
  have j:=et.mp h;have p:=b2i j.2 (λt c a g o=>hf t c (.tail _ a) g λd k l=>by
   rcases dU.mp k with rfl | k
   ·have:=j.1 c a;omega
   ·exact o d k l) t
  unfold pcs;rw[a1c,p,fY]
  by_cases c1:b≤t
  ·rw[decide_eq_true c1,Bool.true_or,if_pos rfl];cases c2:bs.any λb=>decide (b≤t) with
   | true=>
    obtain⟨c,a,g⟩:=gO.mp c2;have g:c≤t:=by simpa using g
    rw[if_pos rfl]
    have:val (match f b with | some w=>[(⟨b,bs.head?,w⟩:Rw)] | none=>[]) t=none:=by
     cases f b with
     | none=>rfl
     | some w=>
      rw[a0M,a1H];cases bs with
      | nil=>simp at a
      | cons d ds=>
       have k:d≤t:=by
        rcases dU.mp a with rfl | a
        ·exact g
        ·have:=(et.mp j.2).1 c a;omega
       have n:(⟨b,(d::ds).head?,w⟩:Rw).has t=false:=by
        unfold Rw.has;simp only[jz,bef];rw[decide_eq_false (show ¬ t<d by omega),h8]
       rw[n]
       rfl
    rw[this];rfl
   | false=>
    rw[if_neg (by decide)];have i:∀ c∈bs,¬ c≤t:=λc a g=>by grind
    have m:=hf t b (.head _) c1 λc a g=>by
     rcases dU.mp a with rfl | a
     ·omega
     ·exact absurd g (i c a)
    rw[m];cases e:f b with
    | none=>rfl
    | some w=>
     rw[a0M,a1H]
     have:(⟨b,bs.head?,w⟩:Rw).has t=true:=by
      unfold Rw.has;simp only;rw[decide_eq_true c1];cases bs with
      | nil=>rfl
      | cons d ds=>simp only[jz,bef,e9,decide_eq_true_eq];have:=i d (.head _);omega
     rw[this];rfl
  ·rw[decide_eq_false c1,i9];have i:(bs.any λb=>decide (b≤t))=false:=i3.mpr λc a=>by grind
   rw[i,if_neg (by decide)]
   have:val (match f b with | some w=>[(⟨b,bs.head?,w⟩:Rw)] | none=>[]) t=none:=by
    cases f b with
    | none=>rfl
    | some w=>
     rw[a0M,a1H,b2c (by show t<b;omega)]
     rfl
   rw[this];rfl
noncomputable def a0E (puts:List Rw) (t:Int):Z:=match puts.reverse.find? (·.has t) with
 | some r=>r.w.headD .non
 | none=>.non
noncomputable def optW (z:Z):Option (List Z):=if z=.non then none else some [z]
theorem a5z (puts:List Rw) (p:Rw) (t:Int):a0E (puts++[p]) t=if p.has t=true then p.w.headD .non else a0E puts t:=by
 unfold a0E;rw[fQ,gG,List.reverse_nil,gM,iH,fi];cases p.has t<;>rfl
theorem b3N {r:Rw}(h:b≤t) (h1:r.b≤t->r.b≤b) (h2:∀ e,r.e=some e->e≤t->e≤b):r.has t=r.has b:=by
 unfold Rw.has;have a:decide (r.b≤t)=decide (r.b≤b):=a0P (by grind)
 congr 1
 cases he:r.e with
 | none=>rfl
 | some e=>
  have:=h2 e he
  exact a0P (by grind)
theorem a6f:∀ {l:List Rw},(∀ r∈l,f r=g r)->l.find? f=l.find? g
 | [],_=>rfl
 | r::l,h=>by rw[fi,fi,h r (.head _),a6f λs a=>h s (.tail _ a)]
noncomputable def a7Z (l:List Rw) (b:Int) (e:Option Int) (w:Option (List Z)):List Rw:=join (a2Q l b e w)
theorem a9B {l:List Rw}{b:Int}{e:Option Int}{w:Option (List Z)}(h:Rise l) (g:bef b e=true):Can (a7Z l b e w)/\(∀ t,val (a7Z l b e w) t=if (decide (b≤t)&&bef t e)=true then w else val l t)/\(a7Z l b e w).length≤l.length+2:=by
 have a:=a7Y (w:=w) h g;have j:=a5y a.1;exact⟨j.1,λt=>by rw[<- a.2.1 t];exact j.2.1 t,dW j.2.2.1 a.2.2⟩
def okW (w:List Z):Prop:=w≠[]/\w.length≤4/\w.all (flat 4)=true
def OkR (l:List Rw):Prop:=∀ r∈l,okW r.w
theorem a5A:∀ {n m:Nat}{z:Z},n≤m->flat n z=true->flat m z=true:=by
 intro n
 induction n with
 | zero=>intro m z _ h;cases z<;>first | (simp[flat]at h;done) | (cases m<;>simp_all[flat])
 | succ n ih=>
  intro m z b h;cases m with
  | zero=>omega
  | succ m=>
   cases z with
   | tup ws=>
    simp only[flat,fI]at h ⊢;exact λx a=>ih (by omega) (h x a)
   | _=>first | (simp[flat];done) | (simp[flat]at h;done) | (simp only[flat]at h ⊢;exact h)
theorem b3O {ws:List Z}(hm:n≤m) (h:ws.all (flat n)=true):ws.all (flat m)=true:=by
 rw[fI]at h ⊢;exact λx a=>a5A hm (h x a)
theorem b2j:flat n (oz e)=true:=by
 cases e<;>cases n<;>rfl
theorem a41:flat n (.int i)=true:=by cases n<;>rfl
theorem b3P:flat n .non=true:=by cases n<;>rfl
theorem b4H (h:R (.bl (decide (e=some b))) G):zEq id (oz e) (.int b) G R:=by
 cases e with
 | none=>
  refine (⟨b3P,a41,?_⟩)
  have:decide (Z.non=Z.int b)=decide (none=some b):=by simp
  exact h
 | some e=>
  refine b7U ?_
  have:decide (e=b)=decide (some e=some b):=a0P (by simp)
  rw[this];exact h
theorem b8O (h1:flat 8 (.tup xs)=true) (h2:flat 8 (.tup ys)=true) (h:R (.bl (f (decide (xs=ys)))) G):zEq f (.tup xs) (.tup ys) G R:=by
 refine (⟨h1,h2,?_⟩);rw[a0P (Z.tup.injEq _ _)];exact h
def a1I:P3:=λws G R=>∃ x y,ws=[oz x,oz y]/\R (oz (emin x y)) G
theorem a4n (h:a1I ws G R):ws.length=2:=by obtain⟨_,_,rfl,_⟩:=h;rfl
theorem a2R (F:Fns K a) (T:Txt K mg a):FnOk P w K mg base CX0 1 a.f3 a.d3 ["end","other"] (lowP K a1I):=by
 refine fn3 F.n3 a4I (λd G R h=>(by exact a4n h)) (λe A b s H E d G R c h=>?_);have f:=a01 c;refine⟨_,(a0k (z_if (a0z o_is (a0c (pv 0)) a2v (a0u _))
  (a0n (a0H (a0c (pv 1))))
  a06)
  (a0k (z_if (a0z o_is (a0c (pv 1)) a2v (a0u _))
  (a0n (a0H (a0c (pv 0))))
  a06)
  (a0n (a0H (a0C (b_min rfl) rfl T.b_min rfl (a0b (a0c (pv 0)) (a0b (a0c (pv 1)) a0h a0a) a0a)))))),?_⟩
 obtain⟨x,y,rfl,q⟩:=h;cases x with
 | none=>
  walk_at "go";cases y<;>exact q
 | some x=>
  cases y with
  | none=>
   walk_at "go";exact q
  | some y=>
   walk_at "go";exact q
theorem a8J {α β:Type}{l:List α}{g:α->Z}{g':β->Z}(f:α->Option β) (hok:∀ ys,ok (put G1 D (.lst ys))) (hz:l.length≤1000)
  (turn:∀ x,x∈l->∀ (ys:List Z) (K1:K3) (K2:Hq->Prop),(∀ y,f x=some y->K1 (g' y) (put G1 D (.lst ys)))->(f x=none->K2 (put G1 D (.lst ys)))->∃ σ',a5H pt (g x) (cap3 cap σ)=some σ'/\tt σ' (put G1 D (.lst ys)) λb G4=>if b=true then te σ' G4 K1 else K2 G4)
  (fin:R (.ref D) (put G1 D (.lst ((l.filterMap f).map g')))):LCB (l.map g) ok cap pt tt te σ R D G1:=by
 refine a5d (λi c G=>c=((l.take i).filterMap f).map g'/\G=put G1 D (.lst c)) ⟨by simp,rfl⟩ ?_ ?_ ?_
 ·simp_all
 ·rintro i x c G d ⟨e,rfl⟩;rw[dQ]at d;cases hx':l[i]? with
  | none=>rw[hx']at d;cases d
  | some a=>
   rw[hx']at d;cases d;refine turn a (er hx') c _ _ (λy j=>⟨a0e,?_,?_,?_⟩) λh=>⟨?_,rfl⟩
   ·rw[e,dJ];exact h9 (dW (fO _ _) (by rw[dY];omega)) (a0r (dM 1000))
   ·rw[a1X hx',j,e,dS];rfl
   ·rw[a2u]
   ·rw[a1X hx',h,e];simp
 ·simp_all
def One (l:List Rw):Prop:=∀ r∈l,∃ x,r.w=[x]
def a2I:P3:=λws G R=>∃ p l m,ws=[.ref p,oz m]/\G p=some (.lst (l.map Rw.z))/\One l/\l.length≤1000/\∀ t,G t=none->R (.ref t) (put G t (.lst ((ahead m l).map Rw.z)))
theorem a5L (h:a2I ws G R):ws.length=2:=by obtain⟨_,_,_,rfl,_⟩:=h;rfl
theorem a6V (F:Fns K a) (T:Txt K mg a):FnOk P w K mg base CX0 2 a.f5 a.d5 ["line","moment"] (lowP K a2I):=by
 have d:FnOk P w K mg base CX0 1 a.f3 a.d3 ["end","other"] (lowP K a1I):=a2R F T;refine fn3 F.n5 a6M (λt G R h=>(by exact a5L h)) (λB A n s H E t G R f h=>?_);have C:=a01 f;refine⟨_,(a0n (a0H (q_lc (N₀:=["line","moment"]) (so:=a0i a15) (cap:=[none,none,none,some 1]) (pt:=(.tp [0,1,2])) rfl rfl rfl (by decide +kernel) rfl (a0O (a0c (pv 0))) (λ_ _ _ _=>(show QP _ _ (.tp [0,1,2]) from (a3G rfl (a0y (a0m (i:=0) b0p rfl (dL rfl)) (a0y (a0m (i:=1) b0p rfl (dL rfl)) (a0y (a0m (i:=2) b0p rfl (dL rfl)) a2q)))))) (λ_ _ _ _=>(a6z (QW.qt (q_or (a0z o_is (a0c (pv 3)) a2v (a0u _)) (a5c (a0z o_lt (a0c (pv 0)) (a0c (pv 3)) (a0u _))))))) (λ_ _ _ _=>(a1L (a0b (a0c (pv 0)) (a0b (a0s d (f.mono (by decide)) rfl T.m3 F.n3.kp (a2P F) (a0b (a0c (pv 1)) (a0b (a0c (pv 3)) a0h a0a) a0a) (he:=a0a)) (a0b (a0c (pv 2)) a0h a0a) a0F) a0a)))))),?_⟩;obtain⟨p,l,m,rfl,g,y,z,q⟩:=h;walk_at "go";refine a1W g ?_;intro D k;refine a8J (a3m m) (λv=>a0q g k) z ?_ (q D k);intro r f v I J j u;obtain⟨x,o⟩:=y r f;obtain⟨b,e,w⟩:=r;cases o;refine⟨_,rfl,?_⟩;cases m with
 | none=>
  walk_at "go";refine⟨e,none,rfl,?_⟩;walk_at "go";refine⟨lenK rfl,?_⟩;exact j _ rfl
 | some m=>
  walk_at "go";refine ifD (λc=>?_) λc=>?_
  ·walk_at "go";refine⟨e,some m,rfl,?_⟩;walk_at "go";refine⟨lenK rfl,?_⟩;refine j ⟨b,emin e (some m),[x]⟩ ?_;unfold a3m;rw[if_pos (by simpa[bef]using c)]
  ·refine u ?_;unfold a3m;rw[if_neg (by simpa[bef]using c)]
def a27:P3:=λws G R=>∃ p l m,ws=[.ref p,.int m]/\G p=some (.lst (l.map Rw.z))/\One l/\l.length≤1000/\∀ t,G t=none->R (.ref t) (put G t (.lst ((fromOn m l).map Rw.z)))
theorem a6W (h:a27 ws G R):ws.length=2:=by obtain⟨_,_,_,rfl,_⟩:=h;rfl
theorem a70 (F:Fns K a) (T:Txt K mg a):FnOk P w K mg base CX0 1 a.f7 a.d7 ["line","moment"] (lowP K a27):=by
 refine fn3 F.n7 a7Q (λws G R h=>(by exact a6W h)) (λcdv A outer s H E ws G R hr h=>?_);have hu:=a01 hr;refine⟨_,(a0n (a0H (q_lc (N₀:=["line","moment"]) (so:=a0i a2G) (N':=["begin","end","worth","moment"]) (cap:=[none,none,none,some 1]) (pt:=(.tp [0,1,2])) rfl rfl rfl (by decide +kernel) rfl (a0O (a0c (pv 0))) (λ_ _ _ _=>(show QP _ _ (.tp [0,1,2]) from (a3G rfl (a0y (a0m (i:=0) b0p rfl (dL rfl)) (a0y (a0m (i:=1) b0p rfl (dL rfl)) (a0y (a0m (i:=2) b0p rfl (dL rfl)) a2q)))))) (λ_ _ _ _=>(a6z (QW.qt (q_or (a0z o_is (a0c (pv 1)) a2v (a0u _)) (a5c (a0z o_lt (a0c (pv 3)) (a0c (pv 1)) (a0u _))))))) (λ_ _ _ _=>(a1L (a0b (a0C (b_max rfl) rfl T.b_max rfl (a0b (a0c (pv 0)) (a0b (a0c (pv 3)) a0h a0a) a0a) (he:=a0a) (hpl:=(a0j a0a a0l))) (a0b (a0c (pv 1)) (a0b (a0c (pv 2)) a0h a0a) a0a) a0F)))))),?_⟩;obtain⟨p,l,m,rfl,hp,h1,hz,q⟩:=h;walk_at "go";refine a1W hp ?_;intro D hD;refine a8J (a6T m) (λys=>a0q hp hD) hz ?_ (q D hD);intro r hr ys K1 K2 k1 k2;obtain⟨x,hx⟩:=h1 r hr;obtain⟨b,e,w⟩:=r;cases hx;refine⟨_,rfl,?_⟩;cases e with
 | none=>
  walk_at "go";refine⟨lenK rfl,?_⟩;exact k1 ⟨if m > b then m else b,none,[x]⟩ rfl
 | some e=>
  walk_at "go";refine ifD (λc=>?_) λc=>?_
  ·walk_at "go";refine⟨lenK rfl,?_⟩;refine k1 ⟨if m > b then m else b,some e,[x]⟩ ?_;unfold a6T;rw[if_pos (by simpa[bef]using c)]
  ·refine k2 ?_;unfold a6T;rw[if_neg (by simpa[bef]using c)]
theorem a8K (h:0<n):ixN n (-1)=some (n - 1):=by grind [ixN]
theorem a4o {α:Type}{l:List α}{x:α}(h:l.getLast?=some x):atI l (-1)=some x:=by
 have a:l≠[]:=λz=>by subst z;simp at h
 unfold atI;rw[a8K (fR.mpr a)]
 show l[l.length - 1]?=some x
 rw[<- List.getLast?_eq_getElem?];exact h
theorem a9C {α:Type}{l:List α}{x y:α}(h:l.getLast?=some x):l.set (l.length - 1) y=l.dropLast++[y]:=by
 have a:=a3W h;generalize l.dropLast=i at a;subst a;simp
theorem sIx2 {a b:Z}{w:List Z}:HT.sIx (a::b::w).length 0 (some 2)=2:=rfl
theorem cut2 {a b:Z}{w:List Z}:cutZ (a::b::w) (some 2) none=w:=by
 unfold cutZ;rw[sIx2,HT.sIx_none];simp
theorem b2k {a b:Z}{w:List Z}:¬ (HT.sIx (a::b::w).length 0 (some 2)=0/\HT.sIx (a::b::w).length (a::b::w).length none=(a::b::w).length):=by
 rw[sIx2];intro h;exact absurd h.1 (by decide)
def a0N:P3:=λws G R=>∃ p ps,ws=[.ref p]/\G p=some (.lst (ps.map Rw.z))/\OkR ps/\ps.length≤1000/\∀ t,G t=none->R (.ref t) (put G t (.lst ((join ps).map Rw.z)))
theorem a2J (h:a0N ws G R):ws.length=1:=by obtain⟨_,_,rfl,_⟩:=h;rfl
theorem b56 {G:Hq}{R:K3}{a b:Z}{w:List Z}(h:R (.tup w) G):zSl (.tup (a::b::w)) (some 2) none G R:=b3p b2k (by rw[cut2];exact h)
theorem b2l {w:List Z}(h:okW w):flat 8 (.tup w)=true:=b3O (by simp) h.2.2
theorem a9D:∀ (ps told:List Rw),OkR told->OkR ps->OkR (ps.foldl jn told)
 | [],_,h,_=>h
 | p::ps,told,h,h'=>by
  refine a9D ps _ (λr a=>?_) λr a=>h' r (.tail _ a);unfold jn at a
  split at a
  ·next l hl=>
   split at a
   ·rcases dN.mp a with a | a
    ·exact h r (iP _ a)
    ·rw[dP.mp a];exact h' p (.head _)
   ·rcases dN.mp a with a | a
    ·exact h r a
    ·rw[dP.mp a];exact h' p (.head _)
  ·rcases dN.mp a with a | a
   ·exact h r a
   ·rw[dP.mp a];exact h' p (.head _)
theorem b8P (told:List Rw) (p:Rw):(jn told p).length≤told.length+1:=by
 unfold jn
 split
 ·split<;>simp
 ·simp
theorem a6X:∀ (ps told:List Rw),(ps.foldl jn told).length≤told.length+ps.length
 | [],told=>by simp
 | p::ps,told=>by
  have b:=a6X ps (jn told p);have a:=b8P told p
  show (ps.foldl jn (jn told p)).length≤_
  rw[ej];omega
theorem b2m {ps:List Rw}(h:ps[i]?=some p):(ps.take (i+1)).foldl jn []=jn ((ps.take i).foldl jn []) p:=by
 rw[fA,h];simp
theorem a2Y (F:Fns K a) (T:Txt K mg a):FnOk P w K mg base CX0 1 a.f6 a.d6 ["pieces"] (lowP K a0N):=by
 refine fn3 F.n6 sc_p_with_alike_joined (λws G R h=>(by exact a2J h)) (λcdv A outer s H E ws G R hr h=>?_);have hu:=a01 hr;refine⟨_,(a0k (z_set (i:=1) sc_p_with_alike_joined.nd rfl (dL rfl) (a1d a0h))
  (a0k (a2x (pt:=(.nm 2)) j9.never rfl (a0O (a0c (pv 0))) (show QP _ _ (.nm 2) from (a0m (i:=2) sc_p_with_alike_joined.nd rfl (dL rfl)))
  (a0n (z_if (QW.qt (a7o (b7q (a0c (pv 1)) (λ_=>rfl)) (a7o (a0z (o_eq hu) (q_ix x_ix (q_ix x_ix (a0c (pv 1)) (q_un a1V a0g) (λ_ _=>rfl)) a0g (λ_ _=>rfl)) (q_ix x_ix (a0c (pv 2)) a0g (λ_ _=>rfl)) (a0u _)) (a5Y (a0z (o_eq hu) (a1P x_sl (q_ix x_ix (a0c (pv 1)) (q_un a1V a0g) (λ_ _=>rfl)) (a2j a0g) a1K) (a1P x_sl (a0c (pv 2)) (a2j a0g) a1K) (a0u _))))))
  (a0n (b4l (q_op a0S (a1L (a0b (q_ix x_ix (q_ix x_ix (a0c (pv 1)) (q_un a1V a0g) (λ_ _=>rfl)) a0g (λ_ _=>rfl)) (a0b (q_ix x_ix (a0c (pv 2)) a0g (λ_ _=>rfl)) a0h a0d) a0d)) (a1P x_sl (a0c (pv 2)) (a2j a0g) a1K)) (a0c (pv 1)) (q_un a1V a0g) b7D))
  (a0n (a05 (q_bm PySem.F.plainAttrs_list PySem.F.slot_list_append PySem.F.type_list_append a1j (a0c (pv 1)) (a0b (a0c (pv 2)) a0h a0a)))))))
  (a0n (a0H (a0c (pv 1)))))),?_⟩
 obtain⟨p,ps,rfl,hp,hok,hz,q⟩:=h;walk_at "go";refine⟨lenK rfl,λt ht=>?_⟩;walk_at "go";refine a1W (a0q hp ht) ?_;refine a08 (λi σ G'=>∃ v,σ=[some (.ref p),some (.ref t),v]/\G'=put G t (.lst (((ps.take i).foldl jn []).map Rw.z))) ⟨_,rfl,by simp⟩ (by rintro i σ G' _ ⟨v,_,e⟩;exact by rw[e];exact a0q hp ht) ?_ ?_
 ·rintro i x σ G' hx ⟨v,rfl,rfl⟩;rw[dQ]at hx;cases hx':ps[i]? with
  | none=>rw[hx']at hx;cases hx
  | some r=>
   rw[hx']at hx;cases hx;have hr:=hok r (er hx');have hot:OkR ((ps.take i).foldl jn []):=a9D _ _ (λr hr=>by simp at hr) λr hr=>hok r (fc hr);have hlt:=a6X (ps.take i) [];rw[dY]at hlt;have hi:=(dX.mp hx').1;rw[b2m hx'];generalize (ps.take i).foldl jn []=told at hot hlt ⊢;simp only[jA]at hlt;refine⟨_,rfl,?_⟩;have app:∀ G',G'=put G t (.lst (told.map Rw.z))->jn told r=told++[r]->a6A (.ref t) [r.z] G' (λ_ G1=>∃ v,([some (.ref p),some (.ref t),some r.z]:S3)=[some (.ref p),some (.ref t),v]/\G1=put G t (.lst ((jn told r).map Rw.z))):=by
    rintro _ rfl e;refine a0Y a0e (by rw[dJ];exact a0r (by omega)) ⟨_,rfl,?_⟩;rw[a2u,e,dS]
    rfl
   walk_at "go";refine b4q a0e ?_;cases hl:told.getLast? with
   | none=>
    have e0:told=[]:=iO.mp hl;subst e0;refine ifF ?_;walk_at "go";refine a2l a0e ?_;walk_at "go";exact app _ rfl (by unfold jn;rw[hl])
   | some k=>
    have hne:told≠[]:=λz=>by subst z;simp at hl
    have hlm:(told.map Rw.z).getLast?=some k.z:=by rw[iQ,hl];rfl
    have he:(told.map Rw.z).isEmpty=false:=by cases told with | nil=>exact absurd rfl hne | cons _ _=>rfl
    have hk:=hot k (jB hl);rw[he];refine ifT ?_;walk_at "go";refine a07 a0e (a4o hlm) ?_;walk_at "go";refine a2V at1 ?_;walk_at "go";refine a2V at0 ?_;refine b4H ?_;walk_at "go";refine ifD (λc1=>?_) λc1=>?_
    ·walk_at "go";refine a07 a0e (a4o hlm) ?_;walk_at "go";refine b56 ?_;walk_at "go";refine b56 ?_;refine b8O (b2l hk) (b2l hr) ?_;walk_at "go";refine ifD (λc2=>?_) λc2=>?_
     ·walk_at "go";refine a07 a0e (a4o hlm) ?_;walk_at "go";refine a2V at0 ?_;walk_at "go";refine a2V at1 ?_;walk_at "go";refine⟨lenK rfl,?_⟩;walk_at "go";refine b56 ?_;refine b1E (by simp) (a17 (by have:=hr.2.1;simp;omega)) ?_;walk_at "go";refine b7X a0e (a8K (by rw[dJ];exact fR.mpr hne)) ?_;refine⟨_,rfl,?_⟩;rw[a2u,a9C hlm]
      congr 1
      unfold jn;rw[hl];dsimp only;rw[if_pos ⟨c1,c2⟩,dS,jC]
      rfl
     ·walk_at "go";refine a2l a0e ?_;walk_at "go";exact app _ rfl (by unfold jn;rw[hl];dsimp only;rw[if_neg λz=>c2 z.2])
    ·refine ifF ?_;walk_at "go";refine a2l a0e ?_;walk_at "go";exact app _ rfl (by unfold jn;rw[hl];dsimp only;rw[if_neg λz=>c1 z.1])
 ·rintro σ G' ⟨v,rfl,rfl⟩;walk_at "go";rw[dJ,eE];exact q t ht
theorem Rise.drop (h:Rise l) (k:Nat):Rise (l.drop k):=⟨λr a=>h.1 r (im a),h.2.sublist (iG _ _)⟩
theorem drop_get {α:Type}{l:List α}{x:α}(h:l[k]?=some x):l.drop k=x::l.drop (k+1):=by
 obtain⟨b,a⟩:=dX.mp h;rw[ii b,a]
theorem take_snoc {α:Type}{l:List α}{x:α}(h:l[i]?=some x):l.take (i+1)=l.take i++[x]:=by rw[fA,h];rfl
theorem b2n (h:OkR l):OkR (ahead m l):=λx a=>by
 obtain⟨r,b,_,rfl⟩:=a3X a;exact h r b
theorem b3Q (h:OkR l):OkR (fromOn m l):=λx a=>by
 obtain⟨r,b,_,rfl⟩:=a40 a;exact h r b
def okV (z:Z):Prop:=flat 4 z=true
theorem b8Q (h:okV z):okW [z]:=⟨by simp,by simp,by rw[eL,h];rfl⟩
theorem b0u (h:OkR l) (hz:okV z):OkR (a2Q l b e (optW z)):=by
 intro r a;rcases dN.mp a with a | a
 ·rcases dN.mp a with a | a
  ·exact b2n h r a
  ·unfold optW at a
   split at a
   ·next w e=>
          split at e
          ·cases e
          ·cases e;rw[dP.mp a];exact b8Q hz
   ·simp_all
 ·cases e with
  | none=>simp at a
  | some e=>exact b3Q h r a
def a3z:P3:=λws G R=>Ex5 λp l b e z=>ws=[.ref p,.int b,oz e,z]/\G p=some (.lst (l.map Rw.z))/\Rise l/\OkR l/\One l/\l.length≤900/\bef b e=true/\okV z /\
 ∀ t G',G t=none->Sm G G'->G' t=some (.lst ((a7Z l b e (optW z)).map Rw.z))->R (.ref t) G'
theorem a71 (h:a3z ws G R):ws.length=4:=by obtain⟨_,_,_,_,_,rfl,_⟩:=h;rfl
theorem a8L (F:Fns K a) (T:Txt K mg a):FnOk P w K mg base CX0 3 a.f8 a.d8 ["line","begin","end","worth"] (lowP K a3z):=by
 have j:FnOk P w K mg base CX0 2 a.f5 a.d5 ["line","moment"] (lowP K a2I):=a6V F T;have d:FnOk P w K mg base CX0 1 a.f6 a.d6 ["pieces"] (lowP K a0N):=a2Y F T;have k:FnOk P w K mg base CX0 1 a.f7 a.d7 ["line","moment"] (lowP K a27):=a70 F T;refine fn3 F.n8 sc_p_put_on (λws G R h=>(by exact a71 h)) (λcdv A outer s H E ws G R r h=>?_);have m:=a01 r;refine⟨_,(a0k (z_set (i:=4) sc_p_put_on.nd rfl (dL rfl) (a0s j (r.mono (by decide)) rfl T.m5 F.n5.kp (a6O F) (a0b (a0c (pv 0)) (a0b (a0c (pv 1)) a0h a0a) a0a) (he:=a0a) (hpl:=(a0j a0a a0l))))
  (a93 (z_if (a0z a4f (a0c (pv 3)) a2v (a0u _))
  (a0n (a05 (q_bm PySem.F.plainAttrs_list PySem.F.slot_list_append PySem.F.type_list_append a1j (a0c (pv 4)) (a0b (a1L (a0b (a0c (pv 1)) (a0b (a0c (pv 2)) (a0b (a0c (pv 3)) a0h a0a) a0a) a0a)) a0h a1h))))
  a06)
  (a93 (z_if (a0z a4f (a0c (pv 2)) a2v (a0u _))
  (a0n (a05 (q_bm PySem.F.plainAttrs_list PySem.F.slot_list_extend PySem.F.type_list_extend b3n (a0c (pv 4)) (a0b (a0s k (r.mono (by decide)) rfl T.m7 F.n7.kp (a7S F) (a0b (a0c (pv 0)) (a0b (a0c (pv 2)) a0h a0a) a0a) (he:=a0a) (hpl:=(a0j a0a a0l))) a0h a0F))))
  a06)
  (a0n (a0H (a0s d (r.mono (by decide)) rfl T.m6 F.n6.kp (a2X F) (a0b (a0c (pv 4)) a0h a0a) (he:=a0a) (hpl:=a0l))))))),?_⟩
 obtain⟨p,l,b,e,z,rfl,hp,r,hok,h1,hz,g,hv,q⟩:=h;have hpc:=(a7Y (w:=optW z) r g).2.2;walk_at "go";refine⟨p,l,some b,rfl,hp,h1,by omega,λt ht=>?_⟩;walk_at "go";have la:=a7X (some b) l;refine a97 (fun σ' f=>σ'=[some (.ref p),some (.int b),some (oz e),some z,some (.ref t)]/\f=put G t (.lst ((ahead (some b) l++(match optW z with | some w=>[(⟨b,e,w⟩:Rw)] | none=>[])).map Rw.z))) ?_ ?_
 ·walk_at "go";refine ifN (λc=>?_) λc=>?_
  ·walk_at "go";refine a2l a0e ?_;walk_at "go";refine⟨lenK rfl,?_⟩;walk_at "go";refine a0Y a0e (by rw[dJ];exact a0r (by omega)) ⟨rfl,?_⟩;rw[a2u,optW,if_neg c,dS];rfl
  ·walk_at "go";refine⟨rfl,?_⟩;rw[optW,if_pos c];simp
 ·rintro σ' f ⟨rfl,rfl⟩;have hp1:∀ o,put G t o p=some (.lst (l.map Rw.z)):=λo=>a0q hp ht;have fin:∀ f ,Sm G f->f t=some (.lst ((a2Q l b e (optW z)).map Rw.z))->a0N [.ref t] f R:=λf s v=>by
   refine⟨t,_,rfl,v,b0u hok hv,by omega,λu m=>?_⟩;exact q u _ (s.free m) (s.trans (Sm.new m)) a0e
  refine a97 (fun σ' f=>σ'=[some (.ref p),some (.int b),some (oz e),some z,some (.ref t)]/\Sm G f/\f t=some (.lst ((a2Q l b e (optW z)).map Rw.z))) ?_ ?_
  ·cases e with
   | none=>
    walk_at "go";refine⟨rfl,Sm.new ht,?_⟩;unfold a2Q;rw[eO];exact a0e
   | some e=>
    walk_at "go";refine a2l a0e ?_;walk_at "go";refine⟨p,l,e,rfl,hp1 _,h1,by omega,λu m=>?_⟩;have hut:t≠u:=λz=>by subst z;rw[a0e]at m;cases m
    have hpl:(a2Q l b (some e) (optW z)).length=(ahead (some b) l++(match optW z with | some w=>[(⟨b,some e,w⟩:Rw)] | none=>[])).length+(fromOn e l).length:=by
     unfold a2Q;exact dO
    generalize hA:(ahead (some b) l++(match optW z with | some w=>[(⟨b,some e,w⟩:Rw)] | none=>[]))=A at m hpl ⊢
    have e1:put (put G t (.lst (A.map Rw.z))) u (.lst ((fromOn e l).map Rw.z)) t=some (.lst (A.map Rw.z)):=by rw[a0o hut];exact a0e
    walk_at "go";refine b3q e1 a0e (by rw[dJ,dJ];exact a17 (by omega)) ?_;refine⟨rfl,?_,?_⟩
    ·exact ((Sm.new ht).trans (Sm.new m)).put ht
    ·rw[a0e,<- dS,<- hA]
     rfl
  ·rintro σ' f ⟨rfl,s,v⟩;walk_at "go";exact fin f s v
def okS (s:Str):Prop:=s.length≤1000/\PyData.strOk s=true
def Th (G:Hq):Z->Prop
 | .non=>True
 | .bl _=>True
 | .int _=>True
 | .str s=>okS s
 | .tup _=>True
 | .ref p=>(∃ ws,G p=some (.lst ws))\/∃ kvs,G p=some (.dK kvs)
 | _=>False
theorem Th.sm (s:Sm G G') (h:Th G x):Th G' x:=by
 cases x with
 | ref p=>
  rcases h with ⟨ws,e⟩ | ⟨ws,e⟩
  ·exact .inl ⟨ws,s _ _ e⟩
  ·exact .inr ⟨ws,s _ _ e⟩
 | _=>exact h
structure Kd (G:Hq) (x:Z) (n:String):Prop where
 ty:tyN G x=some n
 is:n="NoneType"\/n="bool"\/n="int"\/n="str"\/n="tuple"\/n="list"\/n="dict"
theorem Th.kd (h:Th G x):∃ n,Kd G x n:=by
 cases x with
 | non=>exact⟨_,rfl,.inl rfl⟩
 | bl _=>exact⟨_,rfl,.inr (.inl rfl)⟩
 | int _=>exact⟨_,rfl,.inr (.inr (.inl rfl))⟩
 | str _=>exact⟨_,rfl,.inr (.inr (.inr (.inl rfl)))⟩
 | tup _=>exact⟨_,rfl,.inr (.inr (.inr (.inr (.inl rfl))))⟩
 | ref p=>
  rcases h with ⟨ws,e⟩ | ⟨ws,e⟩
  ·exact⟨"list",by simp[tyN,e],.inr (.inr (.inr (.inr (.inr (.inl rfl)))))⟩
  ·exact⟨"dict",by simp[tyN,e],.inr (.inr (.inr (.inr (.inr (.inr rfl)))))⟩
 | _=>exact dR h
theorem b57 (h:n="NoneType"\/n="bool"\/n="int"\/n="str"\/n="tuple"\/n="list"\/n="dict"):kit0 n "str"=some (decide (n="str")):=by
 rcases h with rfl | rfl | rfl | rfl | rfl | rfl | rfl<;>decide +kernel
theorem b3R (h:n="NoneType"\/n="bool"\/n="int"\/n="str"\/n="tuple"\/n="list"\/n="dict"):kit0 n "bool"=some (decide (n="bool")):=by
 rcases h with rfl | rfl | rfl | rfl | rfl | rfl | rfl<;>decide +kernel
theorem b58 (h:n="NoneType"\/n="bool"\/n="int"\/n="str"\/n="tuple"\/n="list"\/n="dict"):kit0 n "int"=some (decide (n="int")||decide (n="bool")):=by
 rcases h with rfl | rfl | rfl | rfl | rfl | rfl | rfl<;>decide +kernel
noncomputable def isS:Z->Bool
 | .str _=>true
 | _=>false
noncomputable def isB:Z->Bool
 | .bl _=>true
 | _=>false
noncomputable def isI:Z->Bool
 | .int _=>true
 | .bl _=>true
 | _=>false
theorem c0B (h:Th G x) (q:R (.bl (isS x)) G):zIsT [x,.ty "str"] G R:=by
 obtain⟨n,k⟩:=h.kd;refine⟨n,_,k.ty,b57 k.is,?_⟩;have e:decide (n="str")=isS x:=by
  have:=k.ty
  cases x with
  | ref p=>rcases h with ⟨ws,e⟩ | ⟨ws,e⟩<;>(simp[tyN,e]at this;subst this;show _=false;decide)
  | _=>first | (cases this;show _=false;decide;done) | (cases this;show _=true;decide;done) | exact dR h
 rw[e];exact q
theorem b8R (h:Th G x) (q:R (.bl (isB x)) G):zIsT [x,.ty "bool"] G R:=by
 obtain⟨n,k⟩:=h.kd;refine⟨n,_,k.ty,b3R k.is,?_⟩;have e:decide (n="bool")=isB x:=by
  have:=k.ty
  cases x with
  | ref p=>rcases h with ⟨ws,e⟩ | ⟨ws,e⟩<;>(simp[tyN,e]at this;subst this;show _=false;decide)
  | _=>first | (cases this;show _=false;decide;done) | (cases this;show _=true;decide;done) | exact dR h
 rw[e];exact q
theorem b8S (h:Th G x) (q:R (.bl (isI x)) G):zIsT [x,.ty "int"] G R:=by
 obtain⟨n,k⟩:=h.kd;refine⟨n,_,k.ty,b58 k.is,?_⟩;have e:(decide (n="int")||decide (n="bool"))=isI x:=by
  have:=k.ty
  cases x with
  | ref p=>rcases h with ⟨ws,e⟩ | ⟨ws,e⟩<;>(simp[tyN,e]at this;subst this;show _=false;decide)
  | _=>first | (cases this;show _=false;decide;done) | (cases this;show _=true;decide;done) | exact dR h
 rw[e];exact q
noncomputable def okC (c:Nat):Bool:=decide (97≤c)&&decide (c≤122)
noncomputable def a3h:Z->Bool
 | .str s=>decide (1≤s.length)&&decide (s.length≤8)&&s.cps.toList.all okC
 | _=>false
noncomputable def momB:Z->Bool
 | .int i=>decide (0≤i)&&decide (i≤1000000000000)
 | _=>false
theorem a6Y:momB (.int i)=(decide (0≤i)&&decide (i≤1000000000000)):=rfl
noncomputable def strB (x y:Z):Bool:=momB x&&match y with
 | .non=>true
 | .int j=>momB (.int j)&&match x with | .int i=>decide (i<j) | _=>false
 | _=>false
def spB1 (f:Z->Bool):P3:=λws G R=>∃ x,ws=[x]/\Th G x/\∀ G',Sm G G'->R (.bl (f x)) G'
theorem b8T (h:spB1 f ws G R):ws.length=1:=by obtain⟨_,rfl,_⟩:=h;rfl
def spB2 (f:Z->Z->Bool):P3:=λws G R=>∃ x y,ws=[x,y]/\Th G x/\Th G y/\∀ G',Sm G G'->R (.bl (f x y)) G'
theorem c0C (h:spB2 f ws G R):ws.length=2:=by obtain⟨_,_,rfl,_⟩:=h;rfl
abbrev a72:P3:=spB1 a3h
abbrev a3n:P3:=spB1 momB
abbrev a5B:P3:=spB2 strB
theorem b2o (a b:Nat):ltS ⟨#[a]⟩ ⟨#[b]⟩=decide (a<b):=by
 by_cases h:a<b
 ·rw[decide_eq_true h];exact decide_eq_true (jD.mpr (.inl h))
 ·rw[decide_eq_false h];refine decide_eq_false λq=>?_;rcases jD.mp q with q | q
  ·simp_all
  ·simp_all
theorem strA:(Str.ofString "a")=⟨#[97]⟩:=by decide +kernel
theorem strZ:(Str.ofString "z")=⟨#[122]⟩:=by decide +kernel
theorem b3S (x:Str) (g:Nat->Option Z) (f:Z->Option Z) (h:∀ c,f (.str ⟨#[c]⟩)=g c):(a4H x).filterMap f=x.cps.toList.filterMap g:=by
 unfold a4H;rw[i6]
 congr 1
 funext c
 exact h c
theorem b2p (h:x.length≤1000):(a4H x).length≤1000:=by unfold a4H;rw[dJ,e4];exact h
theorem b8U (l:List Nat):(l.filterMap λc=>some (Z.bl (okC c)))=(l.map okC).map Z.bl:=by simp
theorem b59 (l:List Nat):(l.map okC).all id=l.all okC:=by simp
theorem a42:a3h (.str s)=(decide (1≤s.length)&&decide (s.length≤8)&&s.cps.toList.all okC):=rfl
theorem a73 (F:Fns K a) (T:Txt K mg a):FnOk P w K mg base CX0 1 a.f0 a.d0 ["thing"] (lowP K a72):=by
 refine fn3 F.n0 a7P (λws G R h=>(by exact b8T h)) (λcdv A outer s H E ws G R hr h=>?_);have hu:=a01 hr;refine⟨_,(a0k (z_if (a2O (a3g (a0C a8n rfl T.b_isinstance rfl (a0b (a0c (pv 0)) (a0b (q_ty (a2Z (v:=.ty "str") rfl T.b_str rfl rfl)) a0h a0a) a0a) (he:=a0a) (hpl:=(a0j a0a a0l)))))
  (a0n (a0H q_bl))
  a06)
  (a0k (z_if (QW.qt (q_or (a0z o_lt (a0C b_len rfl T.b_len PySem.boot_len (a0b (a0c (pv 0)) a0h a0a) (he:=a0a) (hpl:=a0l)) a0g (a0u _)) (a5c (a0z o_gt (a0C b_len rfl T.b_len PySem.boot_len (a0b (a0c (pv 0)) a0h a0a) (he:=a0a) (hpl:=a0l)) (b4j (a9z rfl T.c_LONGEST_NAME)) (a0u _)))))
  (a0n (a0H q_bl))
  a06)
  (a0n (a0H (a0C (b_all rfl) rfl T.b_all rfl (a0b (q_lc (N₀:=["thing"]) (so:=a0i a2E) (N':=["sign"]) (cap:=[none]) (pt:=(.nm 0)) rfl rfl rfl (by decide +kernel) rfl (b7J (a0c (pv 0))) (λ_ _ _ _=>(show QP _ _ (.nm 0) from (a0m (i:=0) c0r rfl (dL rfl)))) (λ_ _ _ _=>a2b) (λ_ _ _ _=>(b1l o_le o_le a4d (a0c (pv 0)) a4d))) a0h a0R) (he:=a0R) (hpl:=a0l)))))),?_⟩
 obtain⟨x,rfl,hx,q⟩:=h;walk_at "go";refine c0B hx ?_;walk_at "go";refine ifNB (λc=>?_) λc=>?_
 ·walk_at "go";have e:a3h x=false:=by cases x<;>first | rfl | cases c
  have:=q G (Sm.refl G)
  rw[e]at this;exact this
 ·obtain⟨s,rfl⟩:∃ s,x=.str s:=by cases x<;>first | exact⟨_,rfl⟩ | cases c
  have hs:okS s:=hx;walk_at "go";refine b1H (a17 hs.1) ?_;walk_at "go";have no:a3h (.str s)=false->R (.bl false) G:=λe=>by have:=q G (Sm.refl G);rw[e]at this;exact this
  refine ifD (λc1=>?_) λc1=>?_
  ·walk_at "go";exact no (by rw[a42,decide_eq_false (show ¬ 1≤s.length by omega)];rfl)
  ·walk_at "go";refine b1H (a17 hs.1) ?_;walk_at "go";refine ifD (λc2=>?_) λc2=>?_
   ·walk_at "go";exact no (by rw[a42,decide_eq_false (show ¬ s.length≤8 by omega),h8];rfl)
   ·walk_at "go";intro D hD;refine b5j (λx=>match x with | .str z=>some (.bl (!ltS z (Str.ofString "a")&&!ltS (Str.ofString "z") z)) | _=>none) (λ_=>True.intro) (b2p hs.1) ?_ ?_
    ·intro x hm ys K1 K2 k1 k2;unfold a4H at hm;obtain⟨c,_,rfl⟩:=eq.mp hm;refine⟨_,rfl,?_⟩;walk_at "go";refine ifB (λz=>?_) λz=>?_
     ·walk_at "go";refine k1 _ ?_;dsimp only;rw[z];rfl
     ·refine k1 _ ?_;dsimp only;rw[z];rfl
    ·have e:(a4H s).filterMap (λx=>match x with | .str z=>some (.bl (!ltS z (Str.ofString "a")&&!ltS (Str.ofString "z") z)) | _=>none)=(s.cps.toList.map okC).map Z.bl:=by
      rw[b3S s (λc=>some (.bl (okC c))) _ λc=>?_,b8U];dsimp only;rw[strA,strZ,b2o,b2o];unfold okC
      congr 2
      by_cases h1:c<97<;>by_cases h2:122<c<;>simp[h1,h2]<;>omega
     have e2:a3h (.str s)=s.cps.toList.all okC:=by rw[a42,decide_eq_true (show 1≤s.length by omega),decide_eq_true (show s.length≤8 by omega),e9,e9]
     refine b95 (by rw[e];exact a0e) ?_;rw[b59,<- e2];exact q _ (Sm.new hD)
theorem a5M (F:Fns K a) (T:Txt K mg a):FnOk P w K mg base CX0 1 a.f1 a.d1 ["thing"] (lowP K a3n):=by
 refine fn3 F.n1 a5K (λws G R h=>(by exact b8T h)) (λcdv A outer s H E ws G R hr h=>?_);have hu:=a01 hr;refine⟨_,(a0k (z_if (QW.qt (q_or (a3g (a0C a8n rfl T.b_isinstance rfl (a0b (a0c (pv 0)) (a0b (q_ty (a2Z (v:=.ty "bool") rfl T.b_bool rfl rfl)) a0h a0a) a0a) (he:=a0a) (hpl:=(a0j a0a a0l)))) (a5c (a2O (a3g (a0C a8n rfl T.b_isinstance rfl (a0b (a0c (pv 0)) (a0b (q_ty (a2Z (v:=.ty "int") rfl T.b_int rfl rfl)) a0h a0a) a0a) (he:=a0a) (hpl:=(a0j a0a a0l))))))))
  (a0n (a0H q_bl))
  a06)
  (a0n (a0H (b1l o_le o_le a0g (a0c (pv 0)) (b4j (a9z rfl T.c_LAST_MOMENT)))))),?_⟩
 obtain⟨x,rfl,hx,q⟩:=h;have no:momB x=false->R (.bl false) G:=λe=>by have:=q G (Sm.refl G);rw[e]at this;exact this
 walk_at "go";refine b8R hx ?_;walk_at "go";refine ifB (λc=>?_) λc=>?_
 ·walk_at "go";exact no (by cases x<;>first | rfl | cases c)
 ·walk_at "go";refine b8S hx ?_;walk_at "go";refine ifNB (λc2=>?_) λc2=>?_
  ·walk_at "go";exact no (by cases x<;>first | rfl | cases c2)
  ·obtain⟨i,rfl⟩:∃ i,x=.int i:=by cases x<;>first | exact⟨_,rfl⟩ | (cases c;done) | (cases c2;done)
   walk_at "go";refine ifD (λz=>?_) λz=>?_
   ·walk_at "go"
    have:=q G (Sm.refl G)
    rw[a6Y,decide_eq_true z,e9]at this;exact this
   ·exact no (by rw[a6Y,decide_eq_false z];rfl)
theorem a5C (F:Fns K a) (T:Txt K mg a):FnOk P w K mg base CX0 2 a.f2 a.d2 ["begin","end"] (lowP K a5B):=by
 have b:FnOk P w K mg base CX0 1 a.f1 a.d1 ["thing"] (lowP K a3n):=a5M F T;refine fn3 F.n2 a5v (λo G R h=>(by exact c0C h)) (λu A n s H E o G R l h=>?_);have v:=a01 l;refine⟨_,(a0k (z_if (a2O (a3g (a0s b (l.mono (by decide)) rfl T.m1 F.n1.kp (a3l F) (a0b (a0c (pv 0)) a0h a0a))))
  (a0n (a0H q_bl))
  a06)
  (a0k (z_if (a0z o_is (a0c (pv 1)) a2v (a0u _))
  (a0n (a0H q_bl))
  a06)
  (a0n (a0H (a88 (a0s b (l.mono (by decide)) rfl T.m1 F.n1.kp (a3l F) (a0b (a0c (pv 1)) a0h a0a)) (b1m (a91 o_lt (a0c (pv 0)) (a0c (pv 1)) (a0u _)))))))),?_⟩
 obtain⟨x,y,rfl,t,r,q⟩:=h;walk_at "go";refine⟨x,rfl,t,λC g=>?_⟩;have m:∀ d,Sm G d->strB x y=false->R (.bl false) d:=λd s e=>by have:=q d s;rw[e]at this;exact this
 walk_at "go";refine ifNB (λc=>?_) λc=>?_
 ·walk_at "go";exact m _ g (by unfold strB;rw[c];rfl)
 ·walk_at "go";refine ifD (λz=>?_) λz=>?_
  ·walk_at "go"
   have:=q _ g
   unfold strB at this;rw[c,z]at this;exact this
  ·walk_at "go";refine⟨y,rfl,r.sm g,λB p=>?_⟩;have k:=g.trans p;walk_at "go";refine ifB (λf=>?_) λf=>?_
   ·obtain⟨i,rfl⟩:∃ i,x=.int i:=by cases x<;>first | exact⟨_,rfl⟩ | cases c
    obtain⟨j,rfl⟩:∃ j,y=.int j:=by cases y<;>first | exact⟨_,rfl⟩ | cases f
    walk_at "go"
    have:=q _ k
    unfold strB at this;rw[c]at this;dsimp only at this;rw[f,e9,e9]at this;exact this
   ·refine m _ k ?_;unfold strB;rw[c,e9];cases y<;>first | rfl | exact absurd rfl z | (dsimp only;rw[f];rfl)
def isL (c:Nat):Prop:=97≤c/\c≤122
def nmOk (s:Str):Prop:=1≤s.cps.toList.length/\s.cps.toList.length≤8/\∀ c∈s.cps.toList,isL c
theorem a3A (s:Str):s.length=s.cps.toList.length:=by rw[e4];rfl
theorem a9E (h:∀ c∈s.cps.toList,isL c):PyData.strOk s=true:=by
 unfold PyData.strOk;rw[Array.all_eq_true_iff_forall_mem];intro c a
 have:=(h c (by simp_all)).2
 exact decide_eq_true (by omega)
theorem a2K (h:nmOk s):flat n (.str s)=true:=by
 have:=a9E h.2.2
 cases n<;>exact this
theorem b3T (h:nmOk s):Th G (.str s):=⟨by rw[a3A];have:=h.2.1;omega,a9E h.2.2⟩
theorem nm_b (h:nmOk s):a3h (.str s)=true:=by
 rw[a42,decide_eq_true (by rw[a3A];exact h.1),decide_eq_true (by rw[a3A];exact h.2.1)];rw[e9,e9,fI];intro c b;obtain⟨a,d⟩:=h.2.2 c b;unfold okC;rw[decide_eq_true a,decide_eq_true d];rfl
noncomputable def T12:Int:=1000000000000
def stOk (b:Int) (e:Option Int):Prop:=0≤b/\b≤T12/\∀ x,e=some x->b<x/\x≤T12
theorem stOk.bef (h:stOk b e):bef b e=true:=by
 cases e with
 | none=>rfl
 | some x=>simp only[Lw.bef,decide_eq_true_eq];exact (h.2.2 x rfl).1
theorem st_b (h:stOk b e):strB (.int b) (oz e)=true:=by
 obtain⟨c,g,a⟩:=h;unfold T12 at *;unfold strB;rw[a6Y,decide_eq_true c,decide_eq_true g];cases e with
 | none=>rfl
 | some x=>
  obtain⟨f,d⟩:=a x rfl
  show (true&&(momB _&&decide _))=true
  rw[a6Y,decide_eq_true (show 0≤x by omega),decide_eq_true d,decide_eq_true f];rfl
def Plain (l:List Rw):Prop:=∀ r∈l,∃ x,r.w=[x]/\flat 0 x=true
theorem Plain.one (h:Plain l):One l:=λr a=>let ⟨x,e,_⟩:=h r a;⟨x,e⟩
theorem Plain.okR (h:Plain l):OkR l:=λr a=>by
 obtain⟨x,e,f⟩:=h r a;rw[e];exact b8Q (a5A (by simp) f)
theorem Plain.nil:Plain []:=λr hr=>by simp at hr
theorem b2q (h:Plain L) (f:flat 0 z=true):Plain (a7Z L b e (optW z)):=λr a=>by
 have m:Plain (a2Q L b e (optW z)):=λr a=>by
  rcases dN.mp a with a | a
  ·rcases dN.mp a with a | a
   ·obtain⟨j,i,_,rfl⟩:=a3X a;exact h j i
   ·unfold optW at a
    split at a
    ·next w e=>
           split at e
           ·cases e
           ·cases e;rw[dP.mp a];exact⟨z,rfl,f⟩
    ·simp_all
  ·cases e with
   | none=>simp at a
   | some e=>
    obtain⟨j,i,_,rfl⟩:=a40 a;exact h j i
 have l:∀ d c,Plain c->Plain d->Plain (d.foldl jn c):=by
  intro d
  induction d with
  | nil=>exact λ_ h _=>h
  | cons p d ih=>
   intro c k g;refine ih _ (λr a=>?_) λr a=>g r (.tail _ a)
   have:=g p (.head _)
   unfold jn at a
   split at a
   ·split at a
    ·rcases dN.mp a with a | a
     ·exact k r (iP _ a)
     ·simp_all
    ·rcases dN.mp a with a | a
     ·exact k r a
     ·simp_all
   ·simp_all
 exact l _ [] Plain.nil m r a
structure Tl where
 key:Str
 w:Option Str
 b:Int
 e:Option Int
abbrev sPut:Str:=Str.ofString "put"
abbrev b4I:Str:=Str.ofString "clear"
noncomputable def Tl.z (τ:Tl):Z:=match τ.w with
 | some w=>.tup [.str sPut,.str τ.key,.str w,.int τ.b,oz τ.e]
 | none=>.tup [.str b4I,.str τ.key,.int τ.b,oz τ.e]
noncomputable def Tl.v (τ:Tl):Z:=match τ.w with
 | some w=>.str w
 | none=>.non
structure Tl.Ok (τ:Tl):Prop where
 k:nmOk τ.key
 w:∀ s,τ.w=some s->nmOk s
 st:stOk τ.b τ.e
theorem Tl.Ok.v {τ:Tl}(h:τ.Ok):flat 0 τ.v=true:=by
 unfold Tl.v;cases e:τ.w with
 | none=>rfl
 | some w=>exact a2K (h.w w e)
noncomputable def Tl.rw (τ:Tl):Rw:=⟨τ.b,τ.e,[τ.v]⟩
noncomputable def a0G (T:List Tl) (k:Str):List Rw:=(T.filter fun τ=>decide (τ.key=k)).map Tl.rw
theorem a2n:a0G (T++[τ]) k=a0G T k++(if τ.key=k then [τ.rw] else []):=by
 unfold a0G
 by_cases c:τ.key=k<;>simp[c]
def OkT (T:List Tl):Prop:=∀ τ∈T,τ.Ok
structure IsLine (T:List Tl) (k:Str) (L:List Rw):Prop where
 can:Can L
 pl:Plain L
 len:L.length≤2*T.length
 v:∀ t,val L t=optW (a0E (a0G T k) t)
theorem IsLine.nil (h:a0G T k=[]):IsLine T k []:=⟨Can.nil,Plain.nil,by simp,λt=>by rw[h];rfl⟩
theorem IsLine.snoc (h:IsLine T τ.key L) (o:τ.Ok):IsLine (T++[τ]) τ.key (a7Z L τ.b τ.e (optW τ.v)):=by
 have a:=a9B (w:=optW τ.v) h.can.rise o.st.bef;refine⟨a.1,b2q h.pl o.v,by have:=a.2.2;have:=h.len;simp;omega,λt=>?_⟩;rw[a2n,if_pos rfl,a5z,a.2.1 t,h.v t]
 show _=optW (if (decide (τ.b≤t)&&bef t τ.e)=true then τ.v else a0E _ t)
 split<;>rfl
noncomputable def ixF (k:Str):Nat->List Tl->List Int
 | _,[]=>[]
 | n,τ::T=>(if τ.key=k then [(n:Int)+1] else [])++ixF k (n+1) T
noncomputable def ix (T:List Tl) (k:Str):List Int:=ixF k 0 T
theorem a9F:∀ (n:Nat) (T:List Tl),ixF k n (T++[τ])=ixF k n T++(if τ.key=k then [(n+T.length:Int)+1] else [])
 | n,[]=>by simp[ixF]
 | n,σ::T=>by
  rw[gN,ixF,a9F,ixF,eD]
  congr 2
  split
  ·congr 1;rw[ej];omega
  ·rfl
theorem a4p:ix (T++[τ]) k=ix T k++(if τ.key=k then [(T.length:Int)+1] else []):=by
 unfold ix;rw[a9F];simp
theorem b2r:∀ {n:Nat}{T:List Tl}{i:Int},i∈ixF k n T->(n:Int)+1≤i/\i≤n+T.length
 | _,[],i,h=>by simp[ixF]at h
 | n,τ::T,i,h=>by
  rw[ej];rcases dN.mp h with h | h
  ·split at h
   ·rw[dP.mp h];omega
   ·simp_all
  ·have:=b2r h;omega
theorem b8V (h:i∈ix T k):1≤i/\i≤T.length:=by
 have:=b2r h
 simpa using this
theorem b2s:∀ (n:Nat) (T:List Tl),(ixF k n T).length≤T.length
 | _,[]=>by simp[ixF]
 | n,τ::T=>by
  have:=b2s (k:=k) (n+1) T
  rw[ixF,dO,ej]
  split<;>simp<;>omega
theorem b8W (T:List Tl) (k:Str):(ix T k).length≤T.length:=b2s 0 T
theorem a6g:∀ (n:Nat) (T:List Tl),(ixF k n T).Pairwise (·<·)
 | _,[]=>.nil
 | n,τ::T=>by
  refine eG.mpr ⟨by split<;>simp,a6g _ T,λx a y b=>?_⟩
  have:=b2r b
  split at a
  ·rw[dP.mp a];omega
  ·grind
theorem b2t (T:List Tl) (k:Str):(ix T k).Pairwise (·<·):=a6g 0 T
theorem a43:∀ (n:Nat) (T:List Tl) (s q:Nat),s≤q->(∀ i∈ixF k n T,(i:Int)≤n+s\/(n+q:Int)<i)->a0G (T.take q) k=a0G (T.take s) k
 | n,[],s,q,_,_=>by simp
 | n,τ::T,s,0,hs,_=>by grind
 | n,τ::T,0,q+1,hs,h=>by
  have d:¬ τ.key=k:=λe=>by
   have:=h (n+1) (by rw[ixF,if_pos e];simp)
   omega
  have a:=a43 (k:=k) (n+1) T 0 q (by omega) λi b=>by
   rcases h i (by rw[ixF];simp[b]) with c | c
   omega;omega
  rw[iR];unfold a0G at a ⊢;rw[e8,if_neg (by simpa using d),a];simp
 | n,τ::T,s+1,q+1,hs,h=>by
  have a:=a43 (k:=k) (n+1) T s q (by omega) λi b=>by
   rcases h i (by rw[ixF];simp[b]) with c | c
   ·left;omega
   omega
  rw[iR,iR];unfold a0G at a ⊢;rw[e8,e8]
  split
  ·grind
  ·exact a
theorem IsLine.cut {s q:Nat}(h:IsLine (T.take s) k L) (hs:s≤q) (hi:∀ i∈ix T k,i≤(s:Int)\/(q:Int)<i):IsLine (T.take q) k L:=by
 have e:=a43 0 T s q hs λi h=>by have:=hi i h;simpa using this
 exact⟨h.can,h.pl,by have:=h.len;rw[dY]at this ⊢;omega,λt=>by rw[e];exact h.v t⟩
abbrev a8M:Str:=Str.ofString "last"
abbrev b2u:Str:=Str.ofString "kept"
noncomputable def shF (n:Int) (d:Addr):List (Str×Z):=[(a8M,.int n),(b2u,.ref d)]
theorem c0K:¬ (a8M=b2u):=by decide +kernel
theorem b6a:putQ b2u (.ref d) [(a8M,.int n)]=shF n d:=by
 rfl
theorem b6b:putQ a8M (.int m) (shF n d)=shF m d:=rfl
theorem a4q:(shF n d).lookup a8M=some (.int n):=rfl
theorem a8N:(shF n d).lookup b2u=some (.ref d):=rfl
theorem a5N (h1:(m==a8M)=false) (h2:(m==b2u)=false):(shF n d).lookup m=none:=by
 unfold shF;rw[fj,h1,fj,h2];rfl
abbrev enZ (e:Int×Addr):Z:=.tup [.int e.1,.ref e.2]
structure Hist (G:Hq) (S:Addr->Prop) (T:List Tl) (k:Str) (h:Addr) (es:List (Int×Addr)):Prop where
 s:S h
 at_:G h=some (.lst (es.map enZ))
 ix:es.map (·.1)=ix T k
 ne:es≠[]
 ln:∀ e∈es,S e.2/\∃ L,G e.2=some (.lst (L.map Rw.z))/\IsLine (T.take e.1.toNat) k L
structure ShM (C:Addr) (G:Hq) (p:Addr) (S:Addr->Prop) (T:List Tl) (n:Int) (dx d:Addr) (kvs:List (Key×Z)):Prop where
 ob:G p=some (.ins C dx (shF n d))
 sp:S p
 sd:S d
 dc:G d=some (.dK kvs)
 len:kvs.length≤T.length
 no:∀ k,valZ kvs (.inr k)=none->ix T k=[]
 hs:∀ k z,valZ kvs (.inr k)=some z->∃ h es,z=.ref h/\Hist G S T k h es
 inj:∀ k k' z,valZ kvs (.inr k)=some z->valZ kvs (.inr k')=some z->k=k'
 al:∀ b,S b->∃ o,G b=some o
 nd:(kvs.map (·.1)).Nodup
 sk:∀ q∈kvs,∃ s,q.1=Sum.inr s
def Sheet (C:Addr) (G:Hq) (p:Addr) (S:Addr->Prop) (T:List Tl):Prop:=∃ dx d kvs,ShM C G p S T T.length dx d kvs
def KS (S:Addr->Prop) (G G':Hq):Prop:=∀ b o,S b->G b=some o->G' b=some o
def KN (S:Addr->Prop) (G G':Hq):Prop:=∀ b o,¬ S b->G b=some o->G' b=some o
theorem Sm.ks (s:Sm G G'):KS S G G':=λb o _ e=>s b o e
theorem Sm.kn (s:Sm G G'):KN S G G':=λb o _ e=>s b o e
theorem KN.trans (a:KN S G G1) (b:KN S G1 G2):KN S G G2:=λc o n e=>b c o n (a c o n e)
theorem Hist.keep (H:Hist G S T k h es) (q:KS S G G'):Hist G' S T k h es:=
 ⟨H.s,q _ _ H.s H.at_,H.ix,H.ne,λe c=>let ⟨s,L,a,b⟩:=H.ln e c;⟨s,L,q _ _ s a,b⟩⟩
theorem ShM.keep (H:ShM C G p S T n dx d kvs) (q:KS S G G'):ShM C G' p S T n dx d kvs:=
 ⟨q _ _ H.sp H.ob,H.sp,H.sd,q _ _ H.sd H.dc,H.len,H.no,λk z e=>let ⟨h,es,a,b⟩:=H.hs k z e;⟨h,es,a,b.keep q⟩,H.inj,(λb c=>let ⟨o,e⟩:=H.al b c;⟨o,q b o c e⟩),H.nd,H.sk⟩
theorem Sheet.keep (H:Sheet C G p S T) (q:KS S G G'):Sheet C G' p S T:=let ⟨dx,d,kvs,h⟩:=H;⟨dx,d,kvs,h.keep q⟩
structure ShV (C:Addr) (G:Hq) (p:Addr) (S:Addr->Prop) (T:List Tl) (n:Int) (dx d:Addr) (kvs:List (Key×Z)):Prop where
 ob:G p=some (.ins C dx (shF n d))
 sp:S p
 sd:S d
 dc:G d=some (.dK kvs)\/G d=some (.dF kvs)
 len:kvs.length≤T.length
 no:∀ k,valZ kvs (.inr k)=none->ix T k=[]
 hs:∀ k z,valZ kvs (.inr k)=some z->∃ h es,z=.ref h/\Hist G S T k h es
 al:∀ b,S b->∃ o,G b=some o
 nd:(kvs.map (·.1)).Nodup
 sk:∀ q∈kvs,∃ s,q.1=Sum.inr s
theorem ShM.v (H:ShM C G p S T n dx d kvs):ShV C G p S T n dx d kvs:=⟨H.ob,H.sp,H.sd,.inl H.dc,H.len,H.no,H.hs,H.al,H.nd,H.sk⟩
theorem ShV.keep (H:ShV C G p S T n dx d kvs) (q:KS S G G'):ShV C G' p S T n dx d kvs:=
 ⟨q _ _ H.sp H.ob,H.sp,H.sd,H.dc.imp (q _ _ H.sd) (q _ _ H.sd),H.len,H.no,λk z e=>let ⟨h,es,a,b⟩:=H.hs k z e;⟨h,es,a,b.keep q⟩,(λb c=>let ⟨o,e⟩:=H.al b c;⟨o,q b o c e⟩),H.nd,H.sk⟩
def SheetV (C:Addr) (G:Hq) (p:Addr) (S:Addr->Prop) (T:List Tl):Prop:=∃ dx d kvs,ShV C G p S T T.length dx d kvs
theorem Sheet.v (H:Sheet C G p S T):SheetV C G p S T:=let ⟨dx,d,kvs,h⟩:=H;⟨dx,d,kvs,h.v⟩
theorem SheetV.keep (H:SheetV C G p S T) (q:KS S G G'):SheetV C G' p S T:=let ⟨dx,d,kvs,h⟩:=H;⟨dx,d,kvs,h.keep q⟩
theorem b6c (h:t σ G λws G1=>sp ws G1 R EE):b4A sp EE t σ G R:=h
theorem b6d (h:te σ G λ_ G1=>EE C G1):b4B EE C te nx rt bk ct σ G:=h
theorem b6e (h:to σ G λx G1=>∃ q dx fs,x=.ref q/\G1 q=some (.ins C dx fs)/\fs.lookup m=none/\t σ G1 λws G2=>sp (.ref q::ws) G2 R EE):b4C C m sp EE to t σ G R:=h
local macro_rules | `(tactic| walk_at "go1")=>`(tactic| with_reducible (first | refine b6c ?_ | refine b6d ?_ | refine b6e ?_ | refine i_tryM ?_))
def a1n (a:Ad):PX3:=λws G R EE=>∃ x,ws=[x]/\Th G x/\∀ G',Sm G G'->if a3h x=true then R .non G' else EE a.x_NoName G'
theorem a4O {a:Ad}{ws:List Z}{G:Hq}{R:K3}{EE:Addr->Hq->Prop}(h:a1n a ws G R EE):ws.length=1:=by obtain⟨_,rfl,_⟩:=h;rfl
theorem a28 (F:Fns K a) (T:Txt K mg a):FnOk P w K mg base (CXx P w) 2 a.f11 a.d11 ["thing"] (a2C K (a1n a)):=by
 have b:FnOk P w K mg base CX0 1 a.f0 a.d0 ["thing"] _:=a73 F T;refine fn3x F.n11 a5w (λj G R g h=>(by exact a4O h)) (λn A f s H E j G R g e h k=>?_);refine⟨_,(a0n (z_if (a2O (a3g (a0s b (e.mono (by decide)) rfl T.m0 F.n0.kp (a7R F) (a0b (a0c (pv 0)) a0h a0a))))
  (a0n (a8A Outs.of k rfl rfl T.x_NoName T.xi_NoName a4d a0f a0l))
  a06)),?_⟩
 obtain⟨x,rfl,i,q⟩:=h;walk_at "go";refine⟨_,rfl,i,λm l=>?_⟩;have d:=q m l;walk_at "go";refine ifNB (λc=>?_) λc=>?_
 ·rw[c]at d;exact d
 ·rw[c]at d;walk_at "go";exact d
def a1o (a:Ad):PX3:=λws G R EE=>∃ x y,ws=[x,y]/\Th G x/\Th G y/\∀ G',Sm G G'->if strB x y=true then R .non G' else EE a.x_NoStretch G'
theorem a3B {a:Ad}{ws:List Z}{G:Hq}{R:K3}{EE:Addr->Hq->Prop}(h:a1o a ws G R EE):ws.length=2:=by obtain⟨_,_,rfl,_⟩:=h;rfl
theorem a3Z (F:Fns K a) (T:Txt K mg a):FnOk P w K mg base (CXx P w) 3 a.f19 a.d19 ["begin","end"] (a2C K (a1o a)):=by
 have b:FnOk P w K mg base CX0 2 a.f2 a.d2 ["begin","end"] _:=a5C F T;refine fn3x F.n19 a3Q (λk G R g h=>(by exact a3B h)) (λo A f s H E k G R g e h l=>?_);refine⟨_,(a0n (z_if (a2O (a3g (a0s b (e.mono (by decide)) rfl T.m2 F.n2.kp (a5x F) (a0b (a0c (pv 0)) (a0b (a0c (pv 1)) a0h a0a) a0a))))
  (a0n (a8A Outs.of l rfl rfl T.x_NoStretch T.xi_NoStretch a4d a0f a0l))
  a06)),?_⟩
 obtain⟨x,y,rfl,i,j,q⟩:=h;walk_at "go";refine⟨_,_,rfl,i,j,λn m=>?_⟩;have d:=q n m;walk_at "go";refine ifNB (λc=>?_) λc=>?_
 ·rw[c]at d;walk_at "go";exact d
 ·rw[c]at d;walk_at "go";exact d
structure Tel (G:Hq) (z:Z) (h:Z) (nm:List Z) (x y:Z):Prop where
 e:z=.tup (h::(nm++[x,y]))
 l:(∃ k,nm=[k])\/∃ k w,nm=[k,w]
 n:∀ z∈nm,Th G z
 x:Th G x
 y:Th G y
theorem Tel.sm {x y:Z}(T:Tel G z h nm x y) (s:Sm G G'):Tel G' z h nm x y:=⟨T.e,T.l,λz a=>(T.n z a).sm s,T.x.sm s,T.y.sm s⟩
def a1p (a:Ad):PX3:=λws G R EE=>Ex5 λ(z h:Z) (nm:List Z) (x y:Z)=>ws=[z]/\Tel G z h nm x y/\∀ G',Sm G G'->if nm.all a3h=true then (if strB x y=true then R .non G' else EE a.x_NoStretch G') else EE a.x_NoName G'
theorem a3C {a:Ad}{ws:List Z}{G:Hq}{R:K3}{EE:Addr->Hq->Prop}(h:a1p a ws G R EE):ws.length=1:=by obtain⟨_,_,_,_,_,rfl,_⟩:=h;rfl
theorem c0D:cutZ [h,k,x,y] (some 1) (some (-2))=[k]:=rfl
theorem c0E {h k w x y:Z}:cutZ [h,k,w,x,y] (some 1) (some (-2))=[k,w]:=rfl
theorem a74 {l:List Z}(h:x∈l) (c:f x=false):l.all f=false:=List.all_eq_false.mpr ⟨x,h,by rw[c];decide⟩
theorem a9G {l:List Z}(h:(l.take i).all f=true) (e:l[i]?=some x) (c:f x=true):(l.take (i+1)).all f=true:=by
 rw[fA,List.all_append,h,e]
 show (true&&([x].all f))=true
 rw[eL,c];rfl
theorem a30 (F:Fns K a) (T:Txt K mg a):FnOk P w K mg base (CXx P w) 4 a.f20 a.d20 ["telling"] (a2C K (a1p a)):=by
 have d:FnOk P w K mg base (CXx P w) 3 a.f19 a.d19 ["begin","end"] (a2C K (a1o a)):=a3Z F T;have e:FnOk P w K mg base (CXx P w) 2 a.f11 a.d11 ["thing"] (a2C K (a1n a)):=a28 F T;refine fn3x F.n20 sc_p_check_telling (λD G R I h=>(by exact a3C h)) (λL A C s H E D G R I o h p=>?_);have m:=a01 o;refine⟨_,(a0k (a2x j9.leaving rfl (b7y (a1P x_sl (a0c (pv 0)) (a2j a0g) (a2j (q_un a1V a0g)))) (show QP _ _ (.nm 1) from (a0m sc_p_check_telling.nd rfl (dL rfl)))
  (a0n (a05 (a2D (a1A Outs.of) p.since e (o.mono (by decide)) rfl T.m11 F.n11.kp (a25 F) (a0b (a0c (pv 1)) a0h a0a)))))
  (a0n (a05 (a2D (a1A Outs.of) p.since d (o.mono (by decide)) rfl T.m19 F.n19.kp (a3T F) (a0b (q_ix x_ix (a0c (pv 0)) (q_un a1V a0g) (λ_ _=>rfl)) (a0b (q_ix x_ix (a0c (pv 0)) (q_un a1V a0g) (λ_ _=>rfl)) a0h a0d) a0d))))),?_⟩
 obtain⟨z,h,M,x,y,rfl,⟨rfl,J,r,B,t⟩,q⟩:=h;rcases J with ⟨k,rfl⟩ | ⟨k,w,rfl⟩
 ·show uSeq _ _ _ _ _ _ (a4y _ [.tup [h,k,x,y]]) _
  walk_at "go";refine b3p (show ¬ (HT.sIx 4 0 (some 1)=0/\HT.sIx 4 4 (some (-2))=4) by decide) ?_;rw[c0D];walk_at "go";refine a08 (λi σ l=>∃ v:Option Z,Sm G l/\(([k]:List Z).take i).all a3h=true/\σ=[some (.tup [h,k,x,y]),v]) ⟨_,Sm.refl _,rfl,rfl⟩ (λ_ _ _ _ _=>True.intro) ?_ ?_
  ·rintro i u σ l m ⟨v,s,f,rfl⟩;have n:=er m;refine⟨_,rfl,?_⟩;walk_at "go";refine⟨u,rfl,(r u n).sm s,λj g=>?_⟩;have b:=q j (s.trans g);refine ifB (λc=>?_) λc=>?_
   ·walk_at "go";exact⟨_,s.trans g,a9G f m c,rfl⟩
   ·rw[a74 n c]at b;exact b
  ·rintro σ l ⟨v,s,f,rfl⟩;have f:([k]:List Z).all a3h=true:=f;walk_at "go";refine⟨x,y,rfl,B.sm s,t.sm s,λj g=>?_⟩;have b:=q j (s.trans g);rw[f]at b;refine ifB (λc=>?_) λc=>?_
   ·rw[c]at b;walk_at "go";exact b
   ·rw[c]at b;exact b
 ·show uSeq _ _ _ _ _ _ (a4y _ [.tup [h,k,w,x,y]]) _
  walk_at "go";refine b3p (show ¬ (HT.sIx 5 0 (some 1)=0/\HT.sIx 5 5 (some (-2))=5) by decide) ?_;rw[c0E];walk_at "go";refine a08 (λi σ l=>∃ v:Option Z,Sm G l/\(([k,w]:List Z).take i).all a3h=true/\σ=[some (.tup [h,k,w,x,y]),v]) ⟨_,Sm.refl _,rfl,rfl⟩ (λ_ _ _ _ _=>True.intro) ?_ ?_
  ·rintro i u σ l m ⟨v,s,f,rfl⟩;have n:=er m;refine⟨_,rfl,?_⟩;walk_at "go";refine⟨u,rfl,(r u n).sm s,λj g=>?_⟩;have b:=q j (s.trans g);refine ifB (λc=>?_) λc=>?_
   ·walk_at "go";exact⟨_,s.trans g,a9G f m c,rfl⟩
   ·rw[a74 n c]at b;exact b
  ·rintro σ l ⟨v,s,f,rfl⟩;have f:([k,w]:List Z).all a3h=true:=f;walk_at "go";refine⟨x,y,rfl,B.sm s,t.sm s,λj g=>?_⟩;have b:=q j (s.trans g);rw[f]at b;refine ifB (λc=>?_) λc=>?_
   ·rw[c]at b;walk_at "go";exact b
   ·rw[c]at b;exact b
def a1U (a:Ad):PX3:=λws G R EE=>∃ q n:Int,ws=[.int q,.int n]/\if 0≤q/\q≤n then R .non G else EE a.x_NoKnowing G
theorem a3i {a:Ad}{ws:List Z}{G:Hq}{R:K3}{EE:Addr->Hq->Prop}(h:a1U a ws G R EE):ws.length=2:=by obtain⟨_,_,rfl,_⟩:=h;rfl
theorem a3D (F:Fns K a) (T:Txt K mg a):FnOk P w K mg base (CXx P w) 1 a.f9 a.d9 ["knowing","last"] (a2C K (a1U a)):=by
 refine fn3x F.n9 a3x (λg G R i h=>(by exact a3i h)) (λj A b s H E g G R i f h d=>?_);have l:=a01 f;refine⟨_,(a0n (z_if (QW.qt (q_or (a0z o_lt (a0c (pv 0)) a0g (a0u _)) (a5c (a0z o_gt (a0c (pv 0)) (a0c (pv 1)) (a0u _)))))
  (a0n (a8A Outs.of d rfl rfl T.x_NoKnowing T.xi_NoKnowing a4d a0f a0l))
  a06)),?_⟩
 obtain⟨q,n,rfl,k⟩:=h;walk_at "go";refine ifD (λc=>?_) λc=>?_
 ·rw[if_neg (by omega)]at k;walk_at "go";exact k
 ·walk_at "go";refine ifD (λe=>?_) λe=>?_
  ·rw[if_neg (by omega)]at k;walk_at "go";exact k
  ·rw[if_pos (by omega)]at k;walk_at "go";exact k
def a1J:P3:=λws G R=>∃ (l:Addr) (L:List Rw) (τ:Tl),ws=[.ref l,τ.z]/\G l=some (.lst (L.map Rw.z))/\Rise L/\Plain L/\L.length≤400/\τ.Ok /\
 ∀ t G',G t=none->Sm G G'->G' t=some (.lst ((a7Z L τ.b τ.e (optW τ.v)).map Rw.z))->R (.ref t) G'
theorem a4r (h:a1J ws G R):ws.length=2:=by obtain⟨_,_,_,rfl,_⟩:=h;rfl
theorem b8X:¬ (b4I=sPut):=by decide +kernel
theorem a4P (F:Fns K a) (T:Txt K mg a):FnOk P w K mg base CX0 4 a.f21 a.d21 ["line","telling"] (lowP K a1J):=by
 have d:FnOk P w K mg base CX0 3 a.f8 a.d8 ["line","begin","end","worth"] (lowP K a3z):=a8L F T;refine fn3 F.n21 sc_p_line_behind (λp G R h=>(by exact a4r h)) (λu A n s H E p G R f h=>?_);have o:=a01 f;refine⟨_,(a0k (z_set (i:=2) sc_p_line_behind.nd rfl (dL rfl) (q_if (a0z (o_eq o) (q_ix x_ix (a0c (pv 1)) a0g (λ_ _=>rfl)) a4d (a0u _)) (q_ix x_ix (a0c (pv 1)) a0g (λ_ _=>rfl)) a2v))
  (a0n (a0H (a0s d (f.mono (by decide)) rfl T.m8 F.n8.kp (a8H F) (a0b (a0c (pv 0)) (a0b (q_ix x_ix (a0c (pv 1)) (q_un a1V a0g) (λ_ _=>rfl)) (a0b (q_ix x_ix (a0c (pv 1)) (q_un a1V a0g) (λ_ _=>rfl)) (a0b (a0c (pv 2)) a0h a0a) a0d) a0d) a0a))))),?_⟩
 obtain⟨l,L,⟨t,w,b,e⟩,rfl,k,f,g,x,j,q⟩:=h;have m:=j.st.bef;have r:=j.v;cases w with
 | none=>
  unfold Tl.z;walk_at "go";refine ifD (λc=>absurd c b8X) λ_=>?_;walk_at "go";exact⟨l,L,b,e,.non,rfl,k,f,g.okR,g.one,by omega,m,rfl,q⟩
 | some w=>
  unfold Tl.z;walk_at "go";refine ifD (λ_=>?_) λc=>absurd rfl c;walk_at "go";exact⟨l,L,b,e,.str w,rfl,k,f,g.okR,g.one,by omega,m,a5A (by decide) r,q⟩
def a2o (a:Ad):P3:=λws G R=>∃ p dx,ws=[.ref p]/\G p=some (.ins a.c_Sheet dx [])/\∀ d G',G d=none->(∀ b o,G b=some o->b≠p->G' b=some o)->Sheet a.c_Sheet G' p (λx=>x=p\/x=d) []->R .non G'
theorem a31 {a:Ad}{ws:List Z}{G:Hq}{R:K3}(h:a2o a ws G R):ws.length=1:=by obtain⟨_,_,rfl,_⟩:=h;rfl
theorem a4s (F:Fns K a) (T:Txt K mg a):FnOk P w K mg base CX0 1 a.f35 a.d35 ["self"] (lowP K (a2o a)):=by
 refine fn3 F.n35 a4j (λm G R h=>(by exact a31 h)) (λu A l s H E m G R r h=>?_);have x:=a01 r;refine⟨_,(a0k (b8k T.cl_Sheet T.na_last (a0c (pv 0)) a0g)
  (a0n (b8k T.cl_Sheet T.na_kept (a0c (pv 0)) b4p))),?_⟩
 obtain⟨p,g,rfl,t,q⟩:=h;walk_at "go";refine⟨p,g,[],rfl,t,by decide,?_⟩;walk_at "go";intro d i;have c:=a0p a0e i;walk_at "go";refine⟨p,g,[(a8M,.int 0)],rfl,by rw[a0o c];exact a0e,by decide,?_⟩;rw[b6a];walk_at "go";have f:G d=none:=by rw[a0o (Ne.symm c)]at i;exact i
 refine q d _ f (λb o e j=>?_) ⟨g,d,[],⟨a0e,.inl rfl,.inr rfl,?_,by simp,λk _=>rfl,(λk z e=>by cases e),(λk v z e=>by cases e),?_,.nil,λq n=>by simp at n⟩⟩
 ·rw[a0o j,a0o (a0p e f),a0o j];exact e
 ·rw[a0o (Ne.symm c)];exact a0e
 ·rintro b (rfl | rfl)
  ·exact⟨_,a0e⟩
  ·exact⟨_,by rw[a0o (Ne.symm c)];exact a0e⟩
def a0X (a:Ad):PX3:=λws G R EE=>Ex4 λ(p:Addr) (S:Addr->Prop) (T:List Tl) (q:Int)=>ws=[.ref p,.int q]/\SheetV a.c_Sheet G p S T/\if 0≤q/\q≤T.length then R .non G else EE a.x_NoKnowing G
theorem a2L {a:Ad}{ws:List Z}{G:Hq}{R:K3}{EE:Addr->Hq->Prop}(h:a0X a ws G R EE):ws.length=2:=by obtain⟨_,_,_,_,rfl,_⟩:=h;rfl
theorem a1u (F:Fns K a) (T:Txt K mg a):FnOk P w K mg base (CXx P w) 2 a.f10 a.d10 ["self","knowing"] (a2C K (a0X a)):=by
 have b:FnOk P w K mg base (CXx P w) 1 a.f9 a.d9 ["knowing","last"] _:=a3D F T;refine fn3x F.n10 a2W (λl G R m h=>(by exact a2L h)) (λn A f s H E l G R m e h g=>?_);have r:=a01 e;refine⟨_,(a0n (a05 (a2D (a1A Outs.of) g.since b (e.mono (by decide)) rfl T.m9 F.n9.kp (a3y F) (a0b (a0c (pv 1)) (a0b (a8z T.cl_Sheet T.na_last (a0c (pv 0))) a0h a22) a0a)))),?_⟩;obtain⟨p,S,T',q,rfl,⟨j,d,o,i⟩,k⟩:=h;walk_at "go";refine⟨p,j,_,_,rfl,i.ob,a4q,?_⟩;walk_at "go";refine⟨q,_,rfl,?_⟩
 by_cases c:0≤q/\q≤T'.length
 ·omega
 ·omega
def a0T (a:Ad):P3:=λws G R=>Ex9 λ(p:Addr) (S:Addr->Prop) (T:List Tl) (k:Str) (q:Int) (n:Int) (dx d:Addr) (kvs:List (Key×Z))=>ws=[.ref p,.str k,.int q]/\ShV a.c_Sheet G p S T n dx d kvs/\0≤q/\q≤T.length/\T.length≤200 /\
 ∀ t L G',G t=none->Sm G G'->G' t=some (.lst (L.map Rw.z))->IsLine (T.take q.toNat) k L->R (.ref t) G'
theorem a3j {a:Ad}{ws:List Z}{G:Hq}{R:K3}(h:a0T a ws G R):ws.length=3:=by obtain⟨_,_,_,_,_,_,_,_,_,rfl,_⟩:=h;rfl
theorem a75 {q:Nat}(h:∀ i∈ix T k,(q:Int)<i):a0G (T.take q) k=[]:=by
 have:=a43 0 T 0 q (eI _) λi a=>by right;have:=h i a;simpa using this
 rw[this];rfl
theorem b6f (l:List Rw):l.filterMap (λr=>some r)=l:=by simp
theorem a1a (F:Fns K a) (T:Txt K mg a):FnOk P w K mg base CX0 1 a.f12 a.d12 ["self","key","knowing"] (lowP K (a0T a)):=by
 refine fn3 F.n12 sc_Sheet_known_line (λws G R h=>(by exact a3j h)) (λcdv A outer s H E ws G R hr h=>?_);have hu:=a01 hr;refine⟨_,(a0k (a2x (pt:=(.tp [3,4])) j9.never rfl (a8x rfl T.b_reversed (a0b (q_bm PySem.F.plainAttrs_dict PySem.F.slot_dict_get PySem.F.type_dict_get (b4y hu) (a8z T.cl_Sheet T.na_kept (a0c (pv 0))) (a0b (a0c (pv 1)) (a0b (a1d a0h) a0h a0W) a0a)) a0h a0F)) (show QP _ _ (.tp [3,4]) from (a3G rfl (a0y (a0m (i:=3) sc_Sheet_known_line.nd rfl (dL rfl)) (a0y (a0m (i:=4) sc_Sheet_known_line.nd rfl (dL rfl)) a2q))))
  (a0n (z_if (a0z o_le (a0c (pv 3)) (a0c (pv 2)) (a0u _))
  (a0n (a0H (q_lc (N₀:=["self","key","knowing","since","line"]) (so:=a0i a0Z) (N':=["begin","end","worth"]) (cap:=[none,none,none]) (pt:=(.tp [0,1,2])) rfl rfl rfl (by decide +kernel) rfl (a0O (a0c (pv 4))) (λ_ _ _ _=>(show QP _ _ (.tp [0,1,2]) from (a3G rfl (a0y (a0m (i:=0) b52 rfl (dL rfl)) (a0y (a0m (i:=1) b52 rfl (dL rfl)) (a0y (a0m (i:=2) b52 rfl (dL rfl)) a2q)))))) (λ_ _ _ _=>a2b) (λ_ _ _ _=>(a1L (a0b (a0c (pv 0)) (a0b (a0c (pv 1)) (a0b (a0c (pv 2)) a0h a0a) a0a) a0a))))))
  a06)))
  (a0n (a0H (a1d a0h)))),?_⟩
 obtain⟨p,S,T,k,q,n,dx,d,kvs,rfl,sh,h0,h1,hT,fin⟩:=h;obtain⟨q,rfl⟩:=fS h0;walk_at "go";refine⟨p,dx,_,_,rfl,sh.ob,a8N,?_⟩;refine c0j sh.dc ?_;walk_at "go";refine⟨lenK rfl,λt0 ht0=>?_⟩;walk_at "go";refine b5Q (sh.dc.imp (λe=>a0q e ht0) λe=>a0q e ht0) rfl ?_;have s0:Sm G (put G t0 (.lst [])):=Sm.new ht0;have none_:(∀ i∈ix T k,(q:Int)<i)->∀ (v1 v2:Option Z) (G1:Hq),Sm G G1->∀ t,G1 t=none->R (.ref t) (put G1 t (.lst [])):=λhi _ _ G1 s1 t ht=>
  fin t [] _ (s1.free ht) (s1.trans (Sm.new ht)) a0e (by
   have e:((q:Int)).toNat=q:=by omega
   rw[e];exact IsLine.nil (a75 hi))
 cases hv:valZ kvs (.inr k) with
 | none=>
  walk_at "go";refine⟨t0,[],rfl,a0e,?_⟩;refine a08 (λi σ G'=>∃ v1 v2:Option Z,σ=[some (.ref p),some (.str k),some (.int q),v1,v2]/\G'=put G t0 (.lst [])) ⟨_,_,rfl,rfl⟩ (λi σ G' _ ⟨_,_,_,e⟩=>by rw[e];exact a0e) ?_ ?_
  ·rintro i x σ G' hx _;simp at hx
  ·rintro σ G' ⟨v1,v2,rfl,rfl⟩;walk_at "go";refine⟨lenK rfl,λt ht=>?_⟩;exact none_ (λi hi=>by rw[sh.no k hv]at hi;simp at hi) v1 v2 _ s0 t ht
 | some z=>
  obtain⟨h,es,rfl,H⟩:=sh.hs k z hv;walk_at "go";refine⟨h,_,rfl,a0q H.at_ ht0,?_⟩;rw[<- List.map_reverse];refine a08 (λi σ G'=>∃ v1 v2:Option Z,(∀ (j:Nat) e,j<i->es.reverse[j]?=some e->(q:Int)<e.1)/\σ=[some (.ref p),some (.str k),some (.int q),v1,v2]/\G'=put G t0 (.lst [])) ⟨_,_,λj e hj=>by omega,rfl,rfl⟩ (λi σ G' _ ⟨_,_,_,_,e⟩=>by rw[e];exact a0q H.at_ ht0) ?_ ?_
  ·rintro i x σ G' hx ⟨v1,v2,hall,rfl,rfl⟩;rw[dQ]at hx;cases hx':es.reverse[i]? with
   | none=>rw[hx']at hx;cases hx
   | some e=>
   rw[hx']at hx;cases hx;obtain⟨s,l⟩:=e;have hmem:(s,l)∈es:=by have:=er hx';simpa using this
   have hix:s∈ix T k:=by rw[<- H.ix];exact ff (f:=(·.1)) hmem
   obtain⟨hs1,hs2⟩:=b8V hix;obtain⟨_,L,gl,il⟩:=H.ln _ hmem;refine⟨_,rfl,?_⟩;walk_at "go";refine ifD (λc=>?_) λc=>?_
   ·walk_at "go";refine a1W (a0q gl ht0) ?_;intro D hD;have hone:=il.pl.one;have hll:L.length≤1000:=by have:=il.len;rw[dY]at this;omega
    refine a8J (g':=Rw.z) (λr=>some r) (λys=>a0q (a0q gl ht0) hD) hll ?_ ?_
    ·intro r hr ys K1 K2 k1 k2;obtain⟨x,hx⟩:=hone r hr;obtain⟨b,e,w⟩:=r;cases hx;refine⟨_,rfl,?_⟩;walk_at "go";refine⟨lenK rfl,?_⟩;exact k1 ⟨b,e,[x]⟩ rfl
    ·rw[b6f];refine fin D L _ (s0.free hD) (s0.trans (Sm.new hD)) a0e ?_;have e1:((q:Int)).toNat=q:=by omega
     rw[e1];have il':IsLine (T.take s.toNat) k L:=il;refine il'.cut (by omega) λj hj=>?_;rw[<- H.ix]at hj;obtain⟨e2,he2,rfl⟩:=eq.mp hj
     by_cases c2:e2.1≤s
     ·left;omega
     ·right
      have he3:e2∈es.reverse:=by simpa using he2
      obtain⟨m,hm⟩:=fJ he3
      by_cases hmi:m<i
      ·exact hall m e2 hmi hm
      ·exfalso;have hst:(ix T k).Pairwise (·<·):=b2t T k
       rw[<- H.ix]at hst;have hst2:es.reverse.Pairwise (λx y=>y.1<x.1):=by
        rw[List.pairwise_reverse];exact fD.mp hst
       by_cases hmi2:m=i
       ·subst hmi2;rw[hx']at hm;cases hm;omega
       ·obtain⟨l1,e5⟩:=dX.mp hx';obtain⟨l2,e6⟩:=dX.mp hm
        have:=gJ.mp hst2 i m l1 l2 (by omega)
        rw[e5,e6]at this;simp only at this;omega
   ·walk_at "go";refine⟨_,_,λj e hj he=>?_,rfl,rfl⟩
    by_cases hji:j<i
    ·exact hall j e hji he
    ·have:j=i:=by omega
     subst this;rw[hx']at he;cases he;simp only;omega
  ·rintro σ G' ⟨v1,v2,hall,rfl,rfl⟩;walk_at "go";refine⟨lenK rfl,λt ht=>?_⟩;refine none_ (λj hj=>?_) v1 v2 _ s0 t ht;rw[<- H.ix]at hj;obtain⟨e2,he2,rfl⟩:=eq.mp hj;have he3:e2∈es.reverse:=by simpa using he2
   obtain⟨m,hm⟩:=fJ he3;exact hall m e2 (by rw[dJ];exact (dX.mp hm).1) hm
theorem a2M:valZ (putZ kvs k v) j=if j=k then some v else valZ kvs j:=by
 unfold putZ
 split
 ·next hc=>
  have m:∀ kvs:List (Key×Z),valZ (kvs.map λkv=>if kv.1=k then (kv.1,v) else kv) j=(valZ kvs j).map λx=>if j=k then v else x:=by
   intro kvs
   induction kvs with
   | nil=>rfl
   | cons p r ih=>
    unfold valZ at ih ⊢;rw[eu,fi,fi];have h:(if p.1=k then (p.1,v) else p).1=p.1:=by split<;>rfl
    rw[h];cases c:decide (p.1=j) with
    | false=>exact ih
    | true=>
     have d:=of_decide_eq_true c;simp
     by_cases ck:p.1=k
     ·simp_all
     ·simp_all
  rw[m]
  by_cases c:j=k
  ·subst c;obtain⟨p,f,g⟩:=gO.mp hc
   have:(kvs.find? λkv=>decide (kv.1=j)).isSome=true:=jE.mpr ⟨p,f,g⟩
   unfold valZ;cases e:kvs.find? λkv=>decide (kv.1=j) with
   | none=>rw[e]at this;cases this
   | some q=>simp
  ·simp_all
 ·next hc=>
  unfold valZ;rw[jx]
  by_cases c:j=k
  ·subst c
   have:kvs.find? (λkv=>decide (kv.1=j))=none:=by
    rw[iU];intro p i l;exact hc (gO.mpr ⟨p,i,l⟩)
   rw[this];simp
  ·rw[if_neg c]
   have:[(k,v)].find? (λkv=>decide (kv.1=j))=none:=by simp;exact λz=>c z.symm
   rw[this,Option.or_none]
theorem b3U {kvs:List (Key×Z)}{k:Key}{v:Z}:(putZ kvs k v).length≤kvs.length+1:=by
 unfold putZ
 split<;>simp
theorem Hist.ne_row {L:List Rw}(H:Hist G S T k h es) (e:G x=some (.lst (L.map Rw.z))):x≠h:=λz=>by
 subst z
 have:=e.symm.trans H.at_
 have b:L.map Rw.z=es.map enZ:=by simp_all
 cases es with
 | nil=>exact H.ne rfl
 | cons a es=>
  cases L with
  | nil=>simp at b
  | cons r L=>
   have c:=(fN.inj b).1;simp only[Rw.z,Z.tup.injEq,fN.injEq]at c;obtain⟨i,d,g⟩:=r;have f:=c.2.1;cases d<;>cases f
theorem a76 (h:valZ kvs k=none):∀ q∈kvs,q.1≠k:=λq b e=>by
 unfold valZ at h
 have:(kvs.find? λa=>decide (a.1=k)).isSome=true:=jE.mpr ⟨q,b,decide_eq_true e⟩
 cases e2:kvs.find? λa=>decide (a.1=k) with
 | none=>rw[e2]at this;cases this
 | some x=>rw[e2]at h;cases h
theorem a8O (h:valZ kvs k=none):putZ kvs k v=kvs++[(k,v)]:=by
 unfold putZ;rw[if_neg λz=>?_];obtain⟨q,a,b⟩:=gO.mp z;exact a76 h q a (of_decide_eq_true b)
theorem b8Y (h:valZ kvs k=none) (nd:(kvs.map (·.1)).Nodup):((putZ kvs k v).map (·.1)).Nodup:=by
 rw[a8O h,dS,gq];refine⟨nd,by simp,λx a y c=>?_⟩;obtain⟨q,b,rfl⟩:=eq.mp a
 have:y=k:=by simpa using c
 rw[this];exact a76 h q b
theorem b8Z (sk:∀ q∈kvs,∃ s,q.1=Sum.inr s):∀ q∈putZ kvs (.inr k) v,∃ s,q.1=Sum.inr s:=λq a=>by
 unfold putZ at a
 split at a
 ·obtain⟨d,c,e⟩:=eq.mp a;obtain⟨s,b⟩:=sk d c;refine⟨s,?_⟩;rw[<- e]
  split
  ·omega
  ·omega
 ·rcases dN.mp a with a | a
  ·exact sk q a
  ·exact⟨k,by rw[dP.mp a]⟩
def a1q (a:Ad):P3:=λws G R=>Ex9 λ(p:Addr) (S:Addr->Prop) (T:List Tl) (τ:Tl) (l:Addr) (L:List Rw) (dx d:Addr) (kvs:List (Key×Z))=>ws=[.ref p,.str τ.key,.ref l]/\ShM a.c_Sheet G p S T ((T.length:Int)+1) dx d kvs/\G l=some (.lst (L.map Rw.z))/\¬ S l/\IsLine (T++[τ]) τ.key L/\T.length≤200 /\
 ∀ (S':Addr->Prop) G',(∀ b,S b->S' b)->(∀ b,S' b->S b\/b=l\/G b=none)->KN S G G'->Sheet a.c_Sheet G' p S' (T++[τ])->R .non G'
theorem a3E {a:Ad}{ws:List Z}{G:Hq}{R:K3}(h:a1q a ws G R):ws.length=3:=by obtain⟨_,_,_,_,_,_,_,_,_,rfl,_⟩:=h;rfl
theorem a6Z (h:s∈ix T k):(T++[τ]).take s.toNat=T.take s.toNat:=by
 have:=b8V h
 rw[iu (by omega)]
theorem a9H:(T++[τ]).take ((T.length:Int)+1).toNat=T++[τ]:=by
 rw[fv];rw[dO,i8];omega
theorem a32 (F:Fns K a) (T:Txt K mg a):FnOk P w K mg base CX0 1 a.f36 a.d36 ["self","key","line"] (lowP K (a1q a)):=by
 refine fn3 F.n36 a3R (λws G R h=>(by exact a3E h)) (λcdv A outer s H E ws G R hr h=>?_);have hu:=a01 hr;refine⟨_,(a0n (a05 (q_bm PySem.F.plainAttrs_list PySem.F.slot_list_append PySem.F.type_list_append a1j (q_bm PySem.F.plainAttrs_dict PySem.F.slot_dict_setdefault PySem.F.type_dict_setdefault a4A (a8z T.cl_Sheet T.na_kept (a0c (pv 0))) (a0b (a0c (pv 1)) (a0b (a1d a0h) a0h a0W) a0a)) (a0b (a1L (a0b (a8z T.cl_Sheet T.na_last (a0c (pv 0))) (a0b (a0c (pv 2)) a0h a0a) a22)) a0h a1h)))),?_⟩;obtain⟨p,S,T,τ,l,L,M,d,B,rfl,g,I,nl,il,hT,q⟩:=h;walk_at "go";refine⟨p,M,_,_,rfl,g.ob,a8N,?_⟩;refine b5R g.dc ?_;walk_at "go";refine⟨lenK rfl,λn m=>?_⟩;walk_at "go";have Y:p≠d:=λz=>by have e:=g.ob;rw[z,g.dc]at e;cases e
 have N:((T++[τ]).length:Int)=(T.length:Int)+1:=by simp
 refine b4z (a0q g.dc m) rfl (a0r (by have:=g.len;omega)) (λz D=>?_) λD=>?_
 ·obtain⟨h,es,rfl,H⟩:=g.hs _ z D;have hpe:p≠h:=λz=>by have e:=g.ob;rw[z,H.at_]at e;cases e
  have hde:d≠h:=λz=>by have e:=g.dc;rw[z,H.at_]at e;cases e
  have hle:l≠h:=λz=>nl (z▸H.s);refine a2l (a0q H.at_ m) ?_;walk_at "go";refine⟨p,M,_,_,rfl,a0q g.ob m,a4q,?_⟩;walk_at "go";refine⟨lenK rfl,?_⟩;walk_at "go";have hel:es.length≤T.length:=by
   have e1:=congrArg eF H.ix;rw[dJ]at e1;rw[e1];exact b8W T τ.key
  refine a0Y (a0q H.at_ m) (by rw[dJ];exact a0r (by omega)) ?_;have i:∀ b o,b≠h->G b=some o->put (put G n (.lst [])) h (.lst (es.map enZ++[.tup [.int ((T.length:Int)+1),.ref l]])) b=some o:=λb o C e=>by rw[a0o C];exact a0q e m
  refine q (λb=>S b\/b=l) _ (λb j=>.inl j) (λb j=>j.elim .inl λz=>.inr (.inl z)) (λb o C e=>i b o (λz=>C (z▸H.s)) e) ⟨M,d,B,?_⟩;refine⟨by rw[N];exact i _ _ hpe g.ob,.inl g.sp,.inl g.sd,i _ _ hde g.dc,by have:=g.len;simp;omega,λk x=>?_,λk z e=>?_,g.inj,(λb j=>?_),g.nd,g.sk⟩
  ·rw[a4p,g.no k x,if_neg]
   ·rfl
   ·rintro rfl;rw[D]at x;cases x
  ·by_cases U:k=τ.key
   ·subst U;rw[D]at e;cases e;refine⟨h,es++[((T.length:Int)+1,l)],rfl,.inl H.s,by rw[a0e,dS];rfl,by rw[dS,H.ix,a4p,if_pos rfl];rfl,by simp,λe r=>?_⟩;rcases dN.mp r with r | r
    ·obtain⟨V,L1,u,Q⟩:=H.ln e r;refine⟨.inl V,L1,i _ _ (H.ne_row u) u,?_⟩;rw[a6Z (by rw[<- H.ix];exact ff r)];exact Q
    ·rw[dP.mp r];refine⟨.inr rfl,L,i _ _ hle I,?_⟩;rw[a9H];exact il
   ·obtain⟨t,v,y,H'⟩:=g.hs k z e;have hh:t≠h:=λw=>U (g.inj k τ.key z e (by rw[D,y,w]));refine⟨t,v,y,.inl H'.s,i _ _ hh H'.at_,by rw[H'.ix,a4p,if_neg (Ne.symm U),eO],H'.ne,λe r=>?_⟩;obtain⟨V,L1,u,Q⟩:=H'.ln e r;refine⟨.inl V,L1,i _ _ (H.ne_row u) u,?_⟩;rw[a6Z (by rw[<- H'.ix];exact ff r)];exact Q
  ·by_cases c:b=h
   ·rw[c];exact⟨_,a0e⟩
   ·rcases j with j | j
    ·obtain⟨o,e⟩:=g.al b j;exact⟨o,i b o c e⟩
    ·rw[j]at c ⊢;exact⟨_,i l _ c I⟩
 ·have X:d≠n:=a0p g.dc m;have hpt:p≠n:=a0p g.ob m;have hlt:l≠n:=a0p I m;have aa:put (put G n (.lst [])) d (.dK (putZ B (.inr τ.key) (.ref n))) n=some (.lst []):=by rw[a0o (Ne.symm X)];exact a0e
  refine a2l aa ?_;walk_at "go";refine⟨p,M,_,_,rfl,by rw[a0o Y];exact a0q g.ob m,a4q,?_⟩;walk_at "go";refine⟨lenK rfl,?_⟩;walk_at "go";refine a0Y aa (a0r (by decide)) ?_;have i:∀ b o,b≠d->G b=some o->put (put (put G n (.lst [])) d (.dK (putZ B (.inr τ.key) (.ref n)))) n (.lst ([]++[.tup [.int ((T.length:Int)+1),.ref l]])) b=some o:=λb o C e=>by
   rw[a0o (a0p e m),a0o C];exact a0q e m
  have nS:∀ t,S t->∀ o,G t=some o->t≠n:=λt _ o e=>a0p e m;refine q (λb=>S b\/b=l\/b=n) _ (λb j=>.inl j) (λb j=>j.elim .inl λz=>z.elim (λz=>.inr (.inl z)) λz=>.inr (.inr (by rw[z];exact m))) (λb o C e=>i b o (λz=>C (z▸g.sd)) e) ⟨M,d,putZ B (.inr τ.key) (.ref n),?_⟩;refine⟨by rw[N];exact i _ _ Y g.ob,.inl g.sp,.inl g.sd,by rw[a0o X];exact a0e,by have h1:=g.len;have h2:=@b3U B (.inr τ.key) (.ref n);simp;omega,λk x=>?_,λk z e=>?_,λk k' z e J=>?_,(λb j=>?_),b8Y D g.nd,b8Z g.sk⟩
  ·rw[a2M]at x
   split at x
   ·cases x
   ·next c=>
    rw[a4p,g.no k x,if_neg λz=>c (by rw[z])]
    rfl
  ·rw[a2M]at e
   split at e
   ·next c=>
    cases e;have U:k=τ.key:=by simpa using c
    subst U;refine⟨n,[((T.length:Int)+1,l)],rfl,.inr (.inr rfl),by rw[a0e];rfl,by rw[a4p,g.no _ D,if_pos rfl];rfl,by simp,λe r=>?_⟩;rw[dP.mp r];refine⟨.inr (.inl rfl),L,i _ _ (λz=>by have z':l=d:=z;rw[z',g.dc]at I;cases I) I,?_⟩;rw[a9H];exact il
   ·next c=>
    obtain⟨t,v,y,H'⟩:=g.hs k z e;have hd':t≠d:=λw=>by have e:=H'.at_;rw[w,g.dc]at e;cases e
    refine⟨t,v,y,.inl H'.s,i _ _ hd' H'.at_,by rw[H'.ix,a4p,if_neg λz=>c (by rw[z]),eO],H'.ne,λe r=>?_⟩;obtain⟨V,L1,u,Q⟩:=H'.ln e r;refine⟨.inl V,L1,i _ _ (λw=>by rw[w,g.dc]at u;cases u) u,?_⟩;rw[a6Z (by rw[<- H'.ix];exact ff r)];exact Q
  ·rw[a2M]at e J
   split at e
   ·next c=>
    split at J
    ·next c'=>simpa using c.trans c'.symm
    ·cases e;obtain⟨t,v,y,H'⟩:=g.hs k' _ J;cases y;exact absurd rfl (nS _ H'.s _ H'.at_)
   ·split at J
    ·cases J;obtain⟨t,v,y,H'⟩:=g.hs k _ e;cases y;exact absurd rfl (nS _ H'.s _ H'.at_)
    ·exact g.inj k k' z e J
  ·by_cases c:b=n
   ·rw[c];exact⟨_,a0e⟩
   ·by_cases c2:b=d
    ·rw[c2];exact⟨_,by rw[a0o X];exact a0e⟩
    ·rcases j with j | j | j
     ·obtain⟨o,e⟩:=g.al b j;exact⟨o,i b o c2 e⟩
     ·rw[j]at c2 ⊢;exact⟨_,i l _ c2 I⟩
     ·exact absurd j c
def BadT (a:Ad) (G:Hq) (z:Z) (c:Addr):Prop:=Ex4 λ(h:Z) (nm:List Z) (x y:Z)=>Tel G z h nm x y/\((nm.all a3h=false/\c=a.x_NoName)\/(nm.all a3h=true/\strB x y=false/\c=a.x_NoStretch))
def a33 (a:Ad):PX3:=λws G R EE=>∃ (p:Addr) (S:Addr->Prop) (T:List Tl),Sheet a.c_Sheet G p S T/\((∃ τ:Tl,ws=[.ref p,τ.z]/\τ.Ok/\T.length≤150 /\
 ∀ (S':Addr->Prop) G',(∀ b,S b->S' b)->(∀ b,S' b->S b\/G b=none)->KN S G G'->Sheet a.c_Sheet G' p S' (T++[τ])->R (.int ((T.length:Int)+1)) G') \/
 ∃ (z:Z) (c:Addr),ws=[.ref p,z]/\BadT a G z c/\∀ G',Sm G G'->EE c G')
theorem a5O {a:Ad}{ws:List Z}{G:Hq}{R:K3}{EE:Addr->Hq->Prop}(h:a33 a ws G R EE):ws.length=2:=by obtain⟨_,_,_,_,⟨_,rfl,_⟩ | ⟨_,_,rfl,_⟩⟩:=h<;>rfl
theorem b4J {τ:Tl}:∃ ws,τ.z=.tup ws/\atI ws 1=some (.str τ.key):=by
 obtain⟨k,w,b,e⟩:=τ;cases w<;>exact⟨_,rfl,at1⟩
theorem b80:Th G (oz e):=by cases e<;>exact True.intro
theorem Tl.Ok.tel {τ:Tl}(ok:τ.Ok):∃ (h:Z) (nm:List Z),Tel G τ.z h nm (.int τ.b) (oz τ.e)/\nm.all a3h=true/\strB (.int τ.b) (oz τ.e)=true:=by
 obtain⟨k,w,b,e⟩:=τ;have d:=ok.k;have a:=ok.w;have f:=st_b ok.st;cases w with
 | none=>exact⟨_,[.str k],⟨rfl,.inl ⟨_,rfl⟩,λz c=>by rw[dP.mp c];exact b3T d,True.intro,b80⟩,by rw[eL,nm_b d];rfl,f⟩
 | some w=>
  have a:=a w rfl;refine⟨_,[.str k,.str w],⟨rfl,.inr ⟨_,_,rfl⟩,λz c=>?_,True.intro,b80⟩,by rw[eL,nm_b d,eL,nm_b a];rfl,f⟩;simp at c;rcases c with rfl | rfl
  ·exact b3T d
  ·exact b3T a
theorem a60 (F:Fns K a) (T:Txt K mg a):FnOk P w K mg base (CXx P w) 5 a.f37 a.d37 ["self","telling"] (a2C K (a33 a)):=by
 have l:FnOk P w K mg base (CXx P w) 4 a.f20 a.d20 ["telling"] (a2C K (a1p a)):=a30 F T;have n:FnOk P w K mg base CX0 4 a.f21 a.d21 ["line","telling"] (lowP K a1J):=a4P F T;have j:FnOk P w K mg base CX0 1 a.f36 a.d36 ["self","key","line"] (lowP K (a1q a)):=a32 F T;have g:FnOk P w K mg base CX0 1 a.f12 a.d12 ["self","key","knowing"] (lowP K (a0T a)):=a1a F T;refine fn3x F.n37 sc_Sheet_tell (λws G R EE h=>(by exact a5O h)) (λcdv A outer s H E ws G R EE Q h ux=>?_);have hu:=a01 Q;refine⟨_,(a0k (a05 (a2D (a1A Outs.of) ux.since l (Q.mono (by decide)) rfl T.m20 F.n20.kp (a3U F) (a0b (a0c (pv 1)) a0h a0a) (he:=a0a) (hpl:=a0l)))
  (a0k (z_set (i:=2) sc_Sheet_tell.nd rfl (dL rfl) (q_ix x_ix (a0c (pv 1)) a0g (λ_ _=>rfl)))
  (a0k (z_set (i:=3) sc_Sheet_tell.nd rfl (dL rfl) (a0s n (Q.mono (by decide)) rfl T.m21 F.n21.kp (a4N F) (a0b (a9r (a0c (pv 0)) T.cl_Sheet T.mt12 g (Q.mono (by decide)) (a09 F) (a0b (a0c (pv 2)) (a0b (a8z T.cl_Sheet T.na_last (a0c (pv 0))) a0h a22) a0a) (hst:=a0a)) (a0b (a0c (pv 1)) a0h a0a) a0F) (he:=a0F)))
  (a0k (b3C T.cl_Sheet T.na_last (a0c (pv 0)) a0g b7z)
  (a0k (a05 (a9r (a0c (pv 0)) T.cl_Sheet T.mt36 j (Q.mono (by decide)) (a3V F) (a0b (a0c (pv 2)) (a0b (a0c (pv 3)) a0h a0a) a0a) (hst:=a0a)))
  (a0n (a0H (a8z T.cl_Sheet T.na_last (a0c (pv 0)))))))))),?_⟩
 obtain⟨p,S,T,⟨m,d,M,V⟩,⟨τ,rfl,ok,hT,q⟩ | ⟨z,c,rfl,⟨h,nm,x,y,I,D⟩,q⟩⟩:=h
 rotate_left
 ·walk_at "go";refine⟨z,h,nm,x,y,rfl,I,λG1 B=>?_⟩;have q':=q G1 B;rcases D with ⟨e1,rfl⟩ | ⟨e1,e2,rfl⟩
  ·rw[e1];exact ifF q'
  ·rw[e1,e2];exact ifT (ifF q')
 walk_at "go";obtain⟨th,tn,I,ta,ts⟩:=ok.tel (G:=G);refine⟨_,_,_,_,_,rfl,I,λG1 B=>?_⟩;rw[ta,ts];refine ifT (ifT ?_);have C:=V.keep (Sm.ks B);obtain⟨ws,X,ek⟩:=@b4J τ;walk_at "go";rw[X];refine a2V ek ?_;rw[<- X];walk_at "go";refine⟨p,m,_,rfl,C.ob,a5N (by decide +kernel) (by decide +kernel),?_⟩;walk_at "go";refine⟨p,m,_,_,rfl,C.ob,a4q,?_⟩;walk_at "go";refine⟨p,S,T,τ.key,_,_,m,d,M,rfl,C.v,by omega,by omega,by omega,λt L G2 ht s2 gt J=>?_⟩;rw[show ((T.length:Int)).toNat=T.length by omega,eE]at J;have sh2:=C.keep (Sm.ks s2);walk_at "go";have hll:=J.len;refine⟨t,L,τ,rfl,gt,J.can.rise,J.pl,by omega,ok,λu r hu s3 gu=>?_⟩;have f:=sh2.keep (Sm.ks s3);have ac:=(B.trans s2).trans s3;have Y:G u=none:=(B.trans s2).free hu;have nu:¬ S u:=λz=>by obtain⟨o,e⟩:=V.al u z;rw[Y]at e;cases e
 walk_at "go";refine⟨p,m,_,_,rfl,f.ob,a4q,?_⟩;walk_at "go";refine⟨m,_,f.ob,by show 2<1000;decide,?_⟩;rw[b6b];have hup:u≠p:=λz=>nu (z▸V.sp);have N:ShM a.c_Sheet (put r p (.ins a.c_Sheet m (shF ((T.length:Int)+1) d))) p S T ((T.length:Int)+1) m d M:=by
  have U:∀ b o,b≠p->r b=some o->put r p (.ins a.c_Sheet m (shF ((T.length:Int)+1) d)) b=some o:=λb o nb e=>by rw[a0o nb];exact e
  refine⟨a0e,f.sp,f.sd,U _ _ (λz=>by have e:=f.dc;rw[z,f.ob]at e;cases e) f.dc,f.len,f.no,λk z e=>?_,f.inj,(λb D=>?_),f.nd,f.sk⟩
  ·obtain⟨h,es,X,H⟩:=f.hs k z e;refine⟨h,es,X,H.s,U _ _ (λz=>by have e:=H.at_;rw[z,f.ob]at e;cases e) H.at_,H.ix,H.ne,λe he=>?_⟩;obtain⟨B,L1,g1,i1⟩:=H.ln e he;exact⟨B,L1,U _ _ (λz=>by rw[z,f.ob]at g1;cases g1) g1,i1⟩
  ·by_cases c:b=p
   ·rw[c];exact⟨_,a0e⟩
   ·obtain⟨o,e⟩:=f.al b D;exact⟨o,U b o c e⟩
 have ab:put r p (.ins a.c_Sheet m (shF ((T.length:Int)+1) d)) u=some (.lst ((a7Z L τ.b τ.e (optW τ.v)).map Rw.z)):=by rw[a0o hup];exact gu
 have ad:KN S G (put r p (.ins a.c_Sheet m (shF ((T.length:Int)+1) d))):=λb o nb e=>by rw[a0o (show b≠p from λz=>nb (by rw[z];exact V.sp))];exact ac _ _ e
 have aa:∀ b,put r p (.ins a.c_Sheet m (shF ((T.length:Int)+1) d)) b=none->G b=none:=λb e=>by
  by_cases c:b=p
  ·rw[c,a0e]at e;cases e
  ·rw[a0o c]at e;exact ac.free e
 generalize put r p (.ins a.c_Sheet m (shF ((T.length:Int)+1) d))=G4 at N ab ad aa ⊢;walk_at "go";refine⟨p,m,_,rfl,N.ob,a5N (by decide +kernel) (by decide +kernel),?_⟩;walk_at "go";refine⟨p,S,T,τ,u,_,m,d,M,rfl,N,ab,nu,J.snoc ok,by omega,λS' G5 i1 i2 kn5 ae=>?_⟩;have sh5':=ae;obtain⟨dx5,d5,kvs5,m5⟩:=sh5';walk_at "go";refine⟨p,dx5,_,_,rfl,m5.ob,a4q,?_⟩;have e:(((T++[τ]).length:Nat):Int)=(T.length:Int)+1:=by simp
 rw[e];refine q S' G5 i1 (λb D=>?_) (ad.trans kn5) ae;rcases i2 b D with h | h | h
 ·exact .inl h
 ·rw[h];exact .inr Y
 ·exact .inr (aa b h)
theorem a0I (a b:Str):(a++b).cps.toList=a.cps.toList++b.cps.toList:=by
 show (a.cps++b.cps).toList=_
 rw[Array.toList_append]
theorem c0F {p:Nat}(h:p≤s.cps.toList.length):(Txt.slice s none (some (p:Int))).cps.toList=s.cps.toList.take p:=by
 have:=eq_of_beq (PyProof.Rows.slice_closes_to (x:=s) (j:=p) ⟨by omega,by omega⟩)
 rw[this];simp
theorem b6g {p:Nat}(h:p≤s.cps.toList.length):(Txt.slice s (some (p:Int)) none).cps.toList=s.cps.toList.drop p:=by
 have:=PyProof.Rows.slice_from_eq (x:=s) (i:=p) (by simp) (by rw[a3A];omega) rfl
 rw[this,a3A,fv (by simp)];simp
theorem b3V (h:nmOk s):s.length≤sizeLine:=a17 (by rw[a3A];have:=h.2.1;omega)
theorem a4t:(10:Int) ^ (12:Int).toNat=1000000000000:=by decide
theorem b9f:(Str.ofString "abcdefghijklmnopqrstuvwxyz").cps.toList=[97,98,99,100,101,102,103,104,105,106,107,108,109,110,111,112,113,114,115,116,117,118,119,120,121,122]:=by decide +kernel
theorem a9I (h0:0≤k) (h1:k<26):atI (Str.ofString "abcdefghijklmnopqrstuvwxyz").cps.toList k=some (97+k.toNat):=by
 obtain⟨j,rfl⟩:=fS h0;have a:j<26:=by omega
 refine a1e ?_
 have:∀ j:Fin 26,([97,98,99,100,101,102,103,104,105,106,107,108,109,110,111,112,113,114,115,116,117,118,119,120,121,122])[j.1]?=some (97+j.1):=by decide
 exact this ⟨j,a⟩
theorem c0G:∀ cs:List Nat,(Txt.join (Str.ofString "") (cs.map λc=>(⟨#[c]⟩:Str))).cps.toList=cs:=by
 intro a;rw[show Txt.join _ _=Str.join _ _ from StrLaws.glued_eq_join _ _,show Str.ofString ""=Str.empty by decide +kernel]
 induction a with
 | nil=>rfl
 | cons c a ih=>
  cases a with
  | nil=>rfl
  | cons d a=>
   show (_++Str.empty++Str.join Str.empty _).cps.toList=_
   rw[a0I,a0I,ih]
   rfl
theorem b0v (cs:List Nat) (h:cs.length≤100):((cs.map λc=>(⟨#[c]⟩:Str)).map (·.length)).sum+(cs.map λc=>(⟨#[c]⟩:Str)).length*(Str.ofString "").length≤16777216:=by
 have e:((cs.map λc=>(⟨#[c]⟩:Str)).map (·.length)).sum=cs.length:=by
  clear h
  induction cs with
  | nil=>rfl
  | cons c cs ih=>
   rw[eu,eu,List.sum_cons,ih,ej]
   show 1+cs.length=_
   omega
 rw[e,show Str.ofString ""=Str.empty by decide +kernel,show Str.empty.length=0 from rfl];omega
def a6h:P3:=λws G R=>∃ c k:Int,ws=[.int c,.int k]/\0≤k/\k≤1000/\∀ r:Int,0≤r->r<1000000007->R (.int r) G
theorem a8P (h:a6h ws G R):ws.length=2:=by obtain⟨_,_,rfl,_⟩:=h;rfl
theorem mM (x:Int):0≤x % 1073676287/\x % 1073676287<1073676287:=⟨eS _ (by decide),eW _ (by decide)⟩
theorem mP (x:Int):0≤x % 1000000007/\x % 1000000007<1000000007:=⟨eS _ (by decide),eW _ (by decide)⟩
theorem a3f (F:Fns K a) (T:Txt K mg a):FnOk P w K mg base CX0 1 a.f23 a.d23 ["cell","k"] (lowP K a6h):=by
 refine fn3 F.n23 sc_tumbled (λg G R h=>(by exact a8P h)) (λj A b s H E g G R e h=>?_);have n:=a01 e;refine⟨_,(a0k (z_set (i:=2) sc_tumbled.nd rfl (dL rfl) (q_op a00 (q_op a0S (q_op a00 (a0c (pv 0)) a0g) (q_op a96 a0g (q_op a0S (a0c (pv 1)) a0g))) a0g))
  (a0k (z_set (i:=2) sc_tumbled.nd rfl (dL rfl) (q_op a0S (q_op a00 (q_op a96 (a0c (pv 2)) (a0c (pv 2))) a0g) (q_op a96 a0g (a0c (pv 1)))))
  (a0n (a0H (q_op a00 (q_op a96 (a0c (pv 2)) (q_op a0S (a0c (pv 2)) a0g)) a0g))))),?_⟩
 obtain⟨c,k,rfl,m,l,q⟩:=h;walk_at "go";refine i_I (show (0:Int)<1073676287 by decide) ?_;walk_at "go";refine i_I (.inr ⟨by omega,by omega⟩) ?_;walk_at "go";refine i_I (show (0:Int)<1073676287 by decide) ?_;walk_at "go";have d:=mM (c % 1073676287+39916801*(k+1));generalize (c % 1073676287+39916801*(k+1)) % 1073676287=u at d ⊢;refine i_I (.inl ⟨by omega,by omega⟩) ?_;walk_at "go";refine i_I (show (0:Int)<1073676287 by decide) ?_;walk_at "go";have f:=mM (u*u);generalize u*u % 1073676287=v at f ⊢;refine i_I (.inr ⟨by omega,by omega⟩) ?_;walk_at "go";refine i_I (.inl ⟨by omega,by omega⟩) ?_;walk_at "go";refine i_I (show (0:Int)<1000000007 by decide) ?_;exact q _ (mP _).1 (mP _).2
theorem b3W (h:isL c):b0g (Str.ofString "abcdefghijklmnopqrstuvwxyz") ⟨#[c]⟩=(c:Int) - 97:=by
 have:∀ j:Fin 26,b0g (Str.ofString "abcdefghijklmnopqrstuvwxyz") ⟨#[97+j.1]⟩=(j.1:Int):=by decide +kernel
 obtain⟨b,d⟩:=h;have e:=this ⟨c - 97,by omega⟩;have a:97+(c - 97)=c:=by omega
 simp only[a]at e;rw[e];omega
theorem a77:∀ {l:List Nat}{a b:Nat},l++[a]=b::l->a=b
 | [],a,b,h=>by simpa using h
 | x::l,a,b,h=>by
  injection h with h1 h2
  rw[a77 h2,h1]
def a9J:P3:=λws G R=>∃ c:Int,ws=[.int c]/\∀ (t:Addr) (ns:List Str) (G':Hq),G t=none->Sm G G'->G' t=some (.lst (ns.map Z.str))->ns.length=4->(∀ s∈ns,nmOk s)->ns.Nodup->R (.ref t) G'
theorem b2v (h:a9J ws G R):ws.length=1:=by obtain⟨_,rfl,_⟩:=h;rfl
theorem b3X (F:Fns K a) (T:Txt K mg a):FnOk P w K mg base CX0 2 a.f24 a.d24 ["cell"] (lowP K a9J):=by
 have G_tumbled:=a3f (P:=P) (w:=w) (base:=base) F T;refine fn3 F.n24 sc_words (λws G R h=>(by exact b2v h)) (λcdv A outer s H E ws G R hr h=>?_);have hu:=a01 hr;refine⟨_,(a0k (z_set (i:=1) sc_words.nd rfl (fH rfl) a4d)
  (a0k (z_set (i:=2) sc_words.nd rfl (dL rfl) (q_bm PySem.F.plainAttrs_str PySem.F.slot_str_join PySem.F.type_str_join b7H a4d (a0b (q_lc (N₀:=["cell","letters","word","at","first","last","moved"]) (so:=a0i a6J) (N':=["k","letters","cell"]) (cap:=[none,some 1,some 0]) (pt:=(.nm 0)) rfl rfl rfl (by decide +kernel) rfl (a2k rfl T.b_range (a0b (q_op a0S a0g (q_op a00 (a0s G_tumbled (hr.mono (by decide)) rfl T.m23 F.n23.kp (a0x F) (a0b (a0c (pv 0)) (a0b a0g a0h a0f) a0a) (he:=a0a) (hpl:=(a0j a0f a0l))) a0g)) a0h a0t)) (λ_ _ _ _=>(show QP _ _ (.nm 0) from (a0m (i:=0) c0u rfl (dL rfl)))) (λ_ _ _ _=>a2b) (λ_ _ _ _=>(q_ix x_ix (a0c (pv 1)) (q_op a00 (a0s G_tumbled (hr.mono (by decide)) rfl T.m23 F.n23.kp (a0x F) (a0b (a0c (pv 2)) (a0b (a0c (pv 0)) a0h a0a) a0a) (he:=a0a) (hpl:=(a0j a0a a0l))) a0g) (λ_ _=>rfl)))) a0h a0R)))
  (a0k (z_set (i:=3) sc_words.nd rfl (dL rfl) (q_op a00 (a0s G_tumbled (hr.mono (by decide)) rfl T.m23 F.n23.kp (a0x F) (a0b (a0c (pv 0)) (a0b a0g a0h a0f) a0a) (he:=a0a) (hpl:=(a0j a0f a0l))) (a0C b_len rfl T.b_len PySem.boot_len (a0b (a0c (pv 2)) a0h a0a) (he:=a0a) (hpl:=a0l))))
  (a0k (z_set (i:=4) sc_words.nd rfl (dL rfl) (q_op a00 (a0s G_tumbled (hr.mono (by decide)) rfl T.m23 F.n23.kp (a0x F) (a0b (a0c (pv 0)) (a0b a0g a0h a0f) a0a) (he:=a0a) (hpl:=(a0j a0f a0l))) a0g))
  (a0k (z_set (i:=5) sc_words.nd rfl (dL rfl) (q_ix x_ix (a0c (pv 1)) (q_op a00 (q_op a0S (q_op a0S (a0c (pv 4)) a0g) (q_op a00 (a0s G_tumbled (hr.mono (by decide)) rfl T.m23 F.n23.kp (a0x F) (a0b (a0c (pv 0)) (a0b a0g a0h a0f) a0a) (he:=a0a) (hpl:=(a0j a0f a0l))) a0g)) a0g) (λ_ _=>rfl)))
  (a0k (z_set (i:=6) sc_words.nd rfl (dL rfl) (q_ix x_ix (a0c (pv 1)) (q_op a00 (q_op a0S (q_op a0S (q_bm PySem.F.plainAttrs_str PySem.F.slot_str_find PySem.F.type_str_find b8h (a0c (pv 1)) (a0b (q_ix x_ix (a0c (pv 2)) (a0c (pv 3)) (λ_ _=>rfl)) a0h a0d)) a0g) (q_op a00 (a0s G_tumbled (hr.mono (by decide)) rfl T.m23 F.n23.kp (a0x F) (a0b (a0c (pv 0)) (a0b a0g a0h a0f) a0a) (he:=a0a) (hpl:=(a0j a0f a0l))) a0g)) a0g) (λ_ _=>rfl)))
  (a0n (a0H (a1d (a0b (a0c (pv 2)) (a0b (q_op a0S (a0c (pv 2)) (a0c (pv 5))) (a0b (q_op a0S (q_ix x_ix (a0c (pv 1)) (a0c (pv 4)) (λ_ _=>rfl)) (a0c (pv 2))) (a0b (q_op a0S (q_op a0S (a1P x_sl (a0c (pv 2)) a1K (a2j (a0c (pv 3)))) (a0c (pv 6))) (a1P x_sl (a0c (pv 2)) (a2j (q_op a0S (a0c (pv 3)) a0g)) a1K)) a0h a0t) a0t) a0t) a0a)))))))))),?_⟩
 obtain⟨c,rfl,q⟩:=h;walk_at "go";refine⟨c,7,rfl,by decide,by decide,λr r0 r1=>?_⟩;walk_at "go";refine i_I (show (0:Int)<7 by decide) ?_;walk_at "go";have hn:1≤1+r % 7/\1+r % 7≤7:=by omega
 generalize 1+r % 7=n at hn ⊢;refine⟨by omega,by omega,?_⟩;intro D hD;refine a5d (λi ys G'=>∃ cs:List Nat,cs.length=i/\(∀ c∈cs,isL c)/\ys=cs.map (λc=>Z.str ⟨#[c]⟩)/\G'=put G D (.lst ys)) ⟨[],rfl,λc h=>by simp at h,rfl,rfl⟩ (by rintro _ _ _ _ _;exact True.intro) ?_ ?_
 ·rintro i x ys G' hx ⟨cs,hl,hc,rfl,rfl⟩;obtain⟨hi,rfl⟩:=a3r hx;refine⟨_,rfl,?_⟩;walk_at "go";refine⟨c,_,rfl,by omega,by omega,λf f0 f1=>?_⟩;walk_at "go";refine i_I (show (0:Int)<26 by decide) ?_;walk_at "go";refine b1G (lenK rfl) (a9I (by omega) (by omega)) ?_;refine⟨a0e,by rw[dJ];exact a0r (by omega),cs++[97+(f % 26).toNat],by simp[hl],λd hd=>?_,by rw[dS];rfl,by rw[a2u]⟩;rcases dN.mp hd with hd | hd
  ·exact hc d hd
  ·rw[dP.mp hd];unfold isL;omega
 ·rintro ys G' ⟨cs,hl,hc,rfl,rfl⟩;rw[a1v]at hl;walk_at "go";refine b70 (ys:=cs.map λc=>(⟨#[c]⟩:Str)) (by rw[a0e,fK];rfl) (b0v cs (by omega)) ?_;have el:=c0G cs;generalize Txt.join (Str.ofString "") (cs.map λc=>(⟨#[c]⟩:Str))=s at el ⊢;have ls:s.cps.toList.length=cs.length:=by rw[el]
  have ws:nmOk s:=⟨by omega,by omega,λd hd=>by rw[el]at hd;exact hc d hd⟩;have w7:s.cps.toList.length≤7:=by omega
  walk_at "go";refine⟨c,8,rfl,by decide,by decide,λf f0 f1=>?_⟩;walk_at "go";refine b1H (b3V ws) ?_;walk_at "go";refine i_I (show (0:Int)<(s.length:Int) by rw[a3A];omega) ?_;walk_at "go";have ha:0≤f % (s.length:Int)/\f % (s.length:Int)<(s.length:Int):=⟨eS _ (by rw[a3A];omega),eW _ (by rw[a3A];omega)⟩;generalize f % (s.length:Int)=at' at ha ⊢;obtain⟨p,rfl⟩:=fS ha.1;have hp:p<s.cps.toList.length:=by rw[<- a3A];omega
  refine⟨c,9,rfl,by decide,by decide,λf2 f20 f21=>?_⟩;walk_at "go";refine i_I (show (0:Int)<26 by decide) ?_;walk_at "go";refine⟨c,10,rfl,by decide,by decide,λf3 f30 f31=>?_⟩;walk_at "go";refine i_I (show (0:Int)<25 by decide) ?_;walk_at "go";refine i_I (show (0:Int)<26 by decide) ?_;walk_at "go";refine b1G (lenK rfl) (a9I (by omega) (by omega)) ?_;walk_at "go";refine b1G (b3V ws) (a1e (en hp)) ?_;walk_at "go";have hfd:=b3W (ws.2.2 _ (fB hp));have lsp:=ws.2.2 _ (fB hp);generalize b0g (Str.ofString "abcdefghijklmnopqrstuvwxyz") ⟨#[s.cps.toList[p]]⟩=fd at hfd ⊢;refine⟨c,11,rfl,by decide,by decide,λf4 f40 f41=>?_⟩;walk_at "go";refine i_I (show (0:Int)<25 by decide) ?_;walk_at "go";refine i_I (show (0:Int)<26 by decide) ?_;walk_at "go";refine b1G (lenK rfl) (a9I (by omega) (by omega)) ?_;have one:∀ k:Nat,k<26->nmOk (⟨#[97+k]⟩:Str):=λk hk=>⟨by simp,by simp,λd hd=>by
   have:d=97+k:=by simpa using hd
   unfold isL;omega⟩
  have app:∀ {x y:Str},nmOk x->(∀ d∈y.cps.toList,isL d)->x.cps.toList.length+y.cps.toList.length≤8->nmOk (x++y):=λ{x y} hx hy hl=>⟨by rw[a0I,dO];have:=hx.1;omega,by rw[a0I,dO];exact hl,λd hd=>by
   rw[a0I]at hd;rcases dN.mp hd with hd | hd
   ·exact hx.2.2 d hd
   ·exact hy d hd⟩
  have k1:((f2 % 26+1+f3 % 25) % 26).toNat<26:=by omega
  have k2:(f2 % 26).toNat<26:=by omega
  have k3:((fd+1+f4 % 25) % 26).toNat<26:=by omega
  have o1:=one _ k1;have o2:=one _ k2;have o3:=one _ k3;have d3:97+((fd+1+f4 % 25) % 26).toNat≠s.cps.toList[p]:=by unfold isL at lsp;omega
  have d1:97+((f2 % 26+1+f3 % 25) % 26).toNat≠97+(f2 % 26).toNat:=by omega
  have lone:∀ k:Nat,(⟨#[k]⟩:Str).length=1:=λ_=>rfl;have ltwo:∀ k:Nat,(⟨#[k]⟩:Str).cps.toList.length=1:=λ_=>rfl;generalize 97+((fd+1+f4 % 25) % 26).toNat=m3 at o3 d3 ⊢;walk_at "go";generalize 97+((f2 % 26+1+f3 % 25) % 26).toNat=m1 at o1 d1 ⊢;refine a9c (a17 (by rw[a3A,lone];omega)) ?_;walk_at "go";refine b1G (lenK rfl) (a9I (by omega) (by omega)) ?_;generalize 97+(f2 % 26).toNat=m2 at o2 d1 ⊢;walk_at "go";refine a9c (a17 (by rw[a3A s,lone];omega)) ?_;walk_at "go";refine b7V (b3V ws) ?_;have e1:=c0F (s:=s) (p:=p) (by omega);have e2:=b6g (s:=s) (p:=p+1) (by omega);walk_at "go";refine a9c (a17 (by rw[a3A,e1,dY,lone];omega)) ?_;walk_at "go";refine b7V (b3V ws) ?_;rw[show ((p:Int)+1)=((p+1:Nat):Int) by omega];walk_at "go";refine a9c (a17 (by rw[a3A,a0I,dO,e1,a3A,e2,dY,eU,ltwo];omega)) ?_;walk_at "go";refine⟨lenK rfl,λt ht=>?_⟩;refine q t [s,s++⟨#[m1]⟩,(⟨#[m2]⟩:Str)++s,Txt.slice s none (some (p:Int))++⟨#[m3]⟩++Txt.slice s (some ((p+1:Nat):Int)) none] _ ((Sm.new hD).free ht) ((Sm.new hD).trans (Sm.new ht)) a0e rfl (λw hw=>?_) ?_
  rotate_left
  ·have ne:∀ {x y:Str},x.cps.toList≠y.cps.toList->x≠y:=λh z=>h (by rw[z]);have e3:(Txt.slice s none (some (p:Int))++⟨#[m3]⟩++Txt.slice s (some ((p+1:Nat):Int)) none).cps.toList=s.cps.toList.take p++[m3]++s.cps.toList.drop (p+1):=by rw[a0I,a0I,e1,e2]
   have l3:(s.cps.toList.take p++[m3]++s.cps.toList.drop (p+1)).length=s.cps.toList.length:=by rw[dO,dO,dY,eU];simp only[ej,jA];omega
   have n13:s.cps.toList++[m1]≠m2::s.cps.toList:=λz=>d1 (a77 z);have n3:s.cps.toList≠s.cps.toList.take p++[m3]++s.cps.toList.drop (p+1):=λz=>d3 (by
    have h1:s.cps.toList[p]?=some m3:=by
     have hm:(s.cps.toList.take p).length=p:=by rw[dY];omega
     have h2:(s.cps.toList.take p++[m3]++s.cps.toList.drop (p+1))[p]?=some m3:=by
      rw[eD,fW (by omega),hm,Nat.sub_self];rfl
     exact (congrArg (·[p]?) z).trans h2
    rw[en hp]at h1;injection h1 with h1
    exact h1.symm)
   refine eQ.mpr ⟨?_,eQ.mpr ⟨?_,eQ.mpr ⟨?_,eQ.mpr ⟨by simp,.nil⟩⟩⟩⟩
   ·simp only[dU,fu,or_false,not_or];refine⟨ne ?_,ne ?_,ne ?_⟩
    ·rw[a0I];exact λz=>absurd (congrArg eF z) (by rw[dO,ltwo];omega)
    ·rw[a0I];exact λz=>absurd (congrArg eF z) (by rw[dO,ltwo];omega)
    ·rw[e3];exact n3
   ·simp only[dU,fu,or_false,not_or];refine⟨ne ?_,ne ?_⟩
    ·rw[a0I,a0I];exact n13
    ·rw[a0I,e3];exact λz=>absurd (congrArg eF z) (by rw[l3,dO,ltwo];omega)
   ·simp only[dU,fu,or_false];refine ne ?_;rw[a0I,e3];exact λz=>absurd (congrArg eF z) (by rw[l3,dO,ltwo];omega)
  simp only[dU,fu,or_false]at hw;rcases hw with rfl | rfl | rfl | rfl
  ·exact ws
  ·exact app ws o1.2.2 (by rw[ltwo];omega)
  ·exact app o2 ws.2.2 (by rw[ltwo];omega)
  ·refine⟨by rw[a0I,a0I,dO,dO,ltwo];omega,by rw[a0I,a0I,dO,dO,ltwo,e1,e2,dY,eU];omega,λd hd=>?_⟩;rw[a0I,a0I,e1,e2]at hd;rcases dN.mp hd with hd | hd
   ·rcases dN.mp hd with hd | hd
    ·exact ws.2.2 d (fc hd)
    ·exact o3.2.2 d hd
   ·exact ws.2.2 d (im hd)
theorem a9K {ns:List Str}(h:∀ s∈ns,nmOk s) (h0:0≤k) (h1:k<(ns.length:Int)):∃ s,atI (ns.map Z.str) k=some (.str s)/\s∈ns/\nmOk s:=by
 obtain⟨j,rfl⟩:=fS h0;have a:j<ns.length:=by omega
 exact⟨ns[j],a1e (by simp_all),fB a,h _ (fB a)⟩
def a6i:P3:=λws G R=>∃ c:Int,ws=[.int c]/\∀ (b:Int) (e:Option Int) (G':Hq),Sm G G'->stOk b e->R (.tup [.int b,oz e]) G'
theorem a8Q (h:a6i ws G R):ws.length=1:=by obtain⟨_,rfl,_⟩:=h;rfl
theorem b0w (F:Fns K a) (T:Txt K mg a):FnOk P w K mg base CX0 2 a.f25 a.d25 ["cell"] (lowP K a6i):=by
 have G_tumbled:=a3f (P:=P) (w:=w) (base:=base) F T;refine fn3 F.n25 sc_stretch (λws G R h=>(by exact a8Q h)) (λcdv A outer s H E ws G R hr h=>?_);have hu:=a01 hr;refine⟨_,(a0k (z_set (i:=1) sc_stretch.nd rfl (dL rfl) (q_op a00 (a0s G_tumbled (hr.mono (by decide)) rfl T.m23 F.n23.kp (a0x F) (a0b (a0c (pv 0)) (a0b a0g a0h a0f) a0a) (he:=a0a) (hpl:=(a0j a0f a0l))) a0g))
  (a0k (z_set (i:=2) sc_stretch.nd rfl (dL rfl) (q_op a00 (a0s G_tumbled (hr.mono (by decide)) rfl T.m23 F.n23.kp (a0x F) (a0b (a0c (pv 0)) (a0b a0g a0h a0f) a0a) (he:=a0a) (hpl:=(a0j a0f a0l))) a0g))
  (a93 (z_if (a0z (o_eq hu) (a0c (pv 1)) a0g (a0u _))
  (a0n (z_set (i:=2) sc_stretch.nd rfl (dL rfl) (q_op a00 (q_op a96 (a0s G_tumbled (hr.mono (by decide)) rfl T.m23 F.n23.kp (a0x F) (a0b (a0c (pv 0)) (a0b a0g a0h a0f) a0a) (he:=a0a) (hpl:=(a0j a0f a0l))) a0g) (q_op a0S (q_op a4G a0g a0g) a0g))))
  a06)
  (a93 (z_if (a0z (o_eq hu) (a0c (pv 1)) a0g (a0u _))
  (a0n (z_set (i:=2) sc_stretch.nd rfl (dL rfl) (q_ix x_ix (a1d (a0b (q_op a4G a0g a0g) (a0b (q_op a8l (q_op a4G a0g a0g) a0g) (a0b a0g (a0b (q_op a8l (q_op a4G a0g a0g) a0g) a0h a0t) a0f) a0t) a0t)) (q_op a00 (a0c (pv 2)) a0g) (λ_ _=>rfl))))
  a06)
  (a0k (z_if (QW.qt (q_or (a0z (o_eq hu) (q_op a00 (a0s G_tumbled (hr.mono (by decide)) rfl T.m23 F.n23.kp (a0x F) (a0b (a0c (pv 0)) (a0b a0g a0h a0f) a0a) (he:=a0a) (hpl:=(a0j a0f a0l))) a0g) a0g (a0u _)) (a5c (a0z (o_eq hu) (a0c (pv 2)) (q_op a4G a0g a0g) (a0u _)))))
  (a0n (a0H (a1L (a0b (a0c (pv 2)) (a0b a2v a0h a0f) a0a))))
  a06)
  (a0k (z_if (a0z (o_eq hu) (q_op a00 (a0s G_tumbled (hr.mono (by decide)) rfl T.m23 F.n23.kp (a0x F) (a0b (a0c (pv 0)) (a0b a0g a0h a0f) a0a) (he:=a0a) (hpl:=(a0j a0f a0l))) a0g) a0g (a0u _))
  (a0n (a0H (a1L (a0b (a0c (pv 2)) (a0b (q_op a0S (q_op a0S (a0c (pv 2)) a0g) (q_op a00 (q_op a96 (a0s G_tumbled (hr.mono (by decide)) rfl T.m23 F.n23.kp (a0x F) (a0b (a0c (pv 0)) (a0b a0g a0h a0f) a0a) (he:=a0a) (hpl:=(a0j a0f a0l))) a0g) (q_op a8l (q_op a4G a0g a0g) (a0c (pv 2))))) a0h a0t) a0a))))
  a06)
  (a0n (a0H (a1L (a0b (a0c (pv 2)) (a0b (a0C (b_min rfl) rfl T.b_min rfl (a0b (q_op a4G a0g a0g) (a0b (q_op a0S (q_op a0S (a0c (pv 2)) a0g) (q_op a00 (a0s G_tumbled (hr.mono (by decide)) rfl T.m23 F.n23.kp (a0x F) (a0b (a0c (pv 0)) (a0b a0g a0h a0f) a0a) (he:=a0a) (hpl:=(a0j a0f a0l))) a0g)) a0h a0t) a0t) (he:=a0t) (hpl:=(a0j a0t a0l))) a0h a0F) a0a)))))))))),?_⟩
 obtain⟨c,rfl,q⟩:=h;walk_at "go";refine⟨c,20,rfl,by decide,by decide,λr r0 r1=>?_⟩;walk_at "go";refine i_I (show (0:Int)<8 by decide) ?_;walk_at "go";generalize r % 8=kind;refine⟨c,21,rfl,by decide,by decide,λr2 r20 r21=>?_⟩;walk_at "go";refine i_I (show (0:Int)<12 by decide) ?_;walk_at "go";have hb0:0≤r2 % 12/\r2 % 12<12:=by omega
 generalize r2 % 12=b0 at hb0 ⊢;refine a97 (fun σ' G'=>∃ b:Int,0≤b/\b≤1000000000000/\G'=G/\σ'=[some (.int c),some (.int kind),some (.int b)]) ?_ ?_
 ·walk_at "go";refine ifD (λ_=>?_) λ_=>?_
  ·walk_at "go";refine⟨c,21,rfl,by decide,by decide,λr3 r30 r31=>?_⟩;walk_at "go";refine i_I (.inl ⟨by omega,by omega⟩) ?_;walk_at "go";refine i_I ⟨by decide,by decide,by decide⟩ ?_;rw[a4t];walk_at "go";refine i_I (show (0:Int)<1000000000000+1 by decide) ?_;walk_at "go";exact⟨_,eS _ (by decide),by have:=eW (r3*1000) (show (0:Int)<1000000000000+1 by decide);omega,rfl,rfl⟩
  ·walk_at "go";exact⟨b0,by omega,by omega,rfl,rfl⟩
 ·rintro σ' G' ⟨b,h0,h1,rfl,rfl⟩;walk_at "go";refine a97 (fun σ' G''=>∃ b:Int,0≤b/\b≤1000000000000/\Sm G' G''/\σ'=[some (.int c),some (.int kind),some (.int b)]) ?_ ?_
  ·walk_at "go";refine ifD (λ_=>?_) λ_=>?_
   ·walk_at "go";refine i_I ⟨by decide,by decide,by decide⟩ ?_;rw[a4t];walk_at "go";refine i_I ⟨by decide,by decide,by decide⟩ ?_;rw[a4t];walk_at "go";refine i_I ⟨by decide,by decide,by decide⟩ ?_;rw[a4t];walk_at "go";refine⟨lenK rfl,λu hu=>?_⟩;walk_at "go";refine i_I (show (0:Int)<4 by decide) ?_;have hk:b % 4=0\/b % 4=1\/b % 4=2\/b % 4=3:=by omega
    obtain⟨b',eb,hb'⟩:∃ b':Int,atI [Z.int 1000000000000,.int (1000000000000 - 1),.int 0,.int (1000000000000 - 7)] (b % 4)=some (.int b')/\0≤b'/\b'≤1000000000000:=by
     rcases hk with e | e | e | e<;>rw[e]
     ·exact⟨_,rfl,by decide,by decide⟩
     ·exact⟨_,rfl,by decide,by decide⟩
     ·exact⟨_,rfl,by decide,by decide⟩
     ·exact⟨_,rfl,by decide,by decide⟩
    refine a07 a0e eb ?_;walk_at "go";exact⟨b',hb'.1,hb'.2,Sm.new hu,rfl⟩
   ·walk_at "go";exact⟨b,h0,h1,Sm.refl _,rfl⟩
  ·rintro σ' G'' ⟨b,h0,h1,s1,rfl⟩;have none_:R (.tup [.int b,.non]) G'':=q b none G'' s1 ⟨h0,h1,λx hx=>nomatch hx⟩;walk_at "go";refine⟨c,22,rfl,by decide,by decide,λr3 r30 r31=>?_⟩;walk_at "go";refine i_I (show (0:Int)<5 by decide) ?_;walk_at "go";refine ifD (λ_=>?_) λ_=>?_
   ·walk_at "go";exact⟨lenK rfl,none_⟩
   ·walk_at "go";refine i_I ⟨by decide,by decide,by decide⟩ ?_;rw[a4t];walk_at "go";refine ifD (λ_=>?_) λhne=>?_
    ·walk_at "go";exact⟨lenK rfl,none_⟩
    ·have hlt:b<1000000000000:=by omega
     walk_at "go";refine⟨c,22,rfl,by decide,by decide,λr4 r40 r41=>?_⟩;walk_at "go";refine i_I (show (0:Int)<5 by decide) ?_;walk_at "go";refine ifD (λ_=>?_) λ_=>?_
     ·walk_at "go";refine⟨c,23,rfl,by decide,by decide,λr5 r50 r51=>?_⟩;walk_at "go";refine i_I (.inl ⟨by omega,by omega⟩) ?_;walk_at "go";refine i_I ⟨by decide,by decide,by decide⟩ ?_;rw[a4t];walk_at "go";refine i_I (show (0:Int)<1000000000000 - b by omega) ?_;walk_at "go";refine⟨lenK rfl,?_⟩;have m0:=eS (r5*1000) (show (1000000000000 - b:Int)≠0 by omega);have m1:=eW (r5*1000) (show (0:Int)<1000000000000 - b by omega);exact q b (some (b+1+r5*1000 % (1000000000000 - b))) G'' s1 ⟨h0,h1,λx hx=>by cases hx;unfold T12;omega⟩
     ·walk_at "go";refine i_I ⟨by decide,by decide,by decide⟩ ?_;rw[a4t];walk_at "go";refine⟨c,23,rfl,by decide,by decide,λr5 r50 r51=>?_⟩;walk_at "go";refine i_I (show (0:Int)<6 by decide) ?_;walk_at "go";refine⟨lenK rfl,?_⟩;exact q b (some (if b+1+r5 % 6<1000000000000 then b+1+r5 % 6 else 1000000000000)) G'' s1 ⟨h0,h1,λx hx=>by cases hx;unfold T12;split<;>omega⟩
def a4C:P3:=λws G R=>Ex5 λ(c:Int) (ks wsA:Addr) (kn wn:List Str)=>ws=[.int c,.ref ks,.ref wsA]/\G ks=some (.lst (kn.map Z.str))/\G wsA=some (.lst (wn.map Z.str))/\kn.length=4/\wn.length=4/\(∀ s∈kn,nmOk s)/\(∀ s∈wn,nmOk s) /\
 ∀ τ,Tl.Ok τ->τ.key∈kn->R τ.z G
theorem a61 (h:a4C ws G R):ws.length=3:=by obtain⟨_,_,_,_,_,rfl,_⟩:=h;rfl
theorem a78 (F:Fns K a) (T:Txt K mg a):FnOk P w K mg base CX0 1 a.f26 a.d26 ["cell","keys","worths"] (lowP K a4C):=by
 refine fn3 F.n26 sc_by_digits (λws G R h=>(by exact a61 h)) (λcdv A outer s H E ws G R hr h=>?_);have hu:=a01 hr;refine⟨_,(a0k (z_set (i:=3) sc_by_digits.nd rfl (dL rfl) (q_op a00 (q_op a5e (a0c (pv 0)) a0g) (q_op a0S (q_op a4G a0g a0g) a0g)))
  (a0k (z_set (i:=4) sc_by_digits.nd rfl (dL rfl) (q_op a0S (a0c (pv 3)) (q_op a00 (q_op a5e (a0c (pv 0)) a0g) a0g)))
  (a93 (z_if (QW.qt (a7o (a0z (o_eq hu) (a0c (pv 4)) (q_op a0S (a0c (pv 3)) a0g) (a0u _)) (a5Y (a0z o_lt (a0c (pv 3)) (q_op a4G a0g a0g) (a0u _)))))
  (a0n (z_set (i:=4) sc_by_digits.nd rfl (dL rfl) (q_op a0S (q_op a0S (a0c (pv 3)) a0g) (q_op a00 (q_op a5e (q_op a5e (a0c (pv 0)) a0g) (q_op a0S (q_op a4G a0g a0g) a0g)) (q_op a8l (q_op a4G a0g a0g) (a0c (pv 3)))))))
  a06)
  (a93 (z_if (QW.qt (q_or (a0z (o_eq hu) (a0c (pv 4)) (a0c (pv 3)) (a0u _)) (a5c (a0z o_gt (a0c (pv 4)) (q_op a4G a0g a0g) (a0u _)))))
  (a0n (z_set (i:=4) sc_by_digits.nd rfl (dL rfl) a2v))
  a06)
  (a0k (z_if (a0z (o_eq hu) (q_op a00 (q_op a5e (a0c (pv 0)) a0g) a0g) a0g (a0u _))
  (a0n (a0H (a1L (a0b a4d (a0b (q_ix x_ix (a0c (pv 1)) (q_op a00 (a0c (pv 0)) a0g) (λ_ _=>rfl)) (a0b (a0c (pv 3)) (a0b (a0c (pv 4)) a0h a0a) a0a) a0d) a0f))))
  a06)
  (a0n (a0H (a1L (a0b a4d (a0b (q_ix x_ix (a0c (pv 1)) (q_op a00 (a0c (pv 0)) a0g) (λ_ _=>rfl)) (a0b (q_ix x_ix (a0c (pv 2)) (q_op a00 (q_op a5e (a0c (pv 0)) a0g) a0g) (λ_ _=>rfl)) (a0b (a0c (pv 3)) (a0b (a0c (pv 4)) a0h a0a) a0a) a0d) a0d) a0f))))))))),?_⟩
 obtain⟨c,ks,wsA,kn,wn,rfl,gk,gw,lk,lw,hk,hw,q⟩:=h;walk_at "go";refine i_I ⟨by decide,by decide⟩ ?_;walk_at "go";refine i_I ⟨by decide,by decide,by decide⟩ ?_;rw[a4t];walk_at "go";refine i_I (show (0:Int)<1000000000000+1 by decide) ?_;walk_at "go";have b0:=eS (c / 384) (show (1000000000000+1:Int)≠0 by decide);have b1:=eW (c / 384) (show (0:Int)<1000000000000+1 by decide);generalize c / 384 % (1000000000000+1)=b at b0 b1 ⊢;refine i_I ⟨by decide,by decide⟩ ?_;walk_at "go";refine i_I (show (0:Int)<8 by decide) ?_;walk_at "go";have e0:0≤c / 48 % 8/\c / 48 % 8<8:=by omega
 generalize c / 48 % 8=d at e0 ⊢;refine a97 (fun σ' G'=>∃ e:Int,b≤e/\G'=G/\σ'=[some (.int c),some (.ref ks),some (.ref wsA),some (.int b),some (.int e)]) ?_ ?_
 ·walk_at "go";refine ifD (λ_=>?_) λ_=>?_
  ·walk_at "go";refine i_I ⟨by decide,by decide,by decide⟩ ?_;rw[a4t];walk_at "go";refine ifD (λhlt=>?_) λ_=>?_
   ·walk_at "go";refine i_I ⟨by decide,by decide⟩ ?_;walk_at "go";refine i_I ⟨by decide,by decide,by decide⟩ ?_;rw[a4t];walk_at "go";refine i_I ⟨by decide,by decide⟩ ?_;walk_at "go";refine i_I ⟨by decide,by decide,by decide⟩ ?_;rw[a4t];walk_at "go";refine i_I (show (0:Int)<1000000000000 - b by omega) ?_;walk_at "go";have m0:=eS (c / 384 / (1000000000000+1)) (show (1000000000000 - b:Int)≠0 by omega);exact⟨_,by omega,rfl,rfl⟩
   ·walk_at "go";exact⟨_,by omega,rfl,rfl⟩
  ·walk_at "go";exact⟨_,by omega,rfl,rfl⟩
 ·rintro σ' G' ⟨e,he,rfl,rfl⟩;walk_at "go";refine a97 (fun σ' G''=>∃ e:Option Int,stOk b e/\G''=G'/\σ'=[some (.int c),some (.ref ks),some (.ref wsA),some (.int b),some (oz e)]) ?_ ?_
  ·walk_at "go";refine ifD (λ_=>?_) λhne=>?_
   ·walk_at "go";exact⟨none,⟨b0,by unfold T12;omega,λx hx=>nomatch hx⟩,rfl,rfl⟩
   ·walk_at "go";refine i_I ⟨by decide,by decide,by decide⟩ ?_;rw[a4t];walk_at "go";refine ifD (λ_=>?_) λhle=>?_
    ·walk_at "go";exact⟨none,⟨b0,by unfold T12;omega,λx hx=>nomatch hx⟩,rfl,rfl⟩
    ·walk_at "go";exact⟨some e,⟨b0,by unfold T12;omega,λx hx=>by cases hx;unfold T12;omega⟩,rfl,rfl⟩
  ·rintro σ' G'' ⟨e,hst,rfl,rfl⟩;obtain⟨kk,ekk,mkk,hkk⟩:=a9K hk (eS c (show (4:Int)≠0 by decide)) (by have:=eW c (show (0:Int)<4 by decide);omega);obtain⟨ww,eww,_,hww⟩:=a9K hw (eS (c / 16) (show (3:Int)≠0 by decide)) (by have:=eW (c / 16) (show (0:Int)<3 by decide);omega);walk_at "go";refine i_I ⟨by decide,by decide⟩ ?_;walk_at "go";refine i_I (show (0:Int)<4 by decide) ?_;walk_at "go";refine ifD (λ_=>?_) λ_=>?_
   ·walk_at "go";refine i_I (show (0:Int)<4 by decide) ?_;walk_at "go";refine a07 gk ekk ?_;walk_at "go";refine⟨lenK rfl,?_⟩;exact q ⟨kk,none,b,e⟩ ⟨hkk,(λs h=>nomatch h),hst⟩ mkk
   ·walk_at "go";refine i_I (show (0:Int)<4 by decide) ?_;walk_at "go";refine a07 gk ekk ?_;walk_at "go";refine i_I ⟨by decide,by decide⟩ ?_;walk_at "go";refine i_I (show (0:Int)<3 by decide) ?_;walk_at "go";refine a07 gw eww ?_;walk_at "go";refine⟨lenK rfl,?_⟩;exact q ⟨kk,some ww,b,e⟩ ⟨hkk,(λs h=>by cases h;exact hww),hst⟩ mkk
def a6j:P3:=λws G R=>Ex5 λ(c:Int) (ks wsA:Addr) (kn wn:List Str)=>ws=[.int c,.ref ks,.ref wsA]/\G ks=some (.lst (kn.map Z.str))/\G wsA=some (.lst (wn.map Z.str))/\kn.length=4/\wn.length=4/\(∀ s∈kn,nmOk s)/\(∀ s∈wn,nmOk s) /\
 ∀ τ G',Sm G G'->Tl.Ok τ->τ.key∈kn->R τ.z G'
theorem a8R (h:a6j ws G R):ws.length=3:=by obtain⟨_,_,_,_,_,rfl,_⟩:=h;rfl
theorem b0x (F:Fns K a) (T:Txt K mg a):FnOk P w K mg base CX0 3 a.f27 a.d27 ["cell","keys","worths"] (lowP K a6j):=by
 have G_stretch:=b0w (P:=P) (w:=w) (base:=base) F T;have G_by_digits:=a78 (P:=P) (w:=w) (base:=base) F T;have G_tumbled:=a3f (P:=P) (w:=w) (base:=base) F T;refine fn3 F.n27 sc_telling (λws G R h=>(by exact a8R h)) (λcdv A outer s H E ws G R hr h=>?_);have hu:=a01 hr;refine⟨_,(a0k (z_if (a0z (o_eq hu) (q_op a00 (a0c (pv 0)) a0g) a0g (a0u _))
  (a0n (a0H (a0s G_by_digits (hr.mono (by decide)) rfl T.m26 F.n26.kp (a7T F) (a0b (q_op a5e (a0c (pv 0)) a0g) (a0b (a0c (pv 1)) (a0b (a0c (pv 2)) a0h a0a) a0a) a0t) (he:=a0t) (hpl:=(a0j a0a (a0j a0a a0l))))))
  a06)
  (a0k (z_set (i:=3) sc_telling.nd rfl (dL rfl) (q_ix x_ix (a0c (pv 1)) (q_op a00 (a0s G_tumbled (hr.mono (by decide)) rfl T.m23 F.n23.kp (a0x F) (a0b (a0c (pv 0)) (a0b a0g a0h a0f) a0a) (he:=a0a) (hpl:=(a0j a0f a0l))) a0g) (λ_ _=>rfl)))
  (a0k (b7w (pt:=(.tp [4,5])) (a0s G_stretch (hr.mono (by decide)) rfl T.m25 F.n25.kp (b0q F) (a0b (a0c (pv 0)) a0h a0a) (he:=a0a) (hpl:=a0l)) (show QP _ _ (.tp [4,5]) from (a3G rfl (a0y (a0m (i:=4) sc_telling.nd rfl (dL rfl)) (a0y (a0m (i:=5) sc_telling.nd rfl (dL rfl)) a2q)))))
  (a0k (z_if (a0z (o_eq hu) (q_op a00 (a0s G_tumbled (hr.mono (by decide)) rfl T.m23 F.n23.kp (a0x F) (a0b (a0c (pv 0)) (a0b a0g a0h a0f) a0a) (he:=a0a) (hpl:=(a0j a0f a0l))) a0g) a0g (a0u _))
  (a0n (a0H (a1L (a0b a4d (a0b (a0c (pv 3)) (a0b (a0c (pv 4)) (a0b (a0c (pv 5)) a0h a0a) a0a) a0a) a0f))))
  a06)
  (a0n (a0H (a1L (a0b a4d (a0b (a0c (pv 3)) (a0b (q_ix x_ix (a0c (pv 2)) (q_op a00 (a0s G_tumbled (hr.mono (by decide)) rfl T.m23 F.n23.kp (a0x F) (a0b (a0c (pv 0)) (a0b a0g a0h a0f) a0a) (he:=a0a) (hpl:=(a0j a0f a0l))) a0g) (λ_ _=>rfl)) (a0b (a0c (pv 4)) (a0b (a0c (pv 5)) a0h a0a) a0a) a0d) a0a) a0f)))))))),?_⟩
 obtain⟨c,ks,wsA,kn,wn,rfl,gk,gw,lk,lw,hk,hw,q⟩:=h;walk_at "go";refine i_I (show (0:Int)<2 by decide) ?_;walk_at "go";refine ifD (λ_=>?_) λ_=>?_
 ·walk_at "go";refine i_I ⟨by decide,by decide⟩ ?_;walk_at "go";exact⟨_,ks,wsA,kn,wn,rfl,gk,gw,lk,lw,hk,hw,fun τ ok mk=>q τ G (Sm.refl _) ok mk⟩
 ·walk_at "go";refine⟨c,24,rfl,by decide,by decide,λr r0 r1=>?_⟩;walk_at "go";refine i_I (show (0:Int)<4 by decide) ?_;obtain⟨kk,ekk,mkk,hkk⟩:=a9K hk (eS r (show (4:Int)≠0 by decide)) (by have:=eW r (show (0:Int)<4 by decide);omega);walk_at "go";refine a07 gk ekk ?_;walk_at "go";refine⟨c,rfl,λb e G1 s1 hst=>?_⟩;walk_at "go";refine⟨c,25,rfl,by decide,by decide,λr2 r20 r21=>?_⟩;walk_at "go";refine i_I (show (0:Int)<4 by decide) ?_;walk_at "go";refine ifD (λ_=>?_) λ_=>?_
  ·walk_at "go";refine⟨lenK rfl,?_⟩;exact q ⟨kk,none,b,e⟩ _ s1 ⟨hkk,(λs h=>nomatch h),hst⟩ mkk
  ·walk_at "go";refine⟨c,26,rfl,by decide,by decide,λr3 r30 r31=>?_⟩;walk_at "go";refine i_I (show (0:Int)<3 by decide) ?_;obtain⟨ww,eww,_,hww⟩:=a9K hw (eS r3 (show (3:Int)≠0 by decide)) (by have:=eW r3 (show (0:Int)<3 by decide);omega);walk_at "go";refine a07 (s1 _ _ gw) eww ?_;walk_at "go";refine⟨lenK rfl,?_⟩;exact q ⟨kk,some ww,b,e⟩ _ s1 ⟨hkk,(λs h=>by cases h;exact hww),hst⟩ mkk
local macro_rules | `(tactic| walk_at "go1")=>`(tactic| with_reducible (first | refine b8A ?_ | refine i_iD ?_))
theorem ShV.frz {C:Addr}{G:Hq}{p:Addr}{S:Addr->Prop}{T:List Tl}{n:Int}{dx d:Addr}{kvs:List (Key×Z)}(H:ShV C G p S T n dx d kvs):ShV C (put G d (.dF kvs)) p S T n dx d kvs:=by
 have k:∀ b o,b≠d->G b=some o->put G d (.dF kvs) b=some o:=λb o r e=>by rw[a0o r];exact e
 have f:∀ b i,G b=some (.lst i)->b≠d:=λb i e z=>by
  rw[z]at e;rcases H.dc with c | c<;>(rw[c]at e;cases e)
 refine⟨k _ _ (λz=>?_) H.ob,H.sp,H.sd,.inr a0e,H.len,H.no,λu z e=>?_,λb t=>?_,H.nd,H.sk⟩
 ·have e:=H.ob;rw[z]at e;rcases H.dc with c | c<;>(rw[c]at e;cases e)
 ·obtain⟨h,m,q,a⟩:=H.hs u z e;refine⟨h,m,q,a.s,k _ _ (f _ _ a.at_) a.at_,a.ix,a.ne,λe j=>?_⟩;obtain⟨l,L,g,v⟩:=a.ln e j;exact⟨l,L,k _ _ (f _ _ g) g,v⟩
 ·by_cases c:b=d
  ·rw[c];exact⟨_,a0e⟩
  ·obtain⟨o,e⟩:=H.al b t;exact⟨o,k b o c e⟩
def inR (T:List Tl) (q:Int):Prop:=0≤q/\q≤T.length
def a2S (a:Ad):PX3:=λws G R EE=>Ex5 λ(p:Addr) (S:Addr->Prop) (T:List Tl) (x:Z) (q:Int)=>ws=[.ref p,x,.int q]/\Sheet a.c_Sheet G p S T/\(∀ G'',Th G'' x)/\T.length≤200 /\
 ((inR T q/\∃ k,x=.str k/\nmOk k/\∀ t L G',G t=none->Sm G G'->G' t=some (.lst (L.map Rw.z))->IsLine (T.take q.toNat) k L->R (.ref t) G')\/(¬ inR T q/\∀ G',Sm G G'->EE a.x_NoKnowing G')\/(inR T q/\a3h x=false/\∀ G',Sm G G'->EE a.x_NoName G'))
theorem a4u {a:Ad}{ws:List Z}{G:Hq}{R:K3}{EE:Addr->Hq->Prop}(h:a2S a ws G R EE):ws.length=3:=by obtain⟨_,_,_,_,_,rfl,_⟩:=h;rfl
theorem a4Q (F:Fns K a) (T:Txt K mg a):FnOk P w K mg base (CXx P w) 3 a.f13 a.d13 ["self","key","knowing"] (a2C K (a2S a)):=by
 have b:FnOk P w K mg base (CXx P w) 2 a.f10 a.d10 ["self","knowing"] (a2C K (a0X a)):=a1u F T;have f:FnOk P w K mg base (CXx P w) 2 a.f11 a.d11 ["thing"] (a2C K (a1n a)):=a28 F T;have c:FnOk P w K mg base CX0 1 a.f12 a.d12 ["self","key","knowing"] (lowP K (a0T a)):=a1a F T;refine fn3x F.n13 a4J (λJ G R D h=>(by exact a4u h)) (λX A C s H E J G R D i h z=>?_);have Y:=a01 i;refine⟨_,(a0k (a05 (a5o (a1A Outs.of) z.since (a0c (pv 0)) T.cl_Sheet T.mt10 b (i.mono (by decide)) (a1t F) (a0b (a0c (pv 2)) a0h a0a)))
  (a0k (a05 (a2D (a1A Outs.of) z.since f (i.mono (by decide)) rfl T.m11 F.n11.kp (a25 F) (a0b (a0c (pv 1)) a0h a0a)))
  (a0n (a0H (a9r (a0c (pv 0)) T.cl_Sheet T.mt12 c (i.mono (by decide)) (a09 F) (a0b (a0c (pv 1)) (a0b (a0c (pv 2)) a0h a0a) a0a)))))),?_⟩
 obtain⟨p,S,T',x,q,rfl,y,u,M,h⟩:=h;have r:=y;obtain⟨l,d,o,m⟩:=r;walk_at "go";refine⟨p,l,_,rfl,m.ob,a5N (by decide +kernel) (by decide +kernel),?_⟩;walk_at "go";refine⟨p,S,T',q,rfl,y.v,?_⟩;rcases h with ⟨hq,k,rfl,hk,fin⟩ | ⟨hq,e⟩ | ⟨hq,hn,e⟩
 ·have B:0≤q/\q≤T'.length:=hq;rw[if_pos B];walk_at "go";refine⟨_,rfl,u _,λn g=>?_⟩;rw[nm_b hk];refine ifT ?_;have j:=m.keep (Sm.ks g);walk_at "go";refine⟨p,l,_,rfl,j.ob,a5N (by decide +kernel) (by decide +kernel),?_⟩;walk_at "go";exact⟨p,S,T',k,q,_,l,d,o,rfl,j.v,hq.1,hq.2,M,λt L N Q V U I=>fin t L N (g.free Q) (g.trans V) U I⟩
 ·rw[if_neg (show ¬ (0≤q/\q≤T'.length) from hq)];exact e G (Sm.refl _)
 ·rw[if_pos (show 0≤q/\q≤T'.length from hq)];walk_at "go";refine⟨_,rfl,u _,λn g=>?_⟩;rw[hn];exact ifF (e n g)
def NE (T:List Tl) (k:Str):Prop:=∃ L,IsLine T k L/\L≠[]
structure KeysAt (T:List Tl) (ts:List Str):Prop where
 so:PyProof.Rows.sortedS ts=true
 nd:ts.Nodup
 is:∀ s,s∈ts↔NE T s
theorem IsLine.uniq (h:IsLine T k L) (g:IsLine T k M):L=M:=b2d h.can g.can λt=>by rw[h.v,g.v]
theorem a8S (h:ix T k=[]) (q:Nat):a0G (T.take q) k=[]:=a75 λi a=>by rw[h]at a;simp at a
def Few (T:List Tl):Prop:=T.length≤200/\∃ kn:List Str,kn.length≤63/\∀ τ∈T,τ.key∈kn
theorem b4K:∀ {xs ys:List Str},xs.Nodup->(∀ x∈xs,x∈ys)->xs.length≤ys.length
 | [],_,_,_=>eI _
 | x::xs,ys,h,m=>by
  rw[eQ]at h;have b:=m x (.head _)
  have:=b4K (ys:=ys.erase x) h.2 λy a=>(jF (λz=>h.1 (by simp_all))).mpr (m y (.tail _ a))
  rw[jG b]at this
  have:=jH b
  rw[ej];omega
theorem b4L:∀ {T:List Tl}{k:Str}{n:Nat},ixF k n T≠[]->∃ τ∈T,τ.key=k
 | [],_,_,h=>absurd rfl h
 | τ::T,k,n,h=>by
  by_cases c:τ.key=k
  ·exact⟨τ,.head _,c⟩
  ·unfold ixF at h;rw[if_neg c,gM]at h;obtain⟨σ,b,a⟩:=b4L h;exact⟨σ,.tail _ b,a⟩
theorem b81 {ks:List Str}(h:kvs.map (·.1)=ks.map Sum.inr) (m:s∈ks):∃ z,valZ kvs (.inr s)=some z:=by
 unfold valZ;cases e2:kvs.find? λc=>decide (c.1=Sum.inr s) with
 | some q=>exact⟨_,rfl⟩
 | none=>
  have a:(Sum.inr s)∈kvs.map (·.1):=by rw[h];exact ff m
  obtain⟨q,b,d⟩:=eq.mp a
  have:=iU.mp e2 q b
  simp[d]at this
def a2T (a:Ad):PX3:=λws G R EE=>Ex4 λ(p:Addr) (S:Addr->Prop) (T:List Tl) (q:Int)=>ws=[.ref p,.int q]/\Sheet a.c_Sheet G p S T/\Few T /\
 ((inR T q/\∀ t ts G',G t=none->Sm G G'->G' t=some (.lst (ts.map Z.str))->KeysAt (T.take q.toNat) ts->ts.length≤63->R (.ref t) G')\/(¬ inR T q/\∀ G',Sm G G'->EE a.x_NoKnowing G'))
theorem a4v {a:Ad}{ws:List Z}{G:Hq}{R:K3}{EE:Addr->Hq->Prop}(h:a2T a ws G R EE):ws.length=2:=by obtain⟨_,_,_,_,rfl,_⟩:=h;rfl
theorem a79:∀ {kvs:List (Key×Z)},(∀ q∈kvs,∃ s,q.1=Sum.inr s)->∃ ks:List Str,kvs.map (·.1)=ks.map Sum.inr/\(kvs.map λq=>keyW q.1)=ks.map Z.str
 | [],_=>⟨[],rfl,rfl⟩
 | q::kvs,h=>by
  obtain⟨s,a⟩:=h q (.head _);obtain⟨e,c,d⟩:=a79 λq b=>h q (.tail _ b);exact⟨s::e,by rw[eu,eu,c,a],by rw[eu,eu,d,a];rfl⟩
theorem b2w {ks:List Str}(h:kvs.map (·.1)=ks.map Sum.inr) (e:valZ kvs (.inr s)=some z):s∈ks:=by
 unfold valZ at e;cases e2:kvs.find? λg=>decide (g.1=Sum.inr s) with
 | none=>rw[e2]at e;cases e
 | some q=>
  have a:=iy e2;have c:q.1=Sum.inr s:=by have:=jI e2;simpa using this
  have:(Sum.inr s:Key)∈ks.map Sum.inr:=by rw[<- h,<- c];exact ff a
  obtain⟨x,b,d⟩:=eq.mp this;cases d;exact b
theorem a4R (F:Fns K a) (T:Txt K mg a):FnOk P w K mg base (CXx P w) 3 a.f14 a.d14 ["self","knowing"] (a2C K (a2T a)):=by
 have G_Sheet_check_knowing:=a1u (P:=P) (w:=w) (base:=base) F T;have G_Sheet_known_line:=a1a (P:=P) (w:=w) (base:=base) F T;refine fn3x F.n14 a4K (λws G R EE h=>(by exact a4v h)) (λcdv A outer s H E ws G R EE hr h ux=>?_);have hu:=a01 hr;refine⟨_,(a0k (a05 (a5o (a1A Outs.of) ux.since (a0c (pv 0)) T.cl_Sheet T.mt10 G_Sheet_check_knowing (hr.mono (by decide)) (a1t F) (a0b (a0c (pv 1)) a0h a0a) (hst:=a0a) (hpl:=a0l)))
  (a0n (a0H (c0o (a0C b16 rfl T.b_sorted rfl (a0b (q_lc (N₀:=["self","knowing"]) (so:=a0i a1m) (N':=["key","knowing","self"]) (cap:=[none,some 1,some 0]) (pt:=(.nm 0)) rfl rfl rfl (by decide +kernel) rfl (a8B (a8z T.cl_Sheet T.na_kept (a0c (pv 0)))) (λ_ _ _ _=>(show QP _ _ (.nm 0) from (a0m (i:=0) c0s rfl (dL rfl)))) (λ_ _ _ _=>(a6z (b7q (a9r (a0c (pv 2)) T.cl_Sheet T.mt12 G_Sheet_known_line (hr.mono (by decide)) (a09 F) (a0b (a0c (pv 0)) (a0b (a0c (pv 1)) a0h a0a) a0a) (hst:=a0a) (hpl:=(a0j a0a a0l))) (λ_=>rfl)))) (λ_ _ _ _=>(a0c (pv 0)))) a0h a0R) (he:=a0R) (hpl:=a0l)))))),?_⟩
 obtain⟨p,S,T',q,rfl,sh,hT,h⟩:=h;have sh':=sh;obtain⟨dx,d,kvs,sm⟩:=sh';walk_at "go";refine⟨p,dx,_,rfl,sm.ob,a5N (by decide +kernel) (by decide +kernel),?_⟩;walk_at "go";refine⟨p,S,T',q,rfl,sh.v,?_⟩;rcases h with ⟨hq,fin⟩ | ⟨hq,e⟩
 rotate_left
 ·rw[if_neg (show ¬ (0≤q/\q≤T'.length) from hq)];exact e G (Sm.refl _)
 rw[if_pos (show 0≤q/\q≤T'.length from hq)];walk_at "go";refine c0p sm.dc ?_;walk_at "go";refine⟨p,dx,_,_,rfl,sm.ob,a8N,?_⟩;walk_at "go";refine b5V (.inl sm.dc) ?_;have smF:=sm.v.frz;obtain⟨ks,hk1,hk2⟩:=a79 sm.sk;have hnd:ks.Nodup:=by
  have:=sm.nd
  rw[hk1]at this;exact (fD.mp this).imp λh z=>h (by rw[z])
 obtain⟨hT2,kn,kn1,kn2⟩:=hT;have hkl:ks.length≤63:=dW (b4K hnd λs hs=>by
  obtain⟨z,ez⟩:=b81 hk1 hs;obtain⟨h,es,_,hh⟩:=sm.hs s z ez;obtain⟨τ,t1,t2⟩:=b4L (T:=T') (k:=s) (n:=0) (λz=>hh.ne (by
   have:=hh.ix
   rw[show ix T' s=[] from z]at this;exact iz.mp this))
  rw[<- t2];exact kn2 τ t1) kn1
 rw[hk2];intro D hD;refine a5d (λi ys G'=>∃ ts:List Str,ys=ts.map Z.str/\ts.Nodup/\(∀ s,s∈ts↔s∈ks.take i/\NE (T'.take q.toNat) s)/\ts.length≤i/\Sm (put G d (.dF kvs)) G'/\G' D=some (.lst ys)) ⟨[],rfl,.nil,λs=>by simp,dM _,Sm.new hD,a0e⟩ (λ_ _ _ _ _=>True.intro) ?_ ?_
 ·rintro i x ys G' hx ⟨ts,rfl,hn,hm,hl,s,gD⟩;rw[dQ]at hx;cases hx':ks[i]? with
  | none=>rw[hx']at hx;cases hx
  | some k=>
  rw[hx']at hx;cases hx;have hi:=(dX.mp hx').1;have ht1:ks.take (i+1)=ks.take i++[k]:=by rw[fA,hx'];rfl
  have nk:k∉ks.take i:=λz=>by
   have h1:(ks.take (i+1)).Nodup:=hnd.sublist (gC _ _);rw[ht1,gq]at h1;exact h1.2.2 k z k (by simp) rfl
  have smA:=smF.keep (Sm.ks s);refine⟨_,rfl,?_⟩;walk_at "go";refine⟨p,dx,_,rfl,smA.ob,a5N (by decide +kernel) (by decide +kernel),?_⟩;walk_at "go";refine⟨p,S,T',k,q,_,dx,d,kvs,rfl,smA,hq.1,hq.2,by omega,λt L G2 ht s2 gt il=>?_⟩;refine b4q gt ?_;cases hL:L with
  | nil=>
   walk_at "go";refine⟨ts,rfl,hn,λy=>?_,by omega,s.trans s2,s2 _ _ gD⟩;rw[hm,ht1,dN,dP]
   constructor
   ·exact λ⟨a1,a2⟩=>⟨.inl a1,a2⟩
   ·rintro⟨a1 | rfl,a2⟩
    ·exact⟨a1,a2⟩
    ·obtain⟨M,m1,m2⟩:=a2;exact absurd (m1.uniq il) (by rw[hL];exact m2)
  | cons r L'=>
   walk_at "go";refine⟨_,rfl,s2 _ _ gD,by rw[dJ];exact a0r (by omega),ts++[k],by rw[dS];rfl,?_,λy=>?_,by rw[dO];simp;omega,(s.trans s2).put hD,a0e⟩
   ·rw[gq];exact⟨hn,by simp,λa1 h1 b1 h2 z=>nk (by rw[<- dP.mp h2,<- z];exact ((hm a1).mp h1).1)⟩
   ·rw[dN,hm,ht1,dN,dP]
    constructor
    ·rintro (⟨a1,a2⟩ | rfl)
     ·exact⟨.inl a1,a2⟩
     ·exact⟨.inr rfl,L,il,by rw[hL];simp⟩
    ·rintro⟨a1 | rfl,a2⟩
     ·exact .inl ⟨a1,a2⟩
     ·exact .inr rfl
 ·rintro ys G' ⟨ts,rfl,hn,hm,hl,s,gD⟩;rw[dJ]at hm hl;rw[eE]at hm;walk_at "go";refine b17 gD (by omega) λt us ht hp hs=>?_;have gd:G' d=some (.dF kvs):=s _ _ a0e;have td:t≠d:=Ne.symm (a0p gd ht);have fr:G t=none:=by
   have h1:=s.free ht;rw[a0o td]at h1;exact h1
  have sm2:Sm G (put (put G' t (.lst (us.map Z.str))) d (.dK kvs)):=λb o e=>by
   by_cases c:b=d
   ·rw[c,a0e,<- sm.dc,<- c];exact e
   ·rw[a0o c];exact a0q (s _ _ (by rw[a0o c];exact e)) ht
  refine⟨a0q gd ht,fin t us _ fr sm2 (by rw[a0o td];exact a0e) ⟨hs,hp.nodup_iff.mpr hn,λy=>?_⟩ (by rw[hp.length_eq];omega)⟩;rw[hp.mem_iff,hm]
  constructor
  ·exact λz=>z.2
  ·intro z;refine⟨?_,z⟩;cases e:valZ kvs (.inr y) with
   | some w=>exact b2w hk1 e
   | none=>
    obtain⟨L,l1,l2⟩:=z;exact absurd (l1.uniq (IsLine.nil (a8S (sm.no y e) _))) l2
theorem b6h (ok:OkT T) (h:NE T s):nmOk s:=by
 obtain⟨L,a,d⟩:=h
 by_cases c:∃ τ∈T,τ.key=s
 ·obtain⟨τ,f,e⟩:=c;rw[<- e];exact (ok τ f).k
 ·have:a0G T s=[]:=by
   unfold a0G;rw[iz,gQ];intro τ b;simpa using λz=>c ⟨τ,b,z⟩
  exact absurd (a.uniq (IsLine.nil this)) d
noncomputable def wAt (T:List Tl) (k:Str) (m:Int) (n:Nat):Z:=a0E (a0G (T.take n) k) m
theorem b3Y {T:List Tl}{τ:Tl}{k:Str}{m:Int}{i:Nat}(h:T[i]?=some τ):wAt T k m (i+1)=if τ.key=k/\τ.rw.has m=true then τ.v else wAt T k m i:=by
 unfold wAt;have a:T.take (i+1)=T.take i++[τ]:=by rw[fA,h];rfl
 rw[a,a2n]
 by_cases c:τ.key=k
 ·rw[if_pos c,a5z]
  show (if τ.rw.has m=true then τ.v else _)=_
  simp only[c,true_and]
 ·simp_all
def b4M:P3:=λws G R=>∃ (τ:Tl) (m:Int),ws=[τ.z,.int m]/\R (.bl (τ.rw.has m)) G
theorem b6i (h:b4M ws G R):ws.length=2:=by obtain⟨_,_,rfl,_⟩:=h;rfl
theorem at_b {τ:Tl}:∃ ws,τ.z=.tup ws/\atI ws (-2)=some (.int τ.b)/\atI ws (-1)=some (oz τ.e):=by
 obtain⟨k,w,b,e⟩:=τ;cases w<;>exact⟨_,rfl,rfl,rfl⟩
theorem b82 (F:Fns K a) (T:Txt K mg a):FnOk P w K mg base CX0 1 a.f28 a.d28 ["telling","moment"] (lowP K b4M):=by
 refine fn3 F.n28 b8G (λf G R h=>(by exact b6i h)) (λn A g s H E f G R j h=>?_);have o:=a01 j;refine⟨_,(a0n (a0H (a88 (a91 o_le (q_ix x_ix (a0c (pv 0)) (q_un a1V a0g) (λ_ _=>rfl)) (a0c (pv 1)) (a0u _)) (b1m (b9G (a91 o_is (q_ix x_ix (a0c (pv 0)) (q_un a1V a0g) (λ_ _=>rfl)) a2v (a0u _)) (b1m (a91 o_lt (a0c (pv 1)) (q_ix x_ix (a0c (pv 0)) (q_un a1V a0g) (λ_ _=>rfl)) (a0u _)))))))),?_⟩;obtain⟨τ,m,rfl,q⟩:=h;obtain⟨f,i,l,d⟩:=@at_b τ;have k:τ.rw.has m=(decide (τ.b≤m)&&bef m τ.e):=rfl;rw[k]at q;rw[i];walk_at "go";refine a2V l ?_;walk_at "go";refine ifD (λc=>?_) λc=>?_
 ·rw[decide_eq_true c,e9]at q;walk_at "go";refine a2V d ?_;cases he:τ.e with
  | none=>
   rw[he]at q;walk_at "go";exact q
  | some e=>
   rw[he]at q;walk_at "go";refine a2V d ?_;rw[he];walk_at "go";exact q
 ·simp_all
def inT (x:Int):Prop:=0≤x/\x≤T12
theorem b3Z {τ:Tl}:∃ ws x y,τ.z=.tup ws/\atI ws 2=some x/\atI ws 0=some (.str y)/\atI [.non,x] (if decide (y=Str.ofString "put")=true then 1 else 0)=some τ.v:=by
 obtain⟨k,w,b,e⟩:=τ;cases w with
 | none=>exact⟨_,_,_,rfl,rfl,rfl,by rw[if_neg (by rw[decide_eq_true_eq];exact b8X)];rfl⟩
 | some w=>exact⟨_,_,_,rfl,rfl,rfl,by rw[if_pos (by rw[decide_eq_true_eq])];rfl⟩
theorem b83 {xs:List Int}{k:Int}(h0:0≤k) (h1:k<xs.length):∃ x,atI (xs.map Z.int) k=some (.int x)/\x∈xs:=by
 obtain⟨j,rfl⟩:=fS h0;have a:j<xs.length:=by omega
 exact⟨xs[j],a1e (by simp_all),fB a⟩
structure Pts (T:List Tl) (ms:List Int):Prop where
 so:ms.Pairwise (·<·)
 z:0∈ms
 b:∀ τ∈T,τ.b∈ms
 e:∀ τ∈T,∀ e,τ.e=some e->e∈ms
theorem a9L (h:r∈a0G T k):∃ τ∈T,r.b=τ.b/\r.e=τ.e:=by
 obtain⟨τ,a,rfl⟩:=eq.mp h;exact⟨τ,(fg.mp a).1,rfl,rfl⟩
theorem a6k (P:Pts T ms) (k:Str) (hbt:b≤t) (hm:∀ c∈ms,c≤t->c≤b):a0E (a0G T k) t=a0E (a0G T k) b:=by
 unfold a0E;rw[a6f λr f=>?_];obtain⟨τ,a,g,d⟩:=a9L (by simpa using f);exact b3N hbt (λh=>by rw[g]at h ⊢;exact hm _ (P.b τ a) h) λe i h=>hm _ (P.e τ a e (by simp_all)) h
theorem b0y (ok:OkT T) (k:Str) (h:t<0):a0E (a0G T k) t=.non:=by
 unfold a0E
 have:(a0G T k).reverse.find? (·.has t)=none:=by
  rw[iU];intro r b;obtain⟨τ,a,c,d⟩:=a9L (by simpa using b)
  have:=(ok τ a).st.1
  rw[b2c (by omega)]
  decide
 rw[this]
theorem b84 {ms:List Int}(h:ms[i]?=some m):pcs f (ms.drop i)=(match f m with | some w=>[(⟨m,ms[i+1]?,w⟩:Rw)] | none=>[])++pcs f (ms.drop (i+1)):=by
 rw[drop_get h]
 conv=>lhs;unfold pcs
 rw[List.head?_drop]
theorem a8T (k:Str):∀ {n:Nat}{T:List Tl},T.length=n->OkT T->∃ L,IsLine T k L
 | 0,T,h,_=>⟨[],by rw[fP.mp h];exact IsLine.nil rfl⟩
 | n+1,T,h,ok=>by
  obtain⟨U,τ,rfl⟩:∃ U τ,T=U++[τ]:=⟨T.dropLast,T.getLast (λz=>by rw[z]at h;cases h),(jJ _).symm⟩;obtain⟨L,a⟩:=a8T k (by simpa using h) fun σ b=>ok σ (eJ _ b)
  by_cases c:τ.key=k
  ·subst c;exact⟨_,a.snoc (ok τ (by simp))⟩
  ·refine⟨L,a.can,a.pl,by have:=a.len;simp;omega,λt=>?_⟩;rw[a2n,if_neg c,eO];exact a.v t
local macro_rules | `(tactic| walk_at "go1")=>`(tactic| first | refine i_I (show (0:Int)<_ by decide) ?_ | refine a07 (by assumption) (by with_unfolding_all rfl) ?_ | (refine i_I ⟨by decide,by decide,by decide⟩ ?_;rw[a4t]))
def a9M:P3:=λws G R=>Ex4 λ(p:Addr) (T:List Tl) (k:Str) (m:Int)=>ws=[.ref p,.str k,.int m]/\G p=some (.lst (T.map Tl.z))/\∀ G',Sm G G'->R (a0E (a0G T k) m) G'
theorem b2x (h:a9M ws G R):ws.length=3:=by obtain⟨_,_,_,_,rfl,_⟩:=h;rfl
theorem b30 (F:Fns K a) (T:Txt K mg a):FnOk P w K mg base CX0 2 a.f29 a.d29 ["tellings","key","moment"] (lowP K a9M):=by
 have G_has:=b82 (P:=P) (w:=w) (base:=base) F T;refine fn3 F.n29 sc_worth (λws G R h=>(by exact b2x h)) (λcdv A outer s H E ws G R hr h=>?_);have hu:=a01 hr;refine⟨_,(a0k (z_set (i:=3) sc_worth.nd rfl (dL rfl) a2v)
  (a0k (a2x (pt:=(.nm 4)) j9.never rfl (a0O (a0c (pv 0))) (show QP _ _ (.nm 4) from (a0m (i:=4) sc_worth.nd rfl (dL rfl)))
  (a0n (z_if (QW.qt (a7o (a0z (o_eq hu) (q_ix x_ix (a0c (pv 4)) a0g (λ_ _=>rfl)) (a0c (pv 1)) (a0u _)) (a5Y (a3g (a0s G_has (hr.mono (by decide)) rfl T.m28 F.n28.kp (b8K F) (a0b (a0c (pv 4)) (a0b (a0c (pv 2)) a0h a0a) a0a) (he:=a0a) (hpl:=(a0j a0a a0l)))))))
  (a0n (z_set (i:=3) sc_worth.nd rfl (dL rfl) (q_ix x_ix (a1d (a0b a2v (a0b (q_ix x_ix (a0c (pv 4)) a0g (λ_ _=>rfl)) a0h a0d) a0f)) (a89 b8z rfl T.b_int rfl (a0b (a91 (o_eq hu) (q_ix x_ix (a0c (pv 4)) a0g (λ_ _=>rfl)) a4d (a0u _)) a0h a5Z) (he:=a5Z) (hpl:=a0l)) (λ_ _=>rfl))))
  a06)))
  (a0n (a0H (a0c (pv 3)))))),?_⟩
 obtain⟨p,T',k,m,rfl,gp,q⟩:=h;walk_at "go";refine a1W gp ?_;refine a08 (λi σ G'=>∃ v:Option Z,Sm G G'/\σ=[some (.ref p),some (.str k),some (.int m),some (wAt T' k m i),v]) ⟨_,Sm.refl _,rfl⟩ (by rintro i σ G' _ ⟨_,s,_⟩;exact s _ _ gp) ?_ ?_
 ·rintro i u σ G' hu ⟨v,s,rfl⟩;rw[dQ]at hu;cases hu':T'[i]? with
  | none=>rw[hu']at hu;cases hu
  | some τ=>
  rw[hu']at hu;cases hu;have hw:=@b3Y T' τ k m i hu';obtain⟨ws,ez,ek⟩:=@b4J τ;refine⟨_,rfl,?_⟩;walk_at "go";rw[ez];refine a2V ek ?_;walk_at "go";refine ifD (λc1=>?_) λc1=>?_
  rotate_left
  ·walk_at "go";rw[if_neg (λz=>c1 z.1)]at hw;exact⟨_,s,by rw[hw];rfl⟩
  walk_at "go";rw[<- ez];refine⟨τ,m,rfl,?_⟩;walk_at "go";refine ifB (λc2=>?_) λc2=>?_
  rotate_left
  ·walk_at "go";rw[if_neg (λz=>by rw[c2]at z;exact absurd z.2 (by decide))]at hw;exact⟨_,s,by rw[hw];rfl⟩
  rw[if_pos ⟨c1,c2⟩]at hw;obtain⟨ws2,fx,fy,ez2,e2,e0,ef⟩:=@b3Z τ;rw[ez2];walk_at "go";refine a2V e2 ?_;walk_at "go";refine⟨lenK rfl,λl hl=>?_⟩;walk_at "go";refine a2V e0 ?_;walk_at "go";refine a07 a0e ef ?_;walk_at "go";exact⟨_,s.trans (Sm.new hl),by rw[hw];rfl⟩
 ·rintro σ G' ⟨v,s,rfl⟩;walk_at "go"
  have:=q G' s
  unfold wAt;rw[dJ,eE];exact this
def a8a:P3:=λws G R=>∃ (p:Addr) (T:List Tl),ws=[.ref p]/\G p=some (.lst (T.map Tl.z))/\OkT T/\T.length≤100/\∀ (t:Addr) (ms:List Int) (G':Hq),G t=none->Sm G G'->G' t=some (.lst (ms.map Z.int))->Pts T ms->(∀ x∈ms,inT x)->ms.length≤1+2*T.length->R (.ref t) G'
theorem b0z (h:a8a ws G R):ws.length=1:=by obtain⟨_,_,rfl,_⟩:=h;rfl
theorem b2y (F:Fns K a) (T:Txt K mg a):FnOk P w K mg base CX0 1 a.f30 a.d30 ["tellings"] (lowP K a8a):=by
 refine fn3 F.n30 sc_points (λws G R h=>(by exact b0z h)) (λcdv A outer s H E ws G R hr h=>?_);have hu:=a01 hr;refine⟨_,(a0k (z_set (i:=1) sc_points.nd rfl (dL rfl) (a1d (a0b a0g a0h a0f)))
  (a0k (a2x (pt:=(.nm 2)) j9.never rfl (a0O (a0c (pv 0))) (show QP _ _ (.nm 2) from (a0m (i:=2) sc_points.nd rfl (dL rfl)))
  (a0k (a05 (q_bm PySem.F.plainAttrs_list PySem.F.slot_list_append PySem.F.type_list_append a1j (a0c (pv 1)) (a0b (q_ix x_ix (a0c (pv 2)) (q_un a1V a0g) (λ_ _=>rfl)) a0h a0d)))
  (a0n (z_if (a0z a4f (q_ix x_ix (a0c (pv 2)) (q_un a1V a0g) (λ_ _=>rfl)) a2v (a0u _))
  (a0n (a05 (q_bm PySem.F.plainAttrs_list PySem.F.slot_list_append PySem.F.type_list_append a1j (a0c (pv 1)) (a0b (q_ix x_ix (a0c (pv 2)) (q_un a1V a0g) (λ_ _=>rfl)) a0h a0d))))
  a06))))
  (a0n (a0H (q_ss rfl rfl T.b_sorted rfl rfl T.b_set rfl (a0b (a0c (pv 1)) a0h a0a) (he:=a0a) (hpl:=a0l)))))),?_⟩
 obtain⟨p,T',rfl,gp,ok,hT,q⟩:=h;walk_at "go";refine⟨lenK rfl,λf hf=>?_⟩;walk_at "go";refine a1W (a0q gp hf) ?_;refine a08 (λi σ G'=>∃ (ns:List Int) (v:Option Z),0∈ns/\(∀ x∈ns,inT x)/\ns.length≤1+2*i/\(∀ τ∈T'.take i,τ.b∈ns/\∀ e,τ.e=some e->e∈ns)/\Sm G G'/\G' f=some (.lst (ns.map Z.int))/\σ=[some (.ref p),some (.ref f),v]) ⟨[0],_,by simp,λx hx=>by rw[dP.mp hx];exact⟨by decide,by decide⟩,by simp,(fun τ h=>by simp at h),Sm.new hf,a0e,rfl⟩ (by rintro i σ G' _ ⟨_,_,_,_,_,_,s,_⟩;exact s _ _ gp) ?_ ?_
 ·rintro i u σ G' hu ⟨ns,v,h0,hn,hl,hb,s,gf,rfl⟩;rw[dQ]at hu;cases hu':T'[i]? with
  | none=>rw[hu']at hu;cases hu
  | some τ=>
  rw[hu']at hu;cases hu;have hi:=(dX.mp hu').1;have okτ:=ok τ (er hu');obtain⟨b0,b1,be⟩:=okτ.st;obtain⟨ws,ez,e1,e2⟩:=@at_b τ;have mem1:∀ {ns:List Int}{x:Int},(∀ x∈ns,inT x)->inT x->∀ y∈ns++[x],inT y:=λ{ns x} h hx y hy=>by
   rcases dN.mp hy with hy | hy
   ·exact h y hy
   ·rw[dP.mp hy];exact hx
  have old:∀ {ms:List Int},(∀ x∈ns,x∈ms)->τ.b∈ms->(∀ e,τ.e=some e->e∈ms)->∀ σ∈T'.take (i+1),σ.b∈ms/\∀ e,σ.e=some e->e∈ms:=λh1 h2 h3 σ hσ=>by
   rw[take_snoc hu']at hσ;rcases dN.mp hσ with hσ | hσ
   ·exact⟨h1 _ (hb σ hσ).1,λe he=>h1 _ ((hb σ hσ).2 e he)⟩
   ·rw[dP.mp hσ];exact⟨h2,h3⟩
  rw[ez];refine⟨_,rfl,?_⟩;walk_at "go";refine a2l gf ?_;walk_at "go";refine a2V e1 ?_;walk_at "go";refine a0Y gf (by rw[dJ];exact a0r (by omega)) ?_;have gf2:put G' f (.lst (ns.map Z.int++[.int τ.b])) f=some (.lst ((ns++[τ.b]).map Z.int)):=by rw[a0e,dS];rfl
  have s2:Sm G (put G' f (.lst (ns.map Z.int++[.int τ.b]))):=s.put hf;generalize put G' f (.lst (ns.map Z.int++[.int τ.b]))=G2 at gf2 s2 ⊢;walk_at "go";refine a2V e2 ?_;cases he:τ.e with
  | none=>
   walk_at "go";exact⟨_,_,eJ _ h0,mem1 hn ⟨b0,b1⟩,by rw[dO];simp;omega,old (λx h=>eJ _ h) (by simp) (λe h=>by rw[he]at h;cases h),s2,gf2,rfl⟩
  | some e=>
   obtain⟨l1,l2⟩:=be e he;walk_at "go";refine a2l gf2 ?_;walk_at "go";refine a2V e2 ?_;rw[he];walk_at "go";refine a0Y gf2 (by rw[dJ,dO];exact a0r (by simp;omega)) ?_;refine⟨ns++[τ.b]++[e],_,eJ _ (eJ _ h0),mem1 (mem1 hn ⟨b0,b1⟩) ⟨by omega,l2⟩,by rw[dO,dO];simp;omega,old (λx h=>eJ _ (eJ _ h)) (by simp) (λe' h=>by rw[he]at h;cases h;simp),s2.put hf,?_,rfl⟩;rw[a0e,dS (l₂:=[e])];rfl
 ·rintro σ G' ⟨ns,v,h0,hn,hl,hb,s,gf,rfl⟩;rw[dJ]at hl hb;rw[eE]at hb;walk_at "go";refine⟨f,ns,rfl,gf,by omega,λt ks ht hs hm hle=>?_⟩;exact q t ks _ (s.free ht) (s.trans (Sm.new ht)) a0e ⟨hs,(hm 0).mpr h0,fun τ h=>(hm _).mpr (hb τ h).1,fun τ h e he=>(hm _).mpr ((hb τ h).2 e he)⟩ (λx hx=>hn x ((hm x).mp hx)) (by omega)
theorem b85 {ms:List Int}(h:i<ms.length):atI (ms.map Z.int++[.non]) ((i:Int)+1)=some (oz ms[i+1]?):=by
 refine a1e (j:=i+1) ?_
 by_cases c:i+1<ms.length
 ·rw[fX (by rw[dJ];exact c),dQ,en c];rfl
 ·simp_all
theorem b2z:join (ps++[x])=jn (join ps) x:=by simp[join]
theorem a62 (ps:List Rw):(join ps).length≤ps.length:=by
 have:=a6X ps []
 unfold join;simpa using this
noncomputable def bF (T U:List Tl) (k:Str) (t:Int):Option (List Z):=if a0E (a0G T k) t=.non\/a0E (a0G U k) t=.non then none else some [a0E (a0G T k) t,a0E (a0G U k) t]
structure TabD (G:Hq) (d:Addr) (T:List Tl) (ts:List Str) (kvs:List (Key×Z)):Prop where
 at_:G d=some (.dK kvs)
 ks:kvs.map (·.1)=ts.map (λs=>(Sum.inr s:Key))
 ka:KeysAt T ts
 ln:∀ k∈ts,∃ l L,valZ kvs (.inr k)=some (.ref l)/\G l=some (.lst (L.map Rw.z))/\IsLine T k L
 no:∀ k,k∉ts->valZ kvs (.inr k)=none
theorem TabD.keep (h:TabD G d T ts kvs) (s:Sm G G'):TabD G' d T ts kvs:=⟨s _ _ h.at_,h.ks,h.ka,λk e=>let ⟨l,L,a,b,c⟩:=h.ln k e;⟨l,L,a,s _ _ b,c⟩,h.no⟩
theorem b2A (nd:(rows.map (·.1)).Nodup):a4B [] rows=rows:=by
 have c:∀ a b,((b++a).map (·.1)).Nodup->a4B b a=b++a:=by
  intro a
  induction a with
  | nil=>intro b _;simp[a4B]
  | cons r a ih=>
   intro b h;have d:valZ b r.1=none:=by
    cases e:valZ b r.1 with
    | none=>rfl
    | some z=>
     unfold valZ at e;cases e2:b.find? λi=>decide (i.1=r.1) with
     | none=>rw[e2]at e;cases e
     | some q=>
      rw[dS,gq]at h;have f:=iy e2;have g:q.1=r.1:=by have:=jI e2;simpa using this
      exact absurd g (h.2.2 q.1 (ff f) r.1 (by simp))
   show a4B (putZ b r.1 r.2) a=_
   rw[a8O d,ih _ (by simp_all)];simp
 simpa using c rows [] (by simp_all)
theorem b31 (nd:(kvs.map (·.1)).Nodup) (h:(k,z)∈kvs):valZ kvs k=some z:=by
 induction kvs with
 | nil=>simp at h
 | cons q kvs ih=>
  rw[eu,eQ]at nd;unfold valZ;rw[fi];rcases dU.mp h with rfl | h
  ·simp
  ·have a:¬ q.1=k:=λb=>nd.1 (by rw[b];exact ff h);rw[decide_eq_false a];exact ih nd.2 h
theorem b2B {α:Type}[BEq α] [LawfulBEq α]:∀ {l B:List α},l.Nodup->(∀ x∈l,x∈B)->l.length≤B.length
 | [],_,_,_=>eI _
 | x::l,B,h,q=>by
  obtain⟨c,d⟩:=eQ.mp h;have a:=q x (.head _)
  have:=b2B d λy b=>(jF (show y≠x from λe=>c (e▸b))).mpr (q y (.tail _ b))
  rw[jG a]at this;have f:=jH a;rw[ej];omega
def a34 (a:Ad):PX3:=λws G R EE=>Ex4 λ(p:Addr) (S:Addr->Prop) (T:List Tl) (q:Int)=>ws=[.ref p,.int q]/\Sheet a.c_Sheet G p S T/\OkT T/\Few T /\
 ((inR T q/\∀ d ts kvs G',G d=none->Sm G G'->TabD G' d (T.take q.toNat) ts kvs->ts.length≤63->R (.ref d) G')\/(¬ inR T q/\∀ G',Sm G G'->EE a.x_NoKnowing G'))
theorem a5P {a:Ad}{ws:List Z}{G:Hq}{R:K3}{EE:Addr->Hq->Prop}(h:a34 a ws G R EE):ws.length=2:=by obtain⟨_,_,_,_,rfl,_⟩:=h;rfl
theorem Sheet.obj (h:Sheet C G p S T):∃ dx n d,G p=some (.ins C dx (shF n d)):=let ⟨dx,d,_,m⟩:=h;⟨dx,_,d,m.ob⟩
theorem Sheet.out (h:Sheet C G p S T) (e:G t=none):¬ S t:=λz=>by
 obtain⟨_,_,_,m⟩:=h;obtain⟨o,a⟩:=m.al t z;rw[e]at a;cases a
theorem a63 (F:Fns K a) (T:Txt K mg a):FnOk P w K mg base (CXx P w) 4 a.f15 a.d15 ["sheet","knowing"] (a2C K (a34 a)):=by
 have G_Sheet_line_at:=a4Q (P:=P) (w:=w) (base:=base) F T;have G_Sheet_keys_at:=a4R (P:=P) (w:=w) (base:=base) F T;refine fn3x F.n15 a6N (λws G R EE h=>(by exact a5P h)) (λcdv A outer s H E ws G R EE hr h ux=>?_);have hu:=a01 hr;refine⟨_,(a0n (a0H (a89 (b5Z rfl) rfl T.b_dict rfl (a0b (c0l (b1e Outs.of) (N₀:=["sheet","knowing"]) (so:=a0i a16) (N':=["key","knowing","sheet"]) (cap:=[none,some 1,some 0]) (pt:=(.nm 0)) rfl rfl rfl (by decide +kernel) rfl (a0O (a5o (a1A Outs.of) ux.since (a0c (pv 0)) T.cl_Sheet T.mt14 G_Sheet_keys_at (hr.mono (by decide)) (a4M F) (a0b (a0c (pv 1)) a0h a0a) (hst:=a0a) (hpl:=a0l))) (λ_ _ _ _=>(show QP _ _ (.nm 0) from (a0m (i:=0) c0t rfl (dL rfl)))) (λ_ _ _ _=>a2b) (λ_ _ _ _=>(a1L (a0b (a0c (pv 0)) (a0b (a5o b3i ux.since (a0c (pv 2)) T.cl_Sheet T.mt13 G_Sheet_line_at (hr.mono (by decide)) (a4L F) (a0b (a0c (pv 0)) (a0b (a0c (pv 1)) a0h a0a) a0a) (hst:=a0a) (hpl:=(a0j a0a a0l))) a0h a0F) a0a)))) a0h a0R) (he:=a0R) (hpl:=a0l)))),?_⟩;obtain⟨p,S,T',q,rfl,sh,ok,few,h⟩:=h;obtain⟨dx,n,d0,ob⟩:=sh.obj;walk_at "go";refine⟨p,dx,_,rfl,ob,a5N (by decide +kernel) (by decide +kernel),?_⟩;walk_at "go";refine⟨p,S,T',q,rfl,sh,few,?_⟩;rcases h with ⟨hq,fin⟩ | ⟨hq,e⟩
 rotate_left
 ·exact .inr ⟨hq,e⟩
 refine .inl ⟨hq,λt ts G1 ht s1 gt ka hl=>?_⟩;walk_at "go";refine a1W gt ?_;intro D hD;have nd:(ts.map (λs=>(Sum.inr s:Key))).Nodup:=fD.mpr (ka.nd.imp λh z=>h (by injection z));refine a5d (λi ys G'=>∃ rows:List (Key×Z),ys=rows.map prZ/\rows.map (·.1)=(ts.take i).map (λs=>(Sum.inr s:Key))/\(∀ k∈ts.take i,∃ l L,((Sum.inr k:Key),Z.ref l)∈rows/\l≠D/\G' l=some (.lst (L.map Rw.z))/\IsLine (T'.take q.toNat) k L)/\Sm G1 G'/\G' D=some (.lst ys)) ⟨[],rfl,rfl,(λk h=>by simp at h),Sm.new hD,a0e⟩ (by rintro i ys G' _ ⟨_,_,_,_,s,_⟩;exact s _ _ gt) ?_ ?_
 ·rintro i x ys G' hx ⟨rows,rfl,hr,hln,s,gD⟩;rw[dQ]at hx;cases hx':ts[i]? with
  | none=>rw[hx']at hx;cases hx
  | some k=>
  rw[hx']at hx;cases hx;have hi:=(dX.mp hx').1;have hk:nmOk k:=b6h (fun τ hτ=>ok τ (fc hτ)) ((ka.is k).mp (er hx'));have sh2:=sh.keep (Sm.ks (s1.trans s));obtain⟨dx2,n2,d2,ob2⟩:=sh2.obj;have hrl:rows.length≤63:=by have:=congrArg eF hr;rw[dJ,dJ,dY]at this;omega
  refine⟨_,rfl,?_⟩;walk_at "go";refine⟨p,dx2,_,rfl,ob2,a5N (by decide +kernel) (by decide +kernel),?_⟩;walk_at "go";refine⟨p,S,T',.str k,q,rfl,sh2,(λ_=>b3T hk),few.1,.inl ⟨hq,k,rfl,hk,λl L G2 hl2 s2 gl il=>?_⟩⟩;have nlD:l≠D:=Ne.symm (a0p gD hl2);walk_at "go";refine⟨lenK rfl,s2 _ _ gD,by rw[dJ];exact a0r (by omega),rows++[(.inr k,.ref l)],by rw[dS];rfl,by rw[dS,hr,take_snoc hx',dS];rfl,λj hj=>?_,(s.trans s2).put hD,a0e⟩;rw[take_snoc hx']at hj;rcases dN.mp hj with hj | hj
  ·obtain⟨l',L',m1,m2,m3,m4⟩:=hln j hj;exact⟨l',L',eJ _ m1,m2,by rw[a0o m2];exact s2 _ _ m3,m4⟩
  ·rw[dP.mp hj];exact⟨l,L,by simp,nlD,by rw[a0o nlD];exact gl,il⟩
 ·rintro ys G2 ⟨rows,rfl,hr,hln,s,gD⟩;rw[dJ,eE]at hr hln;have hrl:rows.length=ts.length:=by have:=congrArg eF hr;rw[dJ,dJ]at this;exact this
  have nd2:(rows.map (·.1)).Nodup:=by rw[hr];exact nd
  walk_at "go";refine b50 gD (by omega) λd hd=>?_;rw[b2A nd2];have s2:=s.trans (Sm.new (o:=.dK rows) hd);refine fin d ts rows _ (s1.free (s.free hd)) (s1.trans s2) ⟨a0e,hr,ka,λk hk=>?_,λk hk=>?_⟩ hl
  ·obtain⟨l,L,m1,m2,m3,m4⟩:=hln k hk;exact⟨l,L,b31 nd2 m1,a0q m3 hd,m4⟩
  ·cases e:valZ rows (.inr k) with
   | none=>rfl
   | some z=>exact absurd (b2w hr e) hk
noncomputable def cmR (r s:Rw):Option Rw:=if r.w=s.w/\bef (if s.b > r.b then s.b else r.b) (emin r.e s.e)=true then some ⟨if s.b > r.b then s.b else r.b,emin r.e s.e,r.w⟩ else none
theorem a2g (h:cmR r s=some c):r.w=s.w/\c.w=r.w/\c.good/\r.b≤c.b/\s.b≤c.b/\c.e=emin r.e s.e/\c.b=if s.b > r.b then s.b else r.b:=by
 unfold cmR at h
 by_cases q:r.w=s.w/\bef (if s.b > r.b then s.b else r.b) (emin r.e s.e)=true
 ·rw[if_pos q]at h;injection h with h
  subst h;refine⟨q.1,rfl,q.2,?_,?_,rfl,rfl⟩<;>(simp only;split<;>omega)
 ·simp_all
theorem b2C (h:cmR r s=some c) (t:Int):c.has t=(r.has t&&s.has t):=by
 obtain⟨_,_,_,f,e,a,d⟩:=a2g h;unfold Rw.has;rw[a,a4Z,d]
 by_cases q:s.b > r.b
 ·rw[if_pos q]
  by_cases c1:s.b≤t
  ·simp[c1,show r.b≤t by omega]
  ·simp[c1]
 ·rw[if_neg q]
  by_cases c1:r.b≤t
  ·simp[c1,show s.b≤t by omega]
  ·simp[c1]
theorem c0H (hw:r.w=s.w) (h1:r.has t=true) (h2:s.has t=true):∃ c,cmR r s=some c:=by
 unfold cmR;rw[if_pos]
 ·simp_all
 refine⟨hw,?_⟩;unfold Rw.has at h1 h2;simp at h1 h2
 have:∀ {x:Int}{e:Option Int},x≤t->bef t e=true->bef x e=true:=λ{x e} h q=>by
  cases e with
  | none=>rfl
  | some e=>simp only[bef,decide_eq_true_eq]at *;omega
 refine this (by grind) ?_;rw[a4Z,h1.2,h2.2];rfl
theorem b2D {r:Rw}{x:Option Int}{e:Int}(h:r.e=some e):∃ e',emin r.e x=some e'/\e'≤e:=by rw[h];exact b2g
theorem b0A {x:Option Int}{e:Int}:∃ e',emin x (some e)=some e'/\e'≤e:=by
 cases x with
 | none=>exact⟨e,rfl,fb _⟩
 | some a=>exact⟨_,rfl,by split<;>omega⟩
noncomputable def crs (L M:List Rw):List Rw:=L.flatMap λr=>M.filterMap (cmR r)
theorem mem_crs:c∈crs L M↔∃ r∈L,∃ s∈M,cmR r s=some c:=by
 unfold crs;simp
theorem a8U (hL:Can L) (hM:Can M):Can (crs L M):=by
 refine⟨λc d=>?_,?_⟩
 ·obtain⟨r,_,s,_,h⟩:=mem_crs.mp d;exact (a2g h).2.2.1
 ·unfold crs;rw[gv];refine⟨λr C=>jK.mpr (hM.2.imp λ{s t} h c d A a=>?_),hL.2.imp λ{r D} h c d A a=>?_⟩
  ·obtain⟨e,g,v,f⟩:=h;obtain⟨n,l,_,u,B,b,_⟩:=a2g d;obtain⟨o,j,_,y,q,w,_⟩:=a2g a;obtain⟨i,k,x⟩:=@b0A r.e e;rw[g,k]at b;refine⟨i,b,by omega,λz=>?_⟩;exact λ_=>f (by omega) (by simp_all)
  ·obtain⟨s,_,p⟩:=ft.mp d;obtain⟨t,_,m⟩:=ft.mp a;obtain⟨e,g,v,f⟩:=h;obtain⟨n,l,_,u,B,b,_⟩:=a2g p;obtain⟨o,j,_,y,q,w,_⟩:=a2g m;obtain⟨i,k,x⟩:=@b2D r s.e e g;rw[k]at b;exact⟨i,b,by omega,λz=>by rw[l,j];exact f (by omega)⟩
theorem a64 (h:Rise L) (hr:r∈L) (ht:r.has t=true):val L t=some r.w:=by
 induction L with
 | nil=>simp at hr
 | cons s L ih=>
  rw[a0M];rcases dU.mp hr with rfl | hr
  ·rw[if_pos ht]
  ·cases e:s.has t with
   | false=>rw[if_neg (by decide)];exact ih h.tail hr
   | true=>rw[((et.mp h.2).1 r hr).has e]at ht;cases ht
theorem b6j (hL:Can L) (hM:Can M) (t:Int):val (crs L M) t=if val L t=val M t then val L t else none:=by
 cases e:val _ t with
 | some w=>
  obtain⟨c,a,f,l⟩:=a4Y e;obtain⟨r,b,s,d,h⟩:=mem_crs.mp a;rw[b2C h,fz]at f;obtain⟨n,m,_⟩:=a2g h;rw[a64 hL.rise b f.1,a64 hM.rise d f.2,if_pos (by rw[n]),<- l,m]
 | none=>
  split
  ·next q=>
   cases e1:val L t with
   | none=>rfl
   | some w=>
    rw[e1]at q;obtain⟨r,b,g,j⟩:=a4Y e1;obtain⟨s,d,i,k⟩:=a4Y q.symm;obtain⟨c,a⟩:=c0H (j.trans k.symm) g i;rw[a64 (a8U hL hM).rise (mem_crs.mpr ⟨r,b,s,d,a⟩) (by rw[b2C a,g,i];rfl)]at e;cases e
  ·rfl
theorem b2E (h:Rise L) (hr:r∈L) (hs:s∈L) (h1:r.has t=true) (h2:s.has t=true):r=s:=by
 induction L with
 | nil=>simp at hr
 | cons x L ih=>
  have a:=et.mp h.2;rcases dU.mp hr with e1 | hr<;>rcases dU.mp hs with e2 | hs
  ·simp_all
  ·rw[e1]at h1;rw[(a.1 s hs).has h1]at h2;cases h2
  ·rw[e2]at h2;rw[(a.1 r hr).has h2]at h1;cases h1
  ·exact ih h.tail hr hs
theorem b2F (h:Rise L) (hr:r∈L) (hs:s∈L) (e:r.b=s.b):r=s:=b2E h hr hs (a6R (h.1 r hr)) (by rw[e];exact a6R (h.1 s hs))
theorem a6l (h:Rise L):L.Nodup:=by
 refine e7.imp_of_mem (λ{r s} a c q z=>?_) h.2
 have:=q.b (h.1 r a)
 rw[z]at this;omega
theorem a6m {T:List Tl}{k:Str}{t:Int}:a0E (a0G T k) t=.non\/∃ w,a0E (a0G T k) t=.str w:=by
 unfold a0E;cases e:(a0G T k).reverse.find? _ with
 | none=>exact .inl rfl
 | some r=>
  have:=iy e
  rw[jL]at this;obtain⟨τ,a,rfl⟩:=eq.mp this;unfold Tl.rw Tl.v;cases τ.w with
  | none=>exact .inl rfl
  | some w=>exact .inr ⟨w,rfl⟩
theorem a9N (h:IsLine T k L) (hr:r∈L):∃ w,r.w=[.str w]:=by
 have a:=a64 h.can.rise hr (a6R (h.can.1 r hr));rw[h.v]at a;unfold optW at a
 split at a
 ·cases a
 ·next q=>
  rcases @a6m T k r.b with e | ⟨w,e⟩
  ·exact absurd e q
  ·rw[e]at a;injection a with a;exact⟨w,a.symm⟩
noncomputable def pF (T U:List Tl) (k j:Str) (t:Int):Option (List Z):=if a0E (a0G T k) t=a0E (a0G U j) t then optW (a0E (a0G T k) t) else none
theorem b2G (P:Pts T ms) (Q:Pts U ms) (okT:OkT T) (il:IsLine T k L) (jl:IsLine U j M):crs L M=join (pcs (pF T U k j) ms):=by
 have f:=a5y (a3Y (pF T U k j) P.so);refine b2d (a8U il.can jl.can) f.1 λt=>?_;rw[b6j il.can jl.can,f.2.1,b2i P.so λt b _ d a=>by unfold pF;rw[a6k P k d a,a6k Q j d a],il.v,jl.v];have e:(if optW (a0E (a0G T k) t)=optW (a0E (a0G U j) t) then optW (a0E (a0G T k) t) else none)=pF T U k j t:=by
  unfold pF optW
  by_cases c1:a0E (a0G T k) t=.non<;>by_cases c2:a0E (a0G U j) t=.non<;>simp[c1,c2]
 rw[e]
 split
 ·rfl
 ·next c=>
  unfold pF;rw[b0y okT k (by
   by_cases h:0≤t
   ·exact absurd (gO.mpr ⟨0,P.z,decide_eq_true h⟩) c
   ·omega)]
  split<;>simp[optW]
structure J where
 w:Str
 k:Str
 j:Str
 b:Int
 e:Option Int
noncomputable def J.r (x:J):Rw:=⟨x.b,x.e,[.str x.w]⟩
noncomputable def J.p4 (x:J):List Tim.Pz:=[.inr x.w,.inr x.k,.inr x.j,.inl (some x.b)]
noncomputable def J.p (x:J):List Tim.Pz:=[.inr x.w,.inr x.k,.inr x.j,.inl (some x.b),.inl x.e]
theorem p4_iff {x y:J}:x.p4=y.p4↔x.w=y.w/\x.k=y.k/\x.j=y.j/\x.b=y.b:=by simp[J.p4]
theorem J.ext' {x y:J}(h:x.p4=y.p4) (e:x.e=y.e):x=y:=by
 rw[p4_iff]at h;cases x;simp_all
def Un (X:List J):Prop:=∀ x∈X,∀ y∈X,x.p4=y.p4->x=y
theorem cmp4 (x y:J):Tim.cmpT x.p4 y.p4=true:=by
 unfold J.p4;simp only[Tim.cmpT,Tim.cmp1]
 split
 ·simp_all
 ·rfl
theorem cmp5 {x y:J}(h:x.p4=y.p4->x=y):Tim.cmpT x.p y.p=true:=by
 by_cases c:x=y
 ·subst c;unfold J.p;simp[Tim.cmpT]
 ·have a:=λz=>c (h (p4_iff.mpr z));unfold J.p;simp only[Tim.cmpT,Tim.cmp1]
  split
  ·simp_all
  ·rfl
theorem lt5 {x y:J}(h:x.p4≠y.p4):Tim.ltT x.p y.p=Tim.ltT x.p4 y.p4:=by
 rw[Ne,p4_iff]at h;unfold J.p J.p4;simp only[Tim.ltT]
 split
 ·simp_all
 ·rfl
abbrev Up (x y:J):Prop:=Tim.ltT y.p4 x.p4=false
theorem b6k:∀ {X Y:List J},X.Pairwise Up->Y.Pairwise Up->X.Perm Y->Un X->X=Y
 | [],Y,_,_,h,_=>(jM.mp h).symm
 | x::X,[],_,_,h,_=>by have:=h.length_eq;simp at this
 | x::X,y::Y,h1,h2,h,un=>by
  have e:x=y:=by
   have j:=h.mem_iff.mp (fh);have d:=h.mem_iff.mpr (fh);rcases dU.mp j with e | m1'
   ·omega
   ·rcases dU.mp d with e | m2'
    ·grind
    ·have f:=jN h1 m2';have g:=jN h2 m1';refine un x (.head _) y d ?_
     by_cases c:x.p4=y.p4
     ·omega
     ·rcases Tim.ltT_tot (cmp4 x y) c with q | q
      ·grind
      ·grind
  subst e;rw[b6k (et.mp h1).2 (et.mp h2).2 h.cons_inv λa k b i=>un a (.tail _ k) b (.tail _ i)]
theorem a65 {α β:Type}(f:α->β):∀ {os:List β}{X:List α},os.Perm (X.map f)->∃ Y:List α,os=Y.map f/\Y.Perm X
 | [],X,h=>⟨[],rfl,by have:=jM.mp h;rw[iz.mp this]⟩
 | o::os,X,h=>by
  obtain⟨x,b,rfl⟩:=eq.mp (h.mem_iff.mp (.head _));obtain⟨A,B,rfl⟩:=List.append_of_mem b;have c:os.Perm ((A++B).map f):=by
   have:((A++x::B).map f).Perm _:=(ij).map f
   exact (h.trans this).cons_inv
  obtain⟨Y,rfl,p⟩:=a65 f c;exact⟨x::Y,rfl,(p.cons x).trans ij.symm⟩
def MJ (T U:List Tl) (x:J):Prop:=∃ L M,IsLine T x.k L/\IsLine U x.j M/\x.r∈crs L M
theorem b32 (hx:MJ T U x) (hy:MJ T U y) (h:x.p4=y.p4):x=y:=by
 obtain⟨L,M,e,f,g⟩:=hx;obtain⟨L',M',c,b,d⟩:=hy;have a:=p4_iff.mp h;rw[<- a.2.1]at c;rw[<- a.2.2.1]at b;rw[c.uniq e,b.uniq f]at d
 have:=b2F (a8U e.can f.can).rise g d a.2.2.2
 exact J.ext' h (by injection this)
theorem b2H {X Y:List J}(hX:∀ x,x∈X↔MJ T U x) (hY:∀ x,x∈Y↔MJ T U x) (nX:X.Nodup) (nY:Y.Nodup):X.Perm Y:=(List.perm_ext_iff_of_nodup nX nY).mpr λx=>(hX x).trans (hY x).symm
theorem c0I {X:List J}(hX:∀ x∈X,MJ T U x) (h:(X.map J.p).Pairwise λx y=>Tim.ltT y x=false):X.Pairwise Up:=by
 rw[fD]at h;refine e7.imp_of_mem (λ{x y} b a q=>?_) h
 by_cases c:y.p4=x.p4
 ·show Tim.ltT y.p4 x.p4=false
  rw[c];exact Tim.ltT_irr _
 ·rw[lt5 c]at q;exact q
structure Hd where
 k:Str
 b:Int
 e:Option Int
 w:Str
noncomputable def Hd.r (h:Hd):Rw:=⟨h.b,h.e,[.str h.w]⟩
noncomputable def Hd.z (h:Hd):Z:=.tup [.str h.k,.int h.b,oz h.e]
structure TbH (T:List Tl) (A:List Hd):Prop where
 nd:A.Nodup
 is:∀ h,h∈A↔∃ L,IsLine T h.k L/\h.r∈L
 len:A.length≤2*T.length
theorem b4N (H:TbH T A) (h1:h∈A) (h2:o∈A) (hk:h.k=o.k) (a1:h.r.has t=true) (a2:o.r.has t=true):h=o:=by
 obtain⟨L,a,d⟩:=(H.is h).mp h1;obtain⟨M,c,b⟩:=(H.is o).mp h2;rw[<- hk]at c;rw[c.uniq a]at b
 have:=b2E a.can.rise d b a1 a2
 cases h;unfold Hd.r at this;simp_all
noncomputable def cmH (h o:Hd):Option J:=(cmR h.r o.r).map λc=>⟨h.w,h.k,o.k,c.b,c.e⟩
theorem a1r (e:cmH h o=some x):x.w=h.w/\x.w=o.w/\x.k=h.k/\x.j=o.k/\cmR h.r o.r=some x.r:=by
 unfold cmH at e;cases q:cmR h.r o.r with
 | none=>rw[q]at e;cases e
 | some c=>
  rw[q]at e;injection e with e
  subst e;obtain⟨b,a,_⟩:=a2g q
  have:h.w=o.w:=by unfold Hd.r at b;simpa using b
  refine⟨rfl,this,rfl,rfl,?_⟩;simp only[J.r];have a:_=[Z.str h.w]:=a;rw[<- a]
noncomputable def rwP (ws:List Str) (A B:List Hd):List J:=ws.flatMap λw=>(A.filter λh=>decide (h.w=w)).flatMap λh=>(B.filter λo=>decide (o.w=w)).filterMap (cmH h)
theorem b6l:x∈rwP ws A B↔x.w∈ws/\∃ h∈A,∃ o∈B,cmH h o=some x:=by
 unfold rwP;simp
 constructor
 ·rintro⟨w,c,h,⟨a,d⟩,o,⟨b,o2⟩,e⟩
  have:=(a1r e).1
  exact⟨by rw[this,d];exact c,h,a,o,b,e⟩
 ·rintro⟨c,h,a,o,b,e⟩;have q:=a1r e;exact⟨x.w,c,h,⟨a,q.1.symm⟩,o,⟨b,q.2.1.symm⟩,e⟩
theorem b2I (HA:TbH T A) (HB:TbH U B) (hw:∀ h∈A,h.w∈ws) (x:J):x∈rwP ws A B↔MJ T U x:=by
 rw[b6l]
 constructor
 ·rintro⟨_,h,z,o,t,e⟩;obtain⟨_,_,p,n,m⟩:=a1r e;obtain⟨L,c,q⟩:=(HA.is h).mp z;obtain⟨M,a,C⟩:=(HB.is o).mp t;exact⟨L,M,by rw[p];exact c,by rw[n];exact a,mem_crs.mpr ⟨_,q,_,C,m⟩⟩
 ·rintro⟨L,M,c,a,l⟩;obtain⟨r,y,s,v,e⟩:=mem_crs.mp l;obtain⟨u,f,_⟩:=a2g e;have i:(⟨x.k,r.b,r.e,x.w⟩:Hd).r=r:=by
   have:r.w=[.str x.w]:=f.symm
   cases r;simp only[Hd.r]at this ⊢;rw[this]
  have d:(⟨x.j,s.b,s.e,x.w⟩:Hd).r=s:=by
   have:s.w=[.str x.w]:=u.symm.trans f.symm
   cases s;simp only[Hd.r]at this ⊢;rw[this]
  have g:=(HA.is _).mpr ⟨L,c,by rw[i];exact y⟩;refine⟨hw _ g,_,g,⟨x.j,s.b,s.e,x.w⟩,(HB.is _).mpr ⟨M,a,by rw[d];exact v⟩,?_⟩;unfold cmH;rw[i,d,e];rfl
theorem b2J (HA:TbH T A) (HB:TbH U B) (nd:ws.Nodup):(rwP ws A B).Nodup:=by
 have f:∀ {h o:Hd}{x:J},cmH h o=some x->h.r.has x.b=true/\o.r.has x.b=true:=λ{h o x} e=>by
  have q:=(a1r e).2.2.2.2
  have:=a6R (a2g q).2.2.1
  rw[b2C q,fz]at this;exact this
 refine gv.mpr ⟨λw _=>gv.mpr ⟨λh j=>jK.mpr ?_,?_⟩,nd.imp λ{w u} h x d y c z=>?_⟩
 ·refine e7.imp_of_mem (λ{o l} m i q x d y c z=>?_) (HB.nd.sublist jO);subst z;have t:=a1r d;have k:=a1r c;exact q (b4N HB (fg.mp m).1 (fg.mp i).1 (t.2.2.2.1.symm.trans k.2.2.2.1) (f d).2 (f c).2)
 ·refine e7.imp_of_mem (λ{h v} j g q x d y c z=>?_) (HA.nd.sublist jO);subst z;obtain⟨o,_,d⟩:=ft.mp d;obtain⟨l,_,c⟩:=ft.mp c;exact q (b4N HA (fg.mp j).1 (fg.mp g).1 ((a1r d).2.2.1.symm.trans (a1r c).2.2.1) (f d).1 (f c).1)
 ·subst z;simp at d c;obtain⟨a,⟨_,s⟩,_,_,e⟩:=d;obtain⟨b,⟨_,p⟩,_,_,n⟩:=c;exact h (by rw[<- s,<- p,<- (a1r e).1,<- (a1r n).1])
theorem a8b {α β:Type}{f:α->List β}:∀ {l:List α},(∀ x∈l,(f x).length≤n)->(l.flatMap f).length≤l.length*n
 | [],_=>by simp
 | x::l,h=>by
  have:=a8b λy a=>h y (.tail _ a)
  have:=h x (.head _)
  rw[gR,dO,ej,Nat.add_mul];omega
theorem b2K {α:Type}(p:α->Bool):∀ l:List α,(l.filter p).length+(l.filter λx=>!p x).length=l.length
 | []=>rfl
 | x::l=>by have:=b2K p l;rw[e8,e8];cases p x<;>simp<;>omega
theorem a8V {α:Type}(f:α->Str):∀ {ws:List Str}{l:List α},ws.Nodup->(ws.flatMap λw=>l.filter λh=>decide (f h=w)).length≤l.length
 | [],l,_=>by simp
 | w::ws,l,nd=>by
  obtain⟨g,a⟩:=eQ.mp nd;have d:=a8V f (l:=l.filter λh=>!decide (f h=w)) a;have e:(ws.flatMap λv=>(l.filter λh=>!decide (f h=w)).filter λh=>decide (f h=v))=ws.flatMap λv=>l.filter λh=>decide (f h=v):=by
   unfold List.flatMap
   congr 1
   refine List.map_congr_left λv b=>?_;rw[List.filter_filter];refine List.filter_congr λh _=>?_
   by_cases c:f h=v
   ·simp[c];exact λz=>g (z▸b)
   ·simp[c]
  rw[e]at d
  have:=b2K (λh=>decide (f h=w)) l
  rw[gR,dO];omega
theorem b6m (nd:ws.Nodup):(rwP ws A B).length≤A.length*B.length:=by
 have:(rwP ws A B).length≤(ws.flatMap λw=>A.filter λh=>decide (h.w=w)).length*B.length:=by
  unfold rwP;clear nd
  induction ws with
  | nil=>simp
  | cons w ws ih=>
   simp only[gR,dO];rw[Nat.add_mul];exact Nat.add_le_add (a8b λh _=>dW (fO _ _) (gT _ _)) ih
 exact dW this (gx (a8V Hd.w nd) (dM _))
theorem a66 (k:Str):∀ {n:Nat}{T:List Tl},T.length=n->OkT T->∃ L,IsLine T k L/\L.length≤2*(a0G T k).length
 | 0,T,h,_=>⟨[],by rw[fP.mp h];exact IsLine.nil rfl,by simp⟩
 | n+1,T,h,ok=>by
  obtain⟨U,τ,rfl⟩:∃ U τ,T=U++[τ]:=⟨T.dropLast,T.getLast (λz=>by rw[z]at h;cases h),(jJ _).symm⟩;obtain⟨L,a,d⟩:=a66 k (by simpa using h) fun σ f=>ok σ (eJ _ f);have b:=ok τ (by simp)
  by_cases c:τ.key=k
  ·subst c;refine⟨_,a.snoc b,?_⟩
   have:=(a9B (w:=optW τ.v) a.can.rise b.st.bef).2.2
   rw[a2n,if_pos rfl,dO];simp;omega
  ·have e:a0G (U++[τ]) k=a0G U k:=by rw[a2n,if_neg c,eO]
   refine⟨L,⟨a.can,a.pl,by have:=a.len;simp;omega,λt=>?_⟩,by rw[e];exact d⟩;rw[e];exact a.v t
theorem b33 {ts:List Str}(nd:ts.Nodup):(ts.flatMap λk=>a0G T k).length≤T.length:=by
 have:=a8V Tl.key (l:=T) nd
 unfold a0G;simpa using this
noncomputable def getW (d:Str):List Z->Str
 | [.str s]=>s
 | _=>d
noncomputable def hdOf (k:Str) (r:Rw):Hd:=⟨k,r.b,r.e,getW k r.w⟩
theorem b4O {k:Str}{r:Rw}{w:Str}(h:r.w=[.str w]):hdOf k r=⟨k,r.b,r.e,w⟩/\(hdOf k r).r=r:=by
 cases r;subst h;exact⟨rfl,rfl⟩
theorem b86 {α β γ:Type}{f:α->List β}{g:α->List γ}(h:∀ x,(f x).length≤2*(g x).length):∀ l:List α,(l.flatMap f).length≤2*(l.flatMap g).length
 | []=>by simp
 | x::l=>by
  have:=b86 h l
  have:=h x
  rw[gR,gR,dO,dO];omega
theorem b87 {Lf:Str->List Rw}(ka:KeysAt T ts) (hL:∀ k,IsLine T k (Lf k)/\(Lf k).length≤2*(a0G T k).length):TbH T (ts.flatMap λk=>(Lf k).map (hdOf k)):=by
 refine⟨gv.mpr ⟨λk _=>?_,ka.nd.imp λ{k m} h x f y i z=>?_⟩,λh=>?_,?_⟩
 ·have c:=(hL k).1.can.rise;refine fD.mpr (e7.imp_of_mem (λ{r s} a j q z=>q ?_) (a6l c));exact b2F c a j (congrArg Hd.b z)
 ·obtain⟨_,_,rfl⟩:=eq.mp f;obtain⟨_,_,rfl⟩:=eq.mp i;exact h (congrArg Hd.k z)
 ·simp
  constructor
  ·rintro⟨k,_,r,a,rfl⟩;obtain⟨w,l⟩:=a9N (hL k).1 a;exact⟨Lf k,(hL k).1,by rw[(b4O l).2];exact a⟩
  ·rintro⟨L,d,a⟩;have e:=d.uniq (hL h.k).1;rw[e]at a;refine⟨h.k,(ka.is h.k).mpr ⟨_,(hL h.k).1,λz=>by rw[z]at a;simp at a⟩,h.r,a,?_⟩
   rfl
 ·refine dW (b86 (λk=>?_) ts) (gx (dM 2) (b33 ka.nd));rw[dJ];exact (hL k).2
noncomputable def jOf (k j:Str) (r:Rw):J:=⟨getW k r.w,k,j,r.b,r.e⟩
noncomputable def rwKJ (T U:List Tl) (ms:List Int) (k j:Str):List J:=(join (pcs (pF T U k j) ms)).map (jOf k j)
noncomputable def rwL (T U:List Tl) (ms:List Int) (kn:List Str):List J:=kn.flatMap λk=>kn.flatMap λj=>rwKJ T U ms k j
theorem b34 (so:ms.Pairwise (·<·)) (h:r∈join (pcs (pF T U k j) ms)):∃ w,r.w=[.str w]:=by
 obtain⟨d,f,c⟩:=(a5y (a3Y _ so)).2.2.2 r h;have a:=(a6U f).2;unfold pF at a
 split at a
 ·unfold optW at a
  split at a
  ·cases a
  ·next q=>
   rcases @a6m T k d.b with e | ⟨w,e⟩
   ·exact absurd e q
   ·rw[e]at a;injection a with a;exact⟨w,c.trans a.symm⟩
 ·cases a
theorem b6n {k j:Str}{r:Rw}{w:Str}(h:r.w=[.str w]):jOf k j r=⟨w,k,j,r.b,r.e⟩/\(jOf k j r).r=r:=by
 cases r;subst h;exact⟨rfl,rfl⟩
theorem b88 {kn:List Str}(hk:∀ τ∈T,τ.key∈kn) (il:IsLine T k L) (hr:r∈L):k∈kn:=by
 by_cases c:∃ τ∈T,τ.key=k
 ·obtain⟨τ,a,d⟩:=c;rw[<- d];exact hk τ a
 ·have:a0G T k=[]:=by
   unfold a0G;rw[iz,gQ];intro τ b;simpa using λz=>c ⟨τ,b,z⟩
  rw[il.uniq (IsLine.nil this)]at hr;simp at hr
theorem b89 (P:Pts T ms) (Q:Pts U ms) (okT:OkT T) (okU:OkT U) (kT:∀ τ∈T,τ.key∈kn) (kU:∀ τ∈U,τ.key∈kn) (x:J):x∈rwL T U ms kn↔MJ T U x:=by
 unfold rwL rwKJ;simp
 constructor
 ·rintro⟨k,_,j,_,r,c,rfl⟩;obtain⟨w,g⟩:=b34 P.so c;obtain⟨L,b⟩:=a8T k rfl okT;obtain⟨M,a⟩:=a8T j rfl okU;rw[<- b2G P Q okT b a]at c;exact⟨L,M,b,a,by rw[(b6n g).2];exact c⟩
 ·rintro⟨L,M,b,a,d⟩;obtain⟨r,c,s,f,e⟩:=mem_crs.mp d;refine⟨x.k,b88 kT b c,x.j,b88 kU a f,x.r,by rw[<- b2G P Q okT b a];exact d,?_⟩
  rfl
theorem b2L (so:ms.Pairwise (·<·)) (nd:kn.Nodup):(rwL T U ms kn).Nodup:=by
 have d:∀ {k j:Str}{x:J},x∈rwKJ T U ms k j->x.k=k/\x.j=j:=λ{k j x} h=>by
  obtain⟨r,_,rfl⟩:=eq.mp h;exact⟨rfl,rfl⟩
 refine gv.mpr ⟨λk _=>gv.mpr ⟨λj _=>?_,nd.imp λ{j g} h x c y a z=>?_⟩,nd.imp λ{k l} h x c y a z=>?_⟩
 ·unfold rwKJ;have e:=(a5y (a3Y (pF T U k j) so)).1.rise;refine fD.mpr (e7.imp_of_mem (λ{r s} i f q z=>q ?_) (a6l e));exact b2F e i f (congrArg J.b z)
 ·exact h ((d c).2.symm.trans (by rw[z];exact (d a).2))
 ·obtain⟨j,_,c⟩:=iA.mp c;obtain⟨g,_,a⟩:=iA.mp a;exact h ((d c).1.symm.trans (by rw[z];exact (d a).1))
theorem b2M:∀ {rows:List J},rows.Nodup->(∀ y∈rows,y.p4=x.p4->y=x)->x∈rows->(rows.filter λy=>decide (y.p4=x.p4))=[x]
 | [],_,_,h=>by simp at h
 | y::rows,nd,un,h=>by
  obtain⟨b,c⟩:=eQ.mp nd;rw[e8];rcases dU.mp h with rfl | h
  ·rw[if_pos (by simp),gQ.mpr λz a=>?_];intro q;exact b (un z (.tail _ a) (by simpa using q)▸a)
  ·rw[if_neg (by simp;exact λz=>b (un y (.head _) z▸h))];exact b2M c (λz a=>un z (.tail _ a)) h
def a5D:P3:=λws G R=>Ex4 λ(b b':Int) (e e':Option Int)=>ws=[.tup [.int b,oz e],.tup [.int b',oz e']]/\R (if bef (if b' > b then b' else b) (emin e e')=true then .tup [.int (if b' > b then b' else b),oz (emin e e')] else .non) G
theorem a8c (h:a5D ws G R):ws.length=2:=by obtain⟨_,_,_,_,rfl,_⟩:=h;rfl
theorem a8W (F:Fns K a) (T:Txt K mg a):FnOk P w K mg base CX0 2 a.f4 a.d4 ["one","other"] (lowP K a5D):=by
 have G_p_earlier_end:=a2R (P:=P) (w:=w) (base:=base) F T;refine fn3 F.n4 sc_p_common (λws G R h=>(by exact a8c h)) (λcdv A outer s H E ws G R hr h=>?_);have hu:=a01 hr;refine⟨_,(a0k (z_set (i:=2) sc_p_common.nd rfl (dL rfl) (a0C (b_max rfl) rfl T.b_max rfl (a0b (q_ix x_ix (a0c (pv 0)) a0g (λ_ _=>rfl)) (a0b (q_ix x_ix (a0c (pv 1)) a0g (λ_ _=>rfl)) a0h a0d) a0d) (he:=a0d) (hpl:=(a0j a0d a0l))))
  (a0k (z_set (i:=3) sc_p_common.nd rfl (dL rfl) (a0s G_p_earlier_end (hr.mono (by decide)) rfl T.m3 F.n3.kp (a2P F) (a0b (q_ix x_ix (a0c (pv 0)) a0g (λ_ _=>rfl)) (a0b (q_ix x_ix (a0c (pv 1)) a0g (λ_ _=>rfl)) a0h a0d) a0d) (he:=a0d) (hpl:=(a0j a0d a0l))))
  (a0k (z_if (QW.qt (a7o (a0z a4f (a0c (pv 3)) a2v (a0u _)) (a5Y (a0z o_le (a0c (pv 3)) (a0c (pv 2)) (a0u _)))))
  (a0n (a0H a2v))
  a06)
  (a0n (a0H (a1L (a0b (a0c (pv 2)) (a0b (a0c (pv 3)) a0h a0a) a0a))))))),?_⟩
 obtain⟨b,b',e,e',rfl,q⟩:=h;walk_at "go";refine⟨e,e',rfl,?_⟩;generalize (if b' > b then b' else b)=m at q ⊢;walk_at "go";cases he:emin e e' with
 | none=>
  rw[he,if_pos (show bef m none=true from rfl)]at q;walk_at "go";refine⟨lenK rfl,?_⟩;exact q
 | some x=>
  rw[he]at q;walk_at "go";refine ifD (λc=>?_) λc=>?_
  ·walk_at "go";rw[if_neg (by simp[bef];omega)]at q;exact q
  ·walk_at "go";refine⟨lenK rfl,?_⟩;rw[if_pos (by simp[bef];omega)]at q;exact q
noncomputable def J.z4 (x:J):Z:=.tup [.str x.k,.str x.j,.int x.b,oz x.e]
theorem b9a (e:h.w=o.w):cmH h o=if bef (if o.b > h.b then o.b else h.b) (emin h.e o.e)=true then some ⟨h.w,h.k,o.k,if o.b > h.b then o.b else h.b,emin h.e o.e⟩ else none:=by
 unfold cmH cmR
 by_cases c:bef (if o.b > h.b then o.b else h.b) (emin h.e o.e)=true
 ·rw[if_pos c,if_pos ⟨by unfold Hd.r;rw[e],c⟩];rfl
 ·rw[if_neg c,if_neg (λz=>c z.2)];rfl
def a2p:P3:=λws G R=>Ex5 λ(p r:Addr) (A B:List Hd) (w:Str)=>ws=[.ref p,.ref r]/\G p=some (.lst (A.map Hd.z))/\G r=some (.lst (B.map Hd.z))/\(∀ h∈A,h.w=w)/\(∀ o∈B,o.w=w)/\A.length≤126/\B.length≤126/\∀ t G',G t=none->Sm G G'->G' t=some (.lst ((A.flatMap λh=>B.filterMap (cmH h)).map J.z4))->R (.ref t) G'
theorem a35 (h:a2p ws G R):ws.length=2:=by obtain⟨_,_,_,_,_,rfl,_⟩:=h;rfl
theorem a4w (F:Fns K a) (T:Txt K mg a):FnOk P w K mg base CX0 3 a.f17 a.d17 ["holders","other_holders"] (lowP K a2p):=by
 have G_p_common:=a8W (P:=P) (w:=w) (base:=base) F T;refine fn3 F.n17 sc_p_held_by_both (λws G R h=>(by exact a35 h)) (λcdv A outer s H E ws G R hr h=>?_);have hu:=a01 hr;refine⟨_,(a0k (z_set (i:=2) sc_p_held_by_both.nd rfl (dL rfl) (a1d a0h))
  (a0k (a2x (pt:=(.tp [3,4,5])) j9.never rfl (a0O (a0c (pv 0))) (show QP _ _ (.tp [3,4,5]) from (a3G rfl (a0y (a0m (i:=3) sc_p_held_by_both.nd rfl (dL rfl)) (a0y (a0m (i:=4) sc_p_held_by_both.nd rfl (dL rfl)) (a0y (a0m (i:=5) sc_p_held_by_both.nd rfl (dL rfl)) a2q)))))
  (a0n (a2x (pt:=(.tp [6,7,8])) j9.never rfl (a0O (a0c (pv 1))) (show QP _ _ (.tp [6,7,8]) from (a3G rfl (a0y (a0m (i:=6) sc_p_held_by_both.nd rfl (dL rfl)) (a0y (a0m (i:=7) sc_p_held_by_both.nd rfl (dL rfl)) (a0y (a0m (i:=8) sc_p_held_by_both.nd rfl (dL rfl)) a2q)))))
  (a0k (z_set (i:=9) sc_p_held_by_both.nd rfl (dL rfl) (a0s G_p_common (hr.mono (by decide)) rfl T.m4 F.n4.kp (a8G F) (a0b (a1L (a0b (a0c (pv 4)) (a0b (a0c (pv 5)) a0h a0a) a0a)) (a0b (a1L (a0b (a0c (pv 7)) (a0b (a0c (pv 8)) a0h a0a) a0a)) a0h a1h) a1h) (he:=a1h) (hpl:=(a0j a1h a0l))))
  (a0n (z_if (a0z a4f (a0c (pv 9)) a2v (a0u _))
  (a0n (a05 (q_bm PySem.F.plainAttrs_list PySem.F.slot_list_append PySem.F.type_list_append a1j (a0c (pv 2)) (a0b (q_op a0S (a1L (a0b (a0c (pv 3)) (a0b (a0c (pv 6)) a0h a0a) a0a)) (a0c (pv 9))) a0h a0t))))
  a06))))))
  (a0n (a0H (a0c (pv 2)))))),?_⟩
 obtain⟨p,r,A,B,w,rfl,gp,gr,hA,hB,lA,lB,q⟩:=h;walk_at "go";refine⟨lenK rfl,λW hW=>?_⟩;have gW:put G W (.lst []) W=some (.lst []):=a0e;have s1:Sm G (put G W (.lst [])):=Sm.new hW;have npW:p≠W:=a0p gp hW;have nrW:r≠W:=a0p gr hW;generalize put G W (.lst [])=G1 at gW s1 ⊢;have gp1:=s1 _ _ gp;have gr1:=s1 _ _ gr;walk_at "go";refine a1W gp1 ?_;refine a08 (λi σ G'=>Ex7 λ(v1 v2 v3 v4 v5 v6 v7:Option Z)=>Kq W G1 G'/\G' W=some (.lst (((A.take i).flatMap λh=>B.filterMap (cmH h)).map J.z4))/\σ=[some (.ref p),some (.ref r),some (.ref W),v1,v2,v3,v4,v5,v6,v7]) ⟨_,_,_,_,_,_,_,λ_ _ e _=>e,gW,rfl⟩ (by rintro i σ G' _ ⟨_,_,_,_,_,_,_,k,_⟩;exact k _ _ gp1 npW) ?_ ?_
 ·rintro i x σ G2 hx ⟨v1,v2,v3,v4,v5,v6,v7,kq,gW2,rfl⟩;rw[dQ]at hx;cases hx':A[i]? with
  | none=>rw[hx']at hx;cases hx
  | some h=>
  rw[hx']at hx;cases hx;have hi:=(dX.mp hx').1;have hw:=hA h (er hx');have len2:((A.take i).flatMap λh=>B.filterMap (cmH h)).length≤126*126:=dW (a8b (n:=126) λh _=>dW (fO _ _) lB) (gx (by rw[dY];omega) (dM _));have tk:((A.take (i+1)).flatMap λh=>B.filterMap (cmH h))=((A.take i).flatMap λh=>B.filterMap (cmH h))++B.filterMap (cmH h):=by rw[take_snoc hx',gU];simp
  generalize ((A.take i).flatMap λh=>B.filterMap (cmH h))=P0 at gW2 len2 tk;refine⟨_,rfl,?_⟩;walk_at "go";refine a1W (kq _ _ gr1 nrW) ?_;refine a08 (λj σ G'=>Ex4 λ(v4 v5 v6 v7:Option Z)=>Kq W G1 G'/\G' W=some (.lst ((P0++(B.take j).filterMap (cmH h)).map J.z4))/\σ=[some (.ref p),some (.ref r),some (.ref W),some (.str h.k),some (.int h.b),some (oz h.e),v4,v5,v6,v7]) ⟨_,_,_,_,kq,by simpa using gW2,rfl⟩ (by rintro i σ G' _ ⟨_,_,_,_,k,_⟩;exact k _ _ gr1 nrW) ?_ ?_
  ·rintro j x σ G3 hx ⟨v4,v5,v6,v7,kq3,gW3,rfl⟩;rw[dQ]at hx;cases ho':B[j]? with
   | none=>rw[ho']at hx;cases hx
   | some o=>
   rw[ho']at hx;cases hx;have hj:=(dX.mp ho').1;have e:=b9a (hw.trans (hB o (er ho')).symm);have lp:(P0++(B.take j).filterMap (cmH h)).length≤126*126+126:=by
    rw[dO]
    have:=fO (cmH h) (B.take j)
    rw[dY]at this;omega
   have tk2:P0++(B.take (j+1)).filterMap (cmH h)=(P0++(B.take j).filterMap (cmH h))++[o].filterMap (cmH h):=by rw[take_snoc ho',je,eD]
   generalize P0++(B.take j).filterMap (cmH h)=P1 at gW3 lp tk2;refine⟨_,rfl,?_⟩;walk_at "go";refine⟨lenK rfl,?_⟩;walk_at "go";refine⟨lenK rfl,?_⟩;refine⟨h.b,o.b,h.e,o.e,rfl,?_⟩
   by_cases c:bef (if o.b > h.b then o.b else h.b) (emin h.e o.e)=true
   ·rw[if_pos c]at e ⊢;walk_at "go";refine a2l gW3 ?_;walk_at "go";refine⟨lenK rfl,?_⟩;walk_at "go";refine b1E (by simp) (a17 (by simp)) ?_;walk_at "go";refine a0Y gW3 (by rw[dJ];exact eA (by omega:_<40000) (by decide)) ?_;refine⟨_,_,_,_,λb o e1 nb=>by rw[a0o nb];exact kq3 b o e1 nb,?_,rfl⟩;rw[a0e,tk2];simp[e,J.z4]
   ·rw[if_neg c]at e ⊢;walk_at "go";refine⟨_,_,_,_,kq3,?_,rfl⟩;rw[tk2,gW3];simp[e]
  ·rintro σ G3 ⟨v4,v5,v6,v7,kq3,gW3,rfl⟩;rw[dJ,eE,<- tk]at gW3;walk_at "go";exact⟨_,_,_,_,_,_,_,kq3,gW3,rfl⟩
 ·rintro σ G2 ⟨v1,v2,v3,v4,v5,v6,v7,kq,gW2,rfl⟩;rw[dJ,eE]at gW2;walk_at "go";exact q W G2 hW (λb o e=>kq b o (s1 _ _ e) (a0p e hW)) gW2
structure HolD (B0 G:Hq) (d:Addr) (A:List Hd) (vs:List Str) (hkv:List (Key×Z)):Prop where
 at_:G d=some (.dK hkv)
 ks:hkv.map (·.1)=vs.map λs=>(Sum.inr s:Key)
 nd:vs.Nodup
 ln:∀ w∈vs,∃ l,valZ hkv (.inr w)=some (.ref l)/\G l=some (.lst ((A.filter λh=>decide (h.w=w)).map Hd.z))/\B0 l=none
 no:∀ w,w∉vs->valZ hkv (.inr w)=none
 al:∀ h∈A,h.w∈vs
 inj:∀ w v l,valZ hkv (.inr w)=some (.ref l)->valZ hkv (.inr v)=some (.ref l)->w=v
 sm:Sm B0 G
 fr:B0 d=none
theorem HolD.keep (H:HolD B0 G d A vs hkv) (s:Sm G G'):HolD B0 G' d A vs hkv:=
 ⟨s _ _ H.at_,H.ks,H.nd,λw e=>let ⟨l,a,b,c⟩:=H.ln w e;⟨l,a,s _ _ b,c⟩,H.no,H.al,H.inj,H.sm.trans s,H.fr⟩
theorem HolD.len (H:HolD B0 G d A vs hkv):hkv.length=vs.length:=by have:=congrArg eF H.ks;simpa using this
theorem HolD.old (H:HolD B0 G d A vs hkv) (hw:h.w∈vs) (hl:valZ hkv (.inr h.w)=some (.ref l)) (s:Sm G Gx):HolD B0 (put Gx l (.lst ((A.filter λx=>decide (x.w=h.w)).map Hd.z++[h.z]))) d (A++[h]) vs hkv:=by
 obtain⟨r,i,n,j⟩:=H.ln h.w hw;rw[hl]at i;cases i;have g:d≠l:=λz=>by have:=H.at_;rw[z,n]at this;cases this
 refine⟨by rw[a0o g];exact s _ _ H.at_,H.ks,H.nd,λw k=>?_,H.no,λx a=>?_,H.inj,λb o e=>?_,H.fr⟩
 ·obtain⟨m,f,q,p⟩:=H.ln w k
  by_cases c:w=h.w
  ·subst c;rw[hl]at f;refine⟨l,hl,?_,j⟩;rw[a0e,gY];simp
  ·refine⟨m,f,?_,p⟩;rw[a0o λz=>c (H.inj w h.w l (by grind) hl),gY,e8,if_neg (by simpa using λz=>c z.symm)];simpa using s _ _ q
 ·rcases dN.mp a with a | a
  ·exact H.al x a
  ·simp_all
 ·rw[a0o λz=>by rw[z,j]at e;cases e];exact s _ _ (H.sm _ _ e)
theorem HolD.new (H:HolD B0 G d A vs hkv) (hw:h.w∉vs) (ht:G t=none):HolD B0 (put (put (put G t (.lst [])) d (.dK (putZ hkv (.inr h.w) (.ref t)))) t (.lst [h.z])) d (A++[h]) (vs++[h.w]) (putZ hkv (.inr h.w) (.ref t)):=by
 have s:=a0p H.at_ ht;have E:=H.no h.w hw;have r:=H.sm.free ht;have p:∀ b o,b≠d->G b=some o->put (put (put G t (.lst [])) d (.dK (putZ hkv (.inr h.w) (.ref t)))) t (.lst [h.z]) b=some o:=λb o F e=>by
  have m:=a0p e ht;rw[a0o m,a0o F,a0o m];exact e
 have m:∀ w l,valZ hkv (.inr w)=some (.ref l)->l≠t:=λw l e z=>by
  by_cases c:w∈vs
  ·obtain⟨u,n,k,_⟩:=H.ln w c;rw[e]at n;cases n;rw[z,ht]at k;cases k
  ·rw[H.no w c]at e;cases e
 refine⟨by rw[a0o s,a0e],by rw[a8O E,dS,H.ks,dS];rfl,?_,λw i=>?_,λw i=>?_,λx j=>?_,λw v l g f=>?_,λb o e=>?_,H.fr⟩
 ·rw[gq];exact⟨H.nd,by simp,λa D b B z=>hw (by simp_all)⟩
 ·by_cases c:w=h.w
  ·subst c;refine⟨t,by rw[a2M,if_pos rfl],?_,r⟩;rw[a0e,gY,gQ.mpr λx j=>by simpa using λz:x.w=h.w=>hw (by rw[<- z];exact H.al x j)];simp
  ·have y:w∈vs:=by
    rcases dN.mp i with q | q
    ·exact q
    ·simp_all
   obtain⟨u,n,k,C⟩:=H.ln w y;refine⟨u,by rw[a2M,if_neg (λz=>c (by injection z))];exact n,?_,C⟩;rw[p _ _ (λz=>by rw[z,H.at_]at k;cases k) k,gY,e8,if_neg (by simpa using λz=>c z.symm)];simp
 ·rw[dN,not_or]at i;rw[a2M,if_neg (λz=>i.2 (by injection z with z;simp[z]))];exact H.no w i.1
 ·rcases dN.mp j with j | j
  ·exact eJ _ (H.al x j)
  ·rw[dP.mp j];simp
 ·rw[a2M]at g f
  split at g<;>split at f
  ·grind
  ·injection g with g;injection g with g;exact absurd g.symm (m _ _ f)
  ·injection f with f;injection f with f;exact absurd f.symm (m _ _ g)
  ·exact H.inj _ _ _ g f
 ·exact p _ _ (λz=>by rw[z,H.fr]at e;cases e) (H.sm _ _ e)
def a29:P3:=λws G R=>Ex4 λ(d:Addr) (T:List Tl) (ts:List Str) (kvs:List (Key×Z))=>ws=[.ref d]/\TabD G d T ts kvs/\OkT T/\T.length≤63/\ts.length≤63/\∀ (t:Addr) (A:List Hd) (vs:List Str) (hkv:List (Key×Z)) (G':Hq),G t=none->HolD (put G d (.dF kvs)) G' t A vs hkv->TbH T A->R (.ref t) G'
theorem a4S (h:a29 ws G R):ws.length=1:=by obtain⟨_,_,_,_,rfl,_⟩:=h;rfl
theorem b6o {vs:List Str}{A:List Hd}(nd:vs.Nodup) (h:∀ w∈vs,∃ x∈A,x.w=w):vs.length≤A.length:=by
 have:=b2B nd λw a=>by
  obtain⟨x,b,c⟩:=h w a;exact eq.mpr ⟨x,b,c⟩
 simpa using this
theorem a5E (F:Fns K a) (T:Txt K mg a):FnOk P w K mg base CX0 1 a.f16 a.d16 ["table"] (lowP K a29):=by
 refine fn3 F.n16 sc_p_holders_in (λws G R h=>(by exact a4S h)) (λcdv A outer s H E ws G R hr h=>?_);have hu:=a01 hr;refine⟨_,(a0k (z_set (i:=1) sc_p_holders_in.nd rfl (dL rfl) b4p)
  (a0k (a2x (pt:=(.nm 2)) j9.never rfl (a8B (a0c (pv 0))) (show QP _ _ (.nm 2) from (a0m (i:=2) sc_p_holders_in.nd rfl (dL rfl)))
  (a0n (a2x (pt:=(.tp [3,4,5])) j9.never rfl (a0O (q_ix b4F (a0c (pv 0)) (a0c (pv 2)) (λ_ _=>rfl))) (show QP _ _ (.tp [3,4,5]) from (a3G rfl (a0y (a0m (i:=3) sc_p_holders_in.nd rfl (dL rfl)) (a0y (a0m (i:=4) sc_p_holders_in.nd rfl (dL rfl)) (a0y (a0m (i:=5) sc_p_holders_in.nd rfl (dL rfl)) a2q)))))
  (a0n (a05 (q_bm PySem.F.plainAttrs_list PySem.F.slot_list_append PySem.F.type_list_append a1j (q_bm PySem.F.plainAttrs_dict PySem.F.slot_dict_setdefault PySem.F.type_dict_setdefault a4A (a0c (pv 1)) (a0b (a0c (pv 5)) (a0b (a1d a0h) a0h a0W) a0a)) (a0b (a1L (a0b (a0c (pv 2)) (a0b (a0c (pv 3)) (a0b (a0c (pv 4)) a0h a0a) a0a) a0a)) a0h a1h)))))))
  (a0n (a0H (a0c (pv 1)))))),?_⟩
 obtain⟨d,T',ts,kvs,rfl,tab,okT,lT,lts,q⟩:=h;obtain⟨Lf,hL⟩:∃ Lf:Str->List Rw,∀ k,IsLine T' k (Lf k)/\(Lf k).length≤2*(a0G T' k).length:=⟨λk=>(a66 k rfl okT).choose,λk=>(a66 k rfl okT).choose_spec⟩;have tb:=b87 tab.ka hL;have tbl:=tb.len;walk_at "go";intro D hD;refine⟨_,rfl,?_⟩;have ndD:d≠D:=a0p tab.at_ hD;walk_at "go";refine b5V (.inl (a0q tab.at_ hD)) ?_;have H0:HolD (put G d (.dF kvs)) (put (put G D (.dK [])) d (.dF kvs)) D [] [] []:=by
  refine⟨by rw[a0o (Ne.symm ndD),a0e],rfl,.nil,(λw h=>by simp at h),λ_ _=>rfl,(λh hh=>by simp at hh),(λw v l e=>by cases e),λb o e=>?_,by rw[a0o (Ne.symm ndD)];exact hD⟩
  by_cases c:b=d
  ·subst c;rw[a0e]at e ⊢;exact e
  ·rw[a0o c]at e ⊢;exact a0q e hD
 have gB:put G d (.dF kvs) d=some (.dF kvs):=a0e;have lnB:∀ k∈ts,∃ l,valZ kvs (.inr k)=some (.ref l)/\put G d (.dF kvs) l=some (.lst ((Lf k).map Rw.z)):=λk hk=>by
  obtain⟨l,L,e1,e2,e3⟩:=tab.ln k hk;refine⟨l,e1,?_⟩;rw[a0o (λz=>by rw[z,tab.at_]at e2;cases e2),e2,e3.uniq (hL k).1]
 have ek:(kvs.map λp=>keyW p.1)=ts.map Z.str:=by
  have:=congrArg (List.map keyW) tab.ks
  simpa[fK,Function.comp_def,keyW]using this
 have q:=λt A vs hkv G' h1 h2 h3=>q t A vs hkv G' h1 h2 h3;generalize put G d (.dF kvs)=B0 at H0 gB lnB q;generalize put (put G D (.dK [])) d (.dF kvs)=G1 at H0 ⊢;rw[ek];refine a08 (λi σ G'=>Ex6 λ(vs:List Str) (hkv:List (Key×Z)) (v1 v2 v3 v4:Option Z)=>HolD B0 G' D ((ts.take i).flatMap λk=>(Lf k).map (hdOf k)) vs hkv/\(∀ w∈vs,∃ x∈(ts.take i).flatMap (λk=>(Lf k).map (hdOf k)),x.w=w)/\σ=[some (.ref d),some (.ref D),v1,v2,v3,v4]) ⟨_,_,_,_,_,_,H0,(λw h=>by simp at h),rfl⟩ (λ_ _ _ _ _=>True.intro) ?_ ?_
 ·rintro i x σ G2 hx ⟨vs,hkv,v1,v2,v3,v4,H,hvs,rfl⟩;rw[dQ]at hx;cases hx':ts[i]? with
  | none=>rw[hx']at hx;cases hx
  | some k=>
  rw[hx']at hx;cases hx;have hi:=(dX.mp hx').1;obtain⟨l,hv,gl⟩:=lnB k (er hx');have tk:((ts.take (i+1)).flatMap λk=>(Lf k).map (hdOf k))=((ts.take i).flatMap λk=>(Lf k).map (hdOf k))++(Lf k).map (hdOf k):=by rw[take_snoc hx',gU];simp
  have l1:((ts.take i).flatMap λk=>(Lf k).map (hdOf k)).length≤126:=by
   have e:ts=ts.take i++ts.drop i:=(gj i ts).symm;rw[e,gU,dO]at tbl;omega
  have l2:(Lf k).length≤126:=by have:=(hL k).1.len;omega
  generalize ((ts.take i).flatMap λk=>(Lf k).map (hdOf k))=A0 at H hvs tk l1;refine⟨_,rfl,?_⟩;walk_at "go";refine b4G (.inr (H.sm _ _ gB)) rfl hv ?_;walk_at "go";refine a1W (H.sm _ _ gl) ?_;refine a08 (λj σ G'=>Ex5 λ(vs:List Str) (hkv:List (Key×Z)) (v2 v3 v4:Option Z)=>HolD B0 G' D (A0++((Lf k).take j).map (hdOf k)) vs hkv/\(∀ w∈vs,∃ x∈A0++((Lf k).take j).map (hdOf k),x.w=w)/\σ=[some (.ref d),some (.ref D),some (.str k),v2,v3,v4]) ⟨_,_,_,_,_,by simpa using H,by simpa using hvs,rfl⟩ (by rintro i σ G' _ ⟨_,_,_,_,_,K,_⟩;exact K.sm _ _ gl) ?_ ?_
  ·rintro j x σ G3 hx ⟨vs,hkv,v2,v3,v4,H,hvs,rfl⟩;rw[dQ]at hx;cases hr':(Lf k)[j]? with
   | none=>rw[hr']at hx;cases hx
   | some r=>
   rw[hr']at hx;cases hx;have hj:=(dX.mp hr').1;obtain⟨w,hw⟩:=a9N (hL k).1 (er hr');have hz:r.z=.tup [.int r.b,oz r.e,.str w]:=by unfold Rw.z;rw[hw]
   have eh:hdOf k r=⟨k,r.b,r.e,w⟩:=(b4O hw).1;have tk2:A0++((Lf k).take (j+1)).map (hdOf k)=(A0++((Lf k).take j).map (hdOf k))++[⟨k,r.b,r.e,w⟩]:=by rw[take_snoc hr',dS,<- eh];simp
   have l3:(A0++((Lf k).take j).map (hdOf k)).length≤252:=by rw[dO,dJ,dY];omega
   generalize A0++((Lf k).take j).map (hdOf k)=A1 at H hvs tk2 l3;have lv:=b6o H.nd hvs;have lh:=H.len;rw[hz];refine⟨_,rfl,?_⟩;walk_at "go";refine b5R H.at_ ?_;walk_at "go";refine⟨lenK rfl,λt0 ht0=>?_⟩;walk_at "go";refine b4z (a0q H.at_ ht0) rfl (a0r (by omega)) (λz hz=>?_) λhz=>?_
   ·have hwv:w∈vs:=by
     by_cases c:w∈vs
     ·exact c
     ·have:=H.no w c;rw[hz]at this;cases this
    obtain⟨l',e1,e2,_⟩:=H.ln w hwv;rw[hz]at e1;cases e1;refine a2l (a0q e2 ht0) ?_;walk_at "go";refine⟨lenK rfl,?_⟩;walk_at "go";refine a0Y (a0q e2 ht0) (by rw[dJ];exact a0r (by have:=gT (λh:Hd=>decide (h.w=w)) A1;omega)) ?_;refine⟨vs,hkv,_,_,_,?_,λv hv'=>?_,rfl⟩
    ·rw[tk2];exact H.old (h:=⟨k,r.b,r.e,w⟩) hwv hz (Sm.new ht0)
    ·obtain⟨x,h1,h2⟩:=hvs v hv';exact⟨x,by rw[tk2];exact eJ _ h1,h2⟩
   ·have hwv:w∉vs:=λc=>by
     obtain⟨l',e1,_⟩:=H.ln w c;rw[hz]at e1;cases e1
    have ndt:D≠t0:=a0p H.at_ ht0;have gt0:put (put G3 t0 (.lst [])) D (.dK (putZ hkv (.inr w) (.ref t0))) t0=some (.lst []):=by rw[a0o (Ne.symm ndt),a0e]
    refine a2l gt0 ?_;walk_at "go";refine⟨lenK rfl,?_⟩;walk_at "go";refine a0Y gt0 (a0r (by simp)) ?_;refine⟨vs++[w],putZ hkv (.inr w) (.ref t0),_,_,_,by rw[tk2];exact H.new (h:=⟨k,r.b,r.e,w⟩) hwv ht0,λv hv'=>?_,rfl⟩
    ·rw[tk2];rcases dN.mp hv' with hv' | hv'
     ·obtain⟨x,h1,h2⟩:=hvs v hv';exact⟨x,eJ _ h1,h2⟩
     ·exact⟨_,eT _ (List.mem_singleton_self _),(dP.mp hv').symm⟩
  ·rintro σ G3 ⟨vs,hkv,v2,v3,v4,H,hvs,rfl⟩;rw[dJ,eE]at H hvs;walk_at "go";exact⟨vs,hkv,_,_,_,_,by rw[tk];exact H,by rw[tk];exact hvs,rfl⟩
 ·rintro σ G2 ⟨vs,hkv,v1,v2,v3,v4,H,hvs,rfl⟩;rw[dJ,eE]at H;walk_at "go";exact q D _ vs hkv G2 hD H tb
noncomputable def fivJ (x:J):Z:=L3.tupZ x.p
theorem a3F (x:J):fivJ x=.tup [.str x.w,.str x.k,.str x.j,.int x.b,oz x.e]:=by
 unfold fivJ L3.tupZ J.p;cases x.e<;>rfl
def a36 (a:Ad):PX3:=λws G R EE=>Ex8 λ(p r:Addr) (S V:Addr->Prop) (T U:List Tl) (q u:Int)=>ws=[.ref p,.int q,.ref r,.int u]/\Sheet a.c_Sheet G p S T/\Sheet a.c_Sheet G r V U/\OkT T/\OkT U/\Few T/\Few U/\T.length≤63/\U.length≤63 /\
 ((inR T q/\inR U u/\∀ t (X:List J) G',G t=none->Sm G G'->X.Nodup->(∀ x,x∈X↔MJ (T.take q.toNat) (U.take u.toNat) x)->X.Pairwise Up->G' t=some (.lst (X.map fivJ))->R (.ref t) G')\/(¬ (inR T q/\inR U u)/\∀ G',Sm G G'->EE a.x_NoKnowing G'))
theorem a5Q {a:Ad}{ws:List Z}{G:Hq}{R:K3}{EE:Addr->Hq->Prop}(h:a36 a ws G R EE):ws.length=4:=by obtain⟨_,_,_,_,_,_,_,_,rfl,_⟩:=h;rfl
theorem b4P (hd:G d=none) (s:Sm G G1) (s2:Sm (put G1 d (.dF kvs)) G2):Sm G G2:=λb o e=>s2 _ _ (by rw[a0o (a0p e hd)];exact s _ _ e)
theorem b35 {vs:List Str}{w:Str}{A B:List Hd}:rwP (vs++[w]) A B=rwP vs A B++(A.filter λh=>decide (h.w=w)).flatMap λh=>(B.filter λo=>decide (o.w=w)).filterMap (cmH h):=by
 unfold rwP;simp
theorem a37 (F:Fns K a) (T:Txt K mg a):FnOk P w K mg base (CXx P w) 5 a.f18 a.d18 ["sheet","knowing","other","other_knowing"] (a2C K (a36 a)):=by
 have G_p_holders_in:=a5E (P:=P) (w:=w) (base:=base) F T;have G_p_table_at:=a63 (P:=P) (w:=w) (base:=base) F T;have G_p_held_by_both:=a4w (P:=P) (w:=w) (base:=base) F T;refine fn3x F.n18 sc_p_by_worth (λws G R EE h=>(by exact a5Q h)) (λcdv A outer s H E ws G R EE hr h ux=>?_);have hu:=a01 hr;refine⟨_,(a0k (z_set (i:=4) sc_p_by_worth.nd rfl (dL rfl) (a0s G_p_holders_in (hr.mono (by decide)) rfl T.m16 F.n16.kp (a26 F) (a0b (a2D (a1A Outs.of) ux.since G_p_table_at (hr.mono (by decide)) rfl T.m15 F.n15.kp (a3S F) (a0b (a0c (pv 0)) (a0b (a0c (pv 1)) a0h a0a) a0a) (he:=a0a) (hpl:=(a0j a0a a0l))) a0h a0F) (he:=a0F) (hpl:=a0l)))
  (a0k (z_set (i:=5) sc_p_by_worth.nd rfl (dL rfl) (a0s G_p_holders_in (hr.mono (by decide)) rfl T.m16 F.n16.kp (a26 F) (a0b (a2D (a1A Outs.of) ux.since G_p_table_at (hr.mono (by decide)) rfl T.m15 F.n15.kp (a3S F) (a0b (a0c (pv 2)) (a0b (a0c (pv 3)) a0h a0a) a0a) (he:=a0a) (hpl:=(a0j a0a a0l))) a0h a0F) (he:=a0F) (hpl:=a0l)))
  (a0k (z_set (i:=6) sc_p_by_worth.nd rfl (dL rfl) (a1d a0h))
  (a0k (a2x (pt:=(.nm 7)) j9.leaving rfl (a8B (a0c (pv 4))) (show QP _ _ (.nm 7) from (a0m (i:=7) sc_p_by_worth.nd rfl (dL rfl)))
  (a0n (a2x (pt:=(.nm 8)) j9.leaving rfl (a0O (a0s G_p_held_by_both (hr.mono (by decide)) rfl T.m17 F.n17.kp (a4k F) (a0b (q_ix b4F (a0c (pv 4)) (a0c (pv 7)) (λ_ _=>rfl)) (a0b (q_bm PySem.F.plainAttrs_dict PySem.F.slot_dict_get PySem.F.type_dict_get (b4y hu) (a0c (pv 5)) (a0b (a0c (pv 7)) (a0b (a1d a0h) a0h a0W) a0a)) a0h a0F) a0d) (he:=a0d) (hpl:=(a0j a0F a0l)))) (show QP _ _ (.nm 8) from (a0m (i:=8) sc_p_by_worth.nd rfl (dL rfl)))
  (a0n (a05 (q_bm PySem.F.plainAttrs_list PySem.F.slot_list_append PySem.F.type_list_append a1j (a0c (pv 6)) (a0b (q_op a0S (a1L (a0b (a0c (pv 7)) a0h a0a)) (a0c (pv 8))) a0h a0t)))))))
  (a0n (a0H (a0C a7N rfl T.b_sorted rfl (a0b (a0c (pv 6)) a0h a0a) (he:=a0a) (hpl:=a0l)))))))),?_⟩
 obtain⟨p,r,S,V,T',U',q,u,rfl,shp,shr,okT0,okU0,fewT,fewU,hT,hU,h⟩:=h;walk_at "go";refine⟨p,S,T',q,rfl,shp,okT0,fewT,?_⟩
 by_cases hq:inR T' q
 rotate_left
 ·rcases h with ⟨h1,_⟩ | ⟨_,e⟩
  ·exact absurd h1 hq
  ·exact .inr ⟨hq,e⟩
 refine .inl ⟨hq,λd ts kvs G1 hd s1 tab hl1=>?_⟩;have lT:(T'.take q.toNat).length≤63:=by rw[dY];omega
 have lU:(U'.take u.toNat).length≤63:=by rw[dY];omega
 have okU:OkT (U'.take u.toNat):=fun τ h=>okU0 τ (fc h);have okT:OkT (T'.take q.toNat):=fun τ h=>okT0 τ (fc h);walk_at "go";refine⟨d,_,ts,kvs,rfl,tab,okT,lT,hl1,λt1 A vs hkv G2 ht1 H1 tb1=>?_⟩;have s2:Sm G G2:=b4P hd s1 H1.sm;walk_at "go";refine⟨r,V,U',u,rfl,shr.keep (Sm.ks s2),okU0,fewU,?_⟩
 by_cases hu:inR U' u
 rotate_left
 ·rcases h with ⟨_,h1,_⟩ | ⟨_,e⟩
  ·exact absurd h1 hu
  ·exact .inr ⟨hu,λG' s=>e G' (s2.trans s)⟩
 rcases h with ⟨_,_,fin⟩ | ⟨c,_⟩
 rotate_left
 ·exact absurd ⟨hq,hu⟩ c
 refine .inl ⟨hu,λd2 us kvs2 G3 hd2 s3 tab2 hl2=>?_⟩;walk_at "go";refine⟨d2,_,us,kvs2,rfl,tab2,okU,lU,hl2,λt2 B ws2 hkv2 G4 ht2 H2 tb2=>?_⟩;have s24:Sm G2 G4:=b4P hd2 s3 H2.sm;have n12:t1≠t2:=λz=>by
  have e:=H2.fr;rw[<- z,a0o (a0p H1.at_ hd2),s3 _ _ H1.at_]at e;cases e
 have hG1:G t1=none:=s1.free ht1;have H1:=H1.keep s24;have s04:=s2.trans s24;generalize T'.take q.toNat=T at tb1 fin lT okT;generalize U'.take u.toNat=U at tb2 fin lU okU;clear s1 s2 s3 s24 hd hd2 tab tab2 ht1 ht2;walk_at "go";refine⟨lenK rfl,λW hW=>?_⟩;have nW1:t1≠W:=a0p H1.at_ hW;have nW2:t2≠W:=a0p H2.at_ hW;have hWG:G W=none:=s04.free hW;walk_at "go";refine b5V (.inl (a0q H1.at_ hW)) ?_;have s46:∀ b o,G4 b=some o->b≠t1->put (put G4 W (.lst [])) t1 (.dF hkv) b=some o:=λb o e nb=>by rw[a0o nb];exact a0q e hW
 have g1:put (put G4 W (.lst [])) t1 (.dF hkv) t1=some (.dF hkv):=a0e;have gW6:put (put G4 W (.lst [])) t1 (.dF hkv) W=some (.lst []):=by rw[a0o (Ne.symm nW1),a0e]
 generalize put (put G4 W (.lst [])) t1 (.dF hkv)=G6 at s46 g1 gW6 ⊢;have g2:=s46 _ _ H2.at_ (Ne.symm n12);have nl:∀ l ws,G4 l=some (.lst ws)->l≠t1:=λl ws e z=>by rw[z,H1.at_]at e;cases e
 have ek:(hkv.map λp=>keyW p.1)=vs.map Z.str:=by
  have:=congrArg (List.map keyW) H1.ks
  simpa[fK,Function.comp_def,keyW]using this
 have lenP:∀ vs':List Str,vs'.Nodup->(rwP vs' A B).length≤126*126:=λvs' h=>dW (b6m h) (gx (by have:=tb1.len;omega) (by have:=tb2.len;omega));rw[ek];refine a08 (λi σ G'=>∃ (v1 v2:Option Z),Kq W G6 G'/\G' W=some (.lst ((rwP (vs.take i) A B).map fivJ))/\σ=[some (.ref p),some (.int q),some (.ref r),some (.int u),some (.ref t1),some (.ref t2),some (.ref W),v1,v2]) ⟨_,_,λ_ _ e _=>e,gW6,rfl⟩ (λ_ _ _ _ _=>True.intro) ?_ ?_
 ·rintro i x σ G7 hx ⟨v1,v2,kq,gW7,rfl⟩;rw[dQ]at hx;cases hx':vs[i]? with
  | none=>rw[hx']at hx;cases hx
  | some w=>
  rw[hx']at hx;cases hx;obtain⟨l,hv,gl,_⟩:=H1.ln w (er hx');have tk:=b35 (vs:=vs.take i) (w:=w) (A:=A) (B:=B);rw[<- take_snoc hx']at tk;have len8:=lenP (vs.take (i+1)) (H1.nd.sublist (gC _ _));have hM:∀ x∈(A.filter λh=>decide (h.w=w)).flatMap λh=>(B.filter λo=>decide (o.w=w)).filterMap (cmH h),x.w=w:=λx hx=>by
   simp only[iA,ft,fg,decide_eq_true_eq]at hx;obtain⟨h,⟨_,h2⟩,o,_,e⟩:=hx;rw[(a1r e).1,h2]
  refine⟨_,rfl,?_⟩;walk_at "go";refine b4G (.inr (kq _ _ g1 nW1)) rfl hv ?_;walk_at "go";refine b5R (kq _ _ g2 nW2) ?_;walk_at "go";refine⟨lenK rfl,λe he=>?_⟩;have ge:put G7 e (.lst []) e=some (.lst []):=a0e;have s78:Sm G7 (put G7 e (.lst [])):=Sm.new he;generalize put G7 e (.lst [])=G8 at ge s78 ⊢;walk_at "go";refine b8r (s78 _ _ (kq _ _ g2 nW2)) rfl ?_;obtain⟨l2,hval,gl2⟩:∃ l2,(valZ hkv2 (.inr w)).getD (.ref e)=.ref l2/\G8 l2=some (.lst ((B.filter λo=>decide (o.w=w)).map Hd.z)):=by
   by_cases c:w∈ws2
   ·obtain⟨l2,e1,e2,_⟩:=H2.ln w c;exact⟨l2,by rw[e1];rfl,s78 _ _ (kq _ _ (s46 _ _ e2 (nl _ _ e2)) (a0p e2 hW))⟩
   ·refine⟨e,by rw[H2.no w c];rfl,?_⟩;rw[ge,gQ.mpr λo ho=>by simpa using λz:o.w=w=>c (by rw[<- z];exact H2.al o ho)]
    rfl
  rw[hval];walk_at "go";refine⟨l,l2,A.filter λh=>decide (h.w=w),B.filter λo=>decide (o.w=w),w,rfl,s78 _ _ (kq _ _ (s46 _ _ gl (nl _ _ gl)) (a0p gl hW)),gl2,(λh hh=>by simpa using (fg.mp hh).2),(λh hh=>by simpa using (fg.mp hh).2),dW (gT _ _) (by have:=tb1.len;omega),dW (gT _ _) (by have:=tb2.len;omega),λt3 G9 ht3 s89 gt3=>?_⟩;generalize ((A.filter λh=>decide (h.w=w)).flatMap λh=>(B.filter λo=>decide (o.w=w)).filterMap (cmH h))=M at tk hM gt3;rw[tk,dO]at len8;have nt3:t3≠W:=λz=>by rw[z]at ht3;rw[s78 _ _ gW7]at ht3;cases ht3
  have kq9:Kq W G6 G9:=λb o e1 nb=>s89 _ _ (s78 _ _ (kq b o e1 nb));have gW9:=s89 _ _ (s78 _ _ gW7);generalize rwP (vs.take i) A B=P0 at tk len8 gW9;walk_at "go";refine a1W gt3 ?_;refine a08 (λj σ G'=>∃ (v2:Option Z),Kq W G9 G'/\G' W=some (.lst ((P0++M.take j).map fivJ))/\σ=[some (.ref p),some (.int q),some (.ref r),some (.int u),some (.ref t1),some (.ref t2),some (.ref W),some (.str w),v2]) ⟨_,λ_ _ e _=>e,by simpa using gW9,rfl⟩ (by rintro j σ G' _ ⟨_,k,_⟩;exact k _ _ gt3 nt3) ?_ ?_
  ·rintro j x σ G10 hx ⟨v2,kq10,gW10,rfl⟩;rw[dQ]at hx;cases hr':M[j]? with
   | none=>rw[hr']at hx;cases hx
   | some x=>
   rw[hr']at hx;cases hx;have hj:=(dX.mp hr').1;have hw:=hM x (er hr');refine⟨_,rfl,?_⟩;walk_at "go";refine a2l gW10 ?_;walk_at "go";refine⟨lenK rfl,?_⟩;unfold J.z4;walk_at "go";refine b1E (by simp) (a17 (by simp)) ?_;walk_at "go";refine a0Y gW10 ?_ ?_
   ·rw[dJ,dO,dY];exact eA (by omega:_<40000) (by decide)
   refine⟨_,λb o e1 nb=>by rw[a0o nb];exact kq10 b o e1 nb,?_,rfl⟩;rw[a0e,take_snoc hr',<- eD,dS (l₂:=[x]),iV,a3F,hw]
   rfl
  ·rintro σ G10 ⟨v2,kq10,gW10,rfl⟩;rw[dJ,eE,<- tk]at gW10;walk_at "go";exact⟨_,_,λb o e1 nb=>kq10 b o (kq9 b o e1 nb) nb,gW10,rfl⟩
 ·rintro σ G7 ⟨v1,v2,kq,gW7,rfl⟩;rw[dJ,eE]at gW7;have s07:Sm G G7:=λb o e=>kq b o (s46 b o (s04 _ _ e) (a0p e hG1)) (a0p e hWG);have un:Un (rwP vs A B):=λx hx y hy=>b32 ((b2I tb1 tb2 H1.al x).mp hx) ((b2I tb1 tb2 H1.al y).mp hy);have nd:=b2J tb1 tb2 H1.nd;walk_at "go";refine a7O (rows:=(rwP vs A B).map J.p) (m:=5) (by rw[gW7,fK];rfl) (by rw[dJ];exact dW (lenP vs H1.nd) (by decide)) ?_ ?_ ?_ λt os ht hp hso=>?_
  ·intro x hx;obtain⟨y,_,rfl⟩:=eq.mp hx;exact⟨_,_,rfl⟩
  ·intro x hx;obtain⟨y,_,rfl⟩:=eq.mp hx
   rfl
  ·intro x hx y hy;obtain⟨x',hx',rfl⟩:=eq.mp hx;obtain⟨y',hy',rfl⟩:=eq.mp hy;exact cmp5 (un x' hx' y' hy')
  ·obtain⟨X,rfl,pX⟩:=a65 J.p hp;have mX:∀ x,x∈X↔MJ T U x:=λx=>pX.mem_iff.trans (b2I tb1 tb2 H1.al x);exact fin t X _ (s07.free ht) (s07.trans (Sm.new ht)) (pX.nodup_iff.mpr nd) mX (c0I (λx hx=>(mX x).mp hx) hso) (by rw[a0e,fK];rfl)
theorem a67 {α:Type}{xs:List α}{q:Int}(h0:0≤q) (h1:q≤xs.length):cutZ xs none (some q)=xs.take q.toNat:=by
 obtain⟨j,rfl⟩:=fS h0;have a:j≤xs.length:=by omega
 unfold cutZ;rw[HT.sIx_none,HT.sIx_nat];simp[Nat.min_eq_left a]
theorem b9b {G:Hq}{R:K3}{a b c d e:Z}(h:R (.tup [a,b,c,d]) G):zSl (.tup [a,b,c,d,e]) none (some 4) G R:=b3p (by rw[show 4=((4:Nat):Int) from rfl,HT.sIx_nat];simp) (by rw[a67 (by simp) (by simp)];exact h)
theorem b6p (h:told.getLast?=some r):jn told p=if r.e=some p.b/\r.w=p.w then told.dropLast++[⟨r.b,p.e,p.w⟩] else told++[p]:=by
 unfold jn;rw[h]
def wsOk (x:Z):Prop:=x=.non\/∃ w,x=.str w/\nmOk w
theorem a5F {T:List Tl}{k:Str}(ok:OkT T) (t:Int):wsOk (a0E (a0G T k) t):=by
 unfold a0E;cases e:(a0G T k).reverse.find? _ with
 | none=>exact .inl rfl
 | some r=>
  have:=iy e
  rw[jL]at this;obtain⟨τ,a,rfl⟩:=eq.mp this;have o:=ok τ (fg.mp a).1;unfold Tl.rw Tl.v;cases hw:τ.w with
  | none=>exact .inl rfl
  | some w=>exact .inr ⟨w,rfl,o.w w hw⟩
noncomputable def prF (xs ys:Int->Z) (t:Int):Option (List Z):=if xs t=ys t then optW (xs t) else none
noncomputable def z3 (r:Rw):Z:=.tup (r.w++[.int r.b,oz r.e])
def NmR (l:List Rw):Prop:=∀ r∈l,∃ w,r.w=[.str w]/\nmOk w
theorem NmR.jn (h:NmR told) (h':∃ w,p.w=[.str w]/\nmOk w):NmR (jn told p):=λr a=>by
 unfold Lw.jn at a
 split at a
 ·split at a
  ·rcases dN.mp a with a | a
   ·exact h r (iP _ a)
   ·simp_all
  ·rcases dN.mp a with a | a
   ·exact h r a
   ·simp_all
 ·simp_all
theorem NmR.join (h:NmR ps):NmR (join ps):=by
 have d:∀ ps a,NmR a->NmR ps->NmR (ps.foldl Lw.jn a):=by
  intro ps
  induction ps with
  | nil=>exact λ_ h _=>h
  | cons p ps ih=>exact λa f e=>ih _ (f.jn (e p (.head _))) λr c=>e r (.tail _ c)
 exact d ps [] (λr c=>by simp at c) h
theorem NmR.flat (h:NmR l):(l.map z3).all (flat 8)=true:=by
 rw[fI];intro z d;obtain⟨r,c,rfl⟩:=eq.mp d;obtain⟨w,e,a⟩:=h r c;unfold z3;rw[e]
 show ([Z.str w,.int r.b,oz r.e].all _)=true
 rw[eL,eL,eL,a2K a,a41,b2j];rfl
def b2N:P3:=λws G R=>Ex7 λ(f p r pt:Addr) (xs ys:Int->Z) (ms:List Int)=>ws=[.ref f,.ref p,.ref r,.ref pt]/\G f=some (.lst [])/\G p=some (.lst (ms.map xs))/\G r=some (.lst (ms.map ys))/\G pt=some (.lst (ms.map Z.int))/\f≠p/\f≠r/\f≠pt/\ms.length≤254/\(∀ t,wsOk (xs t))/\(∀ t,wsOk (ys t))/\∀ G',Kq f G G'->G' f=some (.lst ((join (pcs (prF xs ys) ms)).map z3))->R (.ref f) G'
theorem b36 (h:b2N ws G R):ws.length=4:=by obtain⟨_,_,_,_,_,_,_,rfl,_⟩:=h;rfl
theorem b6q (F:Fns K a) (T:Txt K mg a):FnOk P w K mg base CX0 1 a.f31 a.d31 ["rows","one","other","points"] (lowP K b2N):=by
 refine fn3 F.n31 sc_pair (λws G R h=>(by exact b36 h)) (λcdv A outer s H E ws G R hr h=>?_);have hu:=a01 hr;refine⟨_,(a0k (a2x (pt:=(.nm 4)) j9.never rfl (a2k rfl T.b_range (a0b (a0C b_len rfl T.b_len PySem.boot_len (a0b (a0c (pv 3)) a0h a0a) (he:=a0a) (hpl:=a0l)) a0h a0F)) (show QP _ _ (.nm 4) from (a0m (i:=4) sc_pair.nd rfl (dL rfl)))
  (a0k (z_set (i:=5) sc_pair.nd rfl (dL rfl) (q_ix x_ix (a0c (pv 1)) (a0c (pv 4)) (λ_ _=>rfl)))
  (a0k (z_set (i:=6) sc_pair.nd rfl (dL rfl) (q_ix x_ix (q_op a0S (a0c (pv 3)) (a1d (a0b a2v a0h a0f))) (q_op a0S (a0c (pv 4)) a0g) (λ_ _=>rfl)))
  (a0n (z_if (QW.qt (a7o (a0z a4f (a0c (pv 5)) a2v (a0u _)) (a5Y (a0z (o_eq hu) (a0c (pv 5)) (q_ix x_ix (a0c (pv 2)) (a0c (pv 4)) (λ_ _=>rfl)) (a0u _)))))
  (a0n (z_if (QW.qt (a7o (a0z (o_ne hu) (a0c (pv 0)) (a1d a0h) (a0u _)) (a7o (a0z (o_eq hu) (q_ix x_ix (q_ix x_ix (a0c (pv 0)) (q_un a1V a0g) (λ_ _=>rfl)) a0g (λ_ _=>rfl)) (a0c (pv 5)) (a0u _)) (a5Y (a0z (o_eq hu) (q_ix x_ix (q_ix x_ix (a0c (pv 0)) (q_un a1V a0g) (λ_ _=>rfl)) a0g (λ_ _=>rfl)) (q_ix x_ix (a0c (pv 3)) (a0c (pv 4)) (λ_ _=>rfl)) (a0u _))))))
  (a0n (b4l (a1L (a0b (a0c (pv 5)) (a0b (q_ix x_ix (q_ix x_ix (a0c (pv 0)) (q_un a1V a0g) (λ_ _=>rfl)) a0g (λ_ _=>rfl)) (a0b (a0c (pv 6)) a0h a0a) a0d) a0a)) (a0c (pv 0)) (q_un a1V a0g) b7D))
  (a0n (a05 (q_bm PySem.F.plainAttrs_list PySem.F.slot_list_append PySem.F.type_list_append a1j (a0c (pv 0)) (a0b (a1L (a0b (a0c (pv 5)) (a0b (q_ix x_ix (a0c (pv 3)) (a0c (pv 4)) (λ_ _=>rfl)) (a0b (a0c (pv 6)) a0h a0a) a0d) a0a)) a0h a1h))))))
  a06)))))
  (a0n (a0H (a0c (pv 0))))),?_⟩
 obtain⟨f,p,r,pt,xs,ys,ms,rfl,gf,gp,gr,gpt,nfp,nfr,nft,lm,hx,hy,q⟩:=h;walk_at "go";refine b1I gpt ?_;walk_at "go";rw[dJ];refine⟨by omega,by omega,?_⟩;rw[show ((ms.length:Int)).toNat=ms.length by omega];refine a08 (λi σ G'=>Ex4 λ(ps:List Rw) (v1 v2 v3:Option Z)=>ps++pcs (prF xs ys) (ms.drop i)=pcs (prF xs ys) ms/\NmR ps/\ps.length≤i/\Kq f G G'/\G' f=some (.lst ((join ps).map z3))/\σ=[some (.ref f),some (.ref p),some (.ref r),some (.ref pt),v1,v2,v3]) ⟨[],_,_,_,rfl,(λw h=>by simp at h),by simp,λ_ _ e _=>e,gf,rfl⟩ (λ_ _ _ _ _=>True.intro) ?_ ?_
 ·rintro i x σ G1 hx0 ⟨ps,v1,v2,v3,hps,hpw,hpl,kq,gf1,rfl⟩;obtain⟨hi,rfl⟩:=a3r hx0;rw[iW];have hm:ms[i]?=some ms[i]:=en hi;generalize ms[i]=m at hm;have am:atI (ms.map Z.int) (i:Int)=some (.int m):=a1e (by rw[dQ,hm];rfl);have ax:atI (ms.map xs) (i:Int)=some (xs m):=a1e (by rw[dQ,hm];rfl);have ay:atI (ms.map ys) (i:Int)=some (ys m):=a1e (by rw[dQ,hm];rfl);have pa:=b84 (f:=prF xs ys) hm;have eB:prF xs ys m=if xs m=ys m then optW (xs m) else none:=rfl
  have jl:=a62 ps;have gpt1:=kq _ _ gpt (Ne.symm nft);refine⟨_,rfl,?_⟩;walk_at "go";refine a07 (kq _ _ gp (Ne.symm nfp)) ax ?_;walk_at "go";refine⟨lenK rfl,λn0 hn0=>?_⟩;have s2:Sm G1 (put G1 n0 (.lst [.non])):=Sm.new hn0;refine b1F (s2 _ _ gpt1) a0e (a17 (by simp;omega)) λn1 hn1=>?_;have s3:=s2.trans (Sm.new (o:=.lst (ms.map Z.int++[.non])) hn1);have gn:put (put G1 n0 (.lst [.non])) n1 (.lst (ms.map Z.int++[.non])) n1=some (.lst (ms.map Z.int++[.non])):=a0e;generalize put (put G1 n0 (.lst [.non])) n1 (.lst (ms.map Z.int++[.non]))=G3 at s3 gn ⊢;walk_at "go";refine a07 gn (b85 hi) ?_;have gf3:=s3 _ _ gf1;have gpt3:=s3 _ _ gpt1;have gr3:=s3 _ _ (kq _ _ gr (Ne.symm nfr));have kq3:Kq f G G3:=λb o e nb=>s3 _ _ (kq b o e nb);clear gn s2 s3 hn0 hn1;have skip:prF xs ys m=none->Ex4 λ(ps:List Rw) (v1 v2 v3:Option Z)=>ps++pcs (prF xs ys) (ms.drop (i+1))=pcs (prF xs ys) ms/\NmR ps/\ps.length≤i+1/\Kq f G G3/\G3 f=some (.lst ((join ps).map z3))/\([some (.ref f),some (.ref p),some (.ref r),some (.ref pt),some (.int (i:Int)),some (xs m),some (oz ms[i+1]?)]:S3)=[some (.ref f),some (.ref p),some (.ref r),some (.ref pt),v1,v2,v3]:=λe=>⟨ps,_,_,_,by rw[<- hps,pa,e];rfl,hpw,by omega,kq3,gf3,rfl⟩;rcases hx m with cx | ⟨w,cx,hw⟩
  ·rw[cx]at skip ⊢;walk_at "go";exact skip (by rw[eB,cx];simp[optW])
  rw[cx]at skip ⊢;walk_at "go";refine a07 gr3 ay ?_;rcases hy m with cy | ⟨v,cy,hv⟩
  ·rw[cy];refine (show _/\_/\_ from ⟨a2K hw,rfl,?_⟩);rw[show decide (Z.str w=Z.non)=false from decide_eq_false (by simp)];walk_at "go";exact skip (by rw[eB,cx,cy,if_neg (by simp)])
  rw[cy];walk_at "go";refine ifD (λc=>?_) λc=>?_
  rotate_left
  ·walk_at "go";exact skip (by rw[eB,cx,cy,if_neg (by simpa using c)])
  subst c;have ev:prF xs ys m=some [.str w]:=by rw[eB,cx,cy,if_pos rfl];simp[optW]
  rw[ev]at pa;clear skip eB;walk_at "go";refine⟨lenK rfl,λn2 hn2=>?_⟩;have s4:Sm G3 (put G3 n2 (.lst [])):=Sm.new hn2;have gn2:put G3 n2 (.lst []) n2=some (.lst []):=a0e;generalize put G3 n2 (.lst [])=G4 at s4 gn2 ⊢;have gf4:=s4 _ _ gf3;have gpt4:=s4 _ _ gpt3;have kq4:Kq f G G4:=λb o e nb=>s4 _ _ (kq3 b o e nb);have nj:=hpw.join;have nps:NmR (ps++[⟨m,ms[i+1]?,[.str w]⟩]):=λs hs=>by
   rcases dN.mp hs with hs | hs
   ·exact hpw s hs
   ·rw[dP.mp hs];exact⟨w,rfl,hw⟩
  have done:∀ G',Kq f G G'->G' f=some (.lst ((jn (join ps) ⟨m,ms[i+1]?,[.str w]⟩).map z3))->Ex4 λ(ps:List Rw) (v1 v2 v3:Option Z)=>ps++pcs (prF xs ys) (ms.drop (i+1))=pcs (prF xs ys) ms/\NmR ps/\ps.length≤i+1/\Kq f G G'/\G' f=some (.lst ((join ps).map z3))/\([some (.ref f),some (.ref p),some (.ref r),some (.ref pt),some (.int (i:Int)),some (.str w),some (oz ms[i+1]?)]:S3)=[some (.ref f),some (.ref p),some (.ref r),some (.ref pt),v1,v2,v3]:=λG' k e=>⟨ps++[⟨m,ms[i+1]?,[.str w]⟩],_,_,_,by rw[<- hps,pa,eD],nps,by simp;omega,k,by rw[e,b2z],rfl⟩;refine b5t gf4 gn2 nj.flat rfl ?_;have app:jn (join ps) ⟨m,ms[i+1]?,[.str w]⟩=join ps++[⟨m,ms[i+1]?,[.str w]⟩]->a6A (.ref f) [.tup [.str w,.int m,oz ms[i+1]?]] G4 (λ_ G'=>Ex4 λ(ps:List Rw) (v1 v2 v3:Option Z)=>ps++pcs (prF xs ys) (ms.drop (i+1))=pcs (prF xs ys) ms/\NmR ps/\ps.length≤i+1/\Kq f G G'/\G' f=some (.lst ((join ps).map z3))/\([some (.ref f),some (.ref p),some (.ref r),some (.ref pt),some (.int (i:Int)),some (.str w),some (oz ms[i+1]?)]:S3)=[some (.ref f),some (.ref p),some (.ref r),some (.ref pt),v1,v2,v3]):=λe=>a0Y gf4 (by rw[dJ];exact a0r (by omega)) (done _ (λb o e nb=>by rw[a0o nb];exact kq4 b o e nb) (by rw[a0e,e,dS];rfl));cases hgl:(join ps).getLast? with
  | none=>
   have e0:=iO.mp hgl;rw[show decide ((join ps).map z3=[])=true from decide_eq_true (by rw[e0];rfl)];walk_at "go";refine ifF ?_;walk_at "go";refine a2l gf4 ?_;walk_at "go";refine a07 gpt4 am ?_;walk_at "go";refine⟨lenK rfl,?_⟩;exact app (by rw[e0];rfl)
  | some l=>
   have hne:join ps≠[]:=λz=>by rw[z]at hgl;cases hgl
   rw[show decide ((join ps).map z3=[])=false from decide_eq_false (by simpa using hne)];obtain⟨wl,el,hwl⟩:=nj l (jB hgl);have al:atI ((join ps).map z3) (-1)=some (.tup [.str wl,.int l.b,oz l.e]):=a4o (by rw[iQ,hgl];simp[z3,el]);have ejn:=b6p (p:=⟨m,ms[i+1]?,[.str w]⟩) hgl;walk_at "go";refine ifT ?_;walk_at "go";refine a07 gf4 al ?_;walk_at "go";refine ifD (λc1=>?_) λc1=>?_
   rotate_left
   ·walk_at "go";refine a2l gf4 ?_;walk_at "go";refine a07 gpt4 am ?_;walk_at "go";refine⟨lenK rfl,?_⟩;exact app (by rw[ejn,if_neg (λz=>c1 (by have:=z.2;rw[el]at this;simpa using this))])
   subst c1;walk_at "go";refine a07 gf4 al ?_;walk_at "go";refine a07 gpt4 am ?_;refine b4H ?_;walk_at "go";refine ifD (λc2=>?_) λc2=>?_
   rotate_left
   ·walk_at "go";refine a2l gf4 ?_;walk_at "go";refine a07 gpt4 am ?_;walk_at "go";refine⟨lenK rfl,?_⟩;exact app (by rw[ejn,if_neg (λz=>c2 z.1)])
   walk_at "go";refine a07 gf4 al ?_;walk_at "go";refine⟨lenK rfl,?_⟩;walk_at "go";refine b7X gf4 (a8K (by rw[dJ];exact fR.mpr hne)) ?_;refine done _ (λb o e nb=>by rw[a0o nb];exact kq4 b o e nb) ?_;rw[a0e,ejn,if_pos ⟨c2,el⟩,a9C (x:=z3 l) (by rw[iQ,hgl];rfl),dS,<- jC]
   rfl
 ·rintro σ G1 ⟨ps,v1,v2,v3,hps,hpw,hpl,kq,gf1,rfl⟩;rw[a1v,List.drop_length]at hps;walk_at "go";refine q G1 kq ?_;rw[gf1,<- hps];simp[pcs]
def LnsAt (G:Hq) (T:List Tl) (ms:List Int) (kn:List Str) (ls:List Addr):Prop:=ls.length=kn.length/\∀ (n:Nat) k l,kn[n]?=some k->ls[n]?=some l->G l=some (.lst (ms.map λt=>a0E (a0G T k) t))
theorem LnsAt.keep (h:LnsAt G T ms kn ls) (s:Sm G G'):LnsAt G' T ms kn ls:=⟨h.1,λn k l a b=>s _ _ (h.2 n k l a b)⟩
theorem LnsAt.nil:LnsAt G T ms [] []:=⟨rfl,λn k l a=>by simp at a⟩
theorem LnsAt.snoc (h:LnsAt G T ms kn ls) (e:G l=some (.lst (ms.map λt=>a0E (a0G T k) t))):LnsAt G T ms (kn++[k]) (ls++[l]):=by
 refine⟨by rw[dO,dO,h.1];rfl,λn f d a b=>?_⟩
 by_cases c:n<kn.length
 ·rw[fX c]at a;rw[fX (by rw[h.1];exact c)]at b;exact h.2 n f d a b
 ·rw[fW (by omega)]at a;rw[fW (by rw[h.1];omega),h.1]at b;cases e2:n - kn.length with
  | zero=>rw[e2]at a b;cases a;cases b;exact e
  | succ j=>rw[e2]at a;simp at a
theorem LnsAt.at_ (h:LnsAt G T ms kn ls) {n:Nat}(hn:kn[n]?=some k):∃ l,atI (ls.map Z.ref) (n:Int)=some (.ref l)/\G l=some (.lst (ms.map λt=>a0E (a0G T k) t)):=by
 have a:=(dX.mp hn).1;have e:ls[n]?=some (ls[n]'(by rw[h.1];exact a)):=en _;exact⟨_,a1e (by rw[dQ,e];rfl),h.2 n k _ hn e⟩
def JOk (X:List J):Prop:=∀ x∈X,nmOk x.w/\nmOk x.k/\nmOk x.j
theorem JOk.flat (h:JOk X):(X.map fivJ).all (flat 8)=true:=by
 rw[fI];intro z f;obtain⟨x,g,rfl⟩:=eq.mp f;obtain⟨c,d,a⟩:=h x g;rw[a3F]
 show ([Z.str x.w,.str x.k,.str x.j,.int x.b,oz x.e].all _)=true
 rw[eL,eL,eL,eL,eL,a2K c,a2K d,a2K a,a41,b2j];rfl
theorem p4Z (x:J):L3.tupZ x.p4=.tup [.str x.w,.str x.k,.str x.j,.int x.b]:=rfl
theorem b2O {x:J}(h:nmOk x.w/\nmOk x.k/\nmOk x.j):flat 8 (.tup [.str x.w,.str x.k,.str x.j,.int x.b])=true:=by
 show ([Z.str x.w,.str x.k,.str x.j,.int x.b].all _)=true
 rw[eL,eL,eL,eL,a2K h.1,a2K h.2.1,a2K h.2.2,a41];rfl
theorem b9c {x y:J}:decide ([Z.str x.w,.str x.k,.str x.j,.int x.b]=[Z.str y.w,.str y.k,.str y.j,.int y.b])=decide (x.p4=y.p4):=a0P (by rw[eq_iff_iff,p4_iff];simp)
theorem b37:(rwKJ T U ms k j).length≤ms.length:=by
 unfold rwKJ;rw[dJ];exact dW (a62 _) (a4m _ _)
theorem b2P {T U:List Tl}{ms:List Int}{k j:Str}(ok:OkT T) (so:ms.Pairwise (·<·)) {r:Rw}(h:r∈join (pcs (pF T U k j) ms)):∃ w,r.w=[.str w]/\nmOk w:=by
 obtain⟨c,f,d⟩:=(a5y (a3Y _ so)).2.2.2 r h;have a:=(a6U f).2;unfold pF at a
 split at a
 ·unfold optW at a
  split at a
  ·grind
  ·next q=>
   rcases @a5F T k ok c.b with e | ⟨w,e,hw⟩
   ·exact absurd e q
   ·rw[e]at a;injection a with a;exact⟨w,d.trans a.symm,hw⟩
 ·grind
def b4Q:P3:=λws G R=>Ex6 λ(p r ks:Addr) (T U:List Tl) (kn:List Str)=>ws=[.ref p,.ref r,.ref ks]/\G p=some (.lst (T.map Tl.z))/\G r=some (.lst (U.map Tl.z))/\G ks=some (.lst (kn.map Z.str))/\kn.length=4/\(∀ s∈kn,nmOk s)/\kn.Nodup/\OkT T/\OkT U/\T.length≤63/\U.length≤63/\(∀ τ∈T,τ.key∈kn)/\(∀ τ∈U,τ.key∈kn) /\
 ∀ t (X:List J) G',G t=none->Sm G G'->X.Nodup->(∀ x,x∈X↔MJ T U x)->X.Pairwise Up->JOk X->G' t=some (.lst (X.map fivJ))->R (.ref t) G'
theorem b6r (h:b4Q ws G R):ws.length=3:=by obtain⟨_,_,_,_,_,_,rfl,_⟩:=h;rfl
theorem b9d (F:Fns K a) (T:Txt K mg a):FnOk P w K mg base CX0 3 a.f32 a.d32 ["one","other","keys"] (lowP K b4Q):=by
 have G_worth:=b30 (P:=P) (w:=w) (base:=base) F T;have G_pair:=b6q (P:=P) (w:=w) (base:=base) F T;have G_points:=b2y (P:=P) (w:=w) (base:=base) F T;refine fn3 F.n32 sc_due (λws G R h=>(by exact b6r h)) (λcdv A outer s H E ws G R hr h=>?_);have hu:=a01 hr;refine⟨_,(a0k (z_set (i:=3) sc_due.nd rfl (fH rfl) (q_ss rfl rfl T.b_sorted rfl rfl T.b_set rfl (a0b (q_op a0S (a0s G_points (hr.mono (by decide)) rfl T.m30 F.n30.kp (a7U F) (a0b (a0c (pv 0)) a0h a0a) (he:=a0a) (hpl:=a0l)) (a0s G_points (hr.mono (by decide)) rfl T.m30 F.n30.kp (a7U F) (a0b (a0c (pv 1)) a0h a0a) (he:=a0a) (hpl:=a0l))) a0h a0t) (he:=a0t) (hpl:=a0l)))
  (a0k (a8k (i:=4) sc_due.nd rfl rfl (N₀:=["one","other","keys","points","lines","beside","rows","k","j","worth","begin","end","found","head"]) (so:=a0i a8E) (N':=["key","one","points"]) (cap:=[none,some 0,some 3]) (pt:=(.nm 0)) rfl rfl rfl (by decide +kernel) rfl (a0O (a0c (pv 2))) (λ_ _ _ _=>(show QP _ _ (.nm 0) from (a0m (i:=0) c0v rfl (fH rfl)))) (λ_ _ _ _=>a2b) (λ_ _ _ _=>(q_lc (N₀:=["key","one","points"]) (N':=["point","one","key"]) (cap:=[none,some 1,some 0]) (pt:=(.nm 0)) rfl rfl rfl rfl rfl (a0O (a0c (pv 2))) (λ_ _ _ _=>(show QP _ _ (.nm 0) from (a0m (i:=0) c0w rfl (dL rfl)))) (λ_ _ _ _=>a2b) (λ_ _ _ _=>(a0s G_worth (hr.mono (by decide)) rfl T.m29 F.n29.kp (a9y F) (a0b (a0c (pv 1)) (a0b (a0c (pv 2)) (a0b (a0c (pv 0)) a0h a0a) a0a) a0a) (he:=a0a) (hpl:=(a0j a0a (a0j a0a a0l))))))))
  (a0k (a8k (i:=5) sc_due.nd rfl rfl (N₀:=["one","other","keys","points","lines","beside","rows","k","j","worth","begin","end","found","head"]) (so:=a0i a8E) (N':=["key","other","points"]) (cap:=[none,some 1,some 3]) (pt:=(.nm 0)) rfl rfl rfl (by decide +kernel) rfl (a0O (a0c (pv 2))) (λ_ _ _ _=>(show QP _ _ (.nm 0) from (a0m (i:=0) c0x rfl (fH rfl)))) (λ_ _ _ _=>a2b) (λ_ _ _ _=>(q_lc (N₀:=["key","other","points"]) (N':=["point","other","key"]) (cap:=[none,some 1,some 0]) (pt:=(.nm 0)) rfl rfl rfl rfl rfl (a0O (a0c (pv 2))) (λ_ _ _ _=>(show QP _ _ (.nm 0) from (a0m (i:=0) c0y rfl (dL rfl)))) (λ_ _ _ _=>a2b) (λ_ _ _ _=>(a0s G_worth (hr.mono (by decide)) rfl T.m29 F.n29.kp (a9y F) (a0b (a0c (pv 1)) (a0b (a0c (pv 2)) (a0b (a0c (pv 0)) a0h a0a) a0a) a0a) (he:=a0a) (hpl:=(a0j a0a (a0j a0a a0l))))))))
  (a0k (z_set (i:=6) sc_due.nd rfl (dL rfl) (a1d a0h))
  (a0k (a2x (pt:=(.nm 7)) j9.never rfl (a2k rfl T.b_range (a0b a0g a0h a0f)) (show QP _ _ (.nm 7) from (a0m (i:=7) sc_due.nd rfl (dL rfl)))
  (a0n (a2x (pt:=(.nm 8)) j9.never rfl (a2k rfl T.b_range (a0b a0g a0h a0f)) (show QP _ _ (.nm 8) from (a0m (i:=8) sc_due.nd rfl (dL rfl)))
  (a0n (a2x (pt:=(.tp [9,10,11])) j9.never rfl (a0O (a0s G_pair (hr.mono (by decide)) rfl T.m31 F.n31.kp (b53 F) (a0b (a1d a0h) (a0b (q_ix x_ix (a0c (pv 4)) (a0c (pv 7)) (λ_ _=>rfl)) (a0b (q_ix x_ix (a0c (pv 5)) (a0c (pv 8)) (λ_ _=>rfl)) (a0b (a0c (pv 3)) a0h a0a) a0d) a0d) a0W) (he:=a0W) (hpl:=(a0j a0d (a0j a0d (a0j a0a a0l)))))) (show QP _ _ (.tp [9,10,11]) from (a3G rfl (a0y (a0m (i:=9) sc_due.nd rfl (dL rfl)) (a0y (a0m (i:=10) sc_due.nd rfl (dL rfl)) (a0y (a0m (i:=11) sc_due.nd rfl (dL rfl)) a2q)))))
  (a0n (a05 (q_bm PySem.F.plainAttrs_list PySem.F.slot_list_append PySem.F.type_list_append a1j (a0c (pv 6)) (a0b (a1L (a0b (a0c (pv 9)) (a0b (q_ix x_ix (a0c (pv 2)) (a0c (pv 7)) (λ_ _=>rfl)) (a0b (q_ix x_ix (a0c (pv 2)) (a0c (pv 8)) (λ_ _=>rfl)) (a0b (a0c (pv 10)) (a0b (a0c (pv 11)) a0h a0a) a0a) a0d) a0d) a0a)) a0h a1h)))))))))
  (a0k (z_set (i:=12) sc_due.nd rfl (dL rfl) (a1d a0h))
  (a0k (a2x (pt:=(.nm 13)) j9.never rfl (a0O (a0C a7N rfl T.b_sorted rfl (a0b (q_lc (N₀:=["one","other","keys","points","lines","beside","rows","k","j","worth","begin","end","found","head"]) (so:=a0i a8E) (N':=["row"]) (cap:=[none]) (pt:=(.nm 0)) rfl rfl rfl (by decide +kernel) rfl (a0O (a0c (pv 6))) (λ_ _ _ _=>(show QP _ _ (.nm 0) from (a0m (i:=0) b8H rfl (dL rfl)))) (λ_ _ _ _=>a2b) (λ_ _ _ _=>(a1P x_sl (a0c (pv 0)) a1K (a2j a0g)))) a0h a0R) (he:=a0R) (hpl:=a0l))) (show QP _ _ (.nm 13) from (a0m (i:=13) sc_due.nd rfl (fH rfl)))
  (a0n (z_set (i:=12) sc_due.nd rfl (dL rfl) (q_op a0S (a0c (pv 12)) (q_lc (N₀:=["one","other","keys","points","lines","beside","rows","k","j","worth","begin","end","found","head"]) (so:=a0i a8E) (N':=["row","head"]) (cap:=[none,some 13]) (pt:=(.nm 0)) rfl rfl rfl (by decide +kernel) rfl (a0O (a0c (pv 6))) (λ_ _ _ _=>(show QP _ _ (.nm 0) from (a0m (i:=0) b8I rfl (dL rfl)))) (λ_ _ _ _=>(a6z (a0z (o_eq hu) (a1P x_sl (a0c (pv 0)) a1K (a2j a0g)) (a0c (pv 1)) (a0u _)))) (λ_ _ _ _=>(a0c (pv 0))))))))
  (a0n (a0H (a0c (pv 12))))))))))),?_⟩
 obtain⟨p,r,ks,T',U',kn,rfl,gp,gr,gks,hkl,hkn,knd,okT,okU,lT,lU,kT,kU,fin⟩:=h;walk_at "go";refine⟨p,T',rfl,gp,okT,by omega,λt1 m1 G1 ht1 s1 gt1 P1 _ l1=>?_⟩;walk_at "go";refine⟨r,U',rfl,s1 _ _ gr,okU,by omega,λt2 m2 G2 ht2 s2 gt2 P2 _ l2=>?_⟩;walk_at "go";refine b1F (s2 _ _ gt1) gt2 (a17 (by rw[dJ,dJ];omega)) λt3 ht3=>?_;walk_at "go";refine⟨t3,m1++m2,rfl,by rw[a0e,dS],by rw[dO];omega,λpt ms hpt so mem lm=>?_⟩;have s3:Sm G (put (put G2 t3 (.lst (m1.map Z.int++m2.map Z.int))) pt (.lst (ms.map Z.int))):=((s1.trans s2).trans (Sm.new ht3)).trans (Sm.new hpt);have gpt:put (put G2 t3 (.lst (m1.map Z.int++m2.map Z.int))) pt (.lst (ms.map Z.int)) pt=some (.lst (ms.map Z.int)):=a0e;generalize put (put G2 t3 (.lst (m1.map Z.int++m2.map Z.int))) pt (.lst (ms.map Z.int))=G3 at s3 gpt ⊢;have P:Pts T' ms:=⟨so,(mem 0).mpr (eJ _ P1.z),fun τ h=>(mem _).mpr (eJ _ (P1.b τ h)),fun τ h e he=>(mem _).mpr (eJ _ (P1.e τ h e he))⟩;have Q:Pts U' ms:=⟨so,(mem 0).mpr (eJ _ P1.z),fun τ h=>(mem _).mpr (eT _ (P2.b τ h)),fun τ h e he=>(mem _).mpr (eT _ (P2.e τ h e he))⟩;have hml:ms.length≤254:=by rw[dO]at lm;omega
 clear s1 s2 gt1 gt2 ht1 ht2 ht3 hpt mem lm;walk_at "go";refine a1W (s3 _ _ gks) ?_;intro A hA;have nApt:pt≠A:=a0p gpt hA;refine a5d (λi ys G'=>∃ ls:List Addr,ys=ls.map Z.ref/\LnsAt G' T' ms (kn.take i) ls/\Sm G3 G'/\G' A=some (.lst ys)/\A∉ls) ⟨[],rfl,LnsAt.nil,Sm.new hA,a0e,by simp⟩ (by rintro i ys G' _ ⟨_,_,_,s,_⟩;exact s _ _ (s3 _ _ gks)) ?_ ?_
 ·rintro i x ys G' hx ⟨ls,rfl,hls,s,gA,nA⟩;rw[dQ]at hx;cases hx':kn[i]? with
  | none=>rw[hx']at hx;cases hx
  | some k=>
  rw[hx']at hx;cases hx;refine⟨_,rfl,?_⟩;walk_at "go";refine a1W (s _ _ gpt) ?_;intro B hB;have nBA:A≠B:=a0p gA hB;refine a5d (λj zs H=>zs=(ms.take j).map (λt=>a0E (a0G T' k) t)/\Sm G' H/\H B=some (.lst zs)) ⟨rfl,Sm.new hB,a0e⟩ (by rintro j zs H _ ⟨_,s',_⟩;exact s' _ _ (s _ _ gpt)) ?_ ?_
  ·rintro j x zs H hx ⟨rfl,s',gB⟩;rw[dQ]at hx;cases hm':ms[j]? with
   | none=>rw[hm']at hx;cases hx
   | some m=>
   rw[hm']at hx;cases hx;have hj:=(dX.mp hm').1;refine⟨_,rfl,?_⟩;walk_at "go";refine⟨p,T',k,m,rfl,s' _ _ (s _ _ (s3 _ _ gp)),λH2 s2=>?_⟩;exact⟨s2 _ _ gB,by rw[dJ,dY];exact a0r (by omega),by rw[take_snoc hm',dS];rfl,(s'.trans s2).put hB,a0e⟩
  ·rintro zs H ⟨rfl,s',gB⟩;rw[dJ,eE]at gB;have hll:=hls.1;rw[dY]at hll;refine⟨s' _ _ gA,by rw[dJ];exact a0r (by omega),ls++[B],by rw[dS];rfl,?_,(s.trans s').put hA,a0e,?_⟩
   ·rw[take_snoc hx'];have h1:=(hls.keep s').snoc gB;exact⟨h1.1,λn k' l' a b=>by
     rw[a0o λz=>by
      have:=er b
      rw[z,dN,dP]at this;exact this.elim nA nBA]
     exact h1.2 n k' l' a b⟩
   ·rw[dN,dP,not_or];exact⟨nA,nBA⟩
 rintro ys G4 ⟨ls,rfl,hls,s34,gA,_⟩;rw[dJ,eE]at hls;have gpt4:=s34 _ _ gpt;have s04:=s3.trans s34;clear s3 s34 gpt hA nApt;walk_at "go";refine a1W (s04 _ _ gks) ?_;intro B hB;refine a5d (λi ys G'=>∃ ls:List Addr,ys=ls.map Z.ref/\LnsAt G' U' ms (kn.take i) ls/\Sm G4 G'/\G' B=some (.lst ys)/\B∉ls) ⟨[],rfl,LnsAt.nil,Sm.new hB,a0e,by simp⟩ (by rintro i ys G' _ ⟨_,_,_,s,_⟩;exact s _ _ (s04 _ _ gks)) ?_ ?_
 ·rintro i x ys G' hx ⟨ls,rfl,hls,s,gB,nB⟩;rw[dQ]at hx;cases hx':kn[i]? with
  | none=>rw[hx']at hx;cases hx
  | some k=>
  rw[hx']at hx;cases hx;refine⟨_,rfl,?_⟩;walk_at "go";refine a1W (s _ _ gpt4) ?_;intro E hE;have nEB:B≠E:=a0p gB hE;refine a5d (λj zs H=>zs=(ms.take j).map (λt=>a0E (a0G U' k) t)/\Sm G' H/\H E=some (.lst zs)) ⟨rfl,Sm.new hE,a0e⟩ (by rintro j zs H _ ⟨_,s',_⟩;exact s' _ _ (s _ _ gpt4)) ?_ ?_
  ·rintro j x zs H hx ⟨rfl,s',gE⟩;rw[dQ]at hx;cases hm':ms[j]? with
   | none=>rw[hm']at hx;cases hx
   | some m=>
   rw[hm']at hx;cases hx;have hj:=(dX.mp hm').1;refine⟨_,rfl,?_⟩;walk_at "go";refine⟨r,U',k,m,rfl,s' _ _ (s _ _ (s04 _ _ gr)),λH2 s2=>?_⟩;exact⟨s2 _ _ gE,by rw[dJ,dY];exact a0r (by omega),by rw[take_snoc hm',dS];rfl,(s'.trans s2).put hE,a0e⟩
  ·rintro zs H ⟨rfl,s',gE⟩;rw[dJ,eE]at gE;have hll:=hls.1;rw[dY]at hll;refine⟨s' _ _ gB,by rw[dJ];exact a0r (by omega),ls++[E],by rw[dS];rfl,?_,(s.trans s').put hB,a0e,?_⟩
   ·rw[take_snoc hx'];have h1:=(hls.keep s').snoc gE;exact⟨h1.1,λn k' l' a b=>by
     rw[a0o λz=>by
      have:=er b
      rw[z,dN,dP]at this;exact this.elim nB nEB]
     exact h1.2 n k' l' a b⟩
   ·rw[dN,dP,not_or];exact⟨nB,nEB⟩
 rintro ys G5 ⟨ls2,rfl,hls2,s45,gB,_⟩;rw[dJ,eE]at hls2;have hls:=hls.keep s45;have gA:=s45 _ _ gA;have gpt5:=s45 _ _ gpt4;have s05:=s04.trans s45;clear s04 s45 gpt4 hB;walk_at "go";refine⟨lenK rfl,λW hW=>?_⟩;have hWG:G W=none:=s05.free hW;have gW:put G5 W (.lst []) W=some (.lst []):=a0e;have k56:∀ b o,G5 b=some o->put G5 W (.lst []) b=some o/\b≠W:=λb o e=>⟨a0q e hW,a0p e hW⟩;generalize put G5 W (.lst [])=G6 at gW k56 ⊢;have gk5:=s05 _ _ gks;have kk:∀ {G':Hq},Kq W G6 G'->∀ b o,G5 b=some o->G' b=some o:=λ{G'} k b o e=>k b o (k56 b o e).1 (k56 b o e).2;have lenK1:∀ ks:List Str,ks.length≤4->∀ k,(ks.flatMap λj=>rwKJ T' U' ms k j).length≤4*254:=λks h k=>dW (a8b (n:=254) λj _=>dW b37 hml) (gx h (dM _));have lenK2:∀ ks:List Str,ks.length≤4->(ks.flatMap λk=>kn.flatMap λj=>rwKJ T' U' ms k j).length≤4*(4*254):=λks h=>dW (a8b (n:=4*254) λk _=>lenK1 kn (by omega) k) (gx h (dM _));walk_at "go";refine⟨by decide,by decide,?_⟩;refine a08 (λi σ G'=>Ex5 λ(v1 v2 v3 v4 v5:Option Z)=>Kq W G6 G'/\G' W=some (.lst (((kn.take i).flatMap λk=>kn.flatMap λj=>rwKJ T' U' ms k j).map fivJ))/\σ=[some (.ref p),some (.ref r),some (.ref ks),some (.ref pt),some (.ref A),some (.ref B),some (.ref W),v1,v2,v3,v4,v5,none,none]) ⟨_,_,_,_,_,λ_ _ e _=>e,gW,rfl⟩ (λ_ _ _ _ _=>True.intro) ?_ ?_
 ·rintro i x σ G7 hx ⟨v1,v2,v3,v4,v5,kq7,gW7,rfl⟩;obtain⟨hi,rfl⟩:=a3r hx;have hi:i<4:=hi;rw[iW];obtain⟨k,hk⟩:∃ k,kn[i]?=some k:=⟨_,en (by omega)⟩;have ak:atI (kn.map Z.str) (i:Int)=some (.str k):=a1e (by rw[dQ,hk];rfl);have tk1:((kn.take (i+1)).flatMap λk=>kn.flatMap λj=>rwKJ T' U' ms k j)=((kn.take i).flatMap λk=>kn.flatMap λj=>rwKJ T' U' ms k j)++kn.flatMap λj=>rwKJ T' U' ms k j:=by rw[take_snoc hk,gU];simp
  have len7:=lenK2 (kn.take i) (by rw[dY];omega);generalize ((kn.take i).flatMap λk=>kn.flatMap λj=>rwKJ T' U' ms k j)=P0 at gW7 tk1 len7;refine⟨_,rfl,?_⟩;walk_at "go";refine⟨by decide,by decide,?_⟩;refine a08 (λj σ G'=>Ex4 λ(v2 v3 v4 v5:Option Z)=>Kq W G6 G'/\G' W=some (.lst ((P0++(kn.take j).flatMap λj=>rwKJ T' U' ms k j).map fivJ))/\σ=[some (.ref p),some (.ref r),some (.ref ks),some (.ref pt),some (.ref A),some (.ref B),some (.ref W),some (.int (i:Int)),v2,v3,v4,v5,none,none]) ⟨_,_,_,_,kq7,by simpa using gW7,rfl⟩ (λ_ _ _ _ _=>True.intro) ?_ ?_
  ·rintro j x σ G8 hx ⟨v2,v3,v4,v5,kq8,gW8,rfl⟩;obtain⟨hj,rfl⟩:=a3r hx;have hj:j<4:=hj;rw[iW];obtain⟨k2,hk2⟩:∃ k2,kn[j]?=some k2:=⟨_,en (by omega)⟩;have ak2:atI (kn.map Z.str) (j:Int)=some (.str k2):=a1e (by rw[dQ,hk2];rfl);have tk2:(P0++(kn.take (j+1)).flatMap λj=>rwKJ T' U' ms k j)=(P0++(kn.take j).flatMap λj=>rwKJ T' U' ms k j)++rwKJ T' U' ms k k2:=by rw[take_snoc hk2,gU];simp
   have len8:(P0++(kn.take j).flatMap λj=>rwKJ T' U' ms k j).length≤8000:=by
    have:=lenK1 (kn.take j) (by rw[dY];omega) k
    rw[dO];omega
   generalize (P0++(kn.take j).flatMap λj=>rwKJ T' U' ms k j)=P1 at gW8 tk2 len8;refine⟨_,rfl,?_⟩;walk_at "go";refine⟨lenK rfl,λf0 hf0=>?_⟩;have gf0:put G8 f0 (.lst []) f0=some (.lst []):=a0e;have s89:Sm G8 (put G8 f0 (.lst [])):=Sm.new hf0;have nf:∀ b o,G8 b=some o->f0≠b:=λb o e=>Ne.symm (a0p e hf0);generalize put G8 f0 (.lst [])=G9 at gf0 s89 ⊢;obtain⟨l1,al1,gl1⟩:=hls.at_ hk;obtain⟨l2,al2,gl2⟩:=hls2.at_ hk2;walk_at "go";refine a07 (s89 _ _ (kk kq8 _ _ gA)) al1 ?_;walk_at "go";refine a07 (s89 _ _ (kk kq8 _ _ gB)) al2 ?_;walk_at "go";refine⟨f0,l1,l2,pt,λt=>a0E (a0G T' k) t,λt=>a0E (a0G U' k2) t,ms,rfl,gf0,s89 _ _ (kk kq8 _ _ gl1),s89 _ _ (kk kq8 _ _ gl2),s89 _ _ (kk kq8 _ _ gpt5),nf _ _ (kk kq8 _ _ gl1),nf _ _ (kk kq8 _ _ gl2),nf _ _ (kk kq8 _ _ gpt5),hml,a5F okT,a5F okU,λG10 k10 gf10=>?_⟩;have gf10:G10 f0=some (.lst ((join (pcs (pF T' U' k k2) ms)).map z3)):=gf10;have s810:Sm G8 G10:=λb o e=>k10 b o (s89 _ _ e) (Ne.symm (nf b o e));have kq10:Kq W G6 G10:=λb o e nb=>s810 _ _ (kq8 b o e nb);have gW10:=s810 _ _ gW8;have nfW:=nf _ _ gW8;have lenM:=dW (a62 (pcs (pF T' U' k k2) ms)) (a4m _ _);have nmM:=λr hr=>@b2P T' U' ms k k2 okT so r hr;have eKJ:rwKJ T' U' ms k k2=(join (pcs (pF T' U' k k2) ms)).map (jOf k k2):=rfl;generalize join (pcs (pF T' U' k k2) ms)=M at gf10 lenM nmM eKJ;walk_at "go";refine a1W gf10 ?_;refine a08 (λn σ G'=>∃ (v3 v4 v5:Option Z),Kq W G10 G'/\G' W=some (.lst ((P1++(M.take n).map (jOf k k2)).map fivJ))/\σ=[some (.ref p),some (.ref r),some (.ref ks),some (.ref pt),some (.ref A),some (.ref B),some (.ref W),some (.int (i:Int)),some (.int (j:Int)),v3,v4,v5,none,none]) ⟨_,_,_,λ_ _ e _=>e,by simpa using gW10,rfl⟩ (by rintro n σ G' _ ⟨_,_,_,k,_⟩;exact k _ _ gf10 nfW) ?_ ?_
   ·rintro n x σ G11 hx ⟨v3,v4,v5,kq11,gW11,rfl⟩;rw[dQ]at hx;cases hr':M[n]? with
    | none=>rw[hr']at hx;cases hx
    | some m=>
    rw[hr']at hx;cases hx;have hn:=(dX.mp hr').1;obtain⟨w,ew,hw⟩:=nmM m (er hr');have hz:z3 m=.tup [.str w,.int m.b,oz m.e]:=by unfold z3;rw[ew];rfl
    have ks11:=kq11 _ _ (kq10 _ _ (k56 _ _ gk5).1 (k56 _ _ gk5).2) (k56 _ _ gk5).2;rw[hz];refine⟨_,rfl,?_⟩;walk_at "go";refine a2l gW11 ?_;walk_at "go";refine a07 ks11 ak ?_;walk_at "go";refine a07 ks11 ak2 ?_;walk_at "go";refine⟨lenK rfl,?_⟩;walk_at "go";refine a0Y gW11 ?_ ?_
    ·rw[dJ,dO,dJ,dY];exact eA (by omega:_<40000) (by decide)
    refine⟨_,_,_,λb o e1 nb=>by rw[a0o nb];exact kq11 b o e1 nb,?_,rfl⟩;rw[a0e,take_snoc hr',dS (l₂:=[m]),<- eD,dS (l₂:=[m].map _),iV,iV,a3F,(b6n ew).1]
   ·rintro σ G11 ⟨v3,v4,v5,kq11,gW11,rfl⟩;rw[dJ,eE,<- eKJ,<- tk2]at gW11;walk_at "go";exact⟨_,_,_,_,λb o e1 nb=>kq11 b o (kq10 b o e1 nb) nb,gW11,rfl⟩
  ·rintro σ G8 ⟨v2,v3,v4,v5,kq8,gW8,rfl⟩;rw[a1v,show (4:Int).toNat=kn.length from hkl.symm,eE,<- tk1]at gW8;walk_at "go";exact⟨_,_,_,_,_,kq8,gW8,rfl⟩
 ·rintro σ G7 ⟨v1,v2,v3,v4,v5,kq7,gW7,rfl⟩;rw[a1v,show (4:Int).toNat=kn.length from hkl.symm,eE]at gW7;have lenR:=lenK2 kn (by omega);have isR:=b89 P Q okT okU kT kU;have ndR:=b2L (T:=T') (U:=U') so knd;have okR:JOk (rwL T' U' ms kn):=λx hx=>by
   unfold rwL rwKJ at hx;simp only[iA,eq]at hx;obtain⟨k,hk,j,hj,r,hr,rfl⟩:=hx;obtain⟨w,ew,hw⟩:=b2P okT so hr;rw[(b6n ew).1];exact⟨hw,hkn k hk,hkn j hj⟩
  have s07:Sm G G7:=λb o e=>kk kq7 _ _ (s05 _ _ e);have gW7:G7 W=some (.lst ((rwL T' U' ms kn).map fivJ)):=gW7;have lenR:(rwL T' U' ms kn).length≤4064:=lenR;generalize rwL T' U' ms kn=R0 at gW7 lenR isR ndR okR;have un:Un R0:=λx hx y hy=>b32 ((isR x).mp hx) ((isR y).mp hy);clear kq7 kk k56 lenK1 lenK2 hls hls2 gA gB gpt5 gk5 s05;walk_at "go";refine⟨lenK rfl,λF0 hF0=>?_⟩;have hF0G:G F0=none:=s07.free hF0;have gF0:put G7 F0 (.lst []) F0=some (.lst []):=a0e;have s08:Sm G (put G7 F0 (.lst [])):=s07.trans (Sm.new hF0);have gW8:=a0q (o:=.lst []) gW7 hF0;generalize put G7 F0 (.lst [])=G8 at gF0 s08 gW8 ⊢;walk_at "go";refine a1W gW8 ?_;intro D hD;refine a5d (λi ys G'=>ys=((R0.take i).map J.p4).map L3.tupZ/\G'=put G8 D (.lst ys)) ⟨rfl,rfl⟩ (by rintro i ys G' _ ⟨_,rfl⟩;exact a0q gW8 hD) ?_ ?_
  ·rintro i x ys G' hx ⟨rfl,rfl⟩;rw[dQ]at hx;cases hr':R0[i]? with
   | none=>rw[hr']at hx;cases hx
   | some y=>
   rw[hr']at hx;cases hx;refine⟨_,rfl,?_⟩;walk_at "go";rw[a3F];refine b9b ?_;exact⟨a0e,by rw[dJ,dJ,dY];exact eA (by omega:_<40000) (by decide),by rw[take_snoc hr',dS,dS];rfl,by rw[a2u]⟩
  rintro ys G9 ⟨rfl,rfl⟩;rw[dJ,eE];walk_at "go";refine a7O (rows:=R0.map J.p4) (m:=4) a0e (by rw[dJ];omega) ?_ ?_ ?_ λSx os hSx hp hso=>?_
  ·intro x hx;obtain⟨y,_,rfl⟩:=eq.mp hx;exact⟨_,_,rfl⟩
  ·intro x hx;obtain⟨y,_,rfl⟩:=eq.mp hx
   rfl
  ·intro x hx y hy;obtain⟨x,hx,rfl⟩:=eq.mp hx;obtain⟨y,hy,rfl⟩:=eq.mp hy;exact cmp4 x y
  obtain⟨X,rfl,pX⟩:=a65 J.p4 hp;have sX:∀ x∈X,x∈R0:=λx hx=>pX.mem_iff.mp hx;have lX:=pX.length_eq;have s89:Sm G8 (put (put G8 D (.lst ((R0.map J.p4).map L3.tupZ))) Sx (.lst ((X.map J.p4).map L3.tupZ))):=(Sm.new hD).trans (Sm.new hSx);have gS:put (put G8 D (.lst ((R0.map J.p4).map L3.tupZ))) Sx (.lst ((X.map J.p4).map L3.tupZ)) Sx=some (.lst ((X.map J.p4).map L3.tupZ)):=a0e;generalize put (put G8 D (.lst ((R0.map J.p4).map L3.tupZ))) Sx (.lst ((X.map J.p4).map L3.tupZ))=G9 at s89 gS ⊢;have s09:=s08.trans s89;have gW9:=s89 _ _ gW8;have gF9:=s89 _ _ gF0;clear s07 s08 s89 gW8 gF0 hD hSx gW7 hF0;walk_at "go";refine a1W gS ?_;refine a08 (λi σ G'=>∃ (F:Addr) (v:Option Z),Sm G9 G'/\G F=none/\G' F=some (.lst ((X.take i).map fivJ))/\σ=[some (.ref p),some (.ref r),some (.ref ks),some (.ref pt),some (.ref A),some (.ref B),some (.ref W),v1,v2,v3,v4,v5,some (.ref F),v]) ⟨F0,_,Sm.refl _,hF0G,gF9,rfl⟩ (by rintro i σ G' _ ⟨_,_,s,_⟩;exact s _ _ gS) ?_ ?_
  ·rintro i z σ G10 hx ⟨F,v,s10,hF,gF,rfl⟩;rw[dQ,dQ]at hx;cases hr':X[i]? with
   | none=>rw[hr']at hx;cases hx
   | some x=>
   rw[hr']at hx;cases hx;have hxR:=sX x (er hr');refine⟨_,rfl,?_⟩;walk_at "go";refine a1W (s10 _ _ gW9) ?_;intro E hE;refine a5d (λn ys G'=>ys=((R0.take n).filter λy=>decide (y.p4=x.p4)).map fivJ/\G'=put G10 E (.lst ys)) ⟨rfl,rfl⟩ (by rintro i ys G' _ ⟨_,rfl⟩;exact a0q (s10 _ _ gW9) hE) ?_ ?_
   ·rintro n z ys G' hx ⟨rfl,rfl⟩;rw[dQ]at hx;cases hn':R0[n]? with
    | none=>rw[hn']at hx;cases hx
    | some y=>
    rw[hn']at hx;cases hx;have hyR:=er hn';have tf:(R0.take (n+1)).filter (λy=>decide (y.p4=x.p4))=(R0.take n).filter (λy=>decide (y.p4=x.p4))++[y].filter λy=>decide (y.p4=x.p4):=by rw[take_snoc hn',gY]
    refine⟨_,rfl,?_⟩;walk_at "go";rw[a3F];refine b9b ?_;rw[p4Z];walk_at "go";refine b8O (b2O (okR y hyR)) (b2O (okR x hxR)) ?_;rw[b9c]
    by_cases c:y.p4=x.p4
    ·rw[decide_eq_true c];walk_at "go";refine⟨_,rfl,a0e,?_,?_,by rw[a2u]⟩
     ·rw[dJ];exact eA (h9 (gT _ _) (by rw[dY];omega:_<40000)) (by decide)
     ·rw[tf,e8,if_pos (decide_eq_true c),dS,<- a3F];rfl
    ·rw[decide_eq_false c];walk_at "go";refine⟨?_,rfl⟩;rw[tf,e8,if_neg (by simpa using c)];simp
   rintro ys G11 ⟨rfl,rfl⟩;rw[dJ,eE,b2M ndR (λy hy=>un y hy x hxR) hxR];walk_at "go";refine b1F (a0q gF hE) a0e ?_ λF2 hF2=>?_
   ·rw[dJ,dY];exact dW (by simp;omega:_≤40000) (by decide)
   walk_at "go";have s11:Sm G10 (put G10 E (.lst ([x].map fivJ))):=Sm.new hE;refine⟨F2,_,s10.trans (s11.trans (Sm.new hF2)),(s09.trans (s10.trans s11)).free hF2,?_,rfl⟩;rw[a0e,take_snoc hr',dS]
  ·rintro σ G10 ⟨F,v,s10,hF,gF,rfl⟩;rw[dJ,dJ,eE]at gF;walk_at "go";refine fin F X G10 hF (s09.trans s10) (pX.nodup_iff.mpr ndR) (λx=>pX.mem_iff.trans (isR x)) ?_ (λx hx=>okR x (sX x hx)) gF;rw[fD]at hso;exact hso
theorem b38 {K:Fg}{C:Addr}:PySem.W.kitOne K (.ref C) (.ref C)=some true:=by
 unfold PySem.W.kitOne;rw[if_pos (by simp)]
structure TwoIn (a:Ad) (G:Hq) (p r:Addr) (S V:Addr->Prop) (T U:List Tl):Prop where
 sp:Sheet a.c_Sheet G p S T
 sr:Sheet a.c_Sheet G r V U
 okT:OkT T
 okU:OkT U
 fewT:Few T
 fewU:Few U
 lT:T.length≤63
 lU:U.length≤63
theorem TwoIn.keep {a:Ad}{G G':Hq}{p r:Addr}{S V:Addr->Prop}{T U:List Tl}(h:TwoIn a G p r S V T U) (s:Sm G G'):TwoIn a G' p r S V T U:=⟨h.sp.keep (Sm.ks s),h.sr.keep (Sm.ks s),h.okT,h.okU,h.fewT,h.fewU,h.lT,h.lU⟩
theorem TwoIn.swap {a:Ad}{G:Hq}{p r:Addr}{S V:Addr->Prop}{T U:List Tl}(h:TwoIn a G p r S V T U):TwoIn a G r p V S U T:=⟨h.sr,h.sp,h.okU,h.okT,h.fewU,h.fewT,h.lU,h.lT⟩
theorem TwoIn.one {a:Ad}{G:Hq}{p r:Addr}{S V:Addr->Prop}{T U:List Tl}(h:TwoIn a G p r S V T U):TwoIn a G p p S S T T:=⟨h.sp,h.sp,h.okT,h.okT,h.fewT,h.fewT,h.lT,h.lT⟩
def a9O (a:Ad):P3:=λws G R=>Ex15 λ(sA tA kA ks p r tp tr:Addr) (S V:Addr->Prop) (T U:List Tl) (q u:Int) (kn:List Str)=>ws=[.ref sA,.ref tA,.ref kA,.ref ks]/\G sA=some (.lst [.ref p,.ref r])/\G tA=some (.lst [.ref tp,.ref tr])/\G kA=some (.lst [.int q,.int u])/\G ks=some (.lst (kn.map Z.str))/\G tp=some (.lst (T.map Tl.z))/\G tr=some (.lst (U.map Tl.z))/\TwoIn a G p r S V T U/\kn.length=4/\(∀ s∈kn,nmOk s)/\kn.Nodup/\(∀ τ∈T,τ.key∈kn)/\(∀ τ∈U,τ.key∈kn)/\inR T q/\inR U u/\∀ G',Sm G G'->R (.bl true) G'
theorem b2Q {a:Ad}{ws:List Z}{G:Hq}{R:K3}(h:a9O a ws G R):ws.length=4:=by obtain⟨_,_,_,_,_,_,_,_,_,_,_,_,_,_,_,rfl,_⟩:=h;rfl
theorem b39 (F:Fns K a) (T:Txt K mg a):FnOk P w K mg base CX0 6 a.f33 a.d33 ["sheets","tellings","knowings","keys"] (lowP K (a9O a)):=by
 have G_due:=b9d (P:=P) (w:=w) (base:=base) F T;have G_p_by_worth:=a37 (P:=P) (w:=w) (base:=base) F T;refine fn3 F.n33 sc_right (λws G R h=>(by exact b2Q h)) (λcdv A outer s H E ws G R hr h=>?_);have hu:=a01 hr;refine⟨_,(a0k (z_set (i:=4) sc_right.nd rfl (dL rfl) (a0s G_due (hr.mono (by decide)) rfl T.m32 F.n32.kp (b8L F) (a0b (a1P x_sl (q_ix x_ix (a0c (pv 1)) a0g (λ_ _=>rfl)) a1K (a2j (q_ix x_ix (a0c (pv 2)) a0g (λ_ _=>rfl)))) (a0b (a1P x_sl (q_ix x_ix (a0c (pv 1)) a0g (λ_ _=>rfl)) a1K (a2j (q_ix x_ix (a0c (pv 2)) a0g (λ_ _=>rfl)))) (a0b (a0c (pv 3)) a0h a0a) a0d) a0d) (he:=a0d) (hpl:=(a0j a0d (a0j a0a a0l)))))
  (a0k (z_set (i:=5) sc_right.nd rfl (dL rfl) (a2D a5n up0 G_p_by_worth (hr.mono (by decide)) rfl T.m18 F.n18.kp (a2H F) (a0b (q_ix x_ix (a0c (pv 0)) a0g (λ_ _=>rfl)) (a0b (q_ix x_ix (a0c (pv 2)) a0g (λ_ _=>rfl)) (a0b (q_ix x_ix (a0c (pv 0)) a0g (λ_ _=>rfl)) (a0b (q_ix x_ix (a0c (pv 2)) a0g (λ_ _=>rfl)) a0h a0d) a0d) a0d) a0d) (he:=a0d) (hpl:=(a0j a0d (a0j a0d (a0j a0d a0l))))))
  (a0k (z_if (QW.qt (q_or (a2O (a3g (a0C a8n rfl T.b_isinstance rfl (a0b (a0c (pv 5)) (a0b (q_ty (a2Z (v:=.ty "list") rfl T.b_list rfl rfl)) a0h a0a) a0a) (he:=a0a) (hpl:=(a0j a0a a0l))))) (a5c (a0z (o_ne hu) (a0c (pv 5)) (a0c (pv 4)) (a0u _)))))
  (a0n (a0H q_bl))
  a06)
  (a0k (a2x (pt:=(.nm 6)) j9.never rfl (a0O (a0c (pv 5))) (show QP _ _ (.nm 6) from (a0m (i:=6) sc_right.nd rfl (dL rfl)))
  (a0n (z_if (QW.qt (q_or (a2O (a3g (a0C a8n rfl T.b_isinstance rfl (a0b (a0c (pv 6)) (a0b (q_ty (a2Z (v:=.ty "tuple") rfl T.b_tuple rfl rfl)) a0h a0a) a0a) (he:=a0a) (hpl:=(a0j a0a a0l))))) (q_or (a3g (a0C a8n rfl T.b_isinstance rfl (a0b (q_ix x_ix (a0c (pv 6)) a0g (λ_ _=>rfl)) (a0b (q_ty (a2Z (v:=.ty "bool") rfl T.b_bool rfl rfl)) a0h a0a) a0d) (he:=a0d) (hpl:=(a0j a0a a0l)))) (a5c (a3g (a0C a8n rfl T.b_isinstance rfl (a0b (q_ix x_ix (a0c (pv 6)) a0g (λ_ _=>rfl)) (a0b (q_ty (a2Z (v:=.ty "bool") rfl T.b_bool rfl rfl)) a0h a0a) a0d) (he:=a0d) (hpl:=(a0j a0a a0l))))))))
  (a0n (a0H q_bl))
  a06)))
  (a0k (a05 (b9J PySem.F.plainAttrs_list PySem.F.slot_list_clear PySem.F.type_list_clear b5r (a0c (pv 5))))
  (a0n (a0H (a91 (o_eq hu) (a2D a5n up0 G_p_by_worth (hr.mono (by decide)) rfl T.m18 F.n18.kp (a2H F) (a0b (q_ix x_ix (a0c (pv 0)) a0g (λ_ _=>rfl)) (a0b (q_ix x_ix (a0c (pv 2)) a0g (λ_ _=>rfl)) (a0b (q_ix x_ix (a0c (pv 0)) a0g (λ_ _=>rfl)) (a0b (q_ix x_ix (a0c (pv 2)) a0g (λ_ _=>rfl)) a0h a0d) a0d) a0d) a0d) (he:=a0d) (hpl:=(a0j a0d (a0j a0d (a0j a0d a0l))))) (a0c (pv 4)) (a0u _))))))))),?_⟩
 obtain⟨sA,tA,kA,ks,p,r,tp,tr,S,V,T',U',q,u,kn,rfl,gs,gt,gk,gks,gtp,gtr,I,hkl,hkn,knd,km,kmu,hq,hu,fin⟩:=h;walk_at "go";refine b7W gtp λt1 ht1=>?_;have e1:put G t1 (.lst (cutZ (T'.map Tl.z) none (some q))) t1=some (.lst ((T'.take q.toNat).map Tl.z)):=by rw[a0e,a67 hq.1 (by rw[dJ];exact hq.2),iE]
 have s1:Sm G (put G t1 (.lst (cutZ (T'.map Tl.z) none (some q)))):=Sm.new ht1;generalize put G t1 (.lst (cutZ (T'.map Tl.z) none (some q)))=G1 at e1 s1 ⊢;have gt1:=s1 _ _ gt;have gk1:=s1 _ _ gk;walk_at "go";refine b7W (s1 _ _ gtr) λt2 ht2=>?_;have e2:put G1 t2 (.lst (cutZ (U'.map Tl.z) none (some u))) t2=some (.lst ((U'.take u.toNat).map Tl.z)):=by rw[a0e,a67 hu.1 (by rw[dJ];exact hu.2),iE]
 have s2:Sm G1 (put G1 t2 (.lst (cutZ (U'.map Tl.z) none (some u)))):=Sm.new ht2;generalize put G1 t2 (.lst (cutZ (U'.map Tl.z) none (some u)))=G2 at e2 s2 ⊢;have s02:=s1.trans s2;have okT:OkT (T'.take q.toNat):=fun τ h=>I.okT τ (fc h);have okU:OkT (U'.take u.toNat):=fun τ h=>I.okU τ (fc h);have kmT:∀ τ∈T'.take q.toNat,τ.key∈kn:=fun τ h=>km τ (fc h);have kmU:∀ τ∈U'.take u.toNat,τ.key∈kn:=fun τ h=>kmu τ (fc h);have lT:=I.lT;have lU:=I.lU;walk_at "go";refine⟨t1,t2,ks,_,_,kn,rfl,s2 _ _ e1,e2,s02 _ _ gks,hkl,hkn,knd,okT,okU,by rw[dY];omega,by rw[dY];omega,kmT,kmU,λd X G3 hd s3 nX isX upX okX gd=>?_⟩;have fl:=okX.flat;have s03:=s02.trans s3;have I3:=I.keep s03;have gs3:=s03 _ _ gs;have gk3:=s03 _ _ gk;clear e1 e2 s1 s2 s3 ht1 ht2 gt1 gk1 hd;walk_at "go";refine⟨p,r,S,V,T',U',q,u,rfl,I3.sp,I3.sr,I3.okT,I3.okU,I3.fewT,I3.fewU,I3.lT,I3.lU,.inl ⟨hq,hu,λf Y G4 hf s4 nY isY upY gf=>?_⟩⟩;have ev:Y=X:=b6k upY upX (b2H isY isX nY nX) λx hx y hy=>b32 ((isY x).mp hx) ((isY y).mp hy);have nfd:f≠d:=λz=>by rw[z,gd]at hf;cases hf
 rw[ev]at gf;have gd4:=s4 _ _ gd;walk_at "go";refine b1J (n:="list") (b:=true) (by simp[tyN,gf]) (by decide +kernel) ?_;walk_at "go";refine ifF ?_;walk_at "go";refine b5t gf gd4 fl fl ?_;walk_at "go";refine ifN (λz=>absurd rfl z) λ_=>?_;walk_at "go";refine a1W gf ?_;refine a08 (λi σ G'=>∃ v:Option Z,G'=G4/\σ=[some (.ref sA),some (.ref tA),some (.ref kA),some (.ref ks),some (.ref d),some (.ref f),v]) ⟨_,rfl,rfl⟩ (by rintro i σ G' _ ⟨_,rfl,_⟩;exact gf) ?_ ?_
 ·rintro i x σ G' hx ⟨v,rfl,rfl⟩;rw[dQ]at hx;cases hx':X[i]? with
  | none=>rw[hx']at hx;cases hx
  | some w=>
  rw[hx']at hx;cases hx;refine⟨_,rfl,?_⟩;rw[a3F];walk_at "go";refine b1J (n:="tuple") (b:=true) rfl (by decide +kernel) ?_;walk_at "go";refine ifF ?_;walk_at "go";refine b1J (n:="int") (b:=false) rfl rfl ?_;walk_at "go";cases w.e with
  | none=>
   refine b1J (n:="NoneType") (b:=false) rfl (by decide +kernel) ?_;walk_at "go";exact⟨_,rfl,rfl⟩
  | some e=>
   refine b1J (n:="int") (b:=false) rfl rfl ?_;walk_at "go";exact⟨_,rfl,rfl⟩
 ·rintro σ G' ⟨v,rfl,rfl⟩;walk_at "go";refine a2l gf ?_;refine⟨_,gf,?_⟩;have s5:Sm G (put G' f (.lst [])):=(s03.trans s4).put (s03.free hf);have gd5:put G' f (.lst []) d=some (.lst (X.map fivJ)):=by rw[a0o (Ne.symm nfd)];exact gd4
  have I5:=I.keep s5;have gs5:=s5 _ _ gs;have gk5:=s5 _ _ gk;generalize put G' f (.lst [])=G5 at s5 gd5 I5 gs5 gk5 ⊢;walk_at "go";refine⟨p,r,S,V,T',U',q,u,rfl,I5.sp,I5.sr,I5.okT,I5.okU,I5.fewT,I5.fewU,I5.lT,I5.lU,.inl ⟨hq,hu,λf2 Y2 G6 hf2 s6 nY2 isY2 upY2 gf2=>?_⟩⟩;have ev2:Y2=X:=b6k upY2 upX (b2H isY2 isX nY2 nX) λx hx y hy=>b32 ((isY2 x).mp hx) ((isY2 y).mp hy);rw[ev2]at gf2;walk_at "go";refine b5t gf2 (s6 _ _ gd5) fl fl ?_;rw[decide_eq_true rfl];exact fin G6 (s5.trans s6)
def a6n (a:Ad):P3:=λws G R=>Ex10 λ(sA kA p r:Addr) (S V:Addr->Prop) (T U:List Tl) (q u:Int)=>ws=[.ref sA,.ref kA]/\G sA=some (.lst [.ref p,.ref r])/\G kA=some (.lst [.int q,.int u])/\TwoIn a G p r S V T U/\¬ (inR T q/\inR U u)/\∀ G',Sm G G'->R (.bl true) G'
theorem a8X {a:Ad}{ws:List Z}{G:Hq}{R:K3}(h:a6n a ws G R):ws.length=2:=by obtain⟨_,_,_,_,_,_,_,_,_,_,rfl,_⟩:=h;rfl
theorem b0B (F:Fns K a) (T:Txt K mg a):FnOk P w K mg base CX0 6 a.f34 a.d34 ["sheets","knowings"] (lowP K (a6n a)):=by
 have G_p_by_worth:=a37 (P:=P) (w:=w) (base:=base) F T;refine fn3 F.n34 sc_refused (λws G R h=>(by exact a8X h)) (λcdv A outer s H E ws G R hr h=>?_);have hu:=a01 hr;refine⟨_,(a0k (z_set (i:=2) sc_refused.nd rfl (dL rfl) q_bl)
  (a0k (z_set (i:=3) sc_refused.nd rfl (dL rfl) q_bl)
  (a0k (b8C (i:=4) (λC=>C=a.x_NoKnowing) rfl rfl rfl G_p_by_worth (hr.mono (by decide)) rfl T.m18 F.n18.kp (a2H F) (a0b (q_ix x_ix (a0c (pv 0)) a0g (λ_ _=>rfl)) (a0b (q_ix x_ix (a0c (pv 1)) a0g (λ_ _=>rfl)) (a0b (q_ix x_ix (a0c (pv 0)) a0g (λ_ _=>rfl)) (a0b (q_ix x_ix (a0c (pv 1)) a0g (λ_ _=>rfl)) a0h a0d) a0d) a0d) a0d) rfl T.x_TimesError (λC hC=>(by rcases hC with rfl;exact T.xm_NoKnowing_TimesError)) sc_refused.nd rfl rfl (λC ex oe hC hx1 hx2 hx3=>(a0k (z_set (i:=2) sc_refused.nd rfl (dL rfl) (a88 (a0C (b5T hx1 hx2 hx3 (by rcases hC with rfl;exact T.xk_NoKnowing)) rfl T.b_isinstance rfl (a0b (a0c (pv 4)) (a0b (a3P (a1O rfl T.x_NoKnowing)) a0h a0a) a0a) (he:=a0a) (hpl:=(a0j a0a a0l))) (b1m (a0C (b5T hx1 hx2 hx3 (by rcases hC with rfl;exact T.xk_NoKnowing)) rfl T.b_isinstance rfl (a0b (a0c (pv 4)) (a0b (q_ty (a2Z (v:=.ty "ValueError") rfl T.b_ValueError rfl rfl)) a0h a0a) a0a) (he:=a0a) (hpl:=(a0j a0a a0l))))))
  (a0n (z_set (i:=3) sc_refused.nd rfl (dL rfl) (a0C (b5T hx1 hx2 hx3 (by rcases hC with rfl;exact T.xk_NoKnowing)) rfl T.b_isinstance rfl (a0b (a0c (pv 4)) (a0b (a1L (a0b (a3P (a1O rfl T.x_Broken)) (a0b (a3P (a1O rfl T.x_Forgotten)) (a0b (a3P (a1O rfl T.x_NoFit)) (a0b (a3P (a1O rfl T.x_NoLog)) (a0b (a3P (a1O rfl T.x_NoName)) (a0b (a3P (a1O rfl T.x_NoRow)) (a0b (a3P (a1O rfl T.x_NoSheet)) (a0b (a3P (a1O rfl T.x_NoStretch)) a0h a0a) a0a) a0a) a0a) a0a) a0a) a0a) a0a)) a0h a1h) a0a) (he:=a0a) (hpl:=(a0j a1h a0l))))))) (he:=a0d) (hpl:=(a0j a0d (a0j a0d (a0j a0d a0l)))))
  (a0n (a0H (a88 (a0c (pv 2)) (b1m (b9H (a0c (pv 3)))))))))),?_⟩
 obtain⟨sA,kA,p,r,S,V,T',U',q,u,rfl,gs,gk,I,no,fin⟩:=h;walk_at "go";refine b8D ?_;walk_at "go";refine⟨p,r,S,V,T',U',q,u,rfl,I.sp,I.sr,I.okT,I.okU,I.fewT,I.fewU,I.lT,I.lU,.inr ⟨no,λG1 s1=>⟨rfl,λe=>?_⟩⟩⟩;walk_at "go";refine⟨_,true,rfl,.inl ⟨_,rfl,b38⟩,?_⟩;walk_at "go";refine⟨_,true,rfl,.inr (.inl ⟨_,rfl,T.kt_NoKnowing_ValueError⟩),?_⟩;walk_at "go";refine⟨lenK rfl,?_⟩;refine⟨_,false,rfl,.inr (.inr ⟨[a.x_Broken,a.x_Forgotten,a.x_NoFit,a.x_NoLog,a.x_NoName,a.x_NoRow,a.x_NoSheet,a.x_NoStretch],rfl,T.ka_NoKnowing_0⟩),?_⟩;walk_at "go";exact fin G1 s1
structure LSt (a:Ad) (kn:List Str) (B:Hq) (Own:Addr->Prop) (p r t0 t1:Addr) (G:Hq) (S V:Addr->Prop) (T U:List Tl):Prop where
 sp:Sheet a.c_Sheet G p S T
 sr:Sheet a.c_Sheet G r V U
 dj:∀ x,S x->¬ V x
 hS:∀ x,S x->Own x\/B x=none
 hV:∀ x,V x->Own x\/B x=none
 kp:∀ x o,B x=some o->¬ Own x->G x=some o
 g0:G t0=some (.lst (T.map Tl.z))
 g1:G t1=some (.lst (U.map Tl.z))
 n0:¬ S t0/\¬ V t0/\Own t0
 n1:¬ S t1/\¬ V t1/\Own t1
 ne:t0≠t1
 okT:OkT T
 okU:OkT U
 kT:∀ τ∈T,τ.key∈kn
 kU:∀ τ∈U,τ.key∈kn
theorem LSt.swap {a:Ad}{kn:List Str}{B:Hq}{Own:Addr->Prop}{p r t0 t1:Addr}{G:Hq}{S V:Addr->Prop}{T U:List Tl}(L:LSt a kn B Own p r t0 t1 G S V T U):LSt a kn B Own r p t1 t0 G V S U T:=
 ⟨L.sr,L.sp,λx h q=>L.dj x q h,L.hV,L.hS,L.kp,L.g1,L.g0,⟨L.n1.2.1,L.n1.1,L.n1.2.2⟩,⟨L.n0.2.1,L.n0.1,L.n0.2.2⟩,Ne.symm L.ne,L.okU,L.okT,L.kU,L.kT⟩
theorem LSt.pt {a:Ad}{kn:List Str}{B:Hq}{Own:Addr->Prop}{p r t0 t1:Addr}{G Ga:Hq}{S V:Addr->Prop}{T U:List Tl}{o:O}(L:LSt a kn B Own p r t0 t1 G S V T U) (s:Sm G Ga):Sheet a.c_Sheet (put Ga t0 o) p S T/\Sheet a.c_Sheet (put Ga t0 o) r V U/\(∀ x o',B x=some o'->¬ Own x->put Ga t0 o x=some o'):=
 ⟨L.sp.keep λb o c e=>by rw[a0o λz=>L.n0.1 (by simp_all)];exact s _ _ e,L.sr.keep λb o c e=>by rw[a0o λz=>L.n0.2.1 (by simp_all)];exact s _ _ e,λx d e n=>by rw[a0o λz=>n (by rw[z];exact L.n0.2.2)];exact s _ _ (L.kp x d e n)⟩
theorem LSt.told {a:Ad}{kn:List Str}{B:Hq}{Own:Addr->Prop}{p r t0 t1:Addr}{G Ga Gb:Hq}{S S' V:Addr->Prop}{T U:List Tl}{τ:Tl}(L:LSt a kn B Own p r t0 t1 G S V T U) (s:Sm G Ga) (okτ:τ.Ok) (mk:τ.key∈kn)
  (i2:∀ b,S' b->S b\/put Ga t0 (.lst (T.map Tl.z++[τ.z])) b=none) (knb:KN S (put Ga t0 (.lst (T.map Tl.z++[τ.z]))) Gb) (sh:Sheet a.c_Sheet Gb p S' (T++[τ])):LSt a kn B Own p r t0 t1 Gb S' V (T++[τ]) U:=by
 obtain⟨_,i,d⟩:=L.pt s;have j:put Ga t0 (.lst (T.map Tl.z++[τ.z])) t1=some (.lst (U.map Tl.z)):=by rw[a0o (Ne.symm L.ne)];exact s _ _ L.g1
 have f:∀ {x o},put Ga t0 (.lst (T.map Tl.z++[τ.z])) x=some o->¬ S x->¬ S' x:=λ{x o} e n z=>by
  rcases i2 x z with w | w
  ·grind
  ·simp_all
 refine⟨sh,i.keep λb o k e=>knb b o (λz=>L.dj b z k) e,λx l g=>?_,λx h=>?_,L.hV,λx o e n=>knb x o (λz=>?_) (d x o e n),?_,knb _ _ L.n1.1 j,⟨f a0e L.n0.1,L.n0.2⟩,⟨f j L.n1.1,L.n1.2⟩,L.ne,λu c=>?_,L.okU,λu c=>?_,L.kU⟩
 ·rcases i2 x l with w | w
  ·exact L.dj x w g
  ·exact i.out w g
 ·rcases i2 x h with w | w
  ·exact L.hS x w
  ·by_cases n:Own x
   ·simp_all
   ·right
    cases e:B x with
    | none=>rfl
    | some o=>rw[d x o e n]at w;cases w
 ·rcases L.hS x z with w | w
  ·exact n w
  ·grind
 ·rw[knb _ _ L.n0.1 a0e,dS];rfl
 ·rcases dN.mp c with c | c
  ·exact L.okT u c
  ·simp_all
 ·rcases dN.mp c with c | c
  ·exact L.kT u c
  ·simp_all
theorem b4R {L x m:Int}(h:0≤L) (e:m=if L+1<9 then L+1 else 9):0<m/\0≤L - x % m/\L - x % m≤L:=by
 have a:0<m/\m≤L+1:=by grind
 have b:=eS x (show m≠0 by omega);have c:=eW x a.1;exact⟨a.1,by omega,by omega⟩
theorem b6s (h:a7V ws G R):ws.length=1:=by obtain⟨_,_,rfl,_⟩:=h;rfl
theorem b9e (F:Fns K a) (T:Txt K mg a):FnOk P w K mg base CX0 7 a.f38 a.d38 ["script"] (lowP K a7V):=by
 have G_words:=b3X (P:=P) (w:=w) (base:=base) F T;have G_cell_at:=b0s (P:=P) (w:=w) (base:=base) F T;have G_Sheet___init__:=a4s (P:=P) (w:=w) (base:=base) F T;have G_Sheet_tell:=a60 (P:=P) (w:=w) (base:=base) F T;have G_tumbled:=a3f (P:=P) (w:=w) (base:=base) F T;have G_right:=b39 (P:=P) (w:=w) (base:=base) F T;have G_telling:=b0x (P:=P) (w:=w) (base:=base) F T;have G_refused:=b0B (P:=P) (w:=w) (base:=base) F T;refine fn3 F.n38 sc_law (λws G R h=>(by exact b6s h)) (λcdv A outer s H E ws G R hr h=>?_);have hu:=a01 hr;refine⟨_,(a0k (z_set (i:=1) sc_law.nd rfl (dL rfl) (a0s G_words (hr.mono (by decide)) rfl T.m24 F.n24.kp (a9x F) (a0b (a0s G_cell_at (hr.mono (by decide)) rfl T.m22 F.n22.kp (a4l F) (a0b (a0c (pv 0)) (a0b a0g a0h a0f) a0a) (he:=a0a) (hpl:=(a0j a0f a0l))) a0h a0F) (he:=a0F) (hpl:=a0l)))
  (a0k (z_set (i:=2) sc_law.nd rfl (dL rfl) (a0s G_words (hr.mono (by decide)) rfl T.m24 F.n24.kp (a9x F) (a0b (a0s G_cell_at (hr.mono (by decide)) rfl T.m22 F.n22.kp (a4l F) (a0b (a0c (pv 0)) (a0b a0g a0h a0f) a0a) (he:=a0a) (hpl:=(a0j a0f a0l))) a0h a0F) (he:=a0F) (hpl:=a0l)))
  (a0k (z_set (i:=3) sc_law.nd rfl (dL rfl) (a1d (a0b (b11 T.mk_Sheet G_Sheet___init__ (hr.mono (by decide)) rfl T.mg_Sheet (a2m F)) (a0b (b11 T.mk_Sheet G_Sheet___init__ (hr.mono (by decide)) rfl T.mg_Sheet (a2m F)) a0h a0F) a0F)))
  (a0k (z_set (i:=4) sc_law.nd rfl (dL rfl) (a1d (a0b (a1d a0h) (a0b (a1d a0h) a0h a0W) a0W)))
  (a0k (a2x (pt:=(.nm 5)) j9.never rfl (a0O (a1P x_sl (a0c (pv 0)) (a2j a0g) (a2j a0g))) (show QP _ _ (.nm 5) from (a0m (i:=5) sc_law.nd rfl (dL rfl)))
  (a0k (z_set (i:=6) sc_law.nd rfl (dL rfl) (q_op a00 (a0s G_tumbled (hr.mono (by decide)) rfl T.m23 F.n23.kp (a0x F) (a0b (a0c (pv 5)) (a0b a0g a0h a0f) a0a) (he:=a0a) (hpl:=(a0j a0f a0l))) a0g))
  (a0k (a05 (q_bm PySem.F.plainAttrs_list PySem.F.slot_list_append PySem.F.type_list_append a1j (q_ix x_ix (a0c (pv 4)) (a0c (pv 6)) (λ_ _=>rfl)) (a0b (a0s G_telling (hr.mono (by decide)) rfl T.m27 F.n27.kp (b0r F) (a0b (a0c (pv 5)) (a0b (a0c (pv 1)) (a0b (a0c (pv 2)) a0h a0a) a0a) a0a) (he:=a0a) (hpl:=(a0j a0a (a0j a0a a0l)))) a0h a0F)))
  (a0n (a05 (a5o a5n up0 (q_ix x_ix (a0c (pv 3)) (a0c (pv 6)) (λ_ _=>rfl)) T.cl_Sheet T.mt37 G_Sheet_tell (hr.mono (by decide)) (a6Q F) (a0b (q_ix x_ix (q_ix x_ix (a0c (pv 4)) (a0c (pv 6)) (λ_ _=>rfl)) (q_un a1V a0g) (λ_ _=>rfl)) a0h a0d) (hst:=a0d) (hpl:=a0l)))))))
  (a0k (a8k (i:=7) sc_law.nd rfl rfl (N₀:=["script","keys","worths","sheets","tellings","cell","at","xs","last","some","own","bad"]) (so:=a0i a6L) (N':=["k","script"]) (cap:=[none,some 0]) (pt:=(.nm 0)) rfl rfl rfl (by decide +kernel) rfl (a2k rfl T.b_range (a0b a0g a0h a0f)) (λ_ _ _ _=>(show QP _ _ (.nm 0) from (a0m (i:=0) b8J rfl (dL rfl)))) (λ_ _ _ _=>a2b) (λ_ _ _ _=>(a0s G_tumbled (hr.mono (by decide)) rfl T.m23 F.n23.kp (a0x F) (a0b (a0s G_cell_at (hr.mono (by decide)) rfl T.m22 F.n22.kp (a4l F) (a0b (a0c (pv 1)) (a0b a0g a0h a0f) a0a) (he:=a0a) (hpl:=(a0j a0f a0l))) (a0b (a0c (pv 0)) a0h a0a) a0F) (he:=a0F) (hpl:=(a0j a0a a0l)))))
  (a0k (z_set (i:=8) sc_law.nd rfl (dL rfl) (a1d (a0b (a0C b_len rfl T.b_len PySem.boot_len (a0b (q_ix x_ix (a0c (pv 4)) a0g (λ_ _=>rfl)) a0h a0d) (he:=a0d) (hpl:=a0l)) (a0b (a0C b_len rfl T.b_len PySem.boot_len (a0b (q_ix x_ix (a0c (pv 4)) a0g (λ_ _=>rfl)) a0h a0d) (he:=a0d) (hpl:=a0l)) a0h a0F) a0F)))
  (a0k (z_set (i:=9) sc_law.nd rfl (dL rfl) (a1d (a0b (q_op a8l (q_ix x_ix (a0c (pv 8)) a0g (λ_ _=>rfl)) (q_op a00 (q_ix x_ix (a0c (pv 7)) a0g (λ_ _=>rfl)) (a0C (b_min rfl) rfl T.b_min rfl (a0b a0g (a0b (q_op a0S (q_ix x_ix (a0c (pv 8)) a0g (λ_ _=>rfl)) a0g) a0h a0t) a0f) (he:=a0f) (hpl:=(a0j a0t a0l))))) (a0b (q_op a8l (q_ix x_ix (a0c (pv 8)) a0g (λ_ _=>rfl)) (q_op a00 (q_ix x_ix (a0c (pv 7)) a0g (λ_ _=>rfl)) (a0C (b_min rfl) rfl T.b_min rfl (a0b a0g (a0b (q_op a0S (q_ix x_ix (a0c (pv 8)) a0g (λ_ _=>rfl)) a0g) a0h a0t) a0f) (he:=a0f) (hpl:=(a0j a0t a0l))))) a0h a0t) a0t)))
  (a0k (z_if (QW.qt (q_or (a2O (a3g (a0s G_right (hr.mono (by decide)) rfl T.m33 F.n33.kp (a6P F) (a0b (a0c (pv 3)) (a0b (a0c (pv 4)) (a0b (a0c (pv 8)) (a0b (a0c (pv 1)) a0h a0a) a0a) a0a) a0a) (he:=a0a) (hpl:=(a0j a0a (a0j a0a (a0j a0a a0l))))))) (a5c (a2O (a3g (a0s G_right (hr.mono (by decide)) rfl T.m33 F.n33.kp (a6P F) (a0b (a0c (pv 3)) (a0b (a0c (pv 4)) (a0b (a0c (pv 9)) (a0b (a0c (pv 1)) a0h a0a) a0a) a0a) a0a) (he:=a0a) (hpl:=(a0j a0a (a0j a0a (a0j a0a a0l))))))))))
  (a0n (a0H q_bl))
  a06)
  (a0k (z_set (i:=10) sc_law.nd rfl (dL rfl) (a1d (a0b (q_op a00 (q_ix x_ix (a0c (pv 7)) a0g (λ_ _=>rfl)) (q_op a0S (q_ix x_ix (a0c (pv 8)) a0g (λ_ _=>rfl)) a0g)) (a0b (q_op a00 (q_ix x_ix (a0c (pv 7)) a0g (λ_ _=>rfl)) (q_op a0S (q_ix x_ix (a0c (pv 8)) a0g (λ_ _=>rfl)) a0g)) a0h a0t) a0t)))
  (a0k (z_if (a2O (a3g (a0s G_right (hr.mono (by decide)) rfl T.m33 F.n33.kp (a6P F) (a0b (a1d (a0b (q_ix x_ix (a0c (pv 3)) a0g (λ_ _=>rfl)) (a0b (q_ix x_ix (a0c (pv 3)) a0g (λ_ _=>rfl)) a0h a0d) a0d)) (a0b (a1d (a0b (q_ix x_ix (a0c (pv 4)) a0g (λ_ _=>rfl)) (a0b (q_ix x_ix (a0c (pv 4)) a0g (λ_ _=>rfl)) a0h a0d) a0d)) (a0b (a0c (pv 10)) (a0b (a0c (pv 1)) a0h a0a) a0a) a0W) a0W) (he:=a0W) (hpl:=(a0j a0W (a0j a0a (a0j a0a a0l)))))))
  (a0n (a0H q_bl))
  a06)
  (a0k (a2x (pt:=(.nm 11)) j9.never rfl (a0O (a1d (a0b (q_un a1V a0g) (a0b (q_op a8l (q_un a1V a0g) (q_ix x_ix (a0c (pv 7)) a0g (λ_ _=>rfl))) (a0b (q_op a0S (q_ix x_ix (a0c (pv 8)) a0g (λ_ _=>rfl)) a0g) (a0b (q_op a0S (q_op a0S (q_ix x_ix (a0c (pv 8)) a0g (λ_ _=>rfl)) a0g) (q_ix x_ix (a0c (pv 7)) a0g (λ_ _=>rfl))) a0h a0t) a0t) a0t) a92))) (show QP _ _ (.nm 11) from (a0m (i:=11) sc_law.nd rfl (dL rfl)))
  (a0n (z_if (QW.qt (q_or (a2O (a3g (a0s G_refused (hr.mono (by decide)) rfl T.m34 F.n34.kp (a6d F) (a0b (a0c (pv 3)) (a0b (a1d (a0b (a0c (pv 11)) (a0b (q_ix x_ix (a0c (pv 8)) a0g (λ_ _=>rfl)) a0h a0d) a0a)) a0h a0W) a0a) (he:=a0a) (hpl:=(a0j a0W a0l))))) (a5c (a2O (a3g (a0s G_refused (hr.mono (by decide)) rfl T.m34 F.n34.kp (a6d F) (a0b (a1d (a0b (q_ix x_ix (a0c (pv 3)) a0g (λ_ _=>rfl)) (a0b (q_ix x_ix (a0c (pv 3)) a0g (λ_ _=>rfl)) a0h a0d) a0d)) (a0b (a1d (a0b (q_ix x_ix (a0c (pv 8)) a0g (λ_ _=>rfl)) (a0b (a0c (pv 11)) a0h a0a) a0d)) a0h a0W) a0W) (he:=a0W) (hpl:=(a0j a0W a0l))))))))
  (a0n (a0H q_bl))
  a06)))
  (a0n (a0H q_bl)))))))))))))),?_⟩
 obtain⟨sa,ns,rfl,hl,q⟩:=h;walk_at "go";refine⟨sa,ns,0,rfl,by decide,λc0=>?_⟩;walk_at "go";refine⟨c0,rfl,λks kn G1 hks s1 gks lk hk nd=>?_⟩;walk_at "go";refine⟨sa,ns,1,rfl,by decide,λc1=>?_⟩;walk_at "go";refine⟨c1,rfl,λwsA wn G2 hws s2 gws lw hw _=>?_⟩;have gks2:=s2 _ _ gks;clear s1 s2 hks hws gks;walk_at "go";intro p dx hp;refine⟨p,dx,rfl,a0e,λd G5 hd k5 sh5=>⟨rfl,?_⟩⟩;have s5:Sm G2 G5:=λx o e=>k5 x o (a0q e hp) (a0p e hp);clear k5;walk_at "go";intro r dx2 hr;refine⟨r,dx2,rfl,a0e,λd2 G6 hd2 k6 sh6=>⟨rfl,?_⟩⟩;have s6:Sm G5 G6:=λx o e=>k6 x o (a0q e hr) (a0p e hr);have fr:∀ x,(x=r\/x=d2)->G5 x=none:=λx hx=>by
  rcases hx with rfl | rfl
  ·exact hr
  ·exact (Sm.new hr).free hd2
 have dj:∀ x,(x=p\/x=d)->¬ (x=r\/x=d2):=λx h1 h2=>sh5.out (fr x h2) h1;have sh5:=sh5.keep (Sm.ks s6);have hS2:∀ {x o},G2 x=some o->¬ (x=p\/x=d)/\¬ (x=r\/x=d2):=λ{x o} e=>by
  refine⟨λz=>?_,λz=>?_⟩
  ·rcases z with rfl | rfl
   ·rw[e]at hp;cases hp
   ·rw[a0q e hp]at hd;cases hd
  ·have:=fr x z
   rw[s5 _ _ e]at this;cases this
 clear k6 hd2 fr;obtain⟨S0,V0,sh5,sh6,dj,hS2⟩:∃ S0 V0:Addr->Prop,Sheet a.c_Sheet G6 p S0 []/\Sheet a.c_Sheet G6 r V0 []/\(∀ x,S0 x->¬ V0 x)/\∀ x o,G2 x=some o->¬ S0 x/\¬ V0 x:=⟨_,_,sh5,sh6,dj,λx o=>hS2⟩;walk_at "go";refine⟨lenK rfl,λsA hsA=>?_⟩;have gs7:put G6 sA (.lst [.ref p,.ref r]) sA=some (.lst [.ref p,.ref r]):=a0e;have s7:Sm G6 (put G6 sA (.lst [.ref p,.ref r])):=Sm.new hsA;generalize put G6 sA (.lst [.ref p,.ref r])=G7 at gs7 s7 ⊢;walk_at "go";refine⟨lenK rfl,λt0 ht0=>?_⟩;have g08:put G7 t0 (.lst []) t0=some (.lst []):=a0e;have s8:Sm G7 (put G7 t0 (.lst [])):=Sm.new ht0;generalize put G7 t0 (.lst [])=G8 at g08 s8 ⊢;walk_at "go";refine⟨lenK rfl,λt1 ht1=>?_⟩;have g19:put G8 t1 (.lst []) t1=some (.lst []):=a0e;have s9:Sm G8 (put G8 t1 (.lst [])):=Sm.new ht1;generalize put G8 t1 (.lst [])=G9 at g19 s9 ⊢;walk_at "go";refine⟨lenK rfl,λtA htA=>?_⟩;have gt10:put G9 tA (.lst [.ref t0,.ref t1]) tA=some (.lst [.ref t0,.ref t1]):=a0e;have s10:Sm G9 (put G9 tA (.lst [.ref t0,.ref t1])):=Sm.new htA;generalize put G9 tA (.lst [.ref t0,.ref t1])=G10 at gt10 s10 ⊢;walk_at "go";refine b94 λc hc=>?_;have hcl:(cutZ ns (some 3) (some 123)).length≤63:=dW (a8m ..) hl;generalize cutZ ns (some 3) (some 123)=cs at hcl ⊢;have gc:put G10 c (.lst (cs.map Z.int)) c=some (.lst (cs.map Z.int)):=a0e;have s11:Sm G10 (put G10 c (.lst (cs.map Z.int))):=Sm.new hc;generalize put G10 c (.lst (cs.map Z.int))=B at gc s11 ⊢;have s97:=s8.trans s9;have s96:=s7.trans s97;have s911:=s10.trans s11;have sh5:=sh5;have out:∀ {x:Addr},G6 x=none->¬ S0 x/\¬ V0 x:=λh=>⟨sh5.out h,sh6.out h⟩;have o0:=out (s7.free ht0);have o1:=out (s7.free (s8.free ht1));have ne01:t0≠t1:=a0p g08 ht1;have old:∀ {x o},G6 x=some o->¬ S0 x->¬ V0 x->B x=some o/\¬ (S0 x\/V0 x\/x=t0\/x=t1):=λ{x o} e n1 n2=>⟨s911 _ _ (s96 _ _ e),λz=>by
  rcases z with z | z | z | z
  ·exact n1 z
  ·exact n2 z
  ·rw[<- z,s7 _ _ e]at ht0;cases ht0
  ·rw[<- z,s8 _ _ (s7 _ _ e)]at ht1;cases ht1⟩
 have pS:∀ {x o},G2 x=some o->¬ S0 x/\¬ V0 x:=hS2 _ _;have oks:=old (s6 _ _ (s5 _ _ gks2)) (pS gks2).1 (pS gks2).2;have ows:=old (s6 _ _ (s5 _ _ gws)) (pS gws).1 (pS gws).2;have osA:B sA=some (.lst [.ref p,.ref r])/\¬ (S0 sA\/V0 sA\/sA=t0\/sA=t1):=⟨s911 _ _ (s97 _ _ gs7),λz=>by
  rcases z with z | z | z | z
  ·exact (out hsA).1 z
  ·exact (out hsA).2 z
  ·rw[<- z,gs7]at ht0;cases ht0
  ·rw[<- z,s8 _ _ gs7]at ht1;cases ht1⟩
 have otA:B tA=some (.lst [.ref t0,.ref t1])/\¬ (S0 tA\/V0 tA\/tA=t0\/tA=t1):=⟨s11 _ _ gt10,λz=>by
  have z6:=out (s96.free htA);rcases z with z | z | z | z
  ·exact z6.1 z
  ·exact z6.2 z
  ·rw[z,s9 _ _ g08]at htA;cases htA
  ·rw[z,g19]at htA;cases htA⟩
 have oc:¬ (S0 c\/V0 c\/c=t0\/c=t1):=λz=>by
  have z6:=out (s96.free (s10.free hc));rcases z with z | z | z | z
  ·exact z6.1 z
  ·exact z6.2 z
  ·rw[z,s10 _ _ (s9 _ _ g08)]at hc;cases hc
  ·rw[z,s10 _ _ g19]at hc;cases hc
 have L0:LSt a kn B (λx=>S0 x\/V0 x\/x=t0\/x=t1) p r t0 t1 B S0 V0 [] []:=⟨sh5.keep (Sm.ks (s96.trans s911)),sh6.keep (Sm.ks (s96.trans s911)),dj,λx h=>.inl (.inl h),λx h=>.inl (.inr (.inl h)),λ_ _ e _=>e,s911 _ _ (s9 _ _ g08),s911 _ _ g19,⟨o0.1,o0.2,.inr (.inr (.inl rfl))⟩,⟨o1.1,o1.2,.inr (.inr (.inr rfl))⟩,ne01,(fun τ h=>by simp at h),(fun τ h=>by simp at h),(fun τ h=>by simp at h),(fun τ h=>by simp at h)⟩;obtain⟨Own,L0,oks,ows,osA,otA,oc⟩:∃ Own:Addr->Prop,LSt a kn B Own p r t0 t1 B S0 V0 [] []/\(B ks=some (.lst (kn.map Z.str))/\¬ Own ks)/\(B wsA=some (.lst (wn.map Z.str))/\¬ Own wsA)/\(B sA=some (.lst [.ref p,.ref r])/\¬ Own sA)/\(B tA=some (.lst [.ref t0,.ref t1])/\¬ Own tA)/\¬ Own c:=⟨_,L0,oks,ows,osA,otA,oc⟩;clear old pS out o0 o1 ne01 s911 s96 s97 s11 s10 s9 s8 s7 s6 s5 sh5 sh6 dj gs7 g08 g19 gt10 hsA ht0 ht1 htA hc hp hr gks2 gws;walk_at "go";refine a1W gc ?_;refine a08 (λi σ G'=>Ex6 λ(S V:Addr->Prop) (T U:List Tl) (v1 v2:Option Z)=>LSt a kn B Own p r t0 t1 G' S V T U/\T.length+U.length=i/\σ=[some (.scr sa ns),some (.ref ks),some (.ref wsA),some (.ref sA),some (.ref tA),v1,v2,none,none,none,none,none]) ⟨_,_,_,_,_,_,L0,rfl,rfl⟩ (by rintro i σ G' _ ⟨_,_,_,_,_,_,L,_⟩;exact L.kp _ _ gc oc) ?_ ?_
 ·rintro i x σ G' hx ⟨S,V,T1,U1,v1,v2,L,hTU,rfl⟩;rw[dQ]at hx;cases hx':cs[i]? with
  | none=>rw[hx']at hx;cases hx
  | some cl=>
  rw[hx']at hx;cases hx;have hi:=(dX.mp hx').1;refine⟨_,rfl,?_⟩;walk_at "go";refine⟨cl,50,rfl,by decide,by decide,λm m0 m1=>?_⟩;walk_at "go";have hz:m % 2=0\/m % 2=1:=by omega
  generalize m % 2=z at hz ⊢;have gtA:=L.kp _ _ otA.1 otA.2;rcases hz with rfl | rfl
  ·walk_at "go";refine a2l L.g0 ?_;walk_at "go";refine⟨_,ks,wsA,kn,wn,rfl,L.kp _ _ oks.1 oks.2,L.kp _ _ ows.1 ows.2,lk,lw,hk,hw,fun τ Ga sG okτ mk=>?_⟩;walk_at "go";refine a0Y (sG _ _ L.g0) (by rw[dJ];exact a0r (by omega)) ?_;obtain⟨shX,_,kX⟩:=L.pt (o:=.lst (T1.map Tl.z++[τ.z])) sG;have told:=λS' Gb=>L.told (S':=S') (Gb:=Gb) sG okτ mk;have gX:put Ga t0 (.lst (T1.map Tl.z++[τ.z])) t0=some (.lst (T1.map Tl.z++[τ.z])):=a0e;generalize put Ga t0 (.lst (T1.map Tl.z++[τ.z]))=X at shX kX told gX ⊢;have gsX:=kX _ _ osA.1 osA.2;have gtX:=kX _ _ otA.1 otA.2;obtain⟨dx',n',d',ob⟩:=shX.obj;walk_at "go";refine⟨p,dx',_,rfl,ob,a5N (by decide +kernel) (by decide +kernel),?_⟩;walk_at "go";refine a07 gX (a4o (by rw[jP];rfl)) ?_;walk_at "go";refine⟨p,S,T1,shX,.inl ⟨τ,rfl,okτ,by omega,λS' Gb i1 i2 knb shB=>?_⟩⟩;walk_at "go";exact⟨_,_,_,_,_,_,told S' Gb i2 knb shB,by rw[dO];simp;omega,rfl⟩
  ·walk_at "go";refine a2l L.g1 ?_;walk_at "go";refine⟨_,ks,wsA,kn,wn,rfl,L.kp _ _ oks.1 oks.2,L.kp _ _ ows.1 ows.2,lk,lw,hk,hw,fun τ Ga sG okτ mk=>?_⟩;walk_at "go";refine a0Y (sG _ _ L.g1) (by rw[dJ];exact a0r (by omega)) ?_;obtain⟨shX,_,kX⟩:=L.swap.pt (o:=.lst (U1.map Tl.z++[τ.z])) sG;have told:=λS' Gb=>L.swap.told (S':=S') (Gb:=Gb) sG okτ mk;have gX:put Ga t1 (.lst (U1.map Tl.z++[τ.z])) t1=some (.lst (U1.map Tl.z++[τ.z])):=a0e;generalize put Ga t1 (.lst (U1.map Tl.z++[τ.z]))=X at shX kX told gX ⊢;have gsX:=kX _ _ osA.1 osA.2;have gtX:=kX _ _ otA.1 otA.2;obtain⟨dx',n',d',ob⟩:=shX.obj;walk_at "go";refine⟨r,dx',_,rfl,ob,a5N (by decide +kernel) (by decide +kernel),?_⟩;walk_at "go";refine a07 gX (a4o (by rw[jP];rfl)) ?_;walk_at "go";refine⟨r,V,U1,shX,.inl ⟨τ,rfl,okτ,by omega,λS' Gb i1 i2 knb shB=>?_⟩⟩;walk_at "go";exact⟨_,_,_,_,_,_,(told S' Gb i2 knb shB).swap,by rw[dO];simp;omega,rfl⟩
 ·rintro σ G3 ⟨S,V,T',U',v1,v2,L,hTU,rfl⟩;rw[dJ]at hTU;have fT:Few T':=⟨by omega,kn,by omega,L.kT⟩;have fU:Few U':=⟨by omega,kn,by omega,L.kU⟩;have I:TwoIn a G3 p r S V T' U':=⟨L.sp,L.sr,L.okT,L.okU,fT,fU,by omega,by omega⟩;have gk3:=L.kp _ _ oks.1 oks.2;have gs3:=L.kp _ _ osA.1 osA.2;have gt3:=L.kp _ _ otA.1 otA.2;have g03:=L.g0;have g13:=L.g1;have kT:=L.kT;have kU:=L.kU;clear L oks ows osA otA oc gc L0;walk_at "go";refine⟨by decide,by decide,?_⟩;intro X hX;refine a5d (λi ys G'=>∃ xs:List Int,ys=xs.map Z.int/\xs.length=i/\(∀ x∈xs,0≤x/\x<1000000007)/\G'=put G3 X (.lst ys)) ⟨[],rfl,rfl,(λx h=>by simp at h),rfl⟩ (by rintro _ _ _ _ _;exact True.intro) ?_ ?_
  ·rintro i x ys G' hx ⟨xs,rfl,hxl,hxs,rfl⟩;obtain⟨hi,rfl⟩:=a3r hx;have hi:i<6:=hi;refine⟨_,rfl,?_⟩;walk_at "go";refine⟨sa,ns,2,rfl,by decide,λc2=>?_⟩;walk_at "go";refine⟨c2,_,rfl,by omega,by omega,λm m0 m1=>?_⟩;refine⟨a0e,by rw[dJ];exact a0r (by omega),xs++[m],by rw[dS];rfl,by rw[dO];simp;exact hxl,λy hy=>?_,by rw[a2u]⟩;rcases dN.mp hy with hy | hy
   ·exact hxs y hy
   ·rw[dP.mp hy];exact⟨m0,m1⟩
  ·rintro ys G7 ⟨xs,rfl,hxl,hxs,rfl⟩;rw[a1v]at hxl;have hxl:xs.length=6:=hxl;have gX:put G3 X (.lst (xs.map Z.int)) X=some (.lst (xs.map Z.int)):=a0e;have s4:Sm G3 (put G3 X (.lst (xs.map Z.int))):=Sm.new hX;generalize put G3 X (.lst (xs.map Z.int))=G4 at gX s4 ⊢;have gt4:=s4 _ _ gt3;walk_at "go";refine b1I (s4 _ _ g03) ?_;rw[dJ];walk_at "go";refine b1I (s4 _ _ g13) ?_;rw[dJ];walk_at "go";refine⟨lenK rfl,λlA hlA=>?_⟩;have gl:put G4 lA (.lst [.int T'.length,.int U'.length]) lA=some (.lst [.int T'.length,.int U'.length]):=a0e;have s5:Sm G4 (put G4 lA (.lst [.int T'.length,.int U'.length])):=Sm.new hlA;generalize put G4 lA (.lst [.int T'.length,.int U'.length])=G5 at gl s5 ⊢;have s35:=s4.trans s5;have I:=I.keep s35;have gk5:=s35 _ _ gk3;have gs5:=s35 _ _ gs3;have gt5:=s35 _ _ gt3;have g05:=s35 _ _ g03;have g15:=s35 _ _ g13;have gX5:=s5 _ _ gX;clear s35 s4 s5 gk3 gs3 gt3 g03 g13 gX gt4 hX hlA;have ix:∀ j:Int,0≤j->j<6->∃ x,atI (xs.map Z.int) j=some (.int x)/\0≤x:=λj h1 h2=>by
    obtain⟨x,h3,h4⟩:=b83 (xs:=xs) h1 (by omega);exact⟨x,h3,(hxs x h4).1⟩
   obtain⟨x0,ex0,_⟩:=ix 0 (by omega) (by omega);obtain⟨x1,ex1,_⟩:=ix 1 (by omega) (by omega);obtain⟨x2,ex2,_⟩:=ix 2 (by omega) (by omega);obtain⟨x3,ex3,_⟩:=ix 3 (by omega) (by omega);obtain⟨x4,ex4,h4⟩:=ix 4 (by omega) (by omega);obtain⟨x5,ex5,h5⟩:=ix 5 (by omega) (by omega);obtain⟨p1,b1,b2⟩:=@b4R (T'.length:Int) x0 _ (by omega) rfl;obtain⟨p2,b3,b4⟩:=@b4R (U'.length:Int) x1 _ (by omega) rfl;walk_at "go";refine a07 gX5 ex0 ?_;walk_at "go";refine i_I p1 ?_;walk_at "go";refine a07 gX5 ex1 ?_;walk_at "go";refine i_I p2 ?_;walk_at "go";refine⟨lenK rfl,λkA hkA=>?_⟩;generalize (T'.length:Int) - x0 % (if (T'.length:Int)+1<9 then (T'.length:Int)+1 else 9)=q1 at b1 b2 ⊢;generalize (U'.length:Int) - x1 % (if (U'.length:Int)+1<9 then (U'.length:Int)+1 else 9)=u1 at b3 b4 ⊢;have gkA:put G5 kA (.lst [.int q1,.int u1]) kA=some (.lst [.int q1,.int u1]):=a0e;have s56:Sm G5 (put G5 kA (.lst [.int q1,.int u1])):=Sm.new hkA;generalize put G5 kA (.lst [.int q1,.int u1])=G6 at gkA s56 ⊢;walk_at "go";refine⟨sA,tA,lA,ks,p,r,t0,t1,S,V,T',U',_,_,kn,rfl,s56 _ _ gs5,s56 _ _ gt5,s56 _ _ gl,s56 _ _ gk5,s56 _ _ g05,s56 _ _ g15,I.keep s56,by omega,hk,nd,kT,kU,⟨by omega,fb _⟩,⟨by omega,fb _⟩,λG7 s7=>?_⟩;walk_at "go";refine ifF ?_;walk_at "go";have s57:=s56.trans s7;refine⟨sA,tA,kA,ks,p,r,t0,t1,S,V,T',U',q1,u1,kn,rfl,s57 _ _ gs5,s57 _ _ gt5,s7 _ _ gkA,s57 _ _ gk5,s57 _ _ g05,s57 _ _ g15,I.keep s57,by omega,hk,nd,kT,kU,⟨b1,b2⟩,⟨b3,b4⟩,λG6 s67=>?_⟩;have s6:Sm G5 G6:=s57.trans s67;clear s67 s57 s7 s56;have gl6:=s6 _ _ gl;have gX6:=s6 _ _ gX5;have md:∀ x:Int,inR T' (x % ((T'.length:Int)+1)):=λx=>⟨eS _ (by omega),by have:=eW x (show (0:Int)<(T'.length:Int)+1 by omega);omega⟩;walk_at "go";refine ifF ?_;walk_at "go";refine a07 gX6 ex2 ?_;walk_at "go";refine i_I (show (0:Int)<(T'.length:Int)+1 by omega) ?_;walk_at "go";refine a07 gX6 ex3 ?_;walk_at "go";refine i_I (show (0:Int)<(T'.length:Int)+1 by omega) ?_;walk_at "go";refine⟨lenK rfl,λoA hoA=>?_⟩;have go:put G6 oA (.lst [.int (x2 % ((T'.length:Int)+1)),.int (x3 % ((T'.length:Int)+1))]) oA=some (.lst [.int (x2 % ((T'.length:Int)+1)),.int (x3 % ((T'.length:Int)+1))]):=a0e;have s7:Sm G6 (put G6 oA (.lst [.int (x2 % ((T'.length:Int)+1)),.int (x3 % ((T'.length:Int)+1))])):=Sm.new hoA;generalize put G6 oA (.lst [.int (x2 % ((T'.length:Int)+1)),.int (x3 % ((T'.length:Int)+1))])=G7 at go s7 ⊢;have s57:=s6.trans s7;have gs7:=s57 _ _ gs5;walk_at "go";refine⟨lenK rfl,λaA haA=>?_⟩;have ga:put G7 aA (.lst [.ref p,.ref p]) aA=some (.lst [.ref p,.ref p]):=a0e;have s8:Sm G7 (put G7 aA (.lst [.ref p,.ref p])):=Sm.new haA;generalize put G7 aA (.lst [.ref p,.ref p])=G8 at ga s8 ⊢;have gt8:=s8 _ _ (s57 _ _ gt5);walk_at "go";refine⟨lenK rfl,λbA hbA=>?_⟩;have gb:put G8 bA (.lst [.ref t0,.ref t0]) bA=some (.lst [.ref t0,.ref t0]):=a0e;have s9:Sm G8 (put G8 bA (.lst [.ref t0,.ref t0])):=Sm.new hbA;generalize put G8 bA (.lst [.ref t0,.ref t0])=G9 at gb s9 ⊢;have s79:=s8.trans s9;have s59:=s57.trans s79;walk_at "go";refine⟨aA,bA,oA,ks,p,p,t0,t0,S,S,T',T',_,_,kn,rfl,s9 _ _ ga,gb,s79 _ _ go,s59 _ _ gk5,s59 _ _ g05,s59 _ _ g05,(I.keep s59).one,by omega,hk,nd,kT,kT,md _,md _,λG10 s10=>?_⟩;have s510:=s59.trans s10;have gl10:=s510 _ _ gl;have gX10:=s510 _ _ gX5;have I:=I.keep s510;have gs10:=s510 _ _ gs5;clear s59 s79 s57 s10 s9 s8 s7 gb ga go gt8 gs7 gl6 gX6 s6;walk_at "go";refine ifF ?_;walk_at "go";refine a07 gX10 ex4 ?_;walk_at "go";refine a07 gX10 ex5 ?_;walk_at "go";refine⟨lenK rfl,λwA hwA=>?_⟩;have gw:put G10 wA (.lst [.int (-1),.int (-1 - x4),.int ((T'.length:Int)+1),.int ((T'.length:Int)+1+x5)]) wA=some (.lst (([-1,-1 - x4,(T'.length:Int)+1,(T'.length:Int)+1+x5]:List Int).map Z.int)):=a0e;have s11:Sm G10 (put G10 wA (.lst [.int (-1),.int (-1 - x4),.int ((T'.length:Int)+1),.int ((T'.length:Int)+1+x5)])):=Sm.new hwA;generalize put G10 wA (.lst [.int (-1),.int (-1 - x4),.int ((T'.length:Int)+1),.int ((T'.length:Int)+1+x5)])=G11 at gw s11 ⊢
   have bad:∀ b∈([-1,-1 - x4,(T'.length:Int)+1,(T'.length:Int)+1+x5]:List Int),¬ inR T' b:=λb hb=>by
    simp only[dU,fu,or_false]at hb;unfold inR;omega
   generalize ([-1,-1 - x4,(T'.length:Int)+1,(T'.length:Int)+1+x5]:List Int)=bs at gw bad;walk_at "go";refine a1W gw ?_;refine a08 (λi σ G'=>∃ (v5:Option Z),Sm G11 G'/\σ=[some (.scr sa ns),some (.ref ks),some (.ref wsA),some (.ref sA),some (.ref tA),v1,v2,some (.ref X),some (.ref lA),some (.ref kA),some (.ref oA),v5]) ⟨_,Sm.refl _,rfl⟩ (by rintro i σ G' _ ⟨_,s,_⟩;exact s _ _ gw) ?_ ?_
   ·rintro i x σ G12 hx ⟨v5,s12,rfl⟩;rw[dQ]at hx;cases hx':bs[i]? with
    | none=>rw[hx']at hx;cases hx
    | some b=>
    rw[hx']at hx;cases hx;have hb:=bad b (er hx');have s1012:=s11.trans s12;have gl12:=s1012 _ _ gl10;refine⟨_,rfl,?_⟩;walk_at "go";refine⟨lenK rfl,λcA hcA=>?_⟩;have gcA:put G12 cA (.lst [.int b,.int U'.length]) cA=some (.lst [.int b,.int U'.length]):=a0e;have n13:Sm G12 (put G12 cA (.lst [.int b,.int U'.length])):=Sm.new hcA;generalize put G12 cA (.lst [.int b,.int U'.length])=G13 at gcA n13 ⊢;have s13:=s1012.trans n13;walk_at "go";refine⟨sA,cA,p,r,S,V,T',U',b,_,rfl,s13 _ _ gs10,gcA,I.keep s13,λz=>hb z.1,λG14 n14=>?_⟩;have s14:=s13.trans n14;have gl14:=s14 _ _ gl10;have gs14:=s14 _ _ gs10;walk_at "go";refine ifF ?_;walk_at "go";refine⟨lenK rfl,λuA huA=>?_⟩;have gu:put G14 uA (.lst [.ref r,.ref p]) uA=some (.lst [.ref r,.ref p]):=a0e;have s15:Sm G14 (put G14 uA (.lst [.ref r,.ref p])):=Sm.new huA;generalize put G14 uA (.lst [.ref r,.ref p])=G15 at gu s15 ⊢;have gl15:=s15 _ _ gl14;walk_at "go";refine⟨lenK rfl,λmA hmA=>?_⟩;have gm:put G15 mA (.lst [.int U'.length,.int b]) mA=some (.lst [.int U'.length,.int b]):=a0e;have s16:Sm G15 (put G15 mA (.lst [.int U'.length,.int b])):=Sm.new hmA;generalize put G15 mA (.lst [.int U'.length,.int b])=G16 at gm s16 ⊢;walk_at "go";have s116:=s14.trans (s15.trans s16);refine⟨uA,mA,r,p,V,S,U',T',_,b,rfl,s16 _ _ gu,gm,(I.keep s116).swap,λz=>hb z.2,λG17 s17=>?_⟩;walk_at "go";exact⟨_,s12.trans (n13.trans (n14.trans (s15.trans (s16.trans s17)))),rfl⟩
   ·rintro σ G12 ⟨v5,s12,rfl⟩;walk_at "go";exact q _
theorem all_mk {l:PySem.W.OpenLaw}{w:World}{K:Fg}{h:Heap}{mg:Str->Option Value}{fa:Addr}(X:K.In h) (G:h.Ns jW mg) (hfa:mg "law"=some (.ref fa))
  {a8 aT aM aG bj aV an a9 bk ay ah aN aj au av aW aO aE aX aA aB aH bp bq bS br ba bs cz bT bI b9 cA bU bt aq al aI cB:Addr}
  {df cI:Option Addr}{dg:Array (Option Value)}{dh cJ cK cL ca cM:Value}
  {bf:Tok}
  {bo:Tok}
  {ag:Addr}
  (cV:PySem.W.nsIn K jW "Sheet"=some (some (.ref ag))) (cW:PySem.W.plainGet K ag Str.empty=true) (cX:PySem.W.hasDictIn K ag=true) (cY:PySem.W.plainOver K ag=true) (cZ:PySem.W.findIn K (.ref ag) "__setattr__"=some (some (.builtin "object.__setattr__")))
  (c0:PySem.W.makesIn K ag=true) (c1:PySem.W.keepIn K (.ref ag)=true)
  (c8:PySem.W.findIn K (.ref ag) "last"=some none)
  (c9:PySem.W.findIn K (.ref ag) "kept"=some none)
  {ac:Addr}
  {bl:Addr}
  {aS:Addr}
  {ao:Addr}
  {bJ:Addr}
  {bb:Addr}
  {bV:Addr}
  {bW:Addr}
  {bX:Addr}
  {bu:Addr}
  (cb:PySem.W.nsIn K jW "NoKnowing"=some (some (.ref ac)))
  (cN:PySem.W.nsIn K jW "NoName"=some (some (.ref bl)))
  (cc:PySem.W.nsIn K jW "NoStretch"=some (some (.ref aS)))
  (b6:PySem.W.nsIn K jW "TimesError"=some (some (.ref ao)))
  (cO:PySem.W.nsIn K jW "Broken"=some (some (.ref bJ)))
  (cd:PySem.W.nsIn K jW "Forgotten"=some (some (.ref bb)))
  (c2:PySem.W.nsIn K jW "NoFit"=some (some (.ref bV)))
  (c3:PySem.W.nsIn K jW "NoLog"=some (some (.ref bW)))
  (c4:PySem.W.nsIn K jW "NoRow"=some (some (.ref bX)))
  (cC:PySem.W.nsIn K jW "NoSheet"=some (some (.ref bu)))
  (ce:PySem.W.excIn K ac veM "ValueError.__new__"=true)
  (cP:PySem.W.excIn K bl veM "ValueError.__new__"=true)
  (cf:PySem.W.excIn K aS veM "ValueError.__new__"=true)
  (a3:PySem.W.subIn K (.ref ao) (.type "BaseException")=some true)
  (a4:PySem.W.typeIn K (.ref ao)=some (.type "type"))
  (a5:PySem.W.subIn K (.ref ac) (.ref ao)=some true)
  (a6:PySem.W.hasDictIn K ao=true)
  (cg:PySem.W.hasDictIn K ac=true)
  (ch:PySem.W.findIn K (.ref ac) "__getattribute__"=some (some (.builtin "BaseException.__getattribute__")))
  (ci:PySem.W.findIn K (.ref ac) "__getattr__"=some none)
  (cj:PySem.W.findIn K (.ref ac) "__class__"=some (some (.builtin "object.__class__")))
  (ck:PySem.W.specialIn K (.builtin "object.__class__") "__get__"=some (some (.builtin "getset_descriptor.__get__")))
  (cl:PySem.W.takesIn K (.builtin "object.__class__")=some true)
  (cm:PySem.W.mroIn K ac (.type "object")=some true)
  (cn:PySem.W.mroIn K ac (.type "BaseException")=some true)
  (a7:PySem.W.kitOne K (.ref ac) (.type "ValueError")=some true)
  (bY:PySem.W.kitAny K (.ref ac) [.ref bJ,.ref bb,.ref bV,.ref bW,.ref bl,.ref bX,.ref bu,.ref aS]=some false)
  (cw:PySem.W.nsIn K jW "is_name"=some (some (.ref a8))) (bc:FE K "is_name" "is_name" a2E a8)
  (b7:PySem.W.nsIn K jW "is_moment"=some (some (.ref aT))) (aU:FE K "is_moment" "is_moment" a2F aT)
  (bZ:PySem.W.nsIn K jW "is_stretch"=some (some (.ref aM))) (aP:FE K "is_stretch" "is_stretch" a2d aM)
  (bM:PySem.W.nsIn K jW "earlier_end"=some (some (.ref aG))) (aJ:FE K "earlier_end" "earlier_end" a1R aG)
  (cD:PySem.W.nsIn K jW "common"=some (some (.ref bj))) (bm:FE K "common" "common" a4h bj)
  (co:PySem.W.nsIn K jW "ahead_of"=some (some (.ref aV))) (aY:FE K "ahead_of" "ahead_of" a15 aV)
  (bg:PySem.W.nsIn K jW "with_alike_joined"=some (some (.ref an))) (ap:FE K "with_alike_joined" "with_alike_joined" a03 an)
  (cx:PySem.W.nsIn K jW "from_on"=some (some (.ref a9))) (bd:FE K "from_on" "from_on" a2G a9)
  (cE:PySem.W.nsIn K jW "put_on"=some (some (.ref bk))) (bn:FE K "put_on" "put_on" a4i bk)
  (bv:PySem.W.nsIn K jW "check_in_reach"=some (some (.ref ay))) (az:FE K "check_in_reach" "check_in_reach" a1l ay)
  (bh:PySem.W.findIn K (.ref ag) "check_knowing"=some (some (.ref ah))) (bi:PySem.W.isFn K (.ref ah)=true) (ai:FE K "check_knowing" "Sheet.check_knowing" a04 ah)
  (b0:PySem.W.nsIn K jW "check_name"=some (some (.ref aN))) (aQ:FE K "check_name" "check_name" a2e aN)
  (bw:PySem.W.findIn K (.ref ag) "known_line"=some (some (.ref aj))) (bx:PySem.W.isFn K (.ref aj)=true) (ak:FE K "known_line" "Sheet.known_line" a0Z aj)
  (bN:PySem.W.findIn K (.ref ag) "line_at"=some (some (.ref au))) (bO:PySem.W.isFn K (.ref au)=true) (aw:FE K "line_at" "Sheet.line_at" a1S au)
  (bP:PySem.W.findIn K (.ref ag) "keys_at"=some (some (.ref av))) (bQ:PySem.W.isFn K (.ref av)=true) (ax:FE K "keys_at" "Sheet.keys_at" a1m av)
  (cp:PySem.W.nsIn K jW "table_at"=some (some (.ref aW))) (aZ:FE K "table_at" "table_at" a16 aW)
  (b1:PySem.W.nsIn K jW "holders_in"=some (some (.ref aO))) (aR:FE K "holders_in" "holders_in" a2f aO)
  (bK:PySem.W.nsIn K jW "held_by_both"=some (some (.ref aE))) (aF:FE K "held_by_both" "held_by_both" a1F aE)
  (cq:PySem.W.nsIn K jW "by_worth"=some (some (.ref aX))) (a0:FE K "by_worth" "by_worth" a23 aX)
  (bE:PySem.W.nsIn K jW "check_stretch"=some (some (.ref aA))) (aC:FE K "check_stretch" "check_stretch" a1x aA)
  (bF:PySem.W.nsIn K jW "check_telling"=some (some (.ref aB))) (aD:FE K "check_telling" "check_telling" a1y aB)
  (bR:PySem.W.nsIn K jW "line_behind"=some (some (.ref aH))) (aK:FE K "line_behind" "line_behind" a1T aH)
  (cQ:PySem.W.nsIn K jW "_law_cell_at"=some (some (.ref bp))) (bz:FE K "_law_cell_at" "_law_cell_at" a5q bp)
  (cR:PySem.W.nsIn K jW "_law_tumbled"=some (some (.ref bq))) (bA:FE K "_law_tumbled" "_law_tumbled" a5r bq)
  (da:PySem.W.nsIn K jW "_law_words"=some (some (.ref bS))) (b2:FE K "_law_words" "_law_words" a6J bS)
  (cS:PySem.W.nsIn K jW "_law_stretch"=some (some (.ref br))) (bB:FE K "_law_stretch" "_law_stretch" a5s br)
  (cy:PySem.W.nsIn K jW "_law_by_digits"=some (some (.ref ba))) (be:FE K "_law_by_digits" "_law_by_digits" a3w ba)
  (cT:PySem.W.nsIn K jW "_law_telling"=some (some (.ref bs))) (bC:FE K "_law_telling" "_law_telling" a5t bs)
  (dm:PySem.W.nsIn K jW "_law_has"=some (some (.ref cz))) (cF:FE K "_law_has" "_law_has" b51 cz)
  (db:PySem.W.nsIn K jW "_law_worth"=some (some (.ref bT))) (b3:FE K "_law_worth" "_law_worth" a8D bT)
  (c5:PySem.W.nsIn K jW "_law_points"=some (some (.ref bI))) (bL:FE K "_law_points" "_law_points" a6K bI)
  (di:PySem.W.nsIn K jW "_law_pair"=some (some (.ref b9))) (cr:FE K "_law_pair" "_law_pair" b2a b9)
  (dn:PySem.W.nsIn K jW "_law_due"=some (some (.ref cA))) (cG:FE K "_law_due" "_law_due" a8E cA)
  (dc:PySem.W.nsIn K jW "_law_right"=some (some (.ref bU))) (b4:FE K "_law_right" "_law_right" a8F bU)
  (cU:PySem.W.nsIn K jW "_law_refused"=some (some (.ref bt))) (bD:FE K "_law_refused" "_law_refused" a5u bt)
  (a1:PySem.W.findIn K (.ref ag) "__init__"=some (some (.ref aq))) (a2:PySem.W.isFn K (.ref aq)=true) (ar:FE K "__init__" "Sheet.__init__" a1G aq)
  (bG:PySem.W.findIn K (.ref ag) "keep_line"=some (some (.ref al))) (bH:PySem.W.isFn K (.ref al)=true) (am:FE K "keep_line" "Sheet.keep_line" a1z al)
  (cs:PySem.W.findIn K (.ref ag) "tell"=some (some (.ref aI))) (ct:PySem.W.isFn K (.ref aI)=true) (aL:FE K "tell" "Sheet.tell" a24 aI)
  (c7:PySem.W.nsIn K jW "law"=some (some (.ref cB))) (dp:K.lookup cB=some ⟨dh,df,.func (PySem.W.fnOf "law" "law" (a3p a6L) (a18 a6L) (a0i a6L) .none cJ cK cL cI ca cM),dg⟩) (dq:PySem.W.codeIn K ca "law"=true) (dr:PySem.W.keepIn K (.ref cB)=true)
  (ds:PySem.W.nsIn K jW "all"=some none)
  (cu:PySem.W.nsIn K jW "isinstance"=some none)
  (dt:PySem.W.nsIn K jW "str"=some none)
  (du:PySem.W.nsIn K jW "len"=some none)
  (dj:PySem.W.nsIn K jW "bool"=some none)
  (dv:PySem.W.nsIn K jW "int"=some none)
  (dw:PySem.W.nsIn K jW "min"=some none)
  (dx:PySem.W.nsIn K jW "max"=some none)
  (cH:PySem.W.nsIn K jW "reversed"=some none)
  (c6:PySem.W.nsIn K jW "sorted"=some none)
  (dk:PySem.W.nsIn K jW "dict"=some none)
  (dd:PySem.W.nsIn K jW "range"=some none)
  (dy:PySem.W.nsIn K jW "set"=some none)
  (dl:PySem.W.nsIn K jW "list"=some none)
  (de:PySem.W.nsIn K jW "tuple"=some none)
  (cv:PySem.W.nsIn K jW "ValueError"=some none)
  (b5:PySem.W.nsIn K jW "LONGEST_NAME"=some (some (.int 8 bf)))
  (b8:PySem.W.nsIn K jW "LAST_MOMENT"=some (some (.int 1000000000000 bo))) :
  ∃ fd:jZ,(∀ (s:Shared) (v:Value),lf s fd ⟨[v],[]⟩ [("script",v)])/\∀ base:Heap,K.In base->base.Ns jW mg->FnOk l.prog w K mg base CX0 7 fa fd ["script"] (lowP K a7V):=by
 have e:=hfa.symm.trans (PySem.W.mg_of X G c7);cases e;obtain⟨d_p_is_name,bc⟩:=bc;obtain⟨d_p_is_moment,aU⟩:=aU;obtain⟨af,aP⟩:=aP;obtain⟨V,aJ⟩:=aJ;obtain⟨d_p_common,bm⟩:=bm;obtain⟨d_p_ahead_of,aY⟩:=aY;obtain⟨t,ap⟩:=ap;obtain⟨d_p_from_on,bd⟩:=bd;obtain⟨d_p_put_on,bn⟩:=bn;obtain⟨E,az⟩:=az;obtain⟨u,ai⟩:=ai;obtain⟨ad,aQ⟩:=aQ;obtain⟨H,ak⟩:=ak;obtain⟨aa,aw⟩:=aw;obtain⟨ab,ax⟩:=ax;obtain⟨d_p_table_at,aZ⟩:=aZ;obtain⟨ae,aR⟩:=aR;obtain⟨R,aF⟩:=aF;obtain⟨d_p_by_worth,a0⟩:=a0;obtain⟨L,aC⟩:=aC;obtain⟨I,aD⟩:=aD;obtain⟨U,aK⟩:=aK;obtain⟨d_cell_at,bz⟩:=bz;obtain⟨d_tumbled,bA⟩:=bA;obtain⟨d_words,b2⟩:=b2;obtain⟨d_stretch,bB⟩:=bB;obtain⟨d_by_digits,be⟩:=be;obtain⟨d_telling,bC⟩:=bC;obtain⟨d_has,cF⟩:=cF;obtain⟨d_worth,b3⟩:=b3;obtain⟨d_points,bL⟩:=bL;obtain⟨d_pair,cr⟩:=cr;obtain⟨d_due,cG⟩:=cG;obtain⟨d_right,b4⟩:=b4;obtain⟨d_refused,bD⟩:=bD;obtain⟨S,ar⟩:=ar;obtain⟨J,am⟩:=am;obtain⟨d_Sheet_tell,aL⟩:=aL
 let a:Ad:=⟨a8,d_p_is_name,aT,d_p_is_moment,aM,af,aG,V,bj,d_p_common,aV,d_p_ahead_of,an,t,a9,d_p_from_on,bk,d_p_put_on,ay,E,ah,u,aN,ad,aj,H,au,aa,av,ab,aW,d_p_table_at,aO,ae,aE,R,aX,d_p_by_worth,aA,L,aB,I,aH,U,bp,d_cell_at,bq,d_tumbled,bS,d_words,br,d_stretch,ba,d_by_digits,bs,d_telling,cz,d_has,bT,d_worth,bI,d_points,b9,d_pair,cA,d_due,bU,d_right,bt,d_refused,aq,S,al,J,aI,d_Sheet_tell,fa,(PySem.W.fnOf "law" "law" (a3p a6L) (a18 a6L) (a0i a6L) .none cJ cK cL cI ca cM),ag,ac,bl,aS,ao,bJ,bb,bV,bW,bX,bu⟩
 have F:Fns K a:=⟨bc,aU,aP,aJ,bm,aY,ap,bd,bn,az,ai,aQ,ak,aw,ax,aZ,aR,aF,a0,aC,aD,aK,bz,bA,b2,bB,be,bC,cF,b3,bL,cr,cG,b4,bD,ar,am,aL,b4f dp dq dr⟩;have T:Txt K mg a:=⟨PySem.W.mg_of X G cw,PySem.W.mg_of X G b7,PySem.W.mg_of X G bZ,PySem.W.mg_of X G bM,PySem.W.mg_of X G cD,PySem.W.mg_of X G co,PySem.W.mg_of X G bg,PySem.W.mg_of X G cx,PySem.W.mg_of X G cE,PySem.W.mg_of X G bv,⟨bh,bi,ai.kp⟩,PySem.W.mg_of X G b0,⟨bw,bx,ak.kp⟩,⟨bN,bO,aw.kp⟩,⟨bP,bQ,ax.kp⟩,PySem.W.mg_of X G cp,PySem.W.mg_of X G b1,PySem.W.mg_of X G bK,PySem.W.mg_of X G cq,PySem.W.mg_of X G bE,PySem.W.mg_of X G bF,PySem.W.mg_of X G bR,PySem.W.mg_of X G cQ,PySem.W.mg_of X G cR,PySem.W.mg_of X G da,PySem.W.mg_of X G cS,PySem.W.mg_of X G cy,PySem.W.mg_of X G cT,PySem.W.mg_of X G dm,PySem.W.mg_of X G db,PySem.W.mg_of X G c5,PySem.W.mg_of X G di,PySem.W.mg_of X G dn,PySem.W.mg_of X G dc,PySem.W.mg_of X G cU,⟨a1,a2,ar.kp⟩,⟨bG,bH,am.kp⟩,⟨cs,ct,aL.kp⟩,PySem.W.mg_of X G c7,PySem.W.mg_none_of X G ds,PySem.W.mg_none_of X G cu,PySem.W.mg_none_of X G dt,PySem.W.mg_none_of X G du,PySem.W.mg_none_of X G dj,PySem.W.mg_none_of X G dv,PySem.W.mg_none_of X G dw,PySem.W.mg_none_of X G dx,PySem.W.mg_none_of X G cH,PySem.W.mg_none_of X G c6,PySem.W.mg_none_of X G dk,PySem.W.mg_none_of X G dd,PySem.W.mg_none_of X G dy,PySem.W.mg_none_of X G dl,PySem.W.mg_none_of X G de,PySem.W.mg_none_of X G cv,⟨cW,cX,cY,cZ⟩,PySem.W.mg_of X G cV,⟨c0,a1,a2,c1⟩,c8,c9,PySem.W.mg_of X G cb,PySem.W.mg_of X G cN,PySem.W.mg_of X G cc,PySem.W.mg_of X G b6,PySem.W.mg_of X G cO,PySem.W.mg_of X G cd,PySem.W.mg_of X G c2,PySem.W.mg_of X G c3,PySem.W.mg_of X G c4,PySem.W.mg_of X G cC,ce,cP,cf,b8w a3 a4 a5 a6,b8v cg ch ci cj ck cl cm cn,a7,bY,⟨bf,PySem.W.mg_of X G b5⟩,⟨bo,PySem.W.mg_of X G b8⟩⟩;exact⟨a.d38,λs v=>.of_eq rfl,λbase _ _=>b9e F T⟩
theorem walk {l:PySem.W.OpenLaw}{K:Params->Fg}(hn:l.most=some 63) (hdf:d.params.defaults=[])
  (hY:∀ (w:World) (h:Heap),YP w h->(K w.params).In h)
  (F:∀ (w:World) (mg:Str->Option Value) (fa:Addr) (h:Heap),(K w.params).In h->h.Ns jW mg->mg d.name=some (.ref fa) ->
   ∃ fd:jZ,(∀ (s:Shared) (u:Value),lf s fd ⟨[u],[]⟩ [("script",u)])/\∀ base:Heap,(K w.params).In base->base.Ns jW mg->FnOk l.prog w (K w.params) mg base CX0 7 fa fd ["script"] (lowP (K w.params) a7V)) :
  PySem.W.WalkO q loose XP YP l.row.toRowW d [] (λf vs=>PySem.call f vs):=
 L2.walk_of hn (by decide) hdf ⟨rfl,by decide,by decide⟩ hY F (λ_ _ a g b e c=>b2b a g b (Fz.of e c)) λ_ _ _ _ _ z=>z
end Lw
end
open PySem PySem.W PyProof.Rows
set_option maxRecDepth 100000 in
set_option maxHeartbeats 0 in
theorem PySem.Challenge.cw_twotimes_k42_joined_by_worth_holds : PySem.Challenge.rw_twotimes_k42_joined_by_worth.Holds := by
 w_on;o_law;k_head;(case hw=>w_witness2)
 k_fill
 refine Lw.walk (l:=PySem.Challenge.rw_twotimes_k42_joined_by_worth) rfl rfl (fun w h Y=>PySem.W.kIn_of Y) ?F
 case F=>
  intro w mg fa h KX G hmg;refine' Lw.all_mk KX G hmg ?aa ?ab ?ac ?ad ?ae ?af ?ag ?ah ?ai ?aj ?ak ?al ?am ?an ?ao ?ap ?aq ?ar ?au ?av ?aw ?ax ?ay ?az ?aA ?aB ?aC ?aD ?aE ?aF ?aG ?aH ?aI ?aJ ?aK ?aL ?aM (Lw.fe_mk ?aN ?aO ?aP) ?aQ (Lw.fe_mk ?aR ?aS ?aT) ?aU (Lw.fe_mk ?aV ?aW ?aX) ?aY (Lw.fe_mk ?aZ ?a0 ?a1) ?a2 (Lw.fe_mk ?a3 ?a4 ?a5) ?a6 (Lw.fe_mk ?a7 ?a8 ?a9) ?ba (Lw.fe_mk ?bb ?bc ?bd) ?be (Lw.fe_mk ?bf ?bg ?bh) ?bi (Lw.fe_mk ?bj ?bk ?bl) ?bm (Lw.fe_mk ?bn ?bo ?bp) ?bq ?br (Lw.fe_mk ?bs ?bt ?bu) ?bv (Lw.fe_mk ?bw ?bx ?bz) ?bA ?bB (Lw.fe_mk ?bC ?bD ?bE) ?bF ?bG (Lw.fe_mk ?bH ?bI ?bJ) ?bK ?bL (Lw.fe_mk ?bM ?bN ?bO) ?bP (Lw.fe_mk ?bQ ?bR ?bS) ?bT (Lw.fe_mk ?bU ?bV ?bW) ?bX (Lw.fe_mk ?bY ?bZ ?b0) ?b1 (Lw.fe_mk ?b2 ?b3 ?b4) ?b5 (Lw.fe_mk ?b6 ?b7 ?b8) ?b9 (Lw.fe_mk ?ca ?cb ?cc) ?cd (Lw.fe_mk ?ce ?cf ?cg) ?ch (Lw.fe_mk ?ci ?cj ?ck) ?cl (Lw.fe_mk ?cm ?cn ?co) ?cp (Lw.fe_mk ?cq ?cr ?cs) ?ct (Lw.fe_mk ?cu ?cv ?cw) ?cx (Lw.fe_mk ?cy ?cz ?cA) ?cB (Lw.fe_mk ?cC ?cD ?cE) ?cF (Lw.fe_mk ?cG ?cH ?cI) ?cJ (Lw.fe_mk ?cK ?cL ?cM) ?cN (Lw.fe_mk ?cO ?cP ?cQ) ?cR (Lw.fe_mk ?cS ?cT ?cU) ?cV (Lw.fe_mk ?cW ?cX ?cY) ?cZ (Lw.fe_mk ?c0 ?c1 ?c2) ?c3 (Lw.fe_mk ?c4 ?c5 ?c6) ?c7 ?c8 (Lw.fe_mk ?c9 ?da ?db) ?dc ?dd (Lw.fe_mk ?de ?df ?dg) ?dh ?di (Lw.fe_mk ?dj ?dk ?dl) ?dm ?dn ?dp ?dq ?dr ?ds ?dt ?du ?dv ?dw ?dx ?dy ?dz ?dA ?dB ?dC ?dD ?dE ?dF ?dG ?dH ?dI
  all_goals try k_is
  (case av=>k_exc)
  (case aw=>k_exc)
  (case ax=>k_exc)
  all_goals try k_is
  (case aK=>kit_is)
  (case aL=>kit_is)
  all_goals try k_is
