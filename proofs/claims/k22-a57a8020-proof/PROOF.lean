import PyProof.Rows.All
import Wide.All
import OpenK.AllK
import Wide.FinOn
import Lean
import PyProof.EqAt
import PyProof.EqKinds
import PyProof.TupleCall
import PyProof.CompFree
import PyProof.P3In
import PyProof.RaisesMany
import PyProof.StationsW
import PyProof.ExcClass3
import PyProof.ExcBaseAll.ValueError
import PyProof.RulesTry
import PyProof.RulesAs
import PyProof.NsDelKeeps
import KE.KTryMore
import PyProof.ExcArgs
import KE.RegKIsAll
import PyProof.Rows.EqDataRows
import KE.KIntText
import KE.KDictOf
import PyProof.StrBlockH
import KE.KWords
import PyProof.CallStr
import PyProof.StrLawsTight
import PyProof.StrLawsChain
import PyProof.AttrMissHeap
import KE.KSortTup
import Wide.Seal
import PySem.Challenge.RW_twotimes_k22_whole_tiled_by_tellings
set_option Elab.async false
set_option linter.all false
set_option maxRecDepth 100000
set_option compiler.extract_closed false
set_option bootstrap.genMatcherCode false
noncomputable section
open Or renaming inl→fb,inr→gA
open List renaming length_map→fc,mem_append→fg,mem_singleton→fi,getElem?_eq_some_iff→fj,length_cons→fk,getElem?_map→fm,mem_map→fq,mem_cons→ft,length_append→fu,map_append→fv,getElem?_eq_getElem→fw,map_cons→fy,mem_of_getElem?→fA,replicate→fB,length_take→fC,map_nil→fD,pairwise_append→fE,pairwise_cons→fG,append_assoc→fI,append_nil→fK,length→fN,Perm→fO,mem_map_of_mem→fP,size_toArray→fR,getElem_mem→fS,Nodup→fV,mem_filter→fX,mem_cons_of_mem→fY,mem_cons_self→gi,length_drop→gj,Pairwise→gn,lookup_cons→gq,all_eq_true→gv,mem_of_mem_take→gw,filterMap_cons→gy,mem_append_right→gz,filter_cons→gC,take_add_one→gG,all_cons→gH,take_of_length_le→gI,map_map→gJ,find?_cons→gM,cons→gO,take_length→gR,not_mem_nil→gS,reverse_append→gT,pairwise_map→gX,nodup_append→gY,map_congr_left→gZ,nil_append→g7,reverse_singleton→g8,length_pos_iff→g9,any_eq_true→hZ,mem_filterMap→h9,reverse_cons→ib,pairwise_iff_getElem→ig,getElem?_of_mem→ii,cons_append→ij,map_eq_nil_iff→ik,range→im,getElem?_set_ne→io,nodup_cons→iq,getElem?_append_left→ir,flatten_cons→iu,any_cons→iy,length_filterMap_le→iA,drop_eq_nil_of_le→iB,take_append_of_le_length→iF,take_append_drop→iG,rel_of_pairwise_cons→iH,getElem?_set_self→iI,lookup→iK,getElem?_append_right→iN,replicate_succ→iO,length_singleton→iP,lookup_append→iU,length_eq_zero_iff→iV,drop_eq_getElem_cons→iX,pairwise_singleton→iY,mem_of_mem_drop→iZ,extract_eq_take_drop→i3,singleton_append→i6,map_id→i8,mem_of_find?_eq_some→ja,perm_ext_iff_of_nodup→jc,filter_sublist→jd,of_mem_zip→je,take_sublist→jf,getElem?_drop→jg,getElem?_take→ji,drop_append→jk,eraseIdx_cons_succ→jl,ext_getElem?→jm,dropLast_subset→jp,take_succ_cons→jq,filter_eq_nil_iff→jr,find?_eq_none→js,all_append→jt,length_filter_le→ju,getElem?_eq_none_iff→jv,mem_range→jx,mem_append_left→jy,getElem_inj→jz,filterMap_map→jC,foldl_cons→jE,length_nil→jG,length_set→jJ,getD_eq_getElem?_getD→jK,map_take→jL,drop_sublist→jN,perm_middle→jO,perm_append_comm→jP,drop_append_of_le_length→jR,set_cons_succ→jT,le_antisymm→jW,countP_cons→jX,length_reverse→jY,foldl_append→jZ,find?_append→j5,getLast?_eq_none_iff→j6,cons_lt_cons_iff→j7,filter_append→j9,pairwise_reverse→kb,find?_isSome→kc,find?_some→ke,mem_or_eq_of_mem_set→kf
open Nat renaming le_refl→ff,le_trans→fx,ne_of_lt→fz,lt_of_lt_of_le→fF,zero_le→fL,lt_irrefl→fM,le_of_lt→g0,le_of_eq→g5,le_of_succ_le→ic,lt_succ_of_lt→ie,le_succ→ip,lt_of_le_of_lt→iw,lt_trans→iz,ne_of_gt→iJ,zero_add→i7,add_sub_cancel→jh,add_zero→jj,lt_succ_self→jB,le_of_ble_eq_true→jH,add_assoc→jS,le_add_right→j3,succ_le_succ→kg
open False renaming elim→fh
open Bool renaming false_ne_true→fH,true_and→fZ,and_eq_true→gr,and_false→gL,eq_iff_iff→g4,false_eq_true→iE,and_true→i9,false_and→jo
open Int renaming le_trans→fJ,le_refl→fU,emod_nonneg→fW,le_of_lt→gb,eq_ofNat_of_zero_le→ge,emod_lt_of_pos→gg,not_lt→i5
open Option renaming some→fQ,isSome_iff_exists→iM,map_some→iQ,getD_none→jD,isSome_map→jF,bind_some→jI
open Array renaming toList_push→gc,getElem?_toList→gU,length_toList→g6,Perm→iC,getElem?_eq_some_iff→iR,perm_iff_toList_perm→iW,append_assoc→jw,mem_toList_iff→jA,mem_of_getElem?→jM,toList_extract→jQ,getElem?_modify→jU,size_map→jV,all_eq_true_iff_forall_mem→j8
open PySem renaming wpAny_bind→kh,sizeLine→ki,starEach→kj,mainGlobals→ku,FuncData→kx,Program→kz,wpAny_pure→kA,compareOp→kC,NameKind→kD,cellsFrom→kE,Builtin→kF,wpAny_mono→kG,PassesOwn→kH,binaryOp→kI,sizeLine_eq→kJ,holding→kL,wpAny_holding→kM,tupleKind→kO,standAt→kR,sysModules→k6,swapsWith→lh,codeAny→li,storedH→lj,getMethod→ll,backToKw→lp,keywordEach→lq,SetTable→lr,bootBuiltins→ls,wpAny_truthy_bool→lu,assignEach→lv,inplaceOp→lw,wpAny_passesOwn→lz,foldedSetIterable→lA,callWith→lB,sliceBounds→lC,callerA→lD,wpAny_execs_nil→lF,behindInMarks→lG,BindsTo→lH,wpAny_field→lI,typeIs_str→lJ,valueAt→lK,compEnvC→lM,GenState→lR,attributeBase→lS,wpAny_call→lU,codeAny_mono→lV,Keyword→lW,getItem→lX,call_meets→lY,notedBy→lZ,wpAny_newList→l6,wpAny_rule→l7,setItem→l8,unaryOp→l9,wpAny_Call_Name_kw→ma,leaving→md,wpAny_call_entry→me,tupleKind_room_in1→mf,CellsOk→mh,noteFrame→mi,wpAny_attempt→mj,wpAny_getItem_str_slice→ml,post_val_or_str→mn,unsupported→mq,codeAny_builtin→mw,builtinsNs→my,storeName→mz,wpAny_Name→mB,wpAny_execs_cons→mC,wpAny_standAt→mD,swapsWithSole→mE,swappedStores→mF,letOwnedTupleGo→mG,wpAny_pyIter_list→mH,DictEntry→mI,wpAny_newObj_type→mJ,seqIndex_of→mK,seqIndex_neg→mL,typeIs_int→mO,call_meetsIn→mP,compPost→mQ,plainId_quiet→nj
open PyProof.Rows renaming wpS_bind→ko,wpS_pure→kt,pendingOf→kB,wpS_forRange→kK,wpS_mono→kP,failedOf→kQ,IntsAre→kS,SortKind→kU,wpS_get→kW,wpS_modify→kZ,AllBare→lb,pairsOf→lc,sortedS→lE,StrsAre→lN,reverseSlice'→lO,listUpdate_at→lP,seqEpoch_at→lQ,setPending→l5,sortedHeap→mt,pairsOf_toList→mv,subscriptTail_builtinR→mN,gallopOf→mR,wpS_lift→mS,mergeAt'→mT,kind_sorted→mU,plain_sorted→mV,entry_sorted→mW,args_sorted1→mX,slot_list_sort→mY,entry_list_sort→mZ,args_list_sort→nc,sortedHeap_at→ng,sortedHeap_old→ni
abbrev Fg:=PySem.W.Frag
namespace PySem.W.Fast
noncomputable def z:=0
def tw5748236670738302024:=z
def tw1762540785296461195:=z
def tw10382350472834936668:=z
def tw12619695108764479687:=z
def tw14126044932450625436:=z
def tw10208333018647475882:=z
def tw2377240018955897131:=z
def tw8778388003083230982:=z
def tw9482180562585733061:=z
def tw478641398534349053:=z
def tw10779720187948422206:=z
def tw3698002445491695218:=z
def tw6954479680214498588:=z
def tw13512049997475443851:=z
def tw3352475146134424876:=z
def tw10512455205060950833:=z
def tw5930103825793972370:=z
def tw12920922064764656890:=z
def tw17190130307512010570:=z
def tw9987511429517629732:=z
def tw1225232742434830745:=z
def tw4475164145262748088:=z
def tw8928334964374445092:=z
def tw5933899286688047749:=z
def tw5629852895478040800:=z
def tw1109331964971889334:=z
def tw17815411993498769122:=z
def tw8705698935644813939:=z
def tw10214794341095568031:=z
def tw5894678217841751425:=z
def tw5981192470560387966:=z
def tw13565456740829023307:=z
def tw11881283542406615325:=z
def tw15140830166434002288:=z
def tw267236332169931454:=z
def tw2738063098099297940:=z
def tw780210757962112048:=z
def tw11426284438368296333:=z
def tw13490883022008356721:=z
def tw402555597069712133:=z
def tw10678577061240358355:=z
def tw16666469862015378770:=z
def tw11214959567473954078:=z
def tw8919214292687045065:=z
def tw2041543490042186383:=z
def tw10388302217893678766:=z
def tw13875723348082422338:=z
def tw7942958544299554277:=z
def tw6098781606478082580:=z
def tw8253599025914427549:=z
def tw6224441254026495192:=z
def tw5919646894447244165:=z
def tw1674124456864954414:=z
def tw17069725898814470964:=z
def tw16326022267295031985:=z
def tw15968621129433740872:=z
def tw9928782420075954179:=z
def tw5534664142718984182:=z
def tw15789805180565134958:=z
def tw16869364267967410023:=z
def tw16713879520888356476:=z
def tw3713804265243783338:=z
def tw5218201972755918299:=z
def tw2494979700040974116:=z
def tw11997186147801800172:=z
def tw12570980276089163494:=z
def tw5644200328778007432:=z
def tw7024313782749220475:=z
def tw12884966035522266422:=z
def tw8384589469621761816:=z
def tw1388418154307148996:=z
def tw6692936080176195020:=z
def tw5227520999993307073:=z
def tw15833354155908792190:=z
def tw10664314325573833969:=z
def tw5836741005308755123:=z
def tw6725475130120475828:=z
def tw16667200020328518458:=z
def tw7273118692775524620:=z
def tw5104155147417441616:=z
def tw13287087834269329096:=z
def tw6367172337732572902:=z
def tw15400107129855929242:=z
def tw10446692299782459764:=z
def tw8358419688251637098:=z
def tw10796154867073129580:=z
def tw728486603532632420:=z
def tw2261769791897486944:=z
def tw3258140640852671365:=z
def tw8989601120967783217:=z
def tw560939178719743830:=z
def tw1108262899810864771:=z
def tw2233894098174219525:=z
def tw15748033616390744011:=z
def tw3925024270834722031:=z
def tw8913029066913027759:=z
def tw11610578004417398773:=z
def tw6112364675112401061:=z
def tw16850133185059054151:=z
def tw18006527930237797711:=z
def tw9099091843212610891:=z
def tw1124517113907726175:=z
def tw5323107223938588662:=z
def tw12890460255468638901:=z
def tw4078737192293134467:=z
def tw13942601698185815749:=z
def tw12920552287027613891:=z
def tw817063720098985963:=z
def tw11249972957794748331:=z
def tw17920690350147201862:=z
def tw4194928796792258711:=z
def tw5243142647987012473:=z
def tw2654325028948751211:=z
def tw12435439958486139298:=z
def tw13353320057770204244:=z
def tw10814316685363866044:=z
def tw16200444927878831738:=z
def tw7571757127646002540:=z
def tw3225151696656963825:=z
def tw11149395208305003965:=z
def tw15644090653933064693:=z
def tw13138815501818962577:=z
def tw5330366472167301181:=z
def tw17527561313574806850:=z
def tw13692441667143439276:=z
def tw3558486524550367719:=z
def tw3307495712098595669:=z
def tw7102519297981156220:=z
def tw2938740583293221734:=z
def tw8826243829257623274:=z
def tw7545913951987760896:=z
def tw15587468909916817796:=z
def tw6434403612097043841:=z
def tw8269865834907183454:=z
def tw8364746577146594397:=z
def tw9681786697109972075:=z
def tw16805896047789851157:=z
def tw6897325058618573702:=z
def tw4567660152313945550:=z
def tw14440840973389557798:=z
def tw17979727211952210542:=z
def tw13963458742091771128:=z
def tw6521579739892959448:=z
def tw16331829956554118356:=z
def tw6786530565280303583:=z
def tw2620592668429530283:=z
def tw15102939450994037447:=z
def tw1583286828929428059:=z
def tw543329110573726038:=z
def tw8514699017925487472:=z
def tw5848456015171186630:=z
def tw17116104501624764679:=z
def tw15153613619355113822:=z
def tw7227706853913045997:=z
def tw14323258266552287823:=z
def tw12288097061508458503:=z
def tw12475255750578731796:=z
def tw11979953712431020596:=z
def tw9804727407078130165:=z
def tw17323135284470809400:=z
def tw2399461344645159520:=z
def tw291001866366277148:=z
def tw12933690976458581836:=z
def tw2246042823307707782:=z
def tw8507277006546636456:=z
def tw13889415832216202660:=z
def tw11719101827502033545:=z
def tw9104598657642973863:=z
def tw12166720010819353677:=z
def tw6177982463359064725:=z
def tw1388964498806603438:=z
def tw1990460703138800894:=z
def tw17898010051218486353:=z
def tw3792956070054995860:=z
def tw9776234324878791139:=z
def tw14427329324109525960:=z
def tw7051756097147294955:=z
def tw12132987603954155956:=z
def tw7543201081711316011:=z
def tw12007229749227283960:=z
def tw15217152381552428660:=z
def tw15110006566926346348:=z
def tw13614021312940324894:=z
def tw10701563903404671958:=z
def tw4648422664626680663:=z
def tw18434526961768630208:=z
def tw6983218002730078699:=z
def tw4076013818127710118:=z
def tw2768925570814946825:=z
def tw12581568381831453465:=z
def tw14516511011982270388:=z
def tw9793935314572785453:=z
def tw2546484338650515224:=z
def tw15289652766145291581:=z
def tw11815844199132575131:=z
def tw16550599849165720957:=z
def tw5537557450964489269:=z
def tw3518662782728058518:=z
def tw4890830771465266817:=z
def tw9697055283080693692:=z
def tw8293284996197494787:=z
def tw2360452252487826743:=z
def tw13772731700635725781:=z
def tw8067979378130098254:=z
def tw3473774283936911174:=z
def tw657776079214390157:=z
def tw14416410316765401819:=z
def tw17550996302510669479:=z
def tw16075803178391110511:=z
def tw2158957790656798691:=z
def tw1701164031703886090:=z
def tw3671891353011296774:=z
def tw15424780470226598493:=z
def tw12461582517560720051:=z
def tw10624605649921745978:=z
def tw18189580502505327055:=z
def tw10727956872031098771:=z
def tw15937187644886617961:=z
def tw13327782218649446111:=z
def tw17504247304537206407:=z
def tw12898872422732731068:=z
def tw4078174099751509115:=z
def tw15520367634765438682:=z
def tw11338515656616529359:=z
def tw5315625105548626594:=z
def tw7012259961510260035:=z
def tw6273295373036466197:=z
def tw15069879666085211052:=z
def tw4923465271074648899:=z
def tw13976975002067780929:=z
def tw14076237234453733455:=z
def tw1314458707256666432:=z
def tw16227613469314424070:=z
def tw332470779154701220:=z
def tw14109418427705162630:=z
def tw5343634260456163584:=z
def tw3354530184507241138:=z
def tw13809291468202446803:=z
def tw206749271070046092:=z
def tw2394672976430365069:=z
def tw8467668835766947541:=z
def tw15428838218937141250:=z
def tw9198814120037813151:=z
def tw12579992235487607681:=z
def tw4679371226972557635:=z
def tw15896937412353859183:=z
def tw1993924427502028633:=z
def tw10375169931702906232:=z
def tw1574357707240786556:=z
def tw2418740235047190210:=z
def tw18282727393288460758:=z
def tw6134006353206269277:=z
def tw4989787485566938077:=z
def tw8991837234640659202:=z
def tw8217362542081879173:=z
def tw5166779126633245033:=z
def tw1696744216965873792:=z
def tw17703814998962713832:=z
def tw179133509176201314:=z
def tw11168826231452265311:=z
def tw16230336951358872874:=z
def tw2040242704455932952:=z
def tw14337203472041196707:=z
def tw347278395060228333:=z
def tw14189254692535473305:=z
def tw2657603585946158970:=z
def tw6081962114582801714:=z
def tw15252971899515637586:=z
def tw15274125732461667727:=z
def tw7253463152085203341:=z
def tw12232675583552400698:=z
def tw1836825689531954644:=z
def tw14802968502752784229:=z
def tw11186101519073640766:=z
def tw16378728387017065772:=z
def tw13459816097566384848:=z
def tw9108857145637953935:=z
def tw3863661418789374616:=z
def tw7311161324006320606:=z
def tw17898732930941427889:=z
def tw10907577862200328063:=z
def tw8005384787112577804:=z
def tw6928653638804386929:=z
def tw13876522771841054255:=z
def tw2788937936504718104:=z
def tw11631997577763844905:=z
def tw1808196472502911899:=z
def tw13315472454908975388:=z
def tw1722290593775954892:=z
def tw6863522490160682717:=z
def tw449434986805809125:=z
def tw10049047823345124834:=z
def tw17359858306000573674:=z
def tw6023948462771383699:=z
def tw668190839621593809:=z
def tw14383884680078636034:=z
def tw10438362458772991649:=z
def tw6692270804788857272:=z
def tw6064831193182150410:=z
def tw12857092555375776851:=z
def tw9811308485229061160:=z
def tw17535124205573748388:=z
def tw722097869489520806:=z
def tw8509066419268305220:=z
def tw14870908005666173470:=z
def tw14569535389289456394:=z
def tw1368296397525472127:=z
def tw17188142626725593669:=z
def tw10288938839315172867:=z
def tw11916706885440231453:=z
def tw4228282169123914208:=z
def tw4283096728606958344:=z
def tw2325705310920701818:=z
def tw1697279582556093160:=z
def tw2616079476494636524:=z
def tw17076860087344671934:=z
def tw8563422742257362703:=z
def tw12145941578810325645:=z
def tw10497586588048070423:=z
def tw6510292821326917972:=z
def tw9056112639205607057:=z
def tw75467621993547995:=z
def tw7679270825756199496:=z
def tw977540399000324814:=z
def tw4009674413044209444:=z
def tw10948018343214690799:=z
def tw7845960042257496631:=z
def tw5047731536809237740:=z
def tw7908973337438282452:=z
def tw12117120788780737224:=z
def tw9545632363364407694:=z
def tw2451552180173528563:=z
def tw2216127424799942558:=z
def tw8519772705527597672:=z
def tw5694789806777652258:=z
def tw10667994772190453623:=z
def tw4097291130376286637:=z
def tw6191280798173110097:=z
def tw876213069112613174:=z
def tw1141676054933000348:=z
def tw877899783073930346:=z
def tw989644098025633594:=z
def tw12166670424751945276:=z
def tw17638578895547142769:=z
def tw15706263354333959792:=z
def tw15871717595835259595:=z
def tw15330768034380173245:=z
def tw13145197234607466696:=z
def tw8847315049905663133:=z
def tw15955354180901853947:=z
def tw16442943952946104570:=z
def tw13292063960702139776:=z
def tw4398498263164889208:=z
def tw1162635681278430850:=z
def tw15899398660339822396:=z
def tw316036522581239641:=z
def tw13094143118911364864:=z
def tw11238235876439057423:=z
def tw18235813342778759621:=z
def tw6425323216644275529:=z
def tw13178408396181032096:=z
def tw1983550572607176053:=z
def tw3432085689397559739:=z
def tw8971907466336401:=z
def tw14248791330129601212:=z
def tw14150104886673762163:=z
def tw17849673625363179141:=z
def tw950696124037902310:=z
def tw16805841604050988806:=z
def tw14745739378649083557:=z
def tw10086201469695458666:=z
def tw5431893585598682536:=z
def tw7530681167666751780:=z
def tw16544889536781479478:=z
def tw12284323526015919000:=z
def tw2941583336666787493:=z
def tw18066158992318361879:=z
def tw6926817952104950459:=z
def tw10250798865854710213:=z
def tw10995034896961963402:=z
def tw15299222178918419138:=z
def tw1553390987235605284:=z
def tw6199520161721676293:=z
def tw613261300023196170:=z
def tw4622902470611609841:=z
def tw15337618209965462771:=z
def tw3143025370029110692:=z
def tw5766256485437843888:=z
def tw17048893272047533050:=z
def tw10993027220807994987:=z
def tw10768061085465449609:=z
def tw12412710434344505788:=z
def tw5350204574099848694:=z
def tw14690361790779878611:=z
def tw15216639922534585643:=z
def tw4400386991490387140:=z
def tw13138538819117802484:=z
def tw2466758775808411317:=z
def tw2856953008614746480:=z
def tw16347782460421934199:=z
def tw8237973790141484316:=z
def tw14815581977440764743:=z
def tw14276993138896556315:=z
def tw4065201801594245308:=z
def tw5274470927640405201:=z
def tw15874491345534645046:=z
def tw15717916833548135523:=z
def tw12655668842601978605:=z
def tw12623424925719007748:=z
def tw18102691214374240959:=z
def tw8360200945012735502:=z
def tw14310467185236046242:=z
def tw6205947567681742335:=z
def tw1678163455702025127:=z
def tw18314497559826504043:=z
def tw3796579614668927069:=z
def tw7970819859577510013:=z
def tw2507906145499636957:=z
def tw6981373900276509548:=z
def tw17819997078018867695:=z
def tw4178393504412228541:=z
def tw10503361287626015087:=z
def tw6143026960800866349:=z
def tw819058759682530498:=z
def tw8786537054695682340:=z
def tw11954833694053597149:=z
def tw6443659468370129248:=z
def tw4619337525033052545:=z
def tw14807499338593325618:=z
def tw11962494818662815298:=z
def tw15048560929184393592:=z
def tw9850062398162689480:=z
def tw741478081902449383:=z
def tw6311239066493644444:=z
def tw158738084725246445:=z
def tw3809789395603217360:=z
def tw17963960428956739516:=z
def tw4701862163741539167:=z
def tw3305332135409494358:=z
def tw2092706433088187867:=z
def tw11064246432224687132:=z
def tw14115449689176851531:=z
def tw5650455285294359624:=z
def tw10550324673271324594:=z
def tw14660883321460282032:=z
def tw14312862716305380659:=z
def tw7090368623133447083:=z
def tw638471055272988459:=z
def tw7146919961419798190:=z
def tw15365390768453863089:=z
def tw12516973848302757011:=z
def tw2520619522553718020:=z
def tw3280661712766977341:=z
def tw5157698085877536005:=z
def tw9079194663903348570:=z
def tw6996021991210154829:=z
def tw8612378442732537597:=z
def tw12446082667353042015:=z
def tw16726453378969635255:=z
def tw18187491444726491498:=z
def tw9567108125690456657:=z
def tw329507207883911502:=z
def tw4619791212987571120:=z
def tw15990392297834911901:=z
def tw16562391422405686166:=z
def tw18166025266855910841:=z
def tw11835170499971244810:=z
def tw18068673188100381306:=z
def tw5374883238699589736:=z
def tw16190396274193684856:=z
def tw4180144739309941725:=z
def tw7760272921447680827:=z
def tw4860999051374301781:=z
def tw16230083081133027965:=z
def tw15073954139725354097:=z
def tw13241296899754331608:=z
def tw13543416131800739042:=z
def tw3057405067167871118:=z
def tw8580806808903215497:=z
def tw8362139042261204932:=z
def tw7480753170377021155:=z
def tw7137784474394969089:=z
def tw6265748510879214418:=z
def tw16461261085533230883:=z
def tw16202809283156053904:=z
def tw4306634850329887269:=z
def tw8412191126169733433:=z
def tw7163325762881074581:=z
def tw7472146272823043499:=z
def tw16437985221817006186:=z
def tw14137715246247842992:=z
def tw3397884084974541169:=z
def tw6797146461545623014:=z
def tw3989013332621156389:=z
def tw18007993621117964324:=z
def tw12729659776708268929:=z
def tw3743715603735688200:=z
end PySem.W.Fast
namespace L2
open PySem PySem.Spec PyProof.Rows
abbrev Key:=Sum (Option Int) Str
def c0W:Value->Bool
 | .none=>true
 | _=>false
def b1g:Key->Value->Bool
 | .inl (some k),v=>Value.isInt k v
 | .inl none,v=>c0W v
 | .inr x,v=>Value.isStrOf x v
noncomputable def keyH (w:World):Key->Int
 | .inl (some k)=>hashInt k
 | .inl none=>reduceHash 0xFCA86420
 | .inr x=>hashStr w x
theorem a0J:∀ {k:Key}{v:Value},b1g k v=true->(∃ i t,k=Sum.inl (some i)/\v=Value.int i t)\/(∃ x t,k=Sum.inr x/\v=Value.str x t)\/(k=Sum.inl none/\v=Value.none)
 | .inl (some i),v,h=>by
  obtain⟨t,e⟩:=Value.isInt_shape h;exact .inl ⟨i,t,rfl,e⟩
 | .inl none,v,h=>by
  cases v<;>first | exact .inr (.inr ⟨rfl,rfl⟩) | cases h
 | .inr x,v,h=>by
  obtain⟨t,e⟩:=Value.isStrOf_shape h;exact .inr (.inl ⟨x,t,rfl,e⟩)
theorem b1Y (i:Int) (t:Tok):b1g (.inl (some i)) (.int i t)=true:=by simp[b1g,Value.isInt]
theorem b1Z (x:Str) (t:Tok):b1g (.inr x) (.str x t)=true:=by simp[b1g,Value.isStrOf]
theorem b8h (a b:Int):decide ((Sum.inl (some a):Key)=Sum.inl (some b))=(a==b):=by
 by_cases e:a=b
 ·simp_all
 ·simp_all
theorem b8i (a b:Str):decide ((Sum.inr a:Key)=Sum.inr b)=decide (a=b):=by simp
theorem a7b {a b:Key}(h:a≠b):decide (a=b)=false:=decide_eq_false h
noncomputable def a0O (prog:kz) (w:World):PySem.KeyKind prog w Key where
 is:=b1g
 hash:=keyH w
 inj:=λv a b ha hb=>by
  rcases a0J ha with ⟨i,t,rfl,rfl⟩ | ⟨x,t,rfl,rfl⟩ | ⟨rfl,rfl⟩
  ·rcases a0J hb with ⟨j,u,rfl,e⟩ | ⟨y,u,rfl,e⟩ | ⟨rfl,e⟩
   ·injection e with e1 _;rw[e1]
   ·exact nomatch e
   ·exact nomatch e
  ·rcases a0J hb with ⟨j,u,rfl,e⟩ | ⟨y,u,rfl,e⟩ | ⟨rfl,e⟩
   ·exact nomatch e
   ·injection e with e1 _;rw[e1]
   ·exact nomatch e
  ·rcases a0J hb with ⟨j,u,rfl,e⟩ | ⟨y,u,rfl,e⟩ | ⟨rfl,e⟩
   ·exact nomatch e
   ·exact nomatch e
   ·rfl
 byValue:=λk v h=>by
  rcases a0J h with ⟨i,t,rfl,rfl⟩ | ⟨x,t,rfl,rfl⟩ | ⟨rfl,rfl⟩<;>rfl
 pyHash:=λhv h=>by
  rcases a0J hv with ⟨i,t,rfl,rfl⟩ | ⟨x,t,rfl,rfl⟩ | ⟨rfl,rfl⟩
  ·exact wpAny_pyHash_int h
  ·exact wpAny_pyHash_str h
  ·exact PySem.W.pyHash_slot (T:="NoneType") rfl F.slot_NoneType_hash F.entry_NoneType_hash (F.args_NoneType_hash_1 _) (beq_builtin_none _) (.inl rfl) (kh (kA (kh (wpAny_mkInt (kA ⟨_,_,rfl,h⟩)))))
 eqBool:=λhu hv h=>by
  rcases a0J hu with ⟨i,t,rfl,rfl⟩ | ⟨x,t,rfl,rfl⟩ | ⟨rfl,rfl⟩
  ·rcases a0J hv with ⟨j,u,rfl,rfl⟩ | ⟨y,u,rfl,rfl⟩ | ⟨rfl,rfl⟩
   ·rw[b8h]at h;exact wpAny_eqBool_int h
   ·rw[show decide ((Sum.inl (some i):Key)=Sum.inr y)=false from a7b (by simp)]at h;exact SeqAt.EqAt.int_str i t y u _ _ _ _ h
   ·rw[show decide ((Sum.inl (some i):Key)=Sum.inl none)=false from a7b (by simp)]at h;exact SeqAt.EqAt.int_none i t _ _ _ _ h
  ·rcases a0J hv with ⟨j,u,rfl,rfl⟩ | ⟨y,u,rfl,rfl⟩ | ⟨rfl,rfl⟩
   ·rw[show decide ((Sum.inr x:Key)=Sum.inl (some j))=false from a7b (by simp)]at h;exact SeqAt.EqAt.str_int x t j u _ _ _ _ h
   ·rw[b8i]at h;exact wpAny_eqBool_str h
   ·rw[show decide ((Sum.inr x:Key)=Sum.inl none)=false from a7b (by simp)]at h;exact SeqAt.EqAt.str_none x t _ _ _ _ h
  ·rcases a0J hv with ⟨j,u,rfl,rfl⟩ | ⟨y,u,rfl,rfl⟩ | ⟨rfl,rfl⟩
   ·rw[show decide ((Sum.inl none:Key)=Sum.inl (some j))=false from a7b (by simp)]at h;exact SeqAt.EqAt.none_int j u _ _ _ _ h
   ·rw[show decide ((Sum.inl none:Key)=Sum.inr y)=false from a7b (by simp)]at h;exact SeqAt.EqAt.none_str y u _ _ _ _ h
   ·rw[decide_eq_true rfl]at h;unfold PySem.eqBool;refine kM ?_;exact wpAny_ite_split (λ_=>kh (l7 (kA h))) λhab=>absurd rfl hab
 «strs»:=λk x t v h=>by
  rcases a0J h with ⟨i,u,rfl,e⟩ | ⟨y,u,rfl,e⟩ | ⟨rfl,e⟩
  ·exact nomatch e
  ·injection e with e1 _
   subst e1;cases v<;>rfl
  ·exact nomatch e
theorem a9x (prog:kz) (w:World) (i:Int) (t:Tok):(a0O prog w).is (.inl (some i)) (.int i t)=true:=b1Y i t
theorem a9y (prog:kz) (w:World) (x:Str) (t:Tok):(a0O prog w).is (.inr x) (.str x t)=true:=b1Z x t
inductive V where
 | non | bl (b:Bool) | int (i:Int) | str (x:Str) | byt (b:Array UInt8) | flt (b:UInt64) | ref (a:Addr) | ty (n:String)
 deriving DecidableEq
def RelV:V->Value->Prop
 | .non,u=>u=Value.none
 | .bl b,u=>u=Value.bool b
 | .int i,u=>∃ t,u=Value.int i t
 | .str x,u=>∃ t,u=Value.str x t
 | .byt b,u=>∃ t,u=Value.bytes b t
 | .flt b,u=>∃ t,u=Value.float b t
 | .ref a,u=>u=Value.ref a
 | .ty n,u=>u=Value.type n
abbrev Vals:List V->List Value->Prop:=Paired RelV
theorem Vals.length (r:Vals xs us):xs.length=us.length:=Paired.length r
theorem Vals.get:∀ {xs:List V}{us:List Value}{i:Nat}{x:V},Vals xs us->xs[i]?=some x->∃ u,us[i]?=some u/\RelV x u
 | _,_,_,_,.nil,e=>by simp at e
 | _,_,0,_,.cons r _,e=>by simp at e;subst e;exact⟨_,rfl,r⟩
 | _,_,i+1,x,.cons _ t,e=>by
  obtain⟨u,b,a⟩:=Vals.get t (by simpa using e);exact⟨u,by simpa using b,a⟩
theorem Vals.set (r:RelV x u):∀ {xs:List V}{us:List Value}(i:Nat),Vals xs us->Vals (xs.set i x) (us.set i u)
 | _,_,_,.nil=>.nil
 | _,_,0,.cons _ t=>.cons r t
 | _,_,i+1,.cons q t=>.cons q (Vals.set r i t)
theorem Vals.append:∀ {xs ys:List V}{us ws:List Value},Vals xs us->Vals ys ws->Vals (xs++ys) (us++ws)
 | _,_,_,_,.nil,s=>s
 | _,_,_,_,.cons r t,s=>.cons r (Vals.append t s)
theorem Vals.take:∀ {xs:List V}{us:List Value}(n:Nat),Vals xs us->Vals (xs.take n) (us.take n)
 | _,_,0,_=>.nil
 | _,_,_+1,.nil=>.nil
 | _,_,n+1,.cons r t=>.cons r (Vals.take n t)
theorem Vals.drop:∀ {xs:List V}{us:List Value}(n:Nat),Vals xs us->Vals (xs.drop n) (us.drop n)
 | _,_,0,r=>r
 | _,_,_+1,.nil=>.nil
 | _,_,n+1,.cons _ t=>Vals.drop n t
theorem Vals.none_of:∀ {xs:List V}{us:List Value}{i:Nat},Vals xs us->xs[i]?=none->us[i]?=none:=λ{a d i} r e=>by
 have b:=r.length;have c:=jv.mp e;exact jv.mpr (by omega)
def RelO:Option V->Option Value->Prop
 | some v,some u=>RelV v u
 | none,none=>True
 | _,_=>False
def KV {κ:Type}:List (κ×V)->List (κ×Value)->Prop:=Paired λ(p:κ×V) (q:κ×Value)=>p.1=q.1/\RelV p.2 q.2
noncomputable def kV:Key->V
 | .inl (some i)=>.int i
 | .inl none=>.non
 | .inr x=>.str x
inductive HO where
 /-- a list -/
 | lst (xs:List V)
 /-- a tuple (never changes) -/
 | tup (xs:List V)
 /-- a dict whose keys are ints and texts;one whose keys are tuples of ints and texts (the empty one is both) -/
 | dK (kvs:List (Key×V)) | dT (kvs:List (List Key×V))
 /-- a set of ints: its members,its size -/
 | set (S:Int->Bool) (n:Nat)
 /-- an instance of the class at C,its dict at dx,its attributes -/
 | ins (C dx:Addr) (fs:List (Str×V))
 /-- the dict of the instance at x -/
 | own (x:Addr)
 /-- the dict of an exception -/
 | xd (fs:List (Str×V))
 /-- a bound method,f of x -/
 | met (f x:Addr)
 /-- a range object lo,lo+1,.. below hi -/
 | rng (lo hi:Int)
 /-- a thing that is known to the object (the script;a dict while a loop walks it): read,never written while it is so -/
 | frz (o:Obj) (u:HO)
 /-- a code object's table -/
 | tbl (ps:Array Value)
 /-- any other thing,by what is true of its one object (a def of one's own: SetO a S n:=HO.ext λh=>..) -/
 | ext (φ:Heap->Prop)
abbrev Hp:=Addr->Option HO
noncomputable def upd (H:Hp) (a:Addr) (o:HO):Hp:=λb=>if b=a then some o else H b
theorem a0w:upd H a o a=some o:=by unfold upd;rw[if_pos rfl]
theorem a0x (h:b≠a):upd H a o b=H b:=by unfold upd;rw[if_neg h]
theorem c0X {H:Hp}(h:H a=some o) (h':H b=some u) (d:o≠u):a≠b:=by
 intro e;subst e;rw[h]at h';exact d (fQ.inj h')
theorem a17 {H:Hp}(h:H a=some o) (h':H b=none):a≠b:=by
 intro e;subst e;rw[h]at h';cases h'
section
variable (P:kz) (w:World)
def ObjOk (H:Hp) (h:Heap) (a:Addr):HO->Prop
 | .lst xs=>xs.length<=ki/\∃ (its:List Value) (n:Nat),Vals xs its/\h.get? a=some { cls:=.type "list",data:=.seq its.toArray n }
 | .tup xs=>xs.length<=ki/\∃ its:List Value,Vals xs its/\IsTup h a its.toArray
 | .dK kvs=>kvs.length<=ki/\(a==k6)=false/\∃ vs,KV kvs vs/\h.DictOf (a0O P w) a vs
 | .dT kvs=>kvs.length<=ki/\(a==k6)=false/\∃ xs:List (List Key×Addr×Value),
   Paired (λ(p:List Key×V) (q:List Key×Addr×Value)=>p.1=q.1/\H q.2.1=some (.tup (p.1.map kV))/\RelV p.2 q.2.2) kvs xs /\
   ∃ o es ep,h.get? a=some o/\o.ExactDict/\o.data=.dict es ep/\es.toList=xs.map (entryOfKey (kO (a0O P w)))/\(xs.map (·.1)).Nodup
 | .set S n=>h.SetOf (intKind P w) a S n
 | .ins C dx fs=>H dx=some (.own a)/\fs.length<=1000/\dx≠a/\h.get? a=some (PySem.W.instObj C dx) /\
   ∃ mA,h.Ns1 dx mA/\(∀ f,RelO (fs.lookup f) (mA f))/\PySem.Within mA (fs.map (·.1))
 | .own _=>∃ o,h.get? a=some o
 | .xd fs=>∃ mA,h.Ns1 a mA/\∀ f,RelO (fs.lookup f) (mA f)
 | .rng lo hi=>∃ t u v,h.get? a=some { cls:=.type "range",data:=.fields #[.int lo t,.int hi u,.int 1 v] }
 | .frz o u=>h.get? a=some o/\ObjOk H h a u
 | .tbl ps=>h.get? a=some { cls:=.none,data:=.fields ps }
 | .met f x=>h.get? a=some (PySem.W.methodObj (.ref f) (.ref x))
 | .ext φ=>φ h/\(∃ o,h.get? a=some o)/\∀ h1 h2:Heap,φ h1->(∀ o,h1.get? a=some o->h2.get? a=some o)->φ h2
def HOk (H:Hp) (h:Heap):Prop:=∀ a o,H a=some o->ObjOk P w H h a o
end
section
variable {P:kz}{w:World}{H H':Hp}{h h':Heap}{a:Addr}{o:HO}
theorem ObjOk.lt (x:ObjOk P w H h a o):a<h.objs.size:=by
 cases o with
 | lst xs=>obtain⟨_,_,_,_,e⟩:=x;exact Heap.lt_size e
 | tup xs=>obtain⟨_,_,_,p⟩:=x;exact p.lt
 | dK kvs=>obtain⟨_,_,_,_,o,_,_,e,_⟩:=x;exact Heap.lt_size e
 | dT kvs=>obtain⟨_,_,_,_,o,_,_,e,_⟩:=x;exact Heap.lt_size e
 | set S n=>obtain⟨o,_,_,_,e,_⟩:=x;exact Heap.lt_size e
 | ins C dx fs=>obtain⟨_,_,_,e,_⟩:=x;exact Heap.lt_size e
 | own y=>obtain⟨_,e⟩:=x;exact Heap.lt_size e
 | xd fs=>obtain⟨_,⟨_,_,_,e,_⟩,_⟩:=x;exact Heap.lt_size e
 | rng lo hi=>obtain⟨_,_,_,e⟩:=x;exact Heap.lt_size e
 | frz ob u=>obtain⟨e,_⟩:=x;exact Heap.lt_size e
 | tbl ps=>exact Heap.lt_size (x)
 | met f y=>exact Heap.lt_size (x)
 | ext φ=>obtain⟨_,⟨_,e⟩,_⟩:=x;exact Heap.lt_size e
theorem Paired.mapP {α β:Type}{F G:α->β->Prop}:∀ {ljj:List α}{ljq:List β},Paired F ljj ljq->(∀ a b,F a b->G a b)->Paired G ljj ljq
 | _,_,.nil,_=>.nil
 | _,_,.cons r t,f=>.cons (f _ _ r) (Paired.mapP t f)
theorem ObjOk.stay (x:ObjOk P w H h a o) (k:∀ b u,(b=a\/H b=some (.own a))->h.get? b=some u->h'.get? b=some u)
  (ho:∀ b,H b=some (.own a)->H' b=some (.own a)) (ht:∀ b xs,H b=some (.tup xs)->H' b=some (.tup xs)):ObjOk P w H' h' a o:=by
 induction o with
 | lst s=>obtain⟨z,l,n,r,e⟩:=x;exact⟨z,l,n,r,k _ _ (.inl rfl) e⟩
 | tup s=>obtain⟨z,l,r,g,e,c⟩:=x;exact⟨z,l,r,g,k _ _ (.inl rfl) e,c⟩
 | dK kvs=>obtain⟨z,y,F,r,g,i,j,e,c⟩:=x;exact⟨z,y,F,r,g,i,j,k _ _ (.inl rfl) e,c⟩
 | dT kvs=>
  obtain⟨z,y,s,r,g,i,j,e,c⟩:=x;exact⟨z,y,s,Paired.mapP r λp q z=>⟨z.1,ht _ _ z.2.1,z.2.2⟩,g,i,j,k _ _ (.inl rfl) e,c⟩
 | set S n=>obtain⟨g,i,j,t,e,c⟩:=x;exact⟨g,i,j,t,k _ _ (.inl rfl) e,c⟩
 | ins C dx fs=>
  obtain⟨d,z,D,e,A,⟨m,i,j,E,c⟩,r⟩:=x;exact⟨ho _ d,z,D,k _ _ (.inl rfl) e,A,⟨m,i,j,k _ _ (.inr d) E,c⟩,r⟩
 | own y=>obtain⟨g,e⟩:=x;exact⟨g,k _ _ (.inl rfl) e⟩
 | xd fs=>obtain⟨A,⟨m,i,j,e,c⟩,r⟩:=x;exact⟨A,⟨m,i,j,k _ _ (.inl rfl) e,c⟩,r⟩
 | rng lo hi=>obtain⟨t,u,v,e⟩:=x;exact⟨t,u,v,k _ _ (.inl rfl) e⟩
 | frz g u ih=>obtain⟨e,q⟩:=x;exact⟨k _ _ (.inl rfl) e,ih q⟩
 | tbl ps=>
  have e:=x;exact k a _ (.inl rfl) e
 | met f y=>
  have e:=x;exact k a _ (.inl rfl) e
 | ext φ=>obtain⟨p,⟨o,e⟩,B⟩:=x;exact⟨B _ _ p λo q=>k _ _ (.inl rfl) q,⟨o,k _ _ (.inl rfl) e⟩,B⟩
theorem HOk.lt (x:HOk P w H h) (e:H a=some o):a<h.objs.size:=(x a o e).lt
theorem HOk.fresh (x:HOk P w H h) (e:h.objs.size<=a):H a=none:=by
 cases q:H a with
 | none=>rfl
 | some u=>exact absurd (fF (x.lt q) e) (fM _)
theorem HOk.kept (x:HOk P w H h) (k:∀ b u,h.get? b=some u->h'.get? b=some u):HOk P w H h':=λa o e=>
 (x a o e).stay (λb u _ q=>k b u q) (λ_ q=>q) λ_ _ q=>q
theorem HOk.laid (x:HOk P w H h) (k:∀ b u,h.get? b=some u->h'.get? b=some u) (hp:h.objs.size<=a) (new:ObjOk P w (upd H a o) h' a o):HOk P w (upd H a o) h':=λb u e=>by
 have d:=x.fresh hp
 by_cases hb:b=a
 ·subst hb;rw[a0w]at e;cases e;exact new
 ·rw[a0x hb]at e;exact (x b u e).stay (λc v _ q=>k c v q) (λc q=>by rw[a0x (a17 q d)];exact q) λc f q=>by rw[a0x (a17 q d)];exact q
end
def Rd (H:Hp) (a:Addr) (u:HO):Prop:=H a=some u\/∃ o,H a=some (.frz o u)
theorem Rd.of (h:H a=some u):Rd H a u:=.inl h
theorem Rd.ok (r:Rd H a u) (x:HOk P w H h):ObjOk P w H h a u:=by
 rcases r with r | ⟨o,r⟩
 ·exact x a u r
 ·obtain⟨_,q⟩:=x a _ r;exact q
def Mut:Option HO->Prop
 | some (.lst _)=>True
 | some (.dK _)=>True
 | some (.dT _)=>True
 | some (.set _ _)=>True
 | some (.ins _ _ _)=>True
 | some (.ext _)=>True
 | _=>False
section
variable {P:kz}{w:World}{H:Hp}{h h':Heap}{x e:Addr}{o':HO}
theorem HOk.write (ok:HOk P w H h) (mu:Mut (H x)) (he:e=x\/H e=some (.own x)) (k:∀ b u,b≠e->h.get? b=some u->h'.get? b=some u) (heo:∃ u,h'.get? e=some u)
  (new:ObjOk P w (upd H x o') h' x o'):HOk P w (upd H x o') h':=λb u q=>by
 have a:∀ c y,H c=some (.own y)->c≠x:=λc y r z=>by subst z;rw[r]at mu;exact mu
 have g:∀ c d,H c=some (.tup d)->c≠x:=λc d r z=>by subst z;rw[r]at mu;exact mu
 by_cases hb:b=x
 ·subst hb;rw[a0w]at q;cases q;exact new
 ·rw[a0x hb]at q
  by_cases hbe:b=e
  ·have i:H b=some (.own x):=by
    rcases he with z | z
    ·exact absurd (hbe.trans z) hb
    ·rw[hbe];exact z
   rw[q]at i;cases i;obtain⟨v,j⟩:=heo;exact⟨v,by rw[hbe];exact j⟩
  ·refine (ok b u q).stay (λc v f r=>k c v ?_ r) (λc r=>by rw[a0x (a c b r)];exact r) λc d r=>by rw[a0x (g c d r)];exact r
   rcases f with rfl | f
   ·omega
   ·grind
end
structure Un (fs ex:List Addr) (H H':Hp) (h h':Heap):Prop where
 keep:∀ b o,h.get? b=some o->H b=none->b∉fs->b∉ex->h'.get? b=some o
 slot:∀ b o,h.get? b=some o->H b=none->b∈fs->b∉ex->∃ sl,h'.get? b=some { o with slots:=sl }
 free:∀ b o,h.get? b=some o->H b=none->b∉ex->H' b=none
 there:∀ b o,h.get? b=some o->b∉ex->∃ o',h'.get? b=some o'
 tups:∀ b xs,H b=some (.tup xs)->H' b=some (.tup xs)
 frzs:∀ b o u,H b=some (.frz o u)->H' b=some (.frz o u)
 tbls:∀ b ps,H b=some (.tbl ps)->∃ more,H' b=some (.tbl (ps++more))
section
variable {fs fs' ex ex':List Addr}{H H1 H2:Hp}{h h1 h2 h':Heap}{a x e:Addr}{o:HO}
theorem Un.any (u:Un fs ex H H1 h h1) (q:h.get? b=some ob) (n:H b=none) (hx:b∉ex):∃ sl,h1.get? b=some { ob with slots:=sl }:=by
 by_cases hb:b∈fs
 ·exact u.slot b ob q n hb hx
 ·exact⟨ob.slots,u.keep b ob q n hb hx⟩
theorem Un.trans (a:Un fs ex H H1 h h1) (b:Un fs ex H1 H2 h1 h2):Un fs ex H H2 h h2 where
 keep:=λc ob q n hc hx=>b.keep c ob (a.keep c ob q n hc hx) (a.free c ob q n hx) hc hx
 slot:=λc ob q n hc hx=>by
  obtain⟨sl,e1⟩:=a.slot c ob q n hc hx;obtain⟨sl',e2⟩:=b.slot c _ e1 (a.free c ob q n hx) hc hx;exact⟨sl',e2⟩
 free:=λc ob q n hx=>by
  obtain⟨o',e1⟩:=a.there c ob q hx;exact b.free c o' e1 (a.free c ob q n hx) hx
 there:=λc ob q hx=>by
  obtain⟨o',e1⟩:=a.there c ob q hx;exact b.there c o' e1 hx
 tups:=λc xs q=>b.tups c xs (a.tups c xs q)
 frzs:=λc ob xs q=>b.frzs c ob xs (a.frzs c ob xs q)
 tbls:=λc ps q=>by
  obtain⟨m1,e1⟩:=a.tbls c ps q;obtain⟨m2,e2⟩:=b.tbls c _ e1;exact⟨m1++m2,by rw[e2,jw]⟩
theorem Un.kept (k:∀ b u,h.get? b=some u->h'.get? b=some u):Un fs ex H H h h':=
 ⟨λb a q _ _ _=>k b a q,λb a q _ _ _=>⟨a.slots,k b a q⟩,λ_ _ _ n _=>n,λb a q _=>⟨a,k b a q⟩,λ_ _ q=>q,λ_ _ _ q=>q,λ_ c q=>⟨#[],by rw[q];simp⟩⟩
theorem Un.refl:Un fs ex H H h h:=Un.kept λ_ _ q=>q
theorem Un.laid (k:∀ b u,h.get? b=some u->h'.get? b=some u) (hp:h.objs.size<=a) (hn:H a=none):Un fs ex H (upd H a o) h h' where
 keep:=λb u q _ _ _=>k b u q
 slot:=λb u q _ _ _=>⟨u.slots,k b u q⟩
 free:=λb u q n _=>by rw[a0x (fz (fF (Heap.lt_size q) hp))];exact n
 there:=λb u q _=>⟨u,k b u q⟩
 tups:=λb xs q=>by rw[a0x (a17 q hn)];exact q
 frzs:=λb u xs q=>by rw[a0x (a17 q hn)];exact q
 tbls:=λb ps q=>⟨#[],by rw[a0x (a17 q hn),q];simp⟩
theorem Un.write (mu:Mut (H x)) (he:e=x\/H e=some (.own x)) (k:∀ b u,b≠e->h.get? b=some u->h'.get? b=some u) (heo:∃ u,h'.get? e=some u):Un fs ex H (upd H x o) h h':=by
 have d:∀ b,H b=none->b≠x:=λb n z=>by subst z;rw[n]at mu;exact mu
 have c:∀ b,H b=none->b≠e:=λb n z=>by simp_all
 have a:∀ b u,H b=some u->¬ Mut (some u)->b≠x:=λb u q g z=>by subst z;rw[q]at mu;exact g mu
 refine⟨λb u q n _ _=>k b u (c b n) q,λb u q n _ _=>⟨u.slots,k b u (c b n) q⟩,λb u q n _=>by rw[a0x (d b n)];exact n,λb u q _=>?_,
  λb f q=>by rw[a0x (a b _ q λz=>z)];exact q,λb u f q=>by rw[a0x (a b _ q λz=>z)];exact q,λb i q=>⟨#[],by rw[a0x (a b _ q λz=>z),q];simp⟩⟩
 by_cases hbe:b=e
 ·grind
 ·exact⟨u,k b u hbe q⟩
theorem Un.mono (u:Un fs ex H H1 h h1) (hs:∀ b∈fs,b∈fs') (hx:∀ b∈ex,b∈ex'):Un fs' ex' H H1 h h1:=
 ⟨λb c q n d a=>u.keep b c q n (λz=>d (hs b z)) λz=>a (hx b z),λ_ _ q n _ a=>u.any q n λz=>a (hx _ z),λb c q n a=>u.free b c q n λz=>a (hx b z),λb c q a=>u.there b c q λz=>a (hx b z),u.tups,u.frzs,u.tbls⟩
end
noncomputable def trk (h:Heap) (H:Hp):List Addr:=(im h.objs.size).filter λa=>(H a).isSome
noncomputable def hidT (h:Heap) (H:Hp):Heap:=PySem.W.hideAll h (trk h H)
theorem b10 (h:Heap) (H:Hp):(hidT h H).objs.size=h.objs.size:=PySem.W.hideAll_size _ _
theorem b4e (e:h.get? b=some o) (n:H b=none):(hidT h H).get? b=some o:=
 PySem.W.hideAll_get _ e λa=>by
  have q:=(fX.mp a).2;rw[n]at q;simp at q
theorem b6w (e:(hidT h H).get? b=some o):h.get? b=some o/\H b=none:=by
 have a:=PySem.W.of_hideAll _ e;refine⟨a,?_⟩;cases q:H b with
 | none=>rfl
 | some x=>
  have c:b∈trk h H:=fX.mpr ⟨jx.mpr (Heap.lt_size a),by simp[q]⟩;have z:(hidT h H).get? b=none:=PySem.W.hideAll_none _ c;rw[z]at e;cases e
def b6x (g h:Heap) (L:Addr):List (Addr×Obj):=(im h.objs.size).filterMap λa=>if a=L\/(g.get? a).isSome=true then none else (h.get? a).map λo=>(a,o)
noncomputable def rest (g h:Heap) (L d:Addr):List (Addr×Obj):=(b6x g h L).filter λp=>decide (p.1≠d)
structure Mod (K:Fg) (mg:Str->Option Value) (base:Heap):Prop where
 kin:K.In base
 glob:base.Ns ku mg
 blt:∃ mb,base.Ns my mb/\∀ x:Str,x≠"__name__"->mb x=ls x
 nolimit:base.NoLimit
structure Cx where
 prog:kz
 w:World
 K:Fg
 mg:Str->Option Value
 base:Heap
 A:Around
 N:List Str
 s₀:Shared
 H₀:Hp
 env:Env
 outer:List Env
 stack:List Env
 ex:List Addr
 fn:Str->Bool
 calm:Bool
 pn:List (Addr×Obj)
 xe:Value->Shared->Prop
noncomputable def frs (l:List Env):List Addr:=l.filterMap (·.frame)
abbrev Cx.fs (X:Cx):List Addr:=frs X.outer
def Vis (sc:Scope) (x:Str):Prop:=sc.names.lookup x=some .local\/sc.names.lookup x=some .cell\/sc.names.lookup x=some .free
def Loc (sc:Scope) (x:Str):Prop:=sc.names.lookup x=some .local\/sc.names.lookup x=some .cell
def Look (env:Env) (h:Heap) (m:Str->Option Value) (x:Str) (u:Value):Prop:=
 (env.kindOf x=some .local/\m x=some u)\/((env.kindOf x=some .cell\/env.kindOf x=some .free)/\∃ c,env.cells.lookup x=some c/\h.IsCell c (some u))
structure Cx.Ok (X:Cx):Prop where
 mod:Mod X.K X.mg X.base
 kind:X.env.scope.kind=.function
 glob:X.env.globals=ku
 blt:X.env.builtins=my
 above:X.s₀.heap.objs.size<=X.env.locals
 inj:∀ x y c,X.env.cells.lookup x=some c->X.env.cells.lookup y=some c->x=y
 has:∀ x,(X.env.kindOf x=some .cell\/X.env.kindOf x=some .free)->∃ c,X.env.cells.lookup x=some c
 cab:∀ x c,X.fn x=true->X.env.cells.lookup x=some c->X.s₀.heap.objs.size<=c
 hd:X.calm=true->X.A.handled=none
 frames:X.A.frames=some X.stack
 stk:X.stack=X.outer\/(X.stack=X.env::X.outer/\X.env.frame=some X.env.locals)
 exf:∀ b∈X.ex,b≠X.env.locals/\∀ x c,X.env.cells.lookup x=some c->c≠b
 bs:∀ b o,X.base.get? b=some o->X.s₀.heap.get? b=some o/\X.H₀ b=none
 bsz:X.base.objs.size<=X.s₀.heap.objs.size
 noex:∀ b o,X.base.get? b=some o->b∉X.ex
 exfs:∀ b∈X.ex,b∉X.fs
 funs:X.s₀.heap.FunFrames X.base X.outer
 frf:∀ b∈X.fs,X.H₀ b=none
structure Inv (X:Cx) (pins:List (Addr×Obj)) (σ:List (Option V)) (H:Hp) (s:Shared):Prop where
 ok:X.Ok
 os:s.os=X.s₀.os
 bare:lb s.gens
 base:Un X.fs X.ex X.H₀ H X.s₀.heap s.heap
 loc:∃ m,s.heap.Ns X.env.locals m/\∀ (i:Nat) (x:Str) (v:V),X.N[i]?=some x->σ[i]?=some (some v)->Vis X.env.scope x->∃ u,RelV v u/\Look X.env s.heap m x u
 cell:∀ x c,X.env.cells.lookup x=some c->∃ v,s.heap.IsCell c v
 free:H X.env.locals=none
 freeC:∀ x c,X.env.cells.lookup x=some c->H c=none
 pin:∀ p∈X.pn++pins,s.heap.get? p.1=some p.2/\H p.1=none/\p.1≠X.env.locals/\p.1∉X.fs/\∀ v,p.2.data≠.cell v
 hok:HOk X.prog X.w H s.heap
 len:σ.length=X.N.length
section
variable {X:Cx}{pins:List (Addr×Obj)}{σ:List (Option V)}{H H':Hp}{s:Shared}{h':Heap}
theorem Cx.Ok.nofr (ok:X.Ok) (e:X.base.get? b=some o):b∉X.fs:=λa=>by
 have:=(ok.funs.mem a).1
 rw[e]at this;cases this
theorem Inv.bs (I:Inv X pins σ H s):∀ b o,X.base.get? b=some o->s.heap.get? b=some o/\H b=none:=λb o e=>
 ⟨I.base.keep b o (I.ok.bs b o e).1 (I.ok.bs b o e).2 (I.ok.nofr e) (I.ok.noex b o e),I.base.free b o (I.ok.bs b o e).1 (I.ok.bs b o e).2 (I.ok.noex b o e)⟩
theorem Inv.bk (I:Inv X pins σ H s):∀ b o,X.base.get? b=some o->s.heap.get? b=some o:=λb o e=>(I.bs b o e).1
theorem Inv.mod (I:Inv X pins σ H s):Mod X.K X.mg X.base:=I.ok.mod
theorem Inv.kIn (I:Inv X pins σ H s):X.K.In s.heap:=I.ok.mod.kin.keeps I.bk
theorem Inv.nolimit (I:Inv X pins σ H s):s.heap.NoLimit:=I.ok.mod.nolimit.keeps I.bk
theorem Inv.fr (I:Inv X pins σ H s):∃ m,Fr X.base X.env.locals s.heap m:=
 let ⟨m,hn,_⟩:=I.loc
 ⟨m,hn,I.bk,fx I.ok.bsz I.ok.above⟩
theorem Inv.lt (I:Inv X pins σ H s):X.env.locals<s.heap.objs.size:=let ⟨_,hn,_⟩:=I.loc;hn.lt
theorem Inv.sz (I:Inv X pins σ H s):X.s₀.heap.objs.size<=s.heap.objs.size:=fx I.ok.above (g0 I.lt)
theorem Inv.nofs (I:Inv X pins σ H s) (h:s.heap.objs.size<=a):a∉X.fs:=λc=>by
 obtain⟨_,o,b,_⟩:=I.ok.funs.mem c;exact absurd (fF (Heap.lt_size b) (fx I.sz h)) (fM _)
theorem Inv.cne (I:Inv X pins σ H s):∀ x c,X.env.cells.lookup x=some c->c≠X.env.locals:=λx c e z=>by
 obtain⟨v,o,d,b⟩:=I.cell x c e;obtain⟨m,⟨i,g,h,a,f,_⟩,_⟩:=I.loc;rw[z,a]at d;cases d;rw[f]at b;cases b
theorem Inv.funs (I:Inv X pins σ H s):s.heap.FunFrames X.base X.outer:=by
 have g:∀ l,(∀ b∈frs l,b∈X.fs)->X.s₀.heap.FunFrames X.base l->s.heap.FunFrames X.base l:=by
  intro l
  induction l with
  | nil=>intro _ _;trivial
  | cons env r ih=>
   intro f h;obtain⟨k,⟨L,o,c,n,m,j⟩,i⟩:=h;have d:=f L (by unfold frs;rw[gy,c];exact gi);obtain⟨p,e⟩:=I.base.slot L o m (I.ok.frf L d) d λz=>I.ok.exfs L z d;exact⟨k,⟨L,_,c,n,e,j⟩,ih (λb a=>f b (by unfold frs;rw[gy,c];exact fY _ a)) i⟩
 exact g X.outer (λ_ a=>a) I.ok.funs
theorem Inv.stack (I:Inv X pins σ H s):s.heap.FunFrames X.base X.stack:=by
 rcases I.ok.stk with e | ⟨e,hf⟩
 ·rw[e];exact I.funs
 ·rw[e];obtain⟨m,a,_⟩:=I.loc;refine .cons (by rw[I.ok.kind];decide) hf a ?_ I.funs;exact Heap.get?_none_of_le (fx I.ok.bsz I.ok.above)
theorem Inv.stkSub (I:Inv X pins σ H s):∀ b∈frs X.stack,b∈X.env.locals::X.fs:=λb a=>by
 rcases I.ok.stk with e | ⟨e,hf⟩
 ·rw[e]at a;exact fY _ a
 ·rw[e]at a;unfold frs at a;rw[gy,hf]at a;exact a
theorem Inv.stkFree (I:Inv X pins σ H s):∀ b∈frs X.stack,H b=none:=λb a=>by
 rcases ft.mp (I.stkSub b a) with e | a
 ·rw[e];exact I.free
 ·obtain⟨_,o,c,_⟩:=I.ok.funs.mem a;exact I.base.free b o c (I.ok.frf b a) λz=>I.ok.exfs b z a
theorem Inv.step {ch:List Addr}(I:Inv X pins σ H s)
  (hch:∀ b∈ch,(b∈X.ex\/X.s₀.heap.objs.size<=b)/\b≠X.env.locals/\(∀ x c,X.env.cells.lookup x=some c->c≠b)/\∀ p∈X.pn++pins,p.1≠b)
  (keep:∀ b o,b≠X.env.locals->b∉X.fs->b∉ch->s.heap.get? b=some o->H b=none->h'.get? b=some o)
  (slot:∀ b o,b≠X.env.locals->b∈X.fs->b∉ch->s.heap.get? b=some o->H b=none->∃ sl,h'.get? b=some { o with slots:=sl }) (free:∀ b o,b∉ch->s.heap.get? b=some o->H b=none->H' b=none)
  (there:∀ b o,b∉ch->s.heap.get? b=some o->∃ o',h'.get? b=some o')
  (tups:∀ b xs,H b=some (.tup xs)->H' b=some (.tup xs)) (frzs:∀ b o u,H b=some (.frz o u)->H' b=some (.frz o u)) (tbls:∀ b ps,H b=some (.tbl ps)->∃ more,H' b=some (.tbl (ps++more)))
  (ns:∀ m,s.heap.Ns X.env.locals m->h'.Ns X.env.locals m) (hok:HOk X.prog X.w H' h') (hg:lb g') :
  Inv X pins σ H' { s with heap:=h',gens:=g',drawn:=d',toks:=t' }:=by
 have C:∀ b o,X.s₀.heap.get? b=some o->b≠X.env.locals:=λb o e=>fz (fF (Heap.lt_size e) I.ok.above);have j:∀ b o,X.s₀.heap.get? b=some o->b∉X.ex->b∉ch:=λb o e a h=>by
  rcases (hch b h).1 with z | z
  ·grind
  ·exact absurd (fF (Heap.lt_size e) z) (fM _)
 have t:∀ x c,X.env.cells.lookup x=some c->∀ v,s.heap.IsCell c v->h'.IsCell c v:=λx c e v ⟨o,y,E⟩=>by
  have g:=λz=>(hch c z).2.2.1 x c e rfl
  by_cases hc:c∈X.fs
  ·obtain⟨S,q⟩:=slot c o (I.cne x c e) hc g y (I.freeC x c e);exact⟨_,q,E⟩
  ·exact⟨o,keep c o (I.cne x c e) hc g y (I.freeC x c e),E⟩
 refine⟨I.ok,I.os,hg,⟨λb o e n h a=>?_,λb o e n h a=>?_,λb o e n a=>?_,λb o e a=>?_,λb B e=>tups b B (I.base.tups b B e),λb o B e=>frzs b o B (I.base.frzs b o B e),λb Q e=>?_⟩,?_,λx c e=>?_,?_,λx c e=>?_,λp L=>?_,hok,I.len⟩
 ·exact keep b o (C b o e) h (j b o e a) (I.base.keep b o e n h a) (I.base.free b o e n a)
 ·obtain⟨S,f⟩:=I.base.slot b o e n h a;obtain⟨F,A⟩:=slot b _ (C b o e) h (j b o e a) f (I.base.free b o e n a);exact⟨F,A⟩
 ·obtain⟨D,f⟩:=I.base.there b o e a;exact free b D (j b o e a) f (I.base.free b o e n a)
 ·obtain⟨D,f⟩:=I.base.there b o e a;exact there b D (j b o e a) f
 ·obtain⟨N,f⟩:=I.base.tbls b Q e;obtain⟨U,A⟩:=tbls b _ f;exact⟨N++U,by rw[A,jw]⟩
 ·obtain⟨m,T,M⟩:=I.loc;refine⟨m,ns m T,λi x v f A R=>?_⟩;obtain⟨u,r,l⟩:=M i x v f A R;refine⟨u,r,?_⟩;rcases l with l | ⟨k,c,e,z⟩
  ·exact .inl l
  ·exact .inr ⟨k,c,e,t x c e _ z⟩
 ·obtain⟨v,z⟩:=I.cell x c e;exact⟨v,t x c e v z⟩
 ·obtain⟨m,⟨o,_,_,y,_⟩,_⟩:=I.loc;exact free _ o (λz=>(hch _ z).2.1 rfl) y I.free
 ·obtain⟨v,o,y,E⟩:=I.cell x c e;exact free c o (λz=>(hch c z).2.2.1 x c e rfl) y (I.freeC x c e)
 ·obtain⟨e,n,G,J,d⟩:=I.pin p L;have g:=λz=>(hch p.1 z).2.2.2 p L rfl;exact⟨keep p.1 p.2 G J g e n,free p.1 p.2 g e n,G,J,d⟩
theorem Inv.un (I:Inv X pins σ H s) (u:Un X.fs [] H H' s.heap h') (hok:HOk X.prog X.w H' h'):Inv X pins σ H' { s with heap:=h',toks:=t' }:=by
 obtain⟨m,⟨o,k,q,g,r⟩,_⟩:=id I.loc;obtain⟨l,j⟩:=u.any g I.free (by simp);exact I.step (ch:=[]) (λ_ z=>nomatch z) (λb o _ c _ e n=>u.keep b o e n c (by simp)) (λb o _ c _ e n=>u.slot b o e n c (by simp)) (λb o _ e n=>u.free b o e n (by simp)) (λb o _ e=>u.there b o e (by simp)) u.tups u.frzs u.tbls (λt h=>by
  obtain⟨p,d,f,a,i⟩:=h;rw[g]at a;cases a;exact⟨_,d,f,j,i⟩) hok I.bare
theorem Inv.call (I:Inv X pins σ H s) (u:Un (frs X.stack) ch H H' s.heap h') (hok:HOk X.prog X.w H' h') (hg:lb g')
  (hch:∀ b∈ch,(b∈X.ex\/X.s₀.heap.objs.size<=b)/\b≠X.env.locals/\(∀ x c,X.env.cells.lookup x=some c->c≠b)/\∀ p∈X.pn++pins,p.1≠b) :
  Inv X pins σ H' { s with heap:=h',gens:=g',drawn:=d',toks:=t' }:=by
 obtain⟨m,⟨o,q,y,i,r⟩,_⟩:=id I.loc;obtain⟨t,f⟩:=u.any i I.free λz=>(hch _ z).2.1 rfl;exact I.step hch (λb o f l a e n=>u.keep b o e n (λz=>(ft.mp (I.stkSub b z)).elim f l) a) (λb o _ _ a e n=>u.any e n a) (λb o a e n=>u.free b o e n a) (λb o a e=>u.there b o e a) u.tups u.frzs u.tbls (λA j=>by
  obtain⟨v,g,h,d,k⟩:=j;rw[i]at d;cases d;exact⟨_,g,h,f,k⟩) hok hg
theorem Inv.turned (I:Inv X pins σ H s) (k:∀ b o,b≠it->s.heap.get? b=some o->h'.get? b=some o) (hn:H it=none) (hL:it≠X.env.locals)
  (h1:it∈X.ex\/X.s₀.heap.objs.size<=it) (h2:∀ x c,X.env.cells.lookup x=some c->c≠it) (h3:∀ p∈X.pn++pins,p.1≠it):Inv X pins σ H { s with heap:=h',toks:=t' }:=by
 have d:∀ b u,H b=some u->b≠it:=λb u e z=>by rw[z,hn]at e;cases e
 refine I.step (ch:=[it]) (λb i=>?_) (λb o _ _ a e _=>k b o (λz=>a (by simp[z])) e) (λb o _ _ a e _=>⟨o.slots,k b o (λz=>a (by simp[z])) e⟩) (λ_ _ _ _ n=>n)
  (λb o a e=>⟨o,k b o (λz=>a (by simp[z])) e⟩) (λ_ _ e=>e) (λ_ _ _ e=>e) (λb l e=>⟨#[],by rw[e];simp⟩) (λm h=>?_) (λb u e=>?_) I.bare
 ·have e:b=it:=by simpa using i
  subst e;exact⟨h1,hL,h2,h3⟩
 ·obtain⟨o,f,j,g,r⟩:=h;exact⟨o,f,j,k _ o (Ne.symm hL) g,r⟩
 ·refine (I.hok b u e).stay (λc v a q=>k c v ?_ q) (λ_ q=>q) λ_ _ q=>q;rcases a with z | z
  ·rw[z];exact d b u e
  ·exact d c _ z
theorem Inv.tok (I:Inv X pins σ H s) (t:Nat):Inv X pins σ H { s with toks:=t }:=I.un Un.refl I.hok
theorem Inv.kept (I:Inv X pins σ H s) (k:∀ b u,s.heap.get? b=some u->h'.get? b=some u):Inv X pins σ H { s with heap:=h',toks:=t' }:=I.un (Un.kept k) (I.hok.kept k)
theorem Inv.laid (I:Inv X pins σ H s) (k:∀ b u,s.heap.get? b=some u->h'.get? b=some u) (hp:s.heap.objs.size<=a) (new:ObjOk X.prog X.w (upd H a o) h' a o) :
  Inv X pins σ (upd H a o) { s with heap:=h',toks:=t' }:=I.un (Un.laid k hp (I.hok.fresh hp)) (I.hok.laid k hp new)
theorem Inv.write (I:Inv X pins σ H s) (mu:Mut (H x)) (he:e=x\/H e=some (.own x)) (k:∀ b u,b≠e->s.heap.get? b=some u->h'.get? b=some u) (heo:∃ u,h'.get? e=some u)
  (new:ObjOk X.prog X.w (upd H x o) h' x o):Inv X pins σ (upd H x o) { s with heap:=h',toks:=t' }:=I.un (Un.write mu he k heo) (I.hok.write mu he k heo new)
theorem Inv.weak (I:Inv X pins σ H s) (hl:σ'.length=σ.length) (w:∀ (i:Nat) v,σ'[i]?=some (some v)->σ[i]?=some (some v)):Inv X pins σ' H s:=
 ⟨I.ok,I.os,I.bare,I.base,let ⟨m,hn,hl'⟩:=I.loc;⟨m,hn,λi x v b c a=>hl' i x v b (w i v c) a⟩,I.cell,I.free,I.freeC,I.pin,I.hok,hl.trans I.len⟩
theorem Inv.pins_of (I:Inv X pins σ H s) (h:∀ p∈pins',s.heap.get? p.1=some p.2/\H p.1=none/\p.1≠X.env.locals/\p.1∉X.fs/\∀ v,p.2.data≠.cell v):Inv X pins' σ H s:=
 ⟨I.ok,I.os,I.bare,I.base,I.loc,I.cell,I.free,I.freeC,λp a=>(fg.mp a).elim (λz=>I.pin p (jy _ z)) (h p),I.hok,I.len⟩
theorem b0l {N:List Str}(hN:N.Nodup) {i j:Nat}(a:N[i]?=some x) (b:N[j]?=some x):i=j:=by
 obtain⟨f,c⟩:=fj.mp a;obtain⟨e,d⟩:=fj.mp b;exact (jz hN).mp (c.trans d.symm)
theorem a8o (I:Inv X pins σ H s) (hN:X.N.Nodup) (hi:X.N[i]?=some x) (hx:Loc X.env.scope x) (r:RelV v u)
  (h:∀ s',Inv X pins (σ.set i (some v)) H s'->(∃ a,Heap.SameBut a s.heap s'.heap/\(a=X.env.locals\/X.env.cells.lookup x=some a))->Q () s') (hf:X.fn x=true\/X.env.scope.names.lookup x=some .local:=by first | exact .inl rfl | exact .inr rfl | assumption):wpAny M A (mz X.env x u) Q E s:=by
 obtain⟨m,hn,hl⟩:=id I.loc;have hcls:(X.env.scope.kind==.class||(X.env.scope.kind==.module&&X.env.locals != X.env.globals))=false:=by rw[I.ok.kind];rfl
 have U:i<σ.length:=by rw[I.len];exact (fj.mp hi).1
 have J:=I.cne;have B:∀ {a:Addr}{G:Heap},(∃ o,s.heap.get? a=some o/\H a=none)->Heap.SameBut a s.heap G->HOk X.prog X.w H G:=λ{a G} ha f b ob e=>by
  obtain⟨_,_,F⟩:=ha;refine (I.hok b ob e).stay (λc R l q=>(f.2 c ?_).trans q) (λ_ q=>q) λ_ _ q=>q;rintro rfl;rcases l with rfl | l
  ·rw[F]at e;cases e
  ·rw[F]at l;cases l
 rcases hx with hk | hk
 ·refine wpAny_storeName_local hk hn (λG hn' f=>?_) hcls;obtain⟨oL,_,_,hoL,_⟩:=id hn;refine h _ ⟨I.ok,I.os,I.bare,⟨λb o e n D hx=>?_,λb o e n D hx=>?_,I.base.free,λb o e hx=>?_,I.base.tups,I.base.frzs,I.base.tbls⟩,⟨_,hn',λj y v' g C e3=>?_⟩,λy c e=>?_,I.free,I.freeC,λp hp=>?_,B ⟨oL,hoL,I.free⟩ f,by simpa using I.len⟩ ⟨_,f,.inl rfl⟩
  ·exact (f.2 b (fz (fF (Heap.lt_size e) I.ok.above))).trans (I.base.keep b o e n D hx)
  ·obtain⟨sl,g⟩:=I.base.slot b o e n D hx;exact⟨sl,(f.2 b (fz (fF (Heap.lt_size e) I.ok.above))).trans g⟩
  ·obtain⟨o',g⟩:=I.base.there b o e hx;exact⟨o',(f.2 b (fz (fF (Heap.lt_size e) I.ok.above))).trans g⟩
  ·by_cases hj:j=i
   ·subst hj;rw[hi]at g;cases g;rw[iI U]at C;cases C;exact⟨u,r,.inl ⟨hk,by simp⟩⟩
   ·rw[io (Ne.symm hj)]at C;obtain⟨u',r',q⟩:=hl j y v' g C e3;refine⟨u',r',?_⟩;rcases q with ⟨k,e⟩ | ⟨k,c,e,z⟩
    ·refine .inl ⟨k,?_⟩
     have:y≠x:=λe=>hj (b0l hN g (e▸hi))
     simp[this,e]
    ·exact .inr ⟨k,c,e,z.sameBut f (J y c e)⟩
  ·obtain⟨R,z⟩:=I.cell y c e;exact⟨R,z.sameBut f (J y c e)⟩
  ·obtain⟨e,n,S,nf,d⟩:=I.pin p hp;exact⟨(f.2 p.1 S).trans e,n,S,nf,d⟩
 ·have L:X.fn x=true:=by
   rcases hf with z | z
   ·exact z
   ·rw[z]at hk;cases hk
  obtain⟨c,l⟩:=I.ok.has x (.inl hk);obtain⟨R,z⟩:=I.cell x c l;refine wpAny_storeName_cell I.ok.kind hk l z (λG Y f=>?_);obtain⟨oc,W,hocd⟩:=id z;refine h { s with heap:=G } ⟨I.ok,I.os,I.bare,⟨λb o e n D hx=>?_,λb o e n D hx=>?_,I.base.free,λb o e hx=>?_,I.base.tups,I.base.frzs,I.base.tbls⟩,⟨m,hn.sameBut f (Ne.symm (J x c l)),λj y v' g C e3=>?_⟩,λy T e=>?_,I.free,I.freeC,λp hp=>?_,B ⟨oc,W,I.freeC x c l⟩ f,by simpa using I.len⟩ ⟨c,f,.inr l⟩
  ·exact (f.2 b (fz (fF (Heap.lt_size e) (I.ok.cab x c L l)))).trans (I.base.keep b o e n D hx)
  ·obtain⟨sl,g⟩:=I.base.slot b o e n D hx;exact⟨sl,(f.2 b (fz (fF (Heap.lt_size e) (I.ok.cab x c L l)))).trans g⟩
  ·obtain⟨o',g⟩:=I.base.there b o e hx;exact⟨o',(f.2 b (fz (fF (Heap.lt_size e) (I.ok.cab x c L l)))).trans g⟩
  ·by_cases hj:j=i
   ·subst hj;rw[hi]at g;cases g;rw[iI U]at C;cases C;exact⟨u,r,.inr ⟨.inl hk,c,l,Y⟩⟩
   ·rw[io (Ne.symm hj)]at C;obtain⟨u',r',q⟩:=hl j y v' g C e3;refine⟨u',r',?_⟩;rcases q with q | ⟨k,T,e,z'⟩
    ·exact .inl q
    ·refine .inr ⟨k,T,e,z'.sameBut f ?_⟩;rintro rfl;exact hj (b0l hN g (I.ok.inj _ _ _ e l▸hi))
  ·by_cases hcc:T=c
   ·subst hcc;exact⟨_,Y⟩
   ·obtain⟨w2,z2⟩:=I.cell y T e;exact⟨w2,z2.sameBut f hcc⟩
  ·obtain⟨e,n,S,nf,d⟩:=I.pin p hp;refine⟨(f.2 p.1 ?_).trans e,n,S,nf,d⟩;intro q;rw[q,W]at e;have q':=fQ.inj e;exact d R (by rw[<- q'];exact hocd)
theorem a5N (I:Inv X pins σ H s) (hN:X.N.Nodup) (hi:X.N[i]?=some x) (hx:Loc X.env.scope x) (r:RelV v u)
  (h:∀ s',Inv X pins (σ.set i (some v)) H s'->Q () s') (hf:X.fn x=true\/X.env.scope.names.lookup x=some .local:=by first | exact .inl rfl | exact .inr rfl | assumption):wpAny M A (mz X.env x u) Q E s:=
 a8o I hN hi hx r (λa b _=>h a b) hf
theorem Inv.call' (I:Inv X pins σ H s) (ho:s'.os=s.os) (u:Un (frs X.stack) ch H H' s.heap s'.heap) (hok:HOk X.prog X.w H' s'.heap) (hg:lb s'.gens)
  (hch:∀ b∈ch,(b∈X.ex\/X.s₀.heap.objs.size<=b)/\b≠X.env.locals/\(∀ x c,X.env.cells.lookup x=some c->c≠b)/\∀ p∈X.pn++pins,p.1≠b):Inv X pins σ H' s':=by
 obtain⟨h',g',d',t',g⟩:=s';have e:=ho;subst e;exact I.call u hok hg hch
end
abbrev XK:=Value->Option Addr->Hp->Prop
abbrev St:=List (Option V)
abbrev VK:=V->Hp->Prop
abbrev TE:=St->Hp->VK->Prop
abbrev TT:=St->Hp->(Bool->Hp->Prop)->Prop
abbrev TA:=St->Hp->(List V->Hp->Prop)->Prop
structure Ends where
 nx:St->Hp->Prop
 rt:VK
 bk:St->Hp->Prop:=λ_ _=>False
 ct:St->Hp->Prop:=λ_ _=>False
abbrev TS:=Ends->St->Hp->Prop
def EP (X:Cx) (pins:List (Addr×Obj)) (σ:St) (Q:VK) (u:Value) (s':Shared):Prop:=∃ v H',Inv X pins σ H' s'/\RelV v u/\Q v H'
def TP (X:Cx) (pins:List (Addr×Obj)) (σ:St) (Q:Bool->Hp->Prop) (b:Bool) (s':Shared):Prop:=∃ H',Inv X pins σ H' s'/\Q b H'
def AP (X:Cx) (pins:List (Addr×Obj)) (σ:St) (Q:List V->Hp->Prop) (us:List Value) (s':Shared):Prop:=∃ vs H',Inv X pins σ H' s'/\Vals vs us/\Q vs H'
def SP (X:Cx) (pins:List (Addr×Obj)) (D:Ends) (f:Flow) (s':Shared):Prop:=
 match f with
 | .next=>∃ σ' H',Inv X pins σ' H' s'/\D.nx σ' H'
 | .brk=>∃ σ' H',Inv X pins σ' H' s'/\D.bk σ' H'
 | .cont=>∃ σ' H',Inv X pins σ' H' s'/\D.ct σ' H'
 | .ret u=>∃ v σ' H',Inv X pins σ' H' s'/\RelV v u/\D.rt v H'
def PE (X:Cx) (e:Expr) (t:TE):Prop:=
 ∀ (pins:List (Addr×Obj)) (s:Shared) (σ:St) (H:Hp) (Q:VK),Inv X pins σ H s->t σ H Q->wpAny (model X.prog X.w) X.A (eval e X.env) (EP X pins σ Q) X.xe s
def PT (X:Cx) (e:Expr) (t:TT):Prop:=
 ∀ (pins:List (Addr×Obj)) (s:Shared) (σ:St) (H:Hp) (Q:Bool->Hp->Prop),Inv X pins σ H s->t σ H Q->wpAny (model X.prog X.w) X.A (isTrue e X.env (eval e X.env)) (TP X pins σ Q) X.xe s
def PW (X:Cx) (e:Expr) (t:TT):Prop:=
 ∀ (whole:Sem Value) (pins:List (Addr×Obj)) (s:Shared) (σ:St) (H:Hp) (Q:Bool->Hp->Prop),Inv X pins σ H s->t σ H Q->wpAny (model X.prog X.w) X.A (isTrue e X.env whole) (TP X pins σ Q) X.xe s
theorem PW.pt (h:PW X e t):PT X e t:=h _
def PA (X:Cx) (es:List Expr) (t:TA):Prop:=
 ∀ (pos:Pos) (pins:List (Addr×Obj)) (s:Shared) (σ:St) (H:Hp) (Q:List V->Hp->Prop),Inv X pins σ H s->t σ H Q->wpAny (model X.prog X.w) X.A (spliced (backTo pos (kj es X.env))) (AP X pins σ Q) X.xe s
def PS (X:Cx) (st:Stmt) (t:TS):Prop:=
 ∀ (pins:List (Addr×Obj)) (s:Shared) (σ:St) (H:Hp) (D:Ends),Inv X pins σ H s->t D σ H->wpAny (model X.prog X.w) X.A (exec st X.env) (SP X pins D) X.xe s
def PSs (X:Cx) (st:List Stmt) (t:TS):Prop:=
 ∀ (pins:List (Addr×Obj)) (s:Shared) (σ:St) (H:Hp) (D:Ends),Inv X pins σ H s->t D σ H->wpAny (model X.prog X.w) X.A (execs st X.env) (SP X pins D) X.xe s
theorem thn {α:Type}{t:Sem α}{Q Q':α->Shared->Prop}(h:wpAny M A t Q E s) (hQ:∀ a s,Q a s->Q' a s):wpAny M A t Q' E s:=kG h hQ λ_ _ x=>x
section
variable {X:Cx}
def tVar (i:Nat):TE:=fun σ H Q=>∃ v,σ[i]?=some (some v)/\Q v H
def tC (v:V):TE:=λ_ H Q=>Q v H
theorem b8j (hN:X.N[i]?=some x) (hv:Vis X.env.scope x) (hd:(x==("__debug__":Str))=false:=by decide) (hcd:(x==("__classdict__":Str))=false:=by decide):PE X (.Name x pos) (tVar i):=by
 intro b s σ H Q I h;obtain⟨v,e,h⟩:=h;obtain⟨m,f,d⟩:=I.loc;obtain⟨u,r,l⟩:=d i x v hN e hv;have a:EP X b σ Q u s:=⟨v,H,I,r,h⟩;rcases l with ⟨hk,hm⟩ | ⟨hk,c,hc,hcell⟩
 ·exact mB (wpAny_loadName_local I.ok.kind hk f hm a) hd
 ·rcases hk with hk | hk
  ·exact mB (wpAny_loadName_cell I.ok.kind hk hc hcell a) hd
  ·exact mB (wpAny_loadName_free I.ok.kind hk hc hcell a hcd) hd
theorem b8k:PE X (.Constant (.int i) j pos) (tC (.int i)):=λ_ _ _ H _ I h=>wpAny_Constant_int ⟨.int i,H,I.tok _,⟨_,rfl⟩,h⟩
theorem c0Y:PE X (.Constant (.bool b) j pos) (tC (.bl b)):=λ_ _ _ H _ I h=>Constant_bool ⟨.bl b,H,I,rfl,h⟩
theorem b8l:PE X (.Constant .none j pos) (tC .non):=λ_ _ _ H _ I h=>Constant_none ⟨.non,H,I,rfl,h⟩
theorem b8m:PE X (.Constant (.str x) j pos) (tC (.str x)):=λ_ _ _ H _ I h=>Calls.Constant_str ⟨.str x,H,I.tok _,⟨_,rfl⟩,h⟩
def Gl (X:Cx) (x:Str):Prop:=X.env.kindOf x=some .globalImplicit
theorem a5Z (I:Inv X pins σ H s) (hg:Gl X x) (hm:X.mg x=some u) (h:Q u s)
  (hd:(x==("__debug__":Str))=false:=by decide):wpAny (model X.prog X.w) X.A (eval (.Name x pos) X.env) Q E s:=
 Calls.Name_function_global I.ok.kind hg (Calls.loadGlobal_global (by rw[I.ok.glob];exact I.mod.glob.keeps I.bk) hm h) hd
theorem a7c (I:Inv X pins σ H s) (hg:Gl X x) (hm:X.mg x=none) (hv:ls x=some u) (h:Q u s)
  (hn:x≠"__name__":=by decide) (hd:(x==("__debug__":Str))=false:=by decide):wpAny (model X.prog X.w) X.A (eval (.Name x pos) X.env) Q E s:=by
 obtain⟨c,b,a⟩:=I.mod.blt;exact Calls.Name_function_global I.ok.kind hg (Calls.loadGlobal_builtin (by rw[I.ok.glob];exact I.mod.glob.keeps I.bk) hm (by rw[I.ok.blt];exact b.keeps I.bk) ((a x hn).trans hv) h) hd
theorem b11 (hg:Gl X x) (hm:X.mg x=some u) (r:RelV v u) (hd:(x==("__debug__":Str))=false:=by decide):PE X (.Name x pos) (tC v):=
 λ_ _ _ H _ I h=>a5Z I hg hm ⟨v,H,I,r,h⟩ hd
theorem a50 (hg:Gl X x) (hm:X.mg x=none) (hv:ls x=some u) (r:RelV v u) (hn:x≠"__name__":=by decide) (hd:(x==("__debug__":Str))=false:=by decide):PE X (.Name x pos) (tC v):=
 λ_ _ _ H _ I h=>a7c I hg hm hv ⟨v,H,I,r,h⟩ hn hd
variable {a b:Expr}{ta tb:TE}{pos:Pos}
def PC (X:Cx) (op:CmpOp) (a b:Expr) (t:TE):Prop:=
 ∀ (pins:List (Addr×Obj)) (s:Shared) (σ:St) (H:Hp) (Q:VK),Inv X pins σ H s->t σ H Q ->
  wpAny (model X.prog X.w) X.A (eval a X.env) (λv sj=>wpAny (model X.prog X.w) X.A (eval b X.env) (λu sv=>wpAny (model X.prog X.w) X.A (kC op v u) (EP X pins σ Q) X.xe sv) X.xe sj) X.xe s
def tB (t:TE):TT:=fun σ H Q=>t σ H λx H1=>∃ c,x=.bl c/\Q c H1
theorem b8n (h:PE X e t) (he:∀ whole,isTrue e X.env whole=(do let v <- whole;kR e.pos;kL [v] (truthy v)):=by intro _;rfl):PT X e (tB t):=by
 intro a s σ H Q I f;refine isTrue_plain (thn (h a s σ H _ I f) λv j ⟨x,b,i,g,c⟩=>?_) (he _);obtain⟨d,rfl,q⟩:=c;cases g;exact lu ⟨b,i,q⟩
variable {tA tB':TT}{rest:List Expr}
def tAnd (t u:TT):TT:=fun σ H Q=>t σ H λc H1=>if c=true then u σ H1 Q else Q false H1
def tOr (t u:TT):TT:=fun σ H Q=>t σ H λc H1=>if c=true then Q true H1 else u σ H1 Q
def tNot (t:TT):TT:=fun σ H Q=>t σ H λc H1=>Q (!c) H1
theorem b6y (ha:PT X a tA):PW X (.BoolOp .And [a] pos) tA:=by
 intro f b s σ H Q I h;refine isTrue_and (thn (ha b s σ H Q I h) λc d e=>?_);cases c with
 | true=>exact isTrue_and_nil e
 | false=>exact e
theorem b8o (ha:PT X a tA):PW X (.BoolOp .Or [a] pos) tA:=by
 intro f b s σ H Q I h;refine isTrue_or (thn (ha b s σ H Q I h) λc d e=>?_);cases c with
 | false=>exact isTrue_or_nil e
 | true=>exact e
theorem b8p (ha:PT X a tA) (hb:PW X (.BoolOp .And (b::rest) pos) tB'):PW X (.BoolOp .And (a::b::rest) pos) (tAnd tA tB'):=by
 intro j d s σ H Q I h;refine isTrue_and (thn (ha d s σ H _ I h) λc i ⟨e,g,f⟩=>?_);cases c with
 | true=>exact hb j d i σ e Q g f
 | false=>exact⟨e,g,f⟩
theorem c0Z (ha:PT X a tA) (hb:PW X (.BoolOp .Or (b::rest) pos) tB'):PW X (.BoolOp .Or (a::b::rest) pos) (tOr tA tB'):=by
 intro j d s σ H Q I h;refine isTrue_or (thn (ha d s σ H _ I h) λc i ⟨g,e,f⟩=>?_);cases c with
 | true=>exact⟨g,e,f⟩
 | false=>exact hb j d i σ g Q e f
theorem b8q (ha:PT X a tA):PT X (.UnaryOp .Not a pos) (tNot tA):=by
 intro b s σ H Q I h;exact isTrue_not (ha b s σ H _ I h)
noncomputable def c00 (ta tb:TE):TE:=fun σ H Q=>ta σ H λx H1=>∃ c,x=.bl c/\if c=true then tb σ H1 Q else Q (.bl false) H1
def tOrV (ta tb:TE):TE:=fun σ H Q=>ta σ H λx H1=>∃ c,x=.bl c/\if c=true then Q (.bl true) H1 else tb σ H1 Q
def c01 (ta:TE):TE:=fun σ H Q=>ta σ H λx H1=>∃ c,x=.bl c/\Q (.bl (!c)) H1
theorem b8r (h:PE X a t):PE X (.BoolOp op [a] pos) t:=λb s σ H Q I c=>BoolOp_one (h b s σ H Q I c)
theorem b8s (ha:PE X a ta) (hb:PE X (.BoolOp .And (b::rest) pos) tb):PE X (.BoolOp .And (a::b::rest) pos) (c00 ta tb):=by
 intro d s σ H Q I h;refine BoolOp_and (thn (ha d s σ H _ I h) λv j ⟨x,f,g,i,e⟩=>?_);obtain⟨c,rfl,e⟩:=e;cases i;refine lu ?_;cases c with
 | true=>exact hb d j σ f Q g e
 | false=>exact⟨.bl false,f,g,rfl,e⟩
theorem c02 (ha:PE X a ta) (hb:PE X (.BoolOp .Or (b::rest) pos) tb):PE X (.BoolOp .Or (a::b::rest) pos) (tOrV ta tb):=by
 intro d s σ H Q I h;refine BoolOp_or (thn (ha d s σ H _ I h) λv i ⟨x,g,f,j,e⟩=>?_);obtain⟨c,rfl,e⟩:=e;cases j;refine lu ?_;cases c with
 | false=>exact hb d i σ g Q f e
 | true=>exact⟨.bl true,g,f,rfl,e⟩
theorem b8t (ha:PE X a ta):PE X (.UnaryOp .Not a pos) (c01 ta):=by
 intro b s σ H Q I h;refine UnaryOp_ (thn (ha b s σ H _ I h) λv i ⟨x,g,f,e,d⟩=>?_);obtain⟨c,rfl,d⟩:=d;cases e;exact not_of (lu ⟨.bl (!c),g,f,rfl,d⟩)
def tIf (t:TT) (ta tb:TE):TE:=fun σ H Q=>t σ H λc H1=>if c=true then ta σ H1 Q else tb σ H1 Q
theorem b4f (hc:PT X c tA) (ha:PE X a ta) (hb:PE X b tb):PE X (.IfExp c a b pos) (tIf tA ta tb):=by
 intro e s σ H Q I h;refine wpAny_IfExp (thn (hc e s σ H _ I h) λd j ⟨i,f,g⟩=>?_);cases d with
 | true=>exact ha e j σ i Q f g
 | false=>exact hb e j σ i Q f g
end
def SqL (K:Fg) (H:Hp) (a:Addr) (xs:List V):Prop:=
 Rd H a (.lst xs) \/
  ∃ (o:Obj) (its:Array Value) (n:Nat),K.lookup a=some o/\o.cls=.type "list"/\o.dict=none/\o.data=.seq its n/\its.size<=ki/\Vals xs its.toList
def SqT (K:Fg) (H:Hp) (a:Addr) (xs:List V):Prop:=
 Rd H a (.tup xs) \/
  ∃ (o:Obj) (its:Array Value) (n:Nat),K.lookup a=some o/\o.cls=.type "tuple"/\o.data=.seq its n/\its.size<=ki/\Vals xs its.toList
noncomputable def absV:Value->Option V
 | .none=>some .non
 | .bool b=>some (.bl b)
 | .int i _=>some (.int i)
 | .str x _=>some (.str x)
 | .bytes b _=>some (.byt b)
 | .float b _=>some (.flt b)
 | .ref a=>some (.ref a)
 | .type n=>some (.ty n)
 | _=>none
theorem RelV.abs (r:RelV x u):absV u=some x:=by
 cases x with
 | non=>cases r;rfl
 | bl _=>cases r;rfl
 | int _=>obtain⟨t,rfl⟩:=r;rfl
 | str _=>obtain⟨t,rfl⟩:=r;rfl
 | byt _=>obtain⟨t,rfl⟩:=r;rfl
 | flt _=>obtain⟨t,rfl⟩:=r;rfl
 | ref _=>cases r;rfl
 | ty _=>cases r;rfl
theorem RelV.inj (r:RelV x u) (q:RelV y u):x=y:=fQ.inj (r.abs.symm.trans q.abs)
theorem Vals.inj:∀ {xs ys:List V}{us:List Value},Vals xs us->Vals ys us->xs=ys
 | _,_,_,.nil,.nil=>rfl
 | _,_,_,.cons r t,.cons r' t'=>by rw[r.inj r',Vals.inj t t']
section
variable {X:Cx}{pins:List (Addr×Obj)}{σ:St}{H:Hp}{s:Shared}{a:Addr}{xs ys:List V}
theorem SqL.of {K:Fg}(h:H a=some (.lst xs)):SqL K H a xs:=.inl (.inl h)
theorem SqT.of {K:Fg}(h:H a=some (.tup xs)):SqT K H a xs:=.inl (.inl h)
theorem Inv.list (I:Inv X pins σ H s) (h:SqL X.K H a xs):∃ its:List Value,Vals xs its/\PlainL s.heap a its.toArray/\xs.length<=sizeLine:=by
 rcases h with h | ⟨o,b,n,hk,hc,hd,hs,hz,r⟩
 ·obtain⟨z,b,n,r,e⟩:=h.ok I.hok;exact⟨b,r,⟨_,n,e,rfl,rfl,rfl⟩,z⟩
 ·refine⟨b.toList,r,⟨o,n,I.kIn a o hk,hc,hd,by simpa using hs⟩,?_⟩;have e:=r.length;simp at e;omega
theorem Inv.tuple (I:Inv X pins σ H s) (h:SqT X.K H a xs):∃ its:List Value,Vals xs its/\IsTup s.heap a its.toArray/\xs.length<=sizeLine:=by
 rcases h with h | ⟨o,b,n,hk,hc,hs,hz,r⟩
 ·obtain⟨z,b,r,p⟩:=h.ok I.hok;exact⟨b,r,p,z⟩
 ·refine⟨b.toList,r,⟨o,I.kIn a o hk,hc,n,by simpa using hs⟩,?_⟩;have e:=r.length;simp at e;omega
theorem Inv.list_inj (I:Inv X pins σ H s) (h:SqL X.K H a xs) (h':SqL X.K H a ys):xs=ys:=by
 obtain⟨f,r,⟨o,n,e,_,_,d⟩,_⟩:=I.list h;obtain⟨b,i,⟨j,k,c,_,_,g⟩,_⟩:=I.list h'
 have:f=b:=by grind
 subst this;exact r.inj i
theorem Inv.tuple_inj (I:Inv X pins σ H s) (h:SqT X.K H a xs) (h':SqT X.K H a ys):xs=ys:=by
 obtain⟨f,r,⟨o,e,_,n,d⟩,_⟩:=I.tuple h;obtain⟨b,i,⟨j,c,_,k,g⟩,_⟩:=I.tuple h'
 have:f=b:=by grind
 subst this;exact r.inj i
end
abbrev Cx.wish (X:Cx) (E:Value->Shared->Prop):Cx:={ X with xe:=E }
abbrev Cx.nox (X:Cx):Cx:=X.wish λ_ _=>False
theorem Cx.Ok.wish {X:Cx}(ok:X.Ok) (E:Value->Shared->Prop):(X.wish E).Ok:=
 ⟨ok.mod,ok.kind,ok.glob,ok.blt,ok.above,ok.inj,ok.has,ok.cab,ok.hd,ok.frames,ok.stk,ok.exf,ok.bs,ok.bsz,ok.noex,ok.exfs,ok.funs,ok.frf⟩
theorem Cx.Ok.unwish {X:Cx}(ok:(X.wish E).Ok):X.Ok:=
 ⟨ok.mod,ok.kind,ok.glob,ok.blt,ok.above,ok.inj,ok.has,ok.cab,ok.hd,ok.frames,ok.stk,ok.exf,ok.bs,ok.bsz,ok.noex,ok.exfs,ok.funs,ok.frf⟩
section
variable {X:Cx}{pins:List (Addr×Obj)}{σ:St}{H:Hp}{s:Shared}{E:Value->Shared->Prop}
theorem Inv.wish (I:Inv X pins σ H s) (E:Value->Shared->Prop):Inv (X.wish E) pins σ H s:=⟨I.ok.wish E,I.os,I.bare,I.base,I.loc,I.cell,I.free,I.freeC,I.pin,I.hok,I.len⟩
theorem Inv.unwish (I:Inv (X.wish E) pins σ H s):Inv X pins σ H s:=⟨I.ok.unwish,I.os,I.bare,I.base,I.loc,I.cell,I.free,I.freeC,I.pin,I.hok,I.len⟩
theorem SP.unwish (h:SP (X.wish E) pins D f s'):SP X pins D f s':=by
 cases f with
 | next=>obtain⟨σ',H',I,q⟩:=h;exact⟨σ',H',I.unwish,q⟩
 | brk=>obtain⟨σ',H',I,q⟩:=h;exact⟨σ',H',I.unwish,q⟩
 | cont=>obtain⟨σ',H',I,q⟩:=h;exact⟨σ',H',I.unwish,q⟩
 | ret u=>obtain⟨v,σ',H',I,r,q⟩:=h;exact⟨v,σ',H',I.unwish,r,q⟩
theorem PE.nox (h:PE X.nox e t):PE X e t:=λa s σ H Q I d=>
 kG (h a s σ H Q (I.wish _) d) (λ_ _ ⟨v,b,c,r,q⟩=>⟨v,b,c.unwish,r,q⟩) λ_ _ z=>fh z
theorem PT.nox (h:PT X.nox e t):PT X e t:=λa s σ H Q I d=>
 kG (h a s σ H Q (I.wish _) d) (λ_ _ ⟨c,b,q⟩=>⟨c,b.unwish,q⟩) λ_ _ z=>fh z
theorem PSs.nox {st:List Stmt}(h:PSs X.nox st t):PSs X st t:=λa s σ H D I b=>
 kG (h a s σ H D (I.wish _) b) (λ_ _ q=>q.unwish) λ_ _ z=>fh z
end
section
variable {X:Cx}{st:Stmt}{rest:List Stmt}{t u:TS}{e:Expr}{te:TE}{pos:Pos}
def c03:TS:=λD σ H=>D.nx σ H
def tSeq (t u:TS):TS:=λD σ H=>t { D with nx:=u D } σ H
theorem b6z:PSs X [] c03:=λ_ _ σ H _ I h=>lF ⟨σ,H,I,h⟩
theorem b0m (h1:PS X st t) (h2:PSs X rest u):PSs X (st::rest) (tSeq t u):=by
 intro a s σ H D I h;refine mC (thn (h1 a s σ H { D with nx:=u D } I h) λf b q=>?_);cases f with
 | next=>
  obtain⟨σ',H',I',q⟩:=q;exact h2 a b σ' H' D I' q
 | ret v=>exact q
 | brk=>exact q
 | cont=>exact q
theorem b6A (h1:PS X st t):PSs X [st] t:=by
 intro a s σ H D I h;refine mC (thn (h1 a s σ H D I h) λf b q=>?_);cases f with
 | next=>exact lF q
 | ret v=>exact q
 | brk=>exact q
 | cont=>exact q
theorem Inv.quiet (I:Inv X pins σ H s):interactive X.env=false:=by simp[interactive,I.ok.kind]
def c04 (te:TE):TS:=λD σ H=>te σ H λ_ H1=>D.nx σ H1
theorem b6B (he:PE X e te) (hs:lh e none pos.line X.env=pure false:=by rfl):PS X (.Expr e pos) (c04 te):=by
 intro a s σ H D I h;exact wpAny_Expr_any (thn (he a s σ H _ I h) λv f ⟨x,d,c,g,b⟩=>⟨σ,d,c,b⟩) I.quiet hs
def tRet (te:TE):TS:=λD σ H=>te σ H D.rt
theorem b8u (he:PE X e te):PS X (.Return (some e) pos) (tRet te):=by
 intro a s σ H D I h;exact wpAny_Return_some (thn (he a s σ H _ I h) λv g ⟨x,c,b,f,d⟩=>⟨x,σ,c,b,f,d⟩)
def tIfS (c:TT) (t u:TS):TS:=λD σ H=>c σ H λb H1=>if b=true then t D σ H1 else u D σ H1
theorem c05 (hc:PT X c tc) (ha:PSs X a t) (hb:PSs X b u):PS X (.If c a b pos) (tIfS tc t u):=by
 intro e s σ H D I h;refine wpAny_If (thn (hc e s σ H _ I h) λd f ⟨g,i,j⟩=>?_);cases d with
 | true=>exact ha e f σ g D i j
 | false=>exact hb e f σ g D i j
end
abbrev TG:=V->St->Hp->(St->Hp->Prop)->Prop
abbrev TGs:=List V->St->Hp->(St->Hp->Prop)->Prop
def PG (X:Cx) (target:Expr) (t:TG):Prop:=
 ∀ (pins:List (Addr×Obj)) (s:Shared) (σ:St) (H:Hp) (v:V) (u:Value) (Q:St->Hp->Prop),Inv X pins σ H s->RelV v u->t v σ H Q ->
  wpAny (model X.prog X.w) X.A (assign target X.env u) (λ_ s'=>∃ σ' H',Inv X pins σ' H' s'/\Q σ' H') X.xe s
def PGs (X:Cx) (ts:List Expr) (t:TGs):Prop:=
 ∀ (pins:List (Addr×Obj)) (s:Shared) (σ:St) (H:Hp) (vs:List V) (us:List Value) (Q:St->Hp->Prop),Inv X pins σ H s->Vals vs us->t vs σ H Q ->
  wpAny (model X.prog X.w) X.A (assignInOrder ((lv ts X.env).map (·.2)) us) (λ_ s'=>∃ σ' H',Inv X pins σ' H' s'/\Q σ' H') X.xe s
abbrev TSet:=V->V->V->Hp->(Hp->Prop)->Prop
def PSet (X:Cx) (t:TSet):Prop:=
 ∀ (pins:List (Addr×Obj)) (s:Shared) (σ:St) (H:Hp) (o i v:V) (ov iv u:Value) (Q:Hp->Prop),Inv X pins σ H s->RelV o ov->RelV i iv->RelV v u->t o i v H Q ->
  wpAny (model X.prog X.w) X.A (l8 ov iv u) (λ_ s'=>∃ H',Inv X pins σ H' s'/\Q H') X.xe s
abbrev TIp:=V->V->Hp->VK->Prop
def PIp (X:Cx) (op:Operator) (t:TIp):Prop:=
 ∀ (pins:List (Addr×Obj)) (s:Shared) (σ:St) (H:Hp) (x y:V) (v u:Value) (Q:VK),Inv X pins σ H s->RelV x v->RelV y u->t x y H Q ->
  wpAny (model X.prog X.w) X.A (lw op v u) (EP X pins σ Q) X.xe s
section
variable {X:Cx}{pos:Pos}
def b12 (i:Nat):TG:=λv σ H Q=>Q (σ.set i (some v)) H
theorem a0o (hN:X.N.Nodup) (hi:X.N[i]?=some x) (hx:Loc X.env.scope x) (hf:X.fn x=true\/X.env.scope.names.lookup x=some .local:=by first | exact .inl rfl | exact .inr rfl | assumption):PG X (.Name x pos) (b12 i):=by
 intro b s σ H v u Q I r h;exact wpAny_assign_Name (a5N I hN hi hx r (λc a=>⟨_,H,a,h⟩) hf)
def gNil:TGs:=λvs σ H Q=>vs=[]/\Q σ H
def b8v (t:TG) (u:TGs):TGs:=λvs σ H Q=>∃ v r,vs=v::r/\t v σ H fun σ' H'=>u r σ' H' Q
theorem a2H:PGs X [] gNil:=by
 intro a s σ H b c Q I r h;obtain⟨e,h⟩:=h;subst e;exact assignInOrder_nil ⟨σ,H,I,h⟩
theorem a0s (h1:PG X e t) (h2:PGs X es u)
  (hs:(lv (e::es) X.env).map (·.2)=assign e X.env::(lv es X.env).map (·.2):=by rfl):PGs X (e::es) (b8v t u):=by
 intro a s σ H k i Q I r h;obtain⟨v,j,g,h⟩:=h;subst g;cases r with
 | cons r rr=>
  rw[hs];refine assignInOrder_cons (thn (h1 a s σ H _ _ _ I r h) λ_ f ⟨σ1,d,b,c⟩=>?_);exact h2 a f σ1 d _ _ Q b rr c
def gTup (K:Fg) (n:Nat) (t:TGs):TG:=λv σ H Q=>∃ a xs,v=.ref a/\SqT K H a xs/\xs.length=n/\t xs σ H Q
theorem a4l (hc:X.calm=true) (h:PGs X es t)
  (hn:(lv es X.env).length=n:=by rfl) (hst:(lv es X.env).findIdx? (·.1)=none:=by rfl):PG X (.Tuple es k pos) (gTup X.K n t):=by
 intro c s σ H v u Q I r d;obtain⟨a,i,q,m,l,d⟩:=d;subst q;cases r;obtain⟨x,f,p,y⟩:=I.tuple m;refine assign_Tuple_tuple (I.ok.hd hc) p (by simp[hn,<- l,f.length]) hst λw j=>?_;have g:=I.kept (t':=s.toks) λb o e=>j b o (fz (Heap.lt_size e)) e;exact h c _ σ H i _ Q g (by omega) d
def gSub (to ti:TE) (t:TSet):TG:=λv σ H Q=>to σ H λo H1=>ti σ H1 λi H2=>t o i v H2 λH3=>Q σ H3
theorem b8w (ho:PE X o to) (hi:PE X i ti) (hs:PSet X t)
  (ha:∀ v,assign (.Subscript o i pos) X.env v=(do
   let ov <- kL [v] (eval o X.env)
   let iv <- kL [v,ov] (eval i X.env)
   kR pos
   kL [v,ov,iv] (l8 ov iv v)
   release [v,ov,iv] []):=by intro _;rfl):PG X (.Subscript o i pos) (gSub to ti t):=by
 intro a s σ H v u Q I r h;rw[ha];refine kh (kM (thn (ho a s σ H _ I h) λl n ⟨x,c,e,g,p⟩=>?_));refine kh (kM (thn (hi a n σ c _ e p) λm q ⟨y,f,w,b,k⟩=>?_));refine kh (mD (kh (kM (thn (hs a q σ f x y v l m u _ w g b r k) λ_ A ⟨j,z,d⟩=>?_))));exact wpAny_release ⟨σ,j,z,d⟩
def tAsg (te:TE) (g:TG):TS:=λD σ H=>te σ H λx H1=>g x σ H1 D.nx
theorem b5I (he:PE X e te) (hg:PG X tg g) (hs:mE [tg] e pos.line X.env=pure false:=by rfl) (hw:mF [tg] e X.env=pure none:=by rfl)
  (h1:(lv [tg] X.env).map (·.2)=[assign tg X.env]:=by rfl):PS X (.Assign [tg] e pos) (tAsg te g):=by
 intro a s σ H D I h;refine wpAny_Assign_stores (thn (he a s σ H _ I h) λv c ⟨x,d,b,i,f⟩=>?_) hs hw;rw[h1];exact thn (hg a c σ d x v _ b i f) λ_ j q=>q
theorem b8x (hN:X.N.Nodup) (hi:X.N[i]?=some x) (hx:Loc X.env.scope x) (he:PE X e te) (hs:lh e (some (.Name x pos')) pos.line X.env=pure false:=by rfl) (hf:X.fn x=true\/X.env.scope.names.lookup x=some .local:=by first | exact .inl rfl | exact .inr rfl | assumption) :
  PS X (.Assign [.Name x pos'] e pos) (tAsg te (b12 i)):=by
 intro a s σ H D I h;refine wpAny_Assign_Name (thn (he a s σ H _ I h) λv j ⟨y,f,d,c,g⟩=>?_) hs;exact a5N d hN hi hx c (λk b=>⟨_,f,b,g⟩) hf
def tAug (i:Nat) (te:TE) (ti:TIp):TS:=λD σ H=>∃ x,σ[i]?=some (some x)/\te σ H λy H1=>ti x y H1 λz H2=>D.nx (σ.set i (some z)) H2
theorem b8y (hN:X.N.Nodup) (hi:X.N[i]?=some x) (hx:Loc X.env.scope x) (he:PE X e te) (ho:PIp X op ti) (hf:X.fn x=true\/X.env.scope.names.lookup x=some .local:=by first | exact .inl rfl | exact .inr rfl | assumption) :
  PS X (.AugAssign (.Name x pos') op e pos) (tAug i te ti):=by
 intro a s σ H D I h;obtain⟨v,f,h⟩:=h;obtain⟨m,g,j⟩:=I.loc;have b:Vis X.env.scope x:=by rcases hx with k | k;exact .inl k;exact .inr (.inl k)
 obtain⟨u,r,l⟩:=j i x v hi f b;refine wpAny_AugAssign_Name ?_;have d:wpAny (model X.prog X.w) X.A (eval e X.env) (λw B=>wpAny (model X.prog X.w) X.A (lw op u w) (λr G=>wpAny (model X.prog X.w) X.A (mz X.env x r) (λ_=>SP X a D .next) X.xe G) X.xe B) X.xe s:=by
  refine thn (he a s σ H _ I h) λw C ⟨y,n,p,F,t⟩=>?_;refine thn (ho a C σ n v y u w _ p r F t) λz Q ⟨M,E,o,L,J⟩=>?_;exact a5N o hN hi hx L (λR q=>⟨_,E,q,J⟩) hf
 rcases l with ⟨hk,hm⟩ | ⟨hk,c,hc,hcell⟩
 ·exact wpAny_loadName_local I.ok.kind hk g hm d
 ·rcases hk with hk | hk
  ·exact wpAny_loadName_cell I.ok.kind hk hc hcell d
  ·rcases hx with k | k
   ·have:X.env.scope.names.lookup x=some .free:=hk
    rw[k]at this;cases this
   ·have:X.env.scope.names.lookup x=some .free:=hk
    rw[k]at this;cases this
end
section
variable {X:Cx}{pos:Pos}
def b8z (c:TT) (tb:TS):TS:=λD σ H=>∃ W:Nat->St->Hp->Prop,(∃ m,W m σ H)/\∀ m σ H,W m σ H ->
 c σ H λb H1=>if b=true then ∃ N:St->Hp->Prop,(∀ σ' H',N σ' H'->∃ m',m'<m/\W m' σ' H')/\tb { D with nx:=N,ct:=N,bk:=D.nx } σ H1 else D.nx σ H1
theorem b4g (hp:kH (model X.prog X.w) X.A X.env X.xe) (hc:PT X c tc) (hb:PSs X body tb):PS X (.While c body [] pos) (b8z tc tb):=by
 intro a s σ H D I h;obtain⟨W,⟨z,y⟩,g⟩:=h;refine wpAny_While (codeAny_whileLoop (λn t=>∃ σ' H',Inv X a σ' H' t/\W n σ' H') ?_ z ⟨σ,H,I,y⟩);rintro n x ⟨σ1,q,r,u⟩;refine lz hp (thn (hc a x σ1 q _ r (g n σ1 q u)) λb B ⟨o,m,e⟩=>?_);cases b with
 | true=>
  obtain⟨N,p,e⟩:=e;refine lz hp (thn (hb a B σ1 o _ m e) λf C d=>?_);cases f with
  | next=>
   obtain⟨σ3,H3,I3,k⟩:=d;obtain⟨j,l,i⟩:=p σ3 H3 k;exact⟨j,l,σ3,H3,I3,i⟩
  | cont=>
   obtain⟨σ3,H3,I3,k⟩:=d;obtain⟨j,l,i⟩:=p σ3 H3 k;exact⟨j,l,σ3,H3,I3,i⟩
  | brk=>exact d
  | ret v=>exact d
 | false=>
  exact lF ⟨σ1,o,m,e⟩
end
structure It where
 go:Nat->Hp->Prop
 yld:Nat->Hp->V->Hp->Prop
 stop:Nat->Hp->Prop
def FpOk (X:Cx) (pins:List (Addr×Obj)) (H:Hp) (b:Addr):Prop:=
 H b=none/\b≠X.env.locals/\b∉X.fs/\(b∈X.ex\/X.s₀.heap.objs.size<=b)/\(∀ x c,X.env.cells.lookup x=some c->c≠b)/\∀ p∈X.pn++pins,p.1≠b
theorem Inv.fpOk (I:Inv X pins σ H s) (hb:s.heap.objs.size<=b) (hn:H' b=none):FpOk X pins H' b:=by
 refine⟨hn,iJ (fF I.lt hb),I.nofs hb,.inr (fx I.sz hb),λx c e z=>?_,λp a z=>?_⟩
 ·obtain⟨v,q⟩:=I.cell x c e;exact absurd (fF q.lt (by simp_all)) (fM _)
 ·exact absurd (fF (Heap.lt_size (I.pin p a).1) (by simp_all)) (fM _)
structure Turn (P:kz) (w:World) (K:Fg) (tg:Expr) (J:It) (fp:List Addr) (it:Addr) (tn:Nat->Heap->Prop):Prop where
 mem:it∈fp
 obj:∀ i h,tn i h->∀ b∈fp,∃ o,h.get? b=some o/\∀ v,o.data≠.cell v
 keep:∀ i h h',tn i h->(∀ b∈fp,∀ o,h.get? b=some o->h'.get? b=some o)->tn i h'
 item:∀ (X:Cx),X.prog=P->X.w=w->X.K=K->X.calm=true->∀ (i:Nat) (pins:List (Addr×Obj)) (s:Shared) (σ:St) (H:Hp) (E:Value->Shared->Prop),Inv X pins σ H s->(∀ b∈fp,FpOk X pins H b)->tn i s.heap->J.go i H ->
  wpAny (model P w) X.A (pyNext (.ref it)) (λr s1=>∃ u,r=some u /\
   wpAny (model P w) X.A (mG tg (.ref it) u) (λ_ s2=>∃ x H',Inv X pins σ H' s2/\RelV x u/\J.yld i H x H'/\tn (i+1) s2.heap/\∀ b∈fp,H' b=none) E s1) E s
 done:∀ (X:Cx),X.prog=P->X.w=w->X.K=K->X.calm=true->∀ (i:Nat) (pins:List (Addr×Obj)) (s:Shared) (σ:St) (H:Hp) (E:Value->Shared->Prop),Inv X pins σ H s->(∀ b∈fp,FpOk X pins H b)->tn i s.heap->J.stop i H ->
  wpAny (model P w) X.A (pyNext (.ref it)) (λr s1=>r=none/\Inv X pins σ H s1) E s
 self:∀ (A:Around) (i:Nat) (s:Shared) (Q:Value->Shared->Prop) (E:Value->Shared->Prop),tn i s.heap->Q (.ref it) s->wpAny (model P w) A (pyIter (.ref it)) Q E s
abbrev TI:=St->Hp->(It->Hp->Prop)->Prop
def PIE (X:Cx) (pins:List (Addr×Obj)) (σ:St) (tg:Expr) (R:It->Hp->Prop) (itv:Value) (s2:Shared):Prop:=
 ∃ (it:Addr) (fp:List Addr) (tn:Nat->Heap->Prop) (J:It) (H':Hp),itv=.ref it/\Inv X pins σ H' s2/\Turn X.prog X.w X.K tg J fp it tn/\tn 0 s2.heap/\(∀ b∈fp,FpOk X pins H' b)/\R J H'
def PI (X:Cx) (tg iter:Expr) (wi:TI):Prop:=
 ∀ (pins:List (Addr×Obj)) (s:Shared) (σ:St) (H:Hp) (R:It->Hp->Prop),Inv X pins σ H s->wi σ H R ->
  wpAny (model X.prog X.w) X.A (eval iter X.env) (λv s1=>wpAny (model X.prog X.w) X.A (pyIter v) (PIE X pins σ tg R) X.xe s1) X.xe s
theorem b1h (ho:s.heap.get? it=some o) (hc:o.cls=.type n) (hd:o.data=.fields vs)
    (hn:["enumerate","zip","dict_itemiterator","dict_reverseitemiterator","odict_iterator","itertools.zip_longest","itertools.pairwise"].contains n=false) (hQ:Q () s):wpAny M A (mG tg (.ref it) u) Q E s:=by
  cases tg<;>first
    | exact kA hQ
    | (cases u<;>first
        | exact kA hQ
        | (refine kh (wpAny_load ho ?_)
           rw[hc,hd]
           show wpAny M A (if _=true then _ else _) Q E s
           rw[if_neg (by grind)];exact kA hQ))
noncomputable def Itl (K:Fg) (a:Addr):It:=
 ⟨λi H=>∃ xs x,SqL K H a xs/\xs[i]?=some x,λi H x H'=>H'=H/\∀ xs,SqL K H a xs->xs[i]?=some x,λi H=>∃ xs,SqL K H a xs/\xs.length<=i⟩
noncomputable def Itt (K:Fg) (a:Addr):It:=
 ⟨λi H=>∃ xs x,SqT K H a xs/\xs[i]?=some x,λi H x H'=>H'=H/\∀ xs,SqT K H a xs->xs[i]?=some x,λi H=>∃ xs,SqT K H a xs/\xs.length<=i⟩
noncomputable def Itr (lo:Int) (n:Nat):It:=⟨λi _=>i<n,λi H x H'=>H'=H/\x=.int (lo+i),λi _=>n<=i⟩
theorem b13 {P:kz}{w:World}{K:Fg}{tg:Expr}(a it:Addr):Turn P w K tg (Itl K a) [it] it (λi h=>h.IsListIter it a i) where
 mem:=by simp
 obj:=λi h st b hb=>by
  have e:b=it:=by simpa using hb
  subst e;obtain⟨o,e,c,d⟩:=st;exact⟨o,e,λv z=>by rw[d]at z;cases z⟩
 keep:=λi h h' st k=>st.at λo e=>k it (by simp) o e
 item:=by
  intro X hP hw hK hc i pins s σ H E I hf st hg;subst hP hw hK;obtain⟨xs,x,hq,hx⟩:=hg;obtain⟨its,rv,p,hz⟩:=I.list hq;obtain⟨u,hu,ru⟩:=rv.get hx;obtain⟨f0,f1,f2,f3,f4,f5⟩:=hf it (by simp);refine wpAny_pyNext_list_item st p.isList (x:=u) (by simpa using hu) λh' st' sb=>?_;have I1:Inv X pins σ H { s with heap:=h' }:=I.turned (t':=s.toks) (λb o hb e=>(sb.2 b hb).trans e) f0 f1 f3 f4 f5;obtain⟨o,e,c,d⟩:=id st';exact⟨u,rfl,b1h (s:={ s with heap:=h' }) e c d (by decide) ⟨x,H,I1,ru,⟨rfl,λys hy=>by rw[I.list_inj hy hq];exact hx⟩,st',λb hb=>(hf b hb).1⟩⟩
 done:=by
  intro X hP hw hK hc i pins s σ H E I hf st hg;subst hP hw hK;obtain⟨xs,hq,hx⟩:=hg;obtain⟨its,rv,p,hz⟩:=I.list hq;obtain⟨f0,f1,f2,f3,f4,f5⟩:=hf it (by simp);have hl:=rv.length;exact wpAny_pyNext_list_end (I.ok.hd hc) st p.isList (by simp;omega) λh' eb=>⟨rfl,I.turned (t':=s.toks) (λb o hb e=>eb b o hb e) f0 f1 f3 f4 f5⟩
 self:=λ_ _ _ _ _ st h=>wpAny_pyIter_listiter st h
theorem b1i {P:kz}{w:World}{K:Fg}{tg:Expr}(a it:Addr):Turn P w K tg (Itt K a) [it] it (λi h=>h.IsTupleIter it a i) where
 mem:=by simp
 obj:=λi h st b hb=>by
  have e:b=it:=by simpa using hb
  subst e;obtain⟨o,e,c,d⟩:=st;exact⟨o,e,λv z=>by rw[d]at z;cases z⟩
 keep:=λi h h' st k=>st.at λo e=>k it (by simp) o e
 item:=by
  intro X hP hw hK hc i pins s σ H E I hf st hg;subst hP hw hK;obtain⟨xs,x,hq,hx⟩:=hg;obtain⟨its,rv,p,hz⟩:=I.tuple hq;obtain⟨u,hu,ru⟩:=rv.get hx;obtain⟨f0,f1,f2,f3,f4,f5⟩:=hf it (by simp);refine wpAny_pyNext_tuple_item st (show s.heap.IsTuple a its.toArray from p) (x:=u) (by simpa using hu) λh' st' sb=>?_;have I1:Inv X pins σ H { s with heap:=h' }:=I.turned (t':=s.toks) (λb o hb e=>(sb.2 b hb).trans e) f0 f1 f3 f4 f5;obtain⟨o,e,c,d⟩:=id st';exact⟨u,rfl,b1h (s:={ s with heap:=h' }) e c d (by decide) ⟨x,H,I1,ru,⟨rfl,λys hy=>by rw[I.tuple_inj hy hq];exact hx⟩,st',λb hb=>(hf b hb).1⟩⟩
 done:=by
  intro X hP hw hK hc i pins s σ H E I hf st hg;subst hP hw hK;obtain⟨xs,hq,hx⟩:=hg;obtain⟨its,rv,p,hz⟩:=I.tuple hq;obtain⟨f0,f1,f2,f3,f4,f5⟩:=hf it (by simp);have hl:=rv.length;exact wpAny_pyNext_tuple_end (I.ok.hd hc) st (show s.heap.IsTuple a its.toArray from p) (by simp;omega) λh' eb=>⟨rfl,I.turned (t':=s.toks) (λb o hb e=>eb b o hb e) f0 f1 f3 f4 f5⟩
 self:=λ_ _ _ _ _ st h=>wpAny_pyIter_tupleiter st h
theorem b1j {P:kz}{w:World}{K:Fg}{tg:Expr}(it:Addr) (lo:Int) (n:Nat):Turn P w K tg (Itr lo n) [it] it (λi h=>IsRangeIter h it (lo+(i:Nat)*1) ((n:Int) - (i:Nat)) 1) where
 mem:=by simp
 obj:=λi h st b hb=>by
  have e:b=it:=by simpa using hb
  subst e;exact⟨_,st,λv z=>by
   have z':Data.fields _=Data.cell v:=z;cases z'⟩
 keep:=λi h h' st k=>k it (by simp) _ st
 item:=by
  intro X hP hw hK hc i pins s σ H E I hf st hg;subst hP hw hK;obtain⟨f0,f1,f2,f3,f4,f5⟩:=hf it (by simp);have W:=Walks.range (prog:=X.prog) (w:=X.w) (I.ok.hd hc) it lo 1 n;refine W.item i s _ _ hg st λv h' tk hv st' kk=>?_;obtain⟨t,rfl⟩:=hv;have I1:Inv X pins σ H { s with heap:=h',toks:=tk }:=I.turned (λb o hb e=>kk b o (by simpa using hb) e) f0 f1 f3 f4 f5;refine⟨_,rfl,b1h (s:={ s with heap:=h',toks:=tk }) (n:="range_iterator") st' rfl rfl (by decide) ⟨.int (lo+i),H,I1,⟨t,?_⟩,⟨rfl,rfl⟩,st',λb hb=>(hf b hb).1⟩⟩;rw[Int.mul_one]
 done:=by
  intro X hP hw hK hc i pins s σ H E I hf st hg;subst hP hw hK;obtain⟨f0,f1,f2,f3,f4,f5⟩:=hf it (by simp);exact wpAny_pyNext_range_end (I.ok.hd hc) st (by have:n<=i:=hg;omega) λh' eb=>⟨rfl,I.turned (t':=s.toks) (λb o hb e=>eb b o hb e) f0 f1 f3 f4 f5⟩
 self:=λ_ _ _ _ _ st h=>wpAny_pyIter_rangeiter st h
section
variable {X:Cx}{tg:Expr}
def c06 (K:Fg) (tl:TE):TI:=fun σ H R=>tl σ H λx H1=>∃ a,x=.ref a/\(∃ xs,SqL K H1 a xs)/\R (Itl K a) H1
def iTup (K:Fg) (tl:TE):TI:=fun σ H R=>tl σ H λx H1=>∃ a,x=.ref a/\(∃ xs,SqT K H1 a xs)/\R (Itt K a) H1
theorem b6C (hl:PE X l tl):PI X tg l (c06 X.K tl):=by
 intro f s σ H R I h;refine thn (hl f s σ H _ I h) λv d ⟨x,m,c,g,i⟩=>?_;obtain⟨a,e,⟨r,j⟩,q⟩:=i;subst e;cases g;obtain⟨n,u,p,t⟩:=c.list j;refine mH p.isList ?_;refine⟨d.heap.objs.size,[d.heap.objs.size],_,_,m,rfl,c.kept λb o e=>Heap.get?_push_of_some _ e,b13 a _,⟨_,Heap.get?_push_size _ rfl,rfl,rfl⟩,λb k=>?_,q⟩;have e:b=d.heap.objs.size:=by simp_all
 subst e;exact c.fpOk (ff _) (c.hok.fresh (ff _))
theorem b8A (hl:PE X l tl):PI X tg l (iTup X.K tl):=by
 intro f s σ H R I h;refine thn (hl f s σ H _ I h) λv c ⟨x,m,d,k,j⟩=>?_;obtain⟨a,e,⟨u,n⟩,q⟩:=j;subst e;cases k;obtain⟨g,t,p,r⟩:=d.tuple n;refine wpAny_pyIter_tuple (p) ?_;refine⟨c.heap.objs.size,[c.heap.objs.size],_,_,m,rfl,d.kept λb o e=>Heap.get?_push_of_some _ e,b1i a _,⟨_,Heap.get?_push_size _ rfl,rfl,rfl⟩,λb i=>?_,q⟩;have e:b=c.heap.objs.size:=by simp_all
 subst e;exact d.fpOk (ff _) (d.hok.fresh (ff _))
theorem b0n {lo hi:Int}(I:Inv X pins σ H s) (h1:-(2 ^ 62)<=lo) (h2:lo<2 ^ 62) (h3:-(2 ^ 62)<=hi) (h4:hi<2 ^ 62)
  (q:R (Itr lo (hi - lo).toNat) H):wpAny (model X.prog X.w) X.A (pyIter (.ref s.heap.objs.size)) (PIE X pins σ tg R) E { s with heap:=s.heap.push { cls:=.type "range",data:=.fields #[.int lo t,.int hi u,.int 1 v] },toks:=tk }:=by
 refine wpAny_pyIter_range (IsRange.new ..) (small_one h1 h2 h3 h4) ?_;have a:Inv X pins σ H { s with heap:=s.heap.push { cls:=.type "range",data:=.fields #[.int lo t,.int hi u,.int 1 v] },toks:=tk }:=I.kept λb o e=>Heap.get?_push_of_some _ e;refine⟨(s.heap.push { cls:=.type "range",data:=.fields #[.int lo t,.int hi u,.int 1 v] }).objs.size,[(s.heap.push { cls:=.type "range",data:=.fields #[.int lo t,.int hi u,.int 1 v] }).objs.size],_,_,H,rfl,
  a.kept λb o e=>Heap.get?_push_of_some _ e,b1j _ lo (hi - lo).toNat,?_,λb d=>?_,q⟩
 ·have c:lo+((0:Nat))*1=lo:=by simp
  have f:(((hi - lo).toNat)) - ((0:Nat))=kF.Range.rangeSize lo hi 1:=by rw[rangeSize_one];split<;>omega
  rw[c,f];exact Heap.get?_push_size _ rfl
 ·have e:b=(s.heap.push { cls:=.type "range",data:=.fields #[.int lo t,.int hi u,.int 1 v] }).objs.size:=by simpa using d
  subst e;exact a.fpOk (ff _) (a.hok.fresh (ff _))
def b8B (ta:TA):TI:=fun σ H R=>ta σ H λvs H1=>∃ j:Int,vs=[.int j]/\-(2 ^ 62)<=j/\j<2 ^ 62/\R (Itr 0 j.toNat) H1
def b8C (ta:TA):TI:=fun σ H R=>ta σ H λvs H1=>∃ i j:Int,vs=[.int i,.int j]/\(-(2 ^ 62)<=i/\i<2 ^ 62/\-(2 ^ 62)<=j/\j<2 ^ 62)/\R (Itr i (j - i).toNat) H1
theorem b14 (hg:Gl X "range") (hm:X.mg "range"=none) (ha:PA X [a] ta) (hs:kj [a] X.env=[(false,eval a X.env)]:=by rfl):PI X tg (.Call (.Name "range" p) [a] [] pos) (b8B ta):=by
 intro b s σ H R I h;refine Call_ (a7c I hg hm boot_range (PyProof.Rows.callWith_type1 (thn (ha pos b s σ H _ I h) λl k ⟨i,m,d,f,c⟩=>?_) hs rfl));obtain⟨j,e,c,g,q⟩:=c;subst e;cases f with
 | cons r rr=>
  cases rr;obtain⟨t,rfl⟩:=r;exact call_range_1 (b0n d (by simp) (by simp) c g (by grind))
theorem b15 (hg:Gl X "range") (hm:X.mg "range"=none) (ha:PA X [a,b] ta) (hs:kj [a,b] X.env=[(false,eval a X.env),(false,eval b X.env)]:=by rfl) (hs2:kj [b] X.env=[(false,eval b X.env)]:=by rfl) :
  PI X tg (.Call (.Name "range" p) [a,b] [] pos) (b8C ta):=by
 intro d s σ H R I h;refine Call_ (a7c I hg hm boot_range (PyProof.Rows.callWith_type1 (thn (ha pos d s σ H _ I h) λo v ⟨w,u,l,f,c⟩=>?_) (by simp_all) (by rw[hs2];rfl)));obtain⟨i,j,e,⟨c,m,k,g⟩,q⟩:=c;subst e;cases f with
 | cons r rr=>
  cases rr with
  | cons r' rr=>
   cases rr;obtain⟨t,rfl⟩:=r;obtain⟨n,rfl⟩:=r';exact call_range_2 (b0n l c m k g q)
def tFor (wi:TI) (g:TG) (tb:TS):TS:=λD σ H=>wi σ H λJ H1=>∃ W:Nat->Nat->St->Hp->Prop,(∃ m,W 0 m σ H1)/\∀ i m σ H,W i m σ H ->
 (J.stop i H/\D.nx σ H)\/(J.go i H/\∃ N:St->Hp->Prop,(∀ σ' H',N σ' H'->∃ m',m'<m/\W (i+1) m' σ' H')/\∀ x H',J.yld i H x H'->g x σ H' fun σ2 H2=>tb { D with nx:=N,ct:=N,bk:=D.nx } σ2 H2)
def b0o (fp:List Addr) (h:Heap):List (Addr×Obj):=fp.filterMap λb=>(h.get? b).map λo=>(b,o)
theorem a3u (hb:b∈fp) (e:h.get? b=some o):(b,o)∈b0o fp h:=h9.mpr ⟨b,hb,by rw[e];rfl⟩
theorem b16 (hp:p∈b0o fp h):p.1∈fp/\h.get? p.1=some p.2:=by
 obtain⟨b,a,e⟩:=h9.mp hp;cases q:h.get? b with
 | none=>rw[q]at e;cases e
 | some o=>
  rw[q]at e;have c:=fQ.inj e;subst c;exact⟨a,q⟩
theorem Inv.pinned (I:Inv X pins σ H s) (hf:∀ b∈fp,FpOk X pins H b) (ho:∀ b∈fp,∃ o,s.heap.get? b=some o/\∀ v,o.data≠.cell v):Inv X (pins++b0o fp s.heap) σ H s:=
 I.pins_of λp h=>(fg.mp h).elim (λz=>I.pin p (gz _ z)) λz=>by
  obtain⟨a,e⟩:=b16 z;obtain⟨g,f,i,_⟩:=hf p.1 a;obtain⟨o,c,d⟩:=ho p.1 a;rw[e]at c;cases c;exact⟨e,g,f,i,d⟩
theorem Inv.unpinned (I:Inv X (pins++pl) σ H s):Inv X pins σ H s:=I.pins_of λp a=>I.pin p (gz _ (jy _ a))
theorem b8D (hp:kH (model X.prog X.w) X.A X.env X.xe) (hc:X.calm=true) (hi:PI X tg iter wi) (hg:PG X tg g) (hb:PSs X body tb)
  (hs:∀ x,lA iter X.env x=pure x:=by intro _;rfl):PS X (.For tg iter body [] pos) (tFor wi g tb):=by
 intro a s σ H D I h;refine wpAny_For (thn (hi a s σ H _ I h) λv s1 h1=>thn h1 λitv s2 h2=>?_) hs;obtain⟨it,z,Q,J,H2,e,I2,T,st2,S,W,⟨m0,w0⟩,F⟩:=h2;subst e;have p:∀ {H':Hp},(∀ b∈z,H' b=none)->∀ b∈z,FpOk X a H' b:=λhn b hb=>⟨hn b hb,(S b hb).2⟩;refine codeAny_forLoop_any (λn Y=>∃ i σ' H',Inv X a σ' H' Y/\Q i Y.heap/\(∀ b∈z,H' b=none)/\W i n σ' H') ?_ m0 ⟨0,σ,H2,I2,st2,λb hb=>(S b hb).1,w0⟩;rintro n U ⟨i,σ3,B,R,E,C,w3⟩;rcases F i n σ3 B w3 with ⟨stop,qn⟩ | ⟨go,N,hN,step⟩
 ·refine lz hp (thn (T.done X rfl rfl rfl hc i a U σ3 B X.xe R (p C) E stop) λr s4 ⟨G,I4⟩=>?_);subst G;exact lF ⟨σ3,B,I4,qn⟩
 ·refine lz hp (thn (T.item X rfl rfl rfl hc i a U σ3 B X.xe R (p C) E go) λr s4 ⟨u,G,h4⟩=>?_);subst G;refine lz hp (thn h4 λ_ s5 ⟨x,H5,I5,r5,y5,y,M⟩=>?_);have V:=I5.pinned (p M) (T.obj _ _ y);refine lz hp (thn (hg _ s5 σ3 H5 x u _ V r5 (step x H5 y5)) λ_ s6 ⟨σ6,H6,I6,q6⟩=>?_);refine lz hp (thn (hb _ s6 σ6 H6 _ I6 q6) λf L l=>?_);have q:∀ {σ7:St}{j:Hp},Inv X _ σ7 j L->N σ7 j->∃ m,m<n/\∃ i σ' H',Inv X a σ' H' L/\Q i L.heap/\(∀ b∈z,H' b=none)/\W i m σ' H':=λ{σ7 j} c t=>by
   obtain⟨m',hm,w7⟩:=hN σ7 j t;refine⟨m',hm,i+1,σ7,j,c.unpinned,T.keep _ _ _ y λb hb o e=>(c.pin _ (gz _ (gz _ (a3u hb e)))).1,λb hb=>?_,w7⟩;obtain⟨o,e,d⟩:=T.obj _ _ y b hb;exact (c.pin _ (gz _ (gz _ (a3u hb e)))).2.1
  cases f with
  | next=>obtain⟨σ7,j,c,t⟩:=l;exact q c t
  | cont=>obtain⟨σ7,j,c,t⟩:=l;exact q c t
  | brk=>obtain⟨σ7,j,c,l⟩:=l;exact⟨σ7,j,c.unpinned,l⟩
  | ret v=>obtain⟨x7,σ7,j,c,r7,l⟩:=l;exact⟨x7,σ7,j,c.unpinned,r7,l⟩
end
abbrev R2:=V->V->Hp->VK->Prop
def OpR (X:Cx) (f:Value->Value->Sem Value) (r:R2):Prop:=
 ∀ (pins:List (Addr×Obj)) (s:Shared) (σ:St) (H:Hp) (x y:V) (v u:Value) (Q:VK),Inv X pins σ H s->RelV x v->RelV y u->r x y H Q ->
  wpAny (model X.prog X.w) X.A (f v u) (EP X pins σ Q) X.xe s
def UnR (X:Cx) (f:Value->Sem Value) (r:V->Hp->VK->Prop):Prop:=
 ∀ (pins:List (Addr×Obj)) (s:Shared) (σ:St) (H:Hp) (x:V) (v:Value) (Q:VK),Inv X pins σ H s->RelV x v->r x H Q ->
  wpAny (model X.prog X.w) X.A (f v) (EP X pins σ Q) X.xe s
def CallR (X:Cx) (f:Value) (r:List V->Hp->VK->Prop):Prop:=
 ∀ (pins:List (Addr×Obj)) (s:Shared) (σ:St) (H:Hp) (xs:List V) (us:List Value) (Q:VK),Inv X pins σ H s->Vals xs us->r xs H Q ->
  wpAny (model X.prog X.w) X.A (call f us) (EP X pins σ Q) X.xe s
def TruR (X:Cx) (r:V->Hp->(Bool->Hp->Prop)->Prop):Prop:=
 ∀ (pins:List (Addr×Obj)) (s:Shared) (σ:St) (H:Hp) (x:V) (v:Value) (Q:Bool->Hp->Prop),Inv X pins σ H s->RelV x v->r x H Q ->
  wpAny (model X.prog X.w) X.A (truthy v) (TP X pins σ Q) X.xe s
def tOp (r:R2) (ta tb:TE):TE:=fun σ H Q=>ta σ H λx H1=>tb σ H1 λy H2=>r x y H2 Q
def tUn (r:V->Hp->VK->Prop) (ta:TE):TE:=fun σ H Q=>ta σ H λx H1=>r x H1 Q
def rI (C:Int->Int->Prop) (g:Int->Int->V):R2:=λx y H Q=>∃ i j,x=.int i/\y=.int j/\C i j/\Q (g i j) H
def rI0 (g:Int->Int->V):R2:=λx y H Q=>∃ i j,x=.int i/\y=.int j/\Q (g i j) H
def rU (g:Int->V):V->Hp->VK->Prop:=λx H Q=>∃ i,x=.int i/\Q (g i) H
section
variable {X:Cx}{a b c:Expr}{ta tb tc:TE}{pos:Pos}
theorem binT (ha:PE X a ta) (hb:PE X b tb) {R:V->V->Hp->Prop}(I:Inv X pins σ H s)
  (h:ta σ H λx H1=>tb σ H1 λy H2=>R x y H2) {f:Value->Value->Sem Value}
  (hf:∀ v u s2 x y H2,Inv X pins σ H2 s2->RelV x v->RelV y u->R x y H2->wpAny (model X.prog X.w) X.A (f v u) Q X.xe s2) :
  wpAny (model X.prog X.w) X.A (eval a X.env) (λv sj=>wpAny (model X.prog X.w) X.A (eval b X.env) (λu sv=>wpAny (model X.prog X.w) X.A (f v u) Q X.xe sv) X.xe sj) X.xe s:=by
 refine thn (ha pins s σ H _ I h) λv c ⟨x,j,i,g,n⟩=>?_;refine thn (hb pins c σ j _ i n) λu e ⟨y,m,d,k,l⟩=>?_;exact hf v u e x y m d g k l
theorem c07 (ho:OpR X (kI op) r) (ha:PE X a ta) (hb:PE X b tb):PE X (.BinOp a op b pos) (tOp r ta tb):=by
 intro c s σ H Q I h;exact wpAny_BinOp (binT ha hb I h λv u i x y f e d g q=>ho c i σ f x y v u Q e d g q)
theorem c08 (ho:UnR X (l9 op) r) (ha:PE X a ta):PE X (.UnaryOp op a pos) (tUn r ta):=by
 intro b s σ H Q I h;exact UnaryOp_ (thn (ha b s σ H _ I h) λv d ⟨x,e,c,g,f⟩=>ho b d σ e x v Q c g f)
theorem opI {g:Int->Int->Int}
  (rule:∀ (i j:Int) (t u:Tok) (s:Shared) (Q:Value->Shared->Prop) (E:Value->Shared->Prop),C i j->Q (.int (g i j) s.toks) { s with toks:=s.toks+1 }->wpAny (model X.prog X.w) X.A (f (.int i t) (.int j u)) Q E s) :
  OpR X f (rI C λi j=>.int (g i j)):=by
 intro b s σ H x y v u Q I a d h;obtain⟨i,j,rfl,rfl,e,q⟩:=h;obtain⟨t,rfl⟩:=a;obtain⟨c,rfl⟩:=d;exact rule i j t c s _ _ e ⟨.int _,H,I.tok _,⟨_,rfl⟩,q⟩
theorem opI0 {g:Int->Int->Int}
  (rule:∀ (i j:Int) (t u:Tok) (s:Shared) (Q:Value->Shared->Prop) (E:Value->Shared->Prop),Q (.int (g i j) s.toks) { s with toks:=s.toks+1 }->wpAny (model X.prog X.w) X.A (f (.int i t) (.int j u)) Q E s) :
  OpR X f (rI0 λi j=>.int (g i j)):=by
 intro a s σ H x y v u Q I d b h;obtain⟨i,j,rfl,rfl,q⟩:=h;obtain⟨t,rfl⟩:=d;obtain⟨c,rfl⟩:=b;exact rule i j t c s _ _ ⟨.int _,H,I.tok _,⟨_,rfl⟩,q⟩
theorem opB0 {g:Int->Int->Bool}
  (rule:∀ (i j:Int) (t u:Tok) (s:Shared) (Q:Value->Shared->Prop) (E:Value->Shared->Prop),Q (.bool (g i j)) s->wpAny (model X.prog X.w) X.A (f (.int i t) (.int j u)) Q E s) :
  OpR X f (rI0 λi j=>.bl (g i j)):=by
 intro d s σ H x y v u Q I c a h;obtain⟨i,j,rfl,rfl,q⟩:=h;obtain⟨t,rfl⟩:=c;obtain⟨b,rfl⟩:=a;exact rule i j t b s _ _ ⟨.bl _,H,I,rfl,q⟩
def CPow (i j:Int):Prop:=0<=j/\j<=1000000/\i.natAbs<2 ^ 64
def CMul (i j:Int):Prop:=(-(2 ^ 64)<i/\i<2 ^ 64)\/(-(2 ^ 64)<j/\j<2 ^ 64)
theorem CMul.ok (h:CMul i j):IntMulOk i j:=by
 rcases h with ⟨h1,h2⟩ | ⟨h1,h2⟩
 ·exact .of_left (intBits_le_64 h1 h2)
 ·exact .of_right (intBits_le_64 h1 h2)
theorem op_add:OpR X (kI .Add) (rI0 λi j=>.int (i+j)):=opI0 λ_ _ _ _ _ _ _ q=>add_int q
theorem b8E:OpR X (kI .Sub) (rI0 λi j=>.int (i - j)):=opI0 λ_ _ _ _ _ _ _ q=>sub_int q
theorem b8F:OpR X (kI .Mult) (rI CMul λi j=>.int (i*j)):=opI λ_ _ _ _ _ _ _ a q=>mul_int q a.ok
theorem b8G:OpR X (kI .Mod) (rI (λ_ j=>0<j) λi j=>.int (i % j)):=opI λi j _ _ _ _ _ a q=>by
 have b:(0:Int)<j:=a;exact mod_int' (by omega) (by rw[Int.fmod_eq_emod_of_nonneg i (by omega)];exact q)
theorem b8H:OpR X (kI .Pow) (rI CPow λi j=>.int (i ^ j.toNat)):=opI λ_ _ _ _ _ _ _ a q=>pow_int_small a.1 a.2.1 a.2.2 q
theorem b6D:OpR X (lw .Add) (rI0 λi j=>.int (i+j)):=opI0 λ_ _ _ _ _ _ _ q=>iadd_int q
theorem unI {g:Int->Int}
  (rule:∀ (i:Int) (t:Tok) (s:Shared) (Q:Value->Shared->Prop) (E:Value->Shared->Prop),Q (.int (g i) s.toks) { s with toks:=s.toks+1 }->wpAny (model X.prog X.w) X.A (f (.int i t)) Q E s) :
  UnR X f (rU λi=>.int (g i)):=by
 intro b s σ H x v Q I a h;obtain⟨i,rfl,q⟩:=h;obtain⟨t,rfl⟩:=a;exact rule i t s _ _ ⟨.int _,H,I.tok _,⟨_,rfl⟩,q⟩
theorem b8I:UnR X (l9 .USub) (rU λi=>.int (-i)):=unI λ_ _ _ _ _ q=>neg_int q
end
noncomputable def scal:V->V->Bool
 | .non,.non=>true | .non,.int _=>true | .int _,.non=>true | .non,.bl _=>true | .bl _,.non=>true | .non,.str _=>true | .str _,.non=>true
 | .int _,.int _=>true | .bl _,.bl _=>true | .str _,.str _=>true | .byt _,.byt _=>true
 | .int _,.str _=>true | .str _,.int _=>true | .bl _,.str _=>true | .str _,.bl _=>true
 | _,_=>false
def rEq:R2:=λx y H Q=>scal x y=true/\Q (.bl (decide (x=y))) H
def rNe:R2:=λx y H Q=>scal x y=true/\Q (.bl (!decide (x=y))) H
theorem b17:decide (V.int i=V.int j)=(i==j):=by
 rw[g4];simp
theorem b18:decide (V.bl i=V.bl j)=(i==j):=by
 rw[g4];simp
theorem b19:decide (V.str i=V.str j)=(i==j):=by
 rw[g4];simp
theorem b2a:decide (V.byt i=V.byt j)=(i.toList==j.toList):=by
 rw[g4];cases i;cases j;simp
section
variable {X:Cx}{a b c:Expr}{ta tb tc:TE}{pos:Pos}
theorem a0H (I:Inv X pins σ H s) (q:Q (.bl k) H) (e:k=k'):EP X pins σ Q (.bool k') s:=by
 subst e;exact⟨.bl k,H,I,rfl,q⟩
theorem op_eq:OpR X (kC .Eq) rEq:=by
 intro pins s σ H x y v u Q I rx ry h;obtain⟨hs,q⟩:=h;cases x with
 | non=>
  cases rx;cases y with
  | non=>cases ry;exact PySem.EqNone.eq_none_none (a0H I q (by simp))
  | bl j=>cases ry;exact PySem.EqNone.eq_none_bool (a0H I q (by simp))
  | int j=>obtain⟨t',rfl⟩:=ry;exact PySem.EqNone.eq_none_int (a0H I q (by simp))
  | str j=>obtain⟨t',rfl⟩:=ry;exact PySem.EqNone.eq_none_str (a0H I q (by simp))
  | _=>exact absurd (show false=true from hs) fH
 | bl i=>
  cases rx;cases y with
  | non=>cases ry;exact PySem.EqNone.eq_bool_none (a0H I q (by simp))
  | bl j=>cases ry;exact eq_bool (a0H I q b18)
  | str j=>obtain⟨t',rfl⟩:=ry;exact PySem.EqMixed.eq_bool_str (a0H I q (by simp))
  | _=>exact absurd (show false=true from hs) fH
 | int i=>
  obtain⟨t,rfl⟩:=rx;cases y with
  | non=>cases ry;exact PySem.EqNone.eq_int_none (a0H I q (by simp))
  | int j=>obtain⟨t',rfl⟩:=ry;exact eq_int (a0H I q b17)
  | str j=>obtain⟨t',rfl⟩:=ry;exact PySem.EqMixed.eq_int_str (a0H I q (by simp))
  | _=>exact absurd (show false=true from hs) fH
 | str i=>
  obtain⟨t,rfl⟩:=rx;cases y with
  | non=>cases ry;exact PySem.EqNone.eq_str_none (a0H I q (by simp))
  | bl j=>cases ry;exact PySem.EqMixed.eq_str_bool (a0H I q (by simp))
  | int j=>obtain⟨t',rfl⟩:=ry;exact PySem.EqMixed.eq_str_int (a0H I q (by simp))
  | str j=>obtain⟨t',rfl⟩:=ry;exact eq_str (a0H I q b19)
  | _=>exact absurd (show false=true from hs) fH
 | byt i=>
  obtain⟨t,rfl⟩:=rx;cases y with
  | byt j=>obtain⟨t',rfl⟩:=ry;exact PySem.W.eq_bytes (a0H I q b2a)
  | _=>exact absurd (show false=true from hs) fH
 | _=>cases y<;>exact absurd (show false=true from hs) fH
theorem op_ne:OpR X (kC .NotEq) rNe:=by
 intro e s σ H x y v u Q I d a h;obtain⟨c,q⟩:=h;cases x with
 | non=>
  cases d;cases y with
  | non=>cases a;exact PySem.EqNone.ne_none_none (a0H I q (by simp))
  | bl j=>cases a;exact PySem.EqNone.ne_none_bool (a0H I q (by simp))
  | int j=>obtain⟨b,rfl⟩:=a;exact PySem.EqNone.ne_none_int (a0H I q (by simp))
  | str j=>obtain⟨b,rfl⟩:=a;exact PySem.EqNone.ne_none_str (a0H I q (by simp))
  | _=>exact absurd (show false=true from c) fH
 | bl i=>
  cases d;cases y with
  | non=>cases a;exact PySem.EqNone.ne_bool_none (a0H I q (by simp))
  | bl j=>cases a;exact ne_bool (a0H I q (congrArg not b18))
  | str j=>obtain⟨b,rfl⟩:=a;exact PySem.EqMixed.ne_bool_str (a0H I q (by simp))
  | _=>exact absurd (show false=true from c) fH
 | int i=>
  obtain⟨t,rfl⟩:=d;cases y with
  | non=>cases a;exact PySem.EqNone.ne_int_none (a0H I q (by simp))
  | int j=>obtain⟨b,rfl⟩:=a;exact ne_int (a0H I q (congrArg not b17))
  | str j=>obtain⟨b,rfl⟩:=a;exact PySem.EqMixed.ne_int_str (a0H I q (by simp))
  | _=>exact absurd (show false=true from c) fH
 | str i=>
  obtain⟨t,rfl⟩:=d;cases y with
  | non=>cases a;exact PySem.EqNone.ne_str_none (a0H I q (by simp))
  | bl j=>cases a;exact PySem.EqMixed.ne_str_bool (a0H I q (by simp))
  | int j=>obtain⟨b,rfl⟩:=a;exact PySem.EqMixed.ne_str_int (a0H I q (by simp))
  | str j=>obtain⟨b,rfl⟩:=a;exact ne_str (a0H I q (congrArg not b19))
  | _=>exact absurd (show false=true from c) fH
 | byt i=>
  obtain⟨t,rfl⟩:=d;cases y with
  | byt j=>obtain⟨b,rfl⟩:=a;exact PySem.W.ne_bytes (a0H I q (congrArg not b2a))
  | _=>exact absurd (show false=true from c) fH
 | _=>cases y<;>exact absurd (show false=true from c) fH
theorem c09:OpR X (kC .Lt) (rI0 λi j=>.bl (decide (i<j))):=opB0 λ_ _ _ _ _ _ _ q=>lt_int q
theorem c1a:OpR X (kC .LtE) (rI0 λi j=>.bl (decide (i<=j))):=opB0 λ_ _ _ _ _ _ _ q=>le_int q
theorem c1b:OpR X (kC .Gt) (rI0 λi j=>.bl (decide (j<i))):=opB0 λ_ _ _ _ _ _ _ q=>gt_int q
theorem c1c:OpR X (kC .GtE) (rI0 λi j=>.bl (decide (j<=i))):=opB0 λ_ _ _ _ _ _ _ q=>ge_int q
theorem b2b:OpR X (kC .Lt) (λx y H Q=>∃ i j,x=.str i/\y=.str j/\Q (.bl (decide (i.cps.toList<j.cps.toList))) H):=by
 intro b s σ H x y v u Q I a c h;obtain⟨i,j,rfl,rfl,q⟩:=h;obtain⟨t,rfl⟩:=a;obtain⟨d,rfl⟩:=c;exact lt_str (a0H I q rfl)
theorem op_isN:OpR X (kC .Is) (λx y H Q=>y=.non/\Q (.bl (decide (x=.non))) H):=by
 intro b s σ H x y v u Q I a c h;obtain⟨rfl,q⟩:=h;cases c;refine is_none_gen (a0H I q ?_);cases x<;>first
  | (cases a;rfl)
  | (obtain⟨t,rfl⟩:=a;rfl)
theorem b6E:OpR X (kC .IsNot) (λx y H Q=>y=.non/\Q (.bl (!decide (x=.non))) H):=by
 intro c s σ H x y v u Q I a b h;obtain⟨rfl,q⟩:=h;cases b;refine isnot_none_gen (a0H I q ?_);cases x<;>first
  | (cases a;rfl)
  | (obtain⟨t,rfl⟩:=a;rfl)
theorem OpR.or (h:OpR X f r) (h':OpR X f r'):OpR X f (λx y H Q=>r x y H Q\/r' x y H Q):=by
 intro a s σ H x y v u Q I c b q;rcases q with q | q
 ·exact h a s σ H x y v u Q I c b q
 ·exact h' a s σ H x y v u Q I c b q
theorem a0p (b:Expr) (h:op≠.In:=by decide) (h2:op≠.NotIn:=by decide):lG op b=false:=by
 have a:(op==CmpOp.In)=false:=by grind
 have c:(op==CmpOp.NotIn)=false:=by grind
 cases b<;>simp[lG,a,c]
theorem b6F (ho:OpR X (kC op) r) (ha:PE X a ta) (hb:PE X b tb) (hm:lG op b=false):PE X (.Compare a [op] [b] pos) (tOp r ta tb):=by
 intro c s σ H Q I h;exact wpAny_Compare1 (binT ha hb I h λv u d x y f g i e q=>ho c d σ f x y v u Q g i e q) hm
def c1d (t:TE):TT:=fun σ H Q=>t σ H λx H'=>∃ k,x=.bl k/\Q k H'
theorem b6G (ho:OpR X (kC op) r) (ha:PE X a ta) (hb:PE X b tb) (hm:lG op b=false):PT X (.Compare a [op] [b] pos) (c1d (tOp r ta tb)):=by
 intro d s σ H Q I h;refine wpAny_isTrue_Compare1 (thn (ha d s σ H _ I h) λv l ⟨x,w,f,n,B⟩=>thn (hb d l σ w _ f B) λu t ⟨y,m,i,j,A⟩=>
  thn (ho d t σ m x y v u _ i n j A) λc C ⟨z,q,p,o,k,e,g⟩=>?_) hm
 subst e;cases o;exact lu ⟨q,p,g⟩
def b5J (r r':R2) (ta tb tc:TE):TE:=fun σ H Q=>ta σ H λx H1=>tb σ H1 λy H2=>r x y H2 λz H3=>∃ k,z=.bl k /\
 (if k=true then tc σ H3 λw' H4=>r' y w' H4 Q else Q (.bl false) H3)
theorem b4h (ho:OpR X (kC op) r) (ho':OpR X (kC op') r') (ha:PE X a ta) (hb:PE X b tb) (hc:PE X c tc)
  (hm:lastMarks [op,op'] [b,c]=false:=by with_unfolding_all rfl):PE X (.Compare a [op,op'] [b,c] pos) (b5J r r' ta tb tc):=by
 intro f s σ H Q I h;refine Compare_chain (thn (ha f s σ H _ I h) λv m ⟨x,t,J,p,N⟩=>chain_link (thn (hb f m σ t _ J N) λu o ⟨y,C,F,j,L⟩=>
  thn (ho f o σ C x y v u _ F p j L) λd A ⟨z,i,g,n,k,e,l⟩=>?_)) hm
 subst e;cases n;refine lu ?_;cases k with
 | false=>exact ite_ff ⟨.bl false,i,g,rfl,l⟩
 | true=>exact ite_tt (chain_last (thn (hc f A σ i _ g l) λM w ⟨D,q,B,G,E⟩=>ho' f w σ q y D u M Q B j G E))
def TruV (K:Fg) (x:V) (H:Hp) (k:Bool):Prop:=
 match x with
 | .non=>k=false
 | .bl b=>k=b
 | .int i=>k=(i != 0)
 | .str y=>y.length<=ki/\k=((y.length:Int) != 0)
 | .byt y=>y.size<=ki/\k=((y.size:Int) != 0)
 | .ref p=>(∃ xs,SqL K H p xs/\k=!xs.isEmpty)\/(∃ xs,SqT K H p xs/\k=!xs.isEmpty)\/∃ kvs,H p=some (.dK kvs)/\k=!kvs.isEmpty
 | _=>False
theorem b1k {κ:Type}{kvs:List (κ×V)}{vs:List (κ×Value)}(r:KV kvs vs):(!vs.isEmpty)=!kvs.isEmpty:=by
 cases r<;>rfl
theorem a7d (r:Vals xs its):(!its.toArray.isEmpty)=!xs.isEmpty:=by
 cases r<;>simp
theorem a8p:(ki:Nat)<2 ^ 63:=by rw[kJ];decide
theorem b8J:TruR X (λx H Q=>∃ k,TruV X.K x H k/\Q k H):=by
 intro u s σ H x v Q I c h;obtain⟨k,e,q⟩:=h;have z:=a8p;have A:ki=16777216:=kJ;cases x with
 | non=>
  cases c;have a:k=false:=e;subst a;exact truthy_none ⟨H,I,q⟩
 | bl b=>
  cases c;have a:k=b:=e;subst a;exact lu ⟨H,I,q⟩
 | int i=>
  obtain⟨t,rfl⟩:=c;have a:k=(i != 0):=e;subst a;exact PySem.P.truthy_int ⟨H,I,q⟩
 | str y=>
  obtain⟨t,rfl⟩:=c;obtain⟨o,a⟩:=e;subst a;exact PySem.P.truthy_str (by omega) ⟨H,I.tok _,q⟩
 | byt y=>
  obtain⟨t,rfl⟩:=c;obtain⟨o,a⟩:y.size<=ki/\k=((y.size:Int) != 0):=e;subst a;exact PySem.W.truthy_bytes (by omega) ⟨H,I.tok _,q⟩
 | ref p=>
  cases c;have a:=e;rcases a with ⟨xs,hx,a⟩ | ⟨xs,hx,a⟩ | ⟨kvs,hx,a⟩
  ·subst a;obtain⟨l,r,g,j⟩:=I.list hx;have d:=r.length;exact wpAny_truthy_list g.isList (by simp only[fR];omega) ⟨H,I.tok _,by rw[a7d r];exact q⟩
  ·subst a;obtain⟨l,r,g,j⟩:=I.tuple hx;have d:=r.length;exact truthy_tuple g (by simp only[fR];omega) ⟨H,I.tok _,by rw[a7d r];exact q⟩
  ·subst a;obtain⟨j,n,f,r,m⟩:=I.hok p _ hx;have d:kvs.length=f.length:=Paired.length r;exact wpAny_truthy_dict n m (by omega) ⟨H,I.tok _,by rw[b1k r];exact q⟩
 | _=>exact (show False from e).elim
theorem b4i (ha:PE X a ta) (he:∀ whole,isTrue a X.env whole=(do let v <- whole;kR a.pos;kL [v] (truthy v))) :
  PT X a (fun σ H Q=>ta σ H λx H'=>∃ k,TruV X.K x H' k/\Q k H'):=by
 intro b s σ H Q I h;exact isTrue_plain (thn (ha b s σ H _ I h) λv e ⟨x,f,d,g,c⟩=>b8J b e σ f x v Q d g c) (he _)
theorem op_add_str:OpR X (kI .Add) (λx y H Q=>∃ i j,x=.str i/\y=.str j/\i.length+j.length<=ki/\Q (.str (i++j)) H):=by
 intro b s σ H x y v u Q I a d h;obtain⟨i,j,rfl,rfl,e,q⟩:=h;obtain⟨t,rfl⟩:=a;obtain⟨c,rfl⟩:=d;exact add_str (λc f=>⟨.str (i++j),H,I.tok _,⟨_,rfl⟩,q⟩) e
theorem a3V (r:Vals [x] us):∃ u,us=[u]/\RelV x u:=by
 cases r with
 | cons r1 r2=>cases r2;exact⟨_,rfl,r1⟩
theorem a9z (r:Vals [x,y] us):∃ u w',us=[u,w']/\RelV x u/\RelV y w':=by
 cases r with
 | cons r1 r2=>
  cases r2 with
  | cons r3 r4=>cases r4;exact⟨_,_,rfl,r1,r3⟩
theorem b2c (hc:X.calm=true):CallR X (.builtin "max") (λxs H Q=>∃ i j,xs=[.int i,.int j]/\Q (.int (if j > i then j else i)) H):=by
 intro a s σ H d e Q I r h;obtain⟨i,j,rfl,q⟩:=h;obtain⟨u,f,rfl,⟨t,rfl⟩,⟨b,rfl⟩⟩:=a9z r;refine max_two_ints (I.ok.hd hc) λg c k=>⟨_,H,I.kept k,?_,q⟩
 by_cases hj:j > i
 ·rw[if_pos hj,if_pos hj];exact⟨_,rfl⟩
 ·rw[if_neg hj,if_neg hj];exact⟨_,rfl⟩
theorem b2d (hc:X.calm=true):CallR X (.builtin "min") (λxs H Q=>∃ i j,xs=[.int i,.int j]/\Q (.int (if j<i then j else i)) H):=by
 intro a s σ H d f Q I r h;obtain⟨i,j,rfl,q⟩:=h;obtain⟨u,g,rfl,⟨t,rfl⟩,⟨c,rfl⟩⟩:=a9z r;refine min_two_ints (I.ok.hd hc) λb e k=>⟨_,H,I.kept k,?_,q⟩
 by_cases hj:j<i
 ·rw[if_pos hj,if_pos hj];exact⟨_,rfl⟩
 ·rw[if_neg hj,if_neg hj];exact⟨_,rfl⟩
def LenV (K:Fg) (x:V) (H:Hp) (n:Nat):Prop:=
 match x with
 | .str y=>y.length<=ki/\n=y.length
 | .byt y=>y.size<=ki/\n=y.size
 | .ref p=>(∃ xs,SqL K H p xs/\n=xs.length)\/∃ xs,SqT K H p xs/\n=xs.length
 | _=>False
theorem b4j:CallR X (.builtin "len") (λxs H Q=>∃ x n,xs=[x]/\LenV X.K x H n/\Q (.int n) H):=by
 intro j s σ H a v Q I r h;obtain⟨x,n,rfl,e,q⟩:=h;obtain⟨u,rfl,d⟩:=a3V r;have o:=kJ;cases x with
 | str y=>
  obtain⟨t,rfl⟩:=d;obtain⟨k,b⟩:=e;subst b;exact len_str (by omega) ⟨.int _,H,I.tok _,⟨_,rfl⟩,q⟩
 | byt y=>
  obtain⟨t,rfl⟩:=d;obtain⟨k,b⟩:=e;subst b;exact PySem.W.len_bytes (by omega) ⟨.int _,H,I.tok _,⟨_,rfl⟩,q⟩
 | ref p=>
  cases d;have b:=e;rcases b with ⟨a,hx,b⟩ | ⟨a,hx,b⟩
  ·subst b;obtain⟨i,g,f,l⟩:=I.list hx;have c:=g.length;exact Calls.call_len_list f.isList (by grind) ⟨.int a.length,H,I.tok _,⟨_,by simp only[fR];rw[c]⟩,q⟩
  ·subst b;obtain⟨i,g,f,l⟩:=I.tuple hx;have c:=g.length;exact len_tuple f (by grind) ⟨.int a.length,H,I.tok _,⟨_,by simp only[fR];rw[c]⟩,q⟩
 | _=>exact (e).elim
end
structure ObjM (h:Heap) (x dx C:Addr) (mA:Str->Option Value):Prop where
 obj:h.get? x=some (PySem.W.instObj C dx)
 ns:h.Ns1 dx mA
 ne:dx≠x
theorem b2e {h:Heap}(n:h.Ns1 dx mA):∃ od,h.get? dx=some od/\∀ name,PySem.W.lookIn name od=some (mA name):=by
 obtain⟨o,d,m,l,j,f,_,g⟩:=n;refine⟨o,l,λc=>?_⟩;have e:=g c;unfold nsFind findBy at e;rw[<- Array.find?_toList]at e;unfold PySem.W.lookIn;rw[j];dsimp only
 split
 ·simp_all
 ·rename_i q
  rw[q]at e;have a:d.toList.any (·.refKey)=false:=by
   rw[List.any_eq_false];intro y k;obtain⟨z,t,b⟩:=f y (jA.mp k);simp[mI.refKey,b]
  have i:¬ d.toList.any (·.refKey)=true:=by rw[a];exact fH
  rw[if_neg i];exact congrArg some e
theorem ObjM.look (I:ObjM h x dx C mA):∃ od,PySem.W.InstAt h x (PySem.W.instObj C dx) C (some od)/\∀ name,PySem.W.lookIn name od=some (mA name):=
 let ⟨od,ho,hl⟩:=b2e I.ns
 ⟨od,⟨I.obj,rfl,rfl,ho⟩,hl⟩
section
variable {prog:kz}{w:World}{A:Around}{E:Value->Shared->Prop}{s:Shared}{K:Fg}{x dx C f:Addr}{mA:Str->Option Value}{name:Str}{v:Value}
theorem b6H (X:K.In s.heap) (I:ObjM s.heap x dx C mA) (hg:PySem.W.plainGet K C name=true) (hh:PySem.W.hasDictIn K C=true)
  (ha:PySem.W.findIn K (.ref C) name=some none) (hv:mA name=some v) (hv':PySem.W.handedIn v=true) (h:Q v { s with toks:=s.toks+1 }) :
  wpAny (model prog w) A (getAttr (.ref x) name expr) Q E s:=by
 obtain⟨b,J,a⟩:=I.look;exact PySem.W.get_value X J (PySem.W.plainGet_of hg).1 (PySem.W.findObj_own hh ha rfl (by simp_all)) hv' h
theorem b4k (X:K.In s.heap) (I:ObjM s.heap x dx C mA) (hg:PySem.W.plainGet K C name=true)
  (hf:PySem.W.findIn K (.ref C) name=some (some (.ref f))) (ht:PySem.W.isFn K (.ref f)=true) (hv:mA name=none) (h:Q (.ref f,[.ref x]) s) :
  wpAny (model prog w) A (ll (.ref x) name pl) Q E s:=by
 obtain⟨b,J,a⟩:=I.look;exact PySem.W.method_fn X J (PySem.W.plainGet_of hg).1 (PySem.W.plainGet_of hg).2 hf (beq_iff_eq.mp ht) (by show (PySem.W.lookIn name b).map _=some false;rw[a,hv];rfl) h
theorem b6I (X:K.In s.heap) (I:ObjM s.heap x dx C mA)
  (hs:PySem.W.findIn K (.ref C) "__setattr__"=some (some (.builtin "object.__setattr__"))) (hp:PySem.W.plainOver K C=true) (ht:PySem.W.takerIn K C name=some none) (hh:PySem.W.hasDictIn K C=true)
  (hw:PySem.Within mA ns) (hsz:ns.length<=ki)
  (h:∀ h',ObjM h' x dx C (λy=>if y=name then some v else mA y)->Heap.SameBut dx s.heap h'->Q () { s with heap:=h',toks:=s.toks+2 }) :
  wpAny (model prog w) A (setAttr (.ref x) name v) Q E s:=by
 obtain⟨p,J,n⟩:=I.look;refine PySem.W.set_plain X J hs (PySem.W.osa_open X J hp ht λb=>?_);obtain⟨o,j,i⟩:=PySem.W.any_some hh;have k:=I.obj;refine kh (kA (kh (kh (wpAny_loadPart k (kh (PySem.W.Looks.here (PySem.W.looks_clsIn X j) ?_))))));rw[i];refine kA (kh (kA (kh ?_)));refine wpAny_nsSet1 I.ns λt d c=>?_;obtain⟨q,l,m,f,g,e⟩:=d.count (PySem.Within.cons name v hw);refine kh (wpAny_lookBehind f (by rw[g];exact pastItsLine_dict (fx e (by grind))) ?_);exact kA (h _ ⟨(c.2 _ (Ne.symm I.ne)).trans I.obj,d,I.ne⟩ c)
theorem b4l (X:K.In s.heap) (hm:PySem.W.makesIn K C=true)
  (hi:PySem.W.findIn K (.ref C) "__init__"=some (some (.ref f))) (hf:PySem.W.typeIn K (.ref f)=some (.type "function"))
  (h:li (model prog w) (A.under (.builtin "type.__call__" ⟨.ref C::vs,kw⟩)) (.call (.ref f) ⟨.ref (s.heap.objs.size+1)::vs,kw⟩) (PySem.W.InitBack (s.heap.objs.size+1) R)
   { s with heap:=(s.heap.push PySem.W.emptyDict).push (PySem.W.instObj C s.heap.objs.size) }) :
  li (model prog w) A (.call (.ref C) ⟨vs,kw⟩) R s:=PySem.W.make_core (PySem.W.makes_of X hm) (PySem.W.looks_findIn X hi) (λa=>PySem.W.bind_fn X a hf) (.inl rfl) h
end
noncomputable def putF (f:Str) (v:V):List (Str×V)->List (Str×V)
 | []=>[(f,v)]
 | (g,x)::r=>if g=f then (g,v)::r else (g,x)::putF f v r
theorem a51 (f g:Str) (v:V):∀ fs:List (Str×V),(putF f v fs).lookup g=if g=f then some v else fs.lookup g
 | []=>by
  show iK g [_]=_
  by_cases h:g=f
  ·simp_all
  ·simp_all
 | (k,x)::r=>by
  have b:=a51 f g v r;rw[show putF f v _=(if k=f then _::r else (k,x)::putF f v r) from rfl]
  by_cases hk:k=f
  ·rw[if_pos hk]
   by_cases h:g=k
   ·simp_all
   ·have a:=beq_eq_false_iff_ne.mpr h;simp only[iK,a,if_neg (λe:g=f=>h (e.trans hk.symm))]
  ·rw[if_neg hk]
   by_cases h:g=k
   ·simp_all
   ·have a:=beq_eq_false_iff_ne.mpr h;simp only[iK,a];exact b
theorem a52 (f:Str) (v:V):∀ fs:List (Str×V),f∈(putF f v fs).map (·.1)/\∀ g,g∈fs.map (·.1)->g∈(putF f v fs).map (·.1)
 | []=>⟨by simp[putF],λg h=>by simp at h⟩
 | (k,x)::r=>by
  obtain⟨a,b⟩:=a52 f v r;rw[show putF f v _=(if k=f then _::r else (k,x)::putF f v r) from rfl]
  by_cases hk:k=f
  ·grind
  ·rw[if_neg hk];refine⟨?_,λg h=>?_⟩
   ·rw[fy];exact fY _ a
   ·rw[fy]at h ⊢;rcases ft.mp h with e | e
    ·exact ft.mpr (.inl e)
    ·exact fY _ (b g e)
theorem a53 (f:Str) (v:V):∀ fs:List (Str×V),(putF f v fs).length<=fs.length+1
 | []=>by simp[putF]
 | (k,x)::r=>by
  have a:=a53 f v r;rw[show putF f v _=(if k=f then _::r else (k,x)::putF f v r) from rfl]
  by_cases hk:k=f
  ·grind
  ·grind
theorem RelO.some_of (r:RelO (some v) o):∃ u,o=some u/\RelV v u:=by
 cases o with
 | none=>exact (r).elim
 | some u=>exact⟨u,rfl,r⟩
theorem RelO.none_of (r:RelO none o):o=none:=by
 cases o with
 | none=>rfl
 | some u=>exact (r).elim
theorem b2f (r:RelV v u):PySem.W.handedIn u=true:=by
 cases v with
 | non=>cases (r);rfl
 | bl b=>cases (r);rfl
 | int i=>obtain⟨t,e⟩:=(r);cases e;rfl
 | str x=>obtain⟨t,e⟩:=(r);cases e;rfl
 | byt b=>obtain⟨t,e⟩:=(r);cases e;rfl
 | flt b=>obtain⟨t,e⟩:=(r);cases e;rfl
 | ref a=>cases (r);rfl
 | ty n=>cases (r);rfl
section
variable {P:kz}{w:World}{H H':Hp}{h h':Heap}{a C dx:Addr}{fs fs':List (Str×V)}
theorem a7I (hok:HOk P w H h) (e:H a=some (.ins C dx fs)):∃ mA,ObjM h a dx C mA/\(∀ f,RelO (fs.lookup f) (mA f))/\PySem.Within mA (fs.map (·.1))/\fs.length<=1000/\H dx=some (.own a):=by
 obtain⟨d,z,c,g,b,n,r,q⟩:=(hok a _ e);exact⟨b,⟨g,n,c⟩,r,q,z,d⟩
end
structure Cls (K:Fg) (C:Addr):Prop where
 pg:PySem.W.plainGet K C Str.empty=true
 hd:PySem.W.hasDictIn K C=true
 po:PySem.W.plainOver K C=true
 sa:PySem.W.findIn K (.ref C) "__setattr__"=some (some (.builtin "object.__setattr__"))
theorem Cls.get {K:Fg}(c:Cls K C) (f:Str):PySem.W.plainGet K C f=true:=c.pg
def NoAttr (K:Fg) (C:Addr) (f:Str):Prop:=PySem.W.findIn K (.ref C) f=some none
theorem NoAttr.taker {K:Fg}(n:NoAttr K C f):PySem.W.takerIn K C f=some none:=by
 unfold PySem.W.takerIn;rw[n]
 rfl
structure Meth (K:Fg) (C:Addr) (m:Str) (f:Addr):Prop where
 at_:PySem.W.findIn K (.ref C) m=some (some (.ref f))
 fn:PySem.W.isFn K (.ref f)=true
 kp:PySem.W.keepIn K (.ref f)=true
section
variable {X:Cx}{pins:List (Addr×Obj)}{σ:St}{H:Hp}{s:Shared}{a C dx:Addr}{fs:List (Str×V)}{f:Str}{v:V}{A:Around}{E:Value->Shared->Prop}
theorem a7e (I:Inv X pins σ H s) (e:H a=some (.ins C dx fs)) (c:Cls X.K C) (n:NoAttr X.K C f) (l:fs.lookup f=some v)
  (h:∀ u s',Inv X pins σ H s'->RelV v u->Q u s'):wpAny (model X.prog X.w) A (getAttr (.ref a) f b) Q E s:=by
 obtain⟨i,O,r,_,_,_⟩:=a7I I.hok e;obtain⟨u,g,d⟩:=RelO.some_of (by rw[<- l];exact r f);exact b6H I.kIn O (c.get f) c.hd n g (b2f d) (h u _ (I.tok _) d)
theorem a40 (I:Inv X pins σ H s) (e:H a=some (.ins C dx fs)) (c:Cls X.K C) (k:Meth X.K C m g) (l:fs.lookup m=none)
  (h:Q (.ref g,[.ref a]) s):wpAny (model X.prog X.w) A (ll (.ref a) m pl) Q E s:=by
 obtain⟨b,O,r,_,_,_⟩:=a7I I.hok e;have d:=RelO.none_of (by rw[<- l];exact r m);exact b4k I.kIn O (c.get m) k.at_ k.fn d h
theorem a7f (I:Inv X pins σ H s) (e:H a=some (.ins C dx fs)) (c:Cls X.K C) (n:NoAttr X.K C f) (hl:fs.length<1000) (ry:RelV y u)
  (h:∀ s',Inv X pins σ (upd H a (.ins C dx (putF f y fs))) s'->Q () s'):wpAny (model X.prog X.w) A (setAttr (.ref a) f u) Q E s:=by
 obtain⟨i,O,r,j,_,k⟩:=a7I I.hok e;have v:(fs.map (·.1)).length<=sizeLine:=by rw[fc,kJ];omega
 refine b6I I.kIn O c.sa c.po n.taker c.hd j v λm d l=>h _ ?_;have t:∃ o,m.get? dx=some o:=let ⟨o,_,_,e',_⟩:=d.ns;⟨o,e'⟩
 refine I.write (by rw[e];exact True.intro) (.inr k) (λb q p z=>(l.2 b p).trans z) t ?_;refine⟨by rw[a0x O.ne];exact k,?_,O.ne,d.obj,_,d.ns,λg=>?_,λg B=>?_⟩
 ·have:=a53 f y fs;omega
 ·show RelO _ _
  rw[a51]
  by_cases q:g=f
  ·rw[if_pos q,if_pos q];exact ry
  ·simp_all
 ·by_cases q:g=f
  ·rw[q];exact (a52 f y fs).1
  ·refine (a52 f y fs).2 g (j g λz=>B ?_)
   show (if g=f then some u else i g)=none
   rw[if_neg q];exact z
theorem Inv.made (I:Inv X pins σ H s):Inv X pins σ (upd (upd H s.heap.objs.size (.own (s.heap.objs.size+1))) (s.heap.objs.size+1) (.ins C s.heap.objs.size []))
  { s with heap:=(s.heap.push PySem.W.emptyDict).push (PySem.W.instObj C s.heap.objs.size) }:=by
 have c:(s.heap.push PySem.W.emptyDict).get? s.heap.objs.size=some PySem.W.emptyDict:=Heap.get?_push_size s.heap rfl;have i:((s.heap.push PySem.W.emptyDict).push (PySem.W.instObj C s.heap.objs.size)).get? (s.heap.objs.size+1)=some (PySem.W.instObj C s.heap.objs.size):=by
  have:=Heap.get?_push_size (s.heap.push PySem.W.emptyDict) (o:=PySem.W.instObj C s.heap.objs.size) rfl
  rwa [Heap.size_push]at this
 have g:(s.heap.push PySem.W.emptyDict).Ns s.heap.objs.size _:=⟨PySem.W.emptyDict,#[],_,c,rfl,(λe h=>absurd h (by simp)),λ_=>rfl⟩;have j:=I.laid (o:=.own (s.heap.objs.size+1)) (t':=s.toks) (λb u q=>Heap.get?_push_of_some _ q) (ff _) ⟨_,c⟩;refine j.laid (t':=s.toks) (λb u q=>Heap.get?_push_of_some _ q) (g5 (Heap.size_push _ _)) ?_;have d:s.heap.objs.size≠s.heap.objs.size+1:=fz (jB _);refine⟨by rw[a0x d,a0w],fL _,d,i,λ_=>none,(Heap.Ns1.of_empty g).at λo q=>Heap.get?_push_of_some _ q,λ_=>True.intro,λy f=>absurd rfl f⟩
theorem b6J (hb:lS e f env (eval e env)=eval e env)
  (h:wpAny (model prog w) A (eval e env) (λo sj=>wpAny (model prog w) A (getAttr o f true) Q E sj) E s):wpAny (model prog w) A (eval (.Attribute e f pos) env) Q E s:=
 Attribute_any_ h (by rw[arm_eval_Attribute,hb])
end
def tFld (K:Fg) (ta:TE) (f:Str):TE:=fun σ H Q=>ta σ H λx H1=>∃ a C dx fs v,x=.ref a/\H1 a=some (.ins C dx fs)/\Cls K C/\NoAttr K C f/\fs.lookup f=some v/\Q v H1
def sFld (K:Fg) (ta tv:TE) (f:Str):TS:=λD σ H=>tv σ H λy H1=>ta σ H1 λx H2=>∃ a C dx fs,x=.ref a/\H2 a=some (.ins C dx fs)/\Cls K C/\NoAttr K C f/\fs.length<1000 /\
 D.nx σ (upd H2 a (.ins C dx (putF f y fs)))
def InOp (X:Cx) (op:Operator) (rd:V->V->Hp->VK->Prop):Prop:=
 ∀ (pins:List (Addr×Obj)) (s:Shared) (σ:St) (H:Hp) (x y:V) (u v:Value) (Q:VK),Inv X pins σ H s->RelV x u->RelV y v->rd x y H Q->wpAny (model X.prog X.w) X.A (lw op u v) (EP X pins σ Q) X.xe s
def b6K (K:Fg) (ta tv:TE) (rd:V->V->Hp->VK->Prop) (f:Str):TS:=λD σ H=>ta σ H λx H1=>∃ a C dx fs v,x=.ref a/\H1 a=some (.ins C dx fs)/\Cls K C/\NoAttr K C f/\fs.lookup f=some v /\
 tv σ H1 λy H2=>rd v y H2 λz H3=>∃ dx' fs',H3 a=some (.ins C dx' fs')/\fs'.length<1000/\D.nx σ (upd H3 a (.ins C dx' (putF f z fs')))
section
variable {X:Cx}{o e value:Expr}{f:Str}{pos pos' tpos:Pos}{ta tv:TE}
theorem b8K (he:PE X e ta) (hb:lS e f X.env (eval e X.env)=eval e X.env):PE X (.Attribute e f pos) (tFld X.K ta f):=by
 intro b s σ H Q I h;refine b6J hb (thn (he b s σ H _ I h) λu p ⟨x,d,i,j,a,C,r,w,v,g,m,c,n,l,q⟩=>?_);subst g;obtain rfl:u=Value.ref a:=j;exact a7e i m c n l λy t o k=>⟨v,d,o,k,q⟩
theorem b8L (ha:PE X o ta) (hv:PE X value tv) (hs:lh value (some (.Attribute o f pos')) pos.line X.env=pure false):PS X (.Assign [.Attribute o f pos'] value pos) (sFld X.K ta tv f):=by
 intro b s σ H D I h;refine plainObj_wpAny_Assign_Attribute (thn (hv b s σ H _ I h) λu g ⟨y,d,k,v,q⟩=>thn (ha b g σ d _ k q) λj A ⟨x,B,r,p,a,C,z,E,i,t,c,n,l,m⟩=>?_) hs;subst i;obtain rfl:j=Value.ref a:=p;exact a7f r t c n l v λw e=>⟨σ,_,e,m⟩
theorem b2g (ha:PE X o ta) (hv:PE X value tv) (hop:InOp X op rd):PS X (.AugAssign (.Attribute o f tpos) op value pos) (b6K X.K ta tv rd f):=by
 intro b s σ H D I h;refine wpAny_AugAssign_AttributeAny (thn (ha b s σ H _ I h) λj T ⟨x,e,k,M,a,C,dx,fs,v,B,p,c,n,l,q⟩=>?_);subst B;obtain rfl:j=Value.ref a:=M;refine a7e k p c n l λu J r m=>thn (hv b J σ e _ r q) λi E ⟨y,t,g,w,L⟩=>thn (hop b E σ t v y u i _ g m w L) λU Y ⟨z,H3,N,A,R,S,d,Q,F⟩=>?_;exact a7f N d c n Q A λW G=>⟨σ,_,G,F⟩
end
section
variable {X:Cx}{pins:List (Addr×Obj)}{σ:St}{H:Hp}{s:Shared}{A:Around}{E:Value->Shared->Prop}{Q:Value->Shared->Prop}{c:Value}{b:Bool}
inductive TyOf (K:Fg) (H:Hp):V->Value->Prop where
 | non:TyOf K H .non (.type "NoneType")
 | bl (x:Bool):TyOf K H (.bl x) (.type "bool")
 | int (i:Int):TyOf K H (.int i) (.type "int")
 | str (x:Str):TyOf K H (.str x) (.type "str")
 | flt (x:UInt64):TyOf K H (.flt x) (.type "float")
 | lst {a:Addr} {xs:List V} (e:H a=some (.lst xs)):TyOf K H (.ref a) (.type "list")
 | frz {a:Addr} {o:Obj} {xs:List V} (e:H a=some (.frz o (.lst xs))):TyOf K H (.ref a) (.type "list")
 | tup {a:Addr} {xs:List V} (e:H a=some (.tup xs)):TyOf K H (.ref a) (.type "tuple")
 | dK {a:Addr} {kvs:List (Key×V)} (e:H a=some (.dK kvs)):TyOf K H (.ref a) (.type "dict")
 | dT {a:Addr} {kvs:List (List Key×V)} (e:H a=some (.dT kvs)):TyOf K H (.ref a) (.type "dict")
 | ins {a C dx:Addr} {fs:List (Str×V)} (e:H a=some (.ins C dx fs)) (cl:Cls K C) (ha:PySem.W.findIn K (.ref C) "__class__"=some (some (.builtin "object.__class__")))
   (hn:PySem.W.specialIn K (.builtin "object.__class__") "__get__"=some (some (.builtin "getset_descriptor.__get__"))) (htk:PySem.W.takesIn K (.builtin "object.__class__")=some true)
   (hm:PySem.W.mroIn K C (.type "object")=some true):TyOf K H (.ref a) (.ref C)
theorem a8q (I:Inv X pins σ H s) (rx:RelV x u) (ty:TyOf X.K H x t) (e:PySem.W.kitOne X.K t c=some b) (h:∀ tk,Q (.bool b) { s with toks:=tk }) :
  wpAny (model X.prog X.w) A (call (.builtin "isinstance") [u,c]) Q E s:=by
 cases ty with
 | non=>cases (rx);exact PySem.W.kia_one PySem.W.kitx_none I.kIn True.intro e (λz=>nomatch z) h
 | bl y=>cases (rx);exact PySem.W.kia_one PySem.W.kitx_bool I.kIn True.intro e (λz=>nomatch z) h
 | int i=>obtain⟨t,q⟩:=(rx);cases q;exact PySem.W.kia_one PySem.W.kitx_int I.kIn True.intro e (λz=>nomatch z) h
 | str y=>obtain⟨t,q⟩:=(rx);cases q;exact PySem.W.kia_one PySem.W.kitx_str I.kIn True.intro e (λz=>nomatch z) h
 | flt y=>obtain⟨t,q⟩:=(rx);cases q;exact PySem.W.kia_one PySem.W.kitx_float I.kIn True.intro e (λz=>nomatch z) h
 | @lst a f ea=>
  cases (rx);obtain⟨_,_,n,_,d⟩:=(I.hok a _ ea);exact PySem.W.kia_one PySem.W.kitx_list I.kIn ⟨_,d,rfl⟩ e (λz=>nomatch z) h
 | @frz a ob f ea=>
  cases (rx);obtain⟨_,_,_,n,_,d⟩:=(I.hok a _ ea);exact PySem.W.kia_one PySem.W.kitx_list I.kIn ⟨_,d,rfl⟩ e (λz=>nomatch z) h
 | @tup a f ea=>
  cases (rx);obtain⟨_,_,_,p⟩:=(I.hok a _ ea);obtain⟨o,d,g,_⟩:=p;exact PySem.W.kia_one PySem.W.kitx_tuple I.kIn ⟨o,d,g⟩ e (λz=>nomatch z) h
 | @dK a kvs ea=>
  cases (rx);obtain⟨_,_,l,_,p⟩:=(I.hok a _ ea);obtain⟨o,j,k,d,g,_⟩:=p;exact PySem.W.kia_one PySem.W.kitx_dict I.kIn ⟨o,d,g.1⟩ e (λz=>nomatch z) h
 | @dT a kvs ea=>
  cases (rx);obtain⟨_,_,f,_,o,j,k,d,g,_⟩:=(I.hok a _ ea);exact PySem.W.kia_one PySem.W.kitx_dict I.kIn ⟨o,d,g.1⟩ e (λz=>nomatch z) h
 | @ins a C dx fs ea cl ha hn htk hm=>
  cases (rx);obtain⟨r,O,_⟩:=a7I I.hok ea;obtain⟨m,J,_⟩:=O.look;exact PySem.W.kia_one (PySem.W.kitx_own (cl.get _) cl.hd ha hn htk hm) I.kIn J e (λz=>nomatch z) h
end
structure Room (k:Nat) (A:Around):Prop where
 hd:A.handled=none
 dp:A.depth+3*k+5<recursionLimit
 un:A.units+16*k+200<cLine
theorem Room.mono (r:Room k A) (h:j<=k):Room j A:=⟨r.hd,by have:=r.dp;omega,by have:=r.un;omega⟩
theorem Room.deeper (r:Room (k+1) A) (env:Env):Room k (A.deeper env):=
 ⟨r.hd,by have:=r.dp;show A.depth+1+3*k+5<_;omega,by have:=r.un;show A.units+3+16*k+200<_;omega⟩
theorem Room.in1 (r:Room (k+1) A):Room k A.in1:=
 ⟨r.hd,by have:=r.dp;show A.depth+3*k+5<_;omega,by have:=r.un;show A.units+1+16*k+200<_;omega⟩
theorem b1l {A:Around}:(A.under (.builtin "type.__call__" ⟨.ref C::us,kw⟩)).depth=A.depth+1:=rfl
theorem b1m {A:Around}:(A.under (.builtin "type.__call__" ⟨.ref C::us,kw⟩)).units=A.units+1:=rfl
theorem Room.make (r:Room (k+1) A) (C:Addr) (us:List Value) (kw:List (Str×Value)):Room k (A.under (.builtin "type.__call__" ⟨.ref C::us,kw⟩)):=
 ⟨r.hd,by have:=r.dp;rw[b1l];omega,by have:=r.un;rw[b1m];omega⟩
theorem Room.depth (r:Room k A):A.depth<recursionLimit:=by have:=r.dp;omega
theorem Room.units (r:Room k A):A.units+64<cLine:=by have:=r.un;omega
def tNil:TA:=λ_ H Q=>Q [] H
def c1e (ta:TE) (tr:TA):TA:=fun σ H Q=>ta σ H λx H1=>tr σ H1 λxs H2=>Q (x::xs) H2
section
variable {X:Cx}{e:Expr}{es:List Expr}{te:TE}{t:TA}{pos:Pos}
theorem b8M:PA X [] tNil:=λ_ _ _ _ H Q I h=>Calls.spliced_nil ⟨[],H,I,.nil,h⟩
theorem b6L (ha:PE X e te) (hr:PA X es t) (hs:kj (e::es) X.env=(false,eval e X.env)::kj es X.env:=by rfl):PA X (e::es) (c1e te t):=by
 intro b a s σ H Q I h;rw[hs];refine Calls.spliced_cons (thn (ha a s σ H _ I h) λu j ⟨x,d,k,c,g⟩=>?_);exact thn (hr b a j σ d _ k g) λp o ⟨i,f,l,m,n⟩=>⟨x::i,f,l,.cons c m,n⟩
def tTup (t:TA):TE:=fun σ H Q=>t σ H λxs H1=>xs.length<=ki/\∀ p,H1 p=none->Q (.ref p) (upd H1 p (.tup xs))
def tLst (t:TA):TE:=fun σ H Q=>t σ H λxs H1=>xs.length<=ki/\∀ p,H1 p=none->Q (.ref p) (upd H1 p (.lst xs))
theorem b8N (h:PA X es t):PE X (.Tuple es x1 pos) (tTup t):=by
 intro c s σ H Q I i;refine wpAny_Tuple_spliced (thn (h pos c s σ H _ I i) λk a ⟨g,d,f,r,z,q⟩=>⟨by rw[<- r.length];exact z,?_⟩);have j:=f.hok.fresh (ff _);refine⟨.ref a.heap.objs.size,upd d a.heap.objs.size _,f.laid (λb u e=>Heap.get?_push_of_some _ e) (ff _) ?_,rfl,q _ j⟩;exact⟨z,k,r,⟨_,Heap.get?_push_size _ rfl,rfl,_,rfl⟩⟩
theorem b8O (h:PA X es t):PE X (.List es pos) (tLst t):=by
 intro c s σ H Q I j;refine wpAny_List_spliced (thn (h pos c s σ H _ I j) λi a ⟨k,d,f,r,z,q⟩=>⟨by rw[<- r.length];exact z,?_⟩);have g:=f.hok.fresh (ff _);refine⟨.ref a.heap.objs.size,upd d a.heap.objs.size _,f.laid (λb u e=>Heap.get?_push_of_some _ e) (ff _) ?_,rfl,q _ g⟩;exact⟨z,i,0,r,Heap.get?_push_size _ rfl⟩
end
abbrev Sp:=List V->Hp->VK->XK->Prop
abbrev CXT:=List Env->Hp->Shared->XK->Value->Shared->Prop
structure Env0 (P:kz) (w:World) (K:Fg) (mg:Str->Option Value) (base:Heap) (A:Around) (outer:List Env) (s:Shared) (H:Hp):Prop where
 frames:A.frames=some outer
 mod:Mod K mg base
 bs:∀ b o,base.get? b=some o->s.heap.get? b=some o/\H b=none
 bsz:base.objs.size<=s.heap.objs.size
 funs:s.heap.FunFrames base outer
 frf:∀ b∈frs outer,H b=none
 hok:HOk P w H s.heap
 bare:lb s.gens
def CE (outer:List Env) (P:kz) (w:World) (H:Hp) (s:Shared) (Q:VK) (u:Value) (s':Shared):Prop:=
 ∃ v H',s'.os=s.os/\lb s'.gens/\Un (frs outer) [] H H' s.heap s'.heap/\HOk P w H' s'.heap/\RelV v u/\Q v H'
def CR (CX:CXT) (outer:List Env) (P:kz) (w:World) (H:Hp) (s:Shared) (Q:VK) (E:XK) (r:Result) (s':Shared):Prop:=
 match r with
 | .ok (.ret u)=>CE outer P w H s Q u s'
 | .ok _=>False
 | .error e=>CX outer H s E e s'
structure FnOk (P:kz) (w:World) (K:Fg) (mg:Str->Option Value) (base:Heap) (CX:CXT) (k:Nat) (f:Addr) (fd:kx) (ps:List Str) (sp:Sp):Prop where
 len:∀ vs H Q E,sp vs H Q E->vs.length=ps.length
 run:∀ (A:Around) (outer:List Env) (s:Shared) (H:Hp) (args:Args) (us:List Value) (vs:List V) (Q:VK) (E:XK),Room k A->Env0 P w K mg base A outer s H->lH s fd args (ps.zip us)->Vals vs us->sp vs H Q E ->
  li (model P w) A (.call (.ref f) args) (CR CX outer P w H s Q E) s
theorem FnOk.mono {K:Fg}(F:FnOk P w K mg base CX j f fd ps sp) (h:j<=k) :
  FnOk P w K mg base CX k f fd ps sp:=⟨F.len,λA a s H b c e Q E d=>F.run A a s H b c e Q E (d.mono h)⟩
theorem FnOk.imp {K:Fg}(F:FnOk P w K mg base CX k f fd ps sp)
  (h:∀ vs H Q E,sp' vs H Q E->sp vs H Q E):FnOk P w K mg base CX k f fd ps sp':=
 ⟨λb H Q E q=>F.len b H Q E (h _ _ _ _ q),λA a s H c d b Q E j i g l e=>F.run A a s H c d b Q E j i g l (h _ _ _ _ e)⟩
theorem Env0.make {K:Fg}(e:Env0 P w K mg base A outer s H) (C:Addr) (us:List Value) (kw:List (Str×Value)) :
  Env0 P w K mg base (A.under (.builtin "type.__call__" ⟨.ref C::us,kw⟩)) outer s H:=⟨by first | exact e.frames | (simpa using e.frames),e.mod,e.bs,e.bsz,e.funs,e.frf,e.hok,e.bare⟩
theorem Env0.in1 {K:Fg}(e:Env0 P w K mg base A outer s H) :
  Env0 P w K mg base A.in1 outer s H:=⟨e.frames,e.mod,e.bs,e.bsz,e.funs,e.frf,e.hok,e.bare⟩
section
variable {X:Cx}{pins:List (Addr×Obj)}{σ:St}{H:Hp}{s s':Shared}
theorem Inv.env0 (I:Inv X pins σ H s):Env0 X.prog X.w X.K X.mg X.base X.A X.stack s H:=
 ⟨I.ok.frames,I.ok.mod,I.bs,fx I.ok.bsz I.sz,I.stack,I.stkFree,I.hok,I.bare⟩
theorem Inv.after (I:Inv X pins σ H s) (h:CE X.stack X.prog X.w H s Q u s'):EP X pins σ Q u s':=by
 obtain⟨v,H',j,a,f,c,r,q⟩:=h;obtain⟨i,g,d,t,e⟩:=s';obtain rfl:e=s.os:=j;exact⟨v,H',I.call f c a (λb z=>absurd z (by simp)),r,q⟩
end
def c1f (sp:Sp) (dvs:List V) (E:XK) (t:TA):TE:=fun σ H Q=>t σ H λvs H1=>sp (vs++dvs) H1 Q E
def b4m (C:Addr) (m:Str) (sp:Sp) (dvs:List V) (E:XK) (ta:TE) (t:TA):TE:=fun σ H Q=>ta σ H λx H1=>∃ a dx fs,x=.ref a/\H1 a=some (.ins C dx fs)/\fs.lookup m=none /\
 t σ H1 λvs H2=>sp (x::(vs++dvs)) H2 Q E
def c1g (C:Addr) (sp:Sp) (dvs:List V) (E:XK) (t:TA):TE:=fun σ H Q=>t σ H λvs H1=>∀ x dx,H1 x=none->H1 dx=none->dx≠x ->
 sp (.ref x::(vs++dvs)) (upd (upd H1 dx (.own x)) x (.ins C dx [])) (λv H2=>v=.non/\Q (.ref x) H2) E
def Binds (K:Fg) (fd:kx) (ps:List Str) (ds:List Value):Prop:=
 ∀ (s:Shared) (us:List Value),K.In s.heap->(us++ds).length=ps.length->lH s fd ⟨us,[]⟩ (ps.zip (us++ds))
theorem Binds.all {K:Fg}(h:∀ us:List Value,us.length=ps.length->bindArgs fd ⟨us,[]⟩=pure (ps.zip us)):Binds K fd ps []:=λs b _ a=>by
 rw[fK]at a ⊢;exact .of_eq (h b a)
def a28 (CX:CXT) (X:Cx) (E:XK):Prop:=∀ (pins:List (Addr×Obj)) (σ:St) (H:Hp) (s:Shared) (e:Value) (s':Shared),Inv X pins σ H s->CX X.stack H s E e s'->X.xe e s'
section
variable {X:Cx}{CX:CXT}{k:Nat}{f C:Addr}{fd:kx}{ps:List Str}{sp:Sp}{dvs:List V}{ds:List Value}{E:XK}{x m:Str}{p pos apos:Pos}{e o:Expr}{es:List Expr}{ta:TE}{t:TA}
theorem b2h (F:FnOk X.prog X.w X.K X.mg X.base CX k f fd ps sp) (hr:Room k X.A) (hb:Binds X.K fd ps ds) (hd:Vals dvs ds) (hx:a28 CX X E)
  (I:Inv X pins σ H s) (r:Vals vs us) (h:sp (vs++dvs) H Q E):wpAny (model X.prog X.w) X.A (call (.ref f) us) (EP X pins σ Q) X.xe s:=by
 have b:=r.append hd;have d:(us++ds).length=ps.length:=by rw[<- b.length];exact F.len _ _ _ _ h
 refine lU (lV (F.run X.A X.stack s H ⟨us,[]⟩ (us++ds) _ Q E hr I.env0 (hb s us I.kIn d) b h) λr c a=>?_);cases r with
 | error e=>exact hx pins σ H s e c I a
 | ok fl=>
  cases fl with
  | ret u=>exact I.after a
  | next=>exact fh a
  | brk=>exact fh a
  | cont=>exact fh a
theorem b2i (F:FnOk X.prog X.w X.K X.mg X.base CX k f fd ps sp) (hr:Room k X.A) (hg:Gl X x) (hm:X.mg x=some (.ref f)) (hk:PySem.W.keepIn X.K (.ref f)=true) (hb:Binds X.K fd ps ds) (hd:Vals dvs ds) (hx:a28 CX X E)
  (ha:PA X (e::es) t) (hdb:(x==("__debug__":Str))=false:=by decide) (he:kj (e::es) X.env=(false,eval e X.env)::kj es X.env:=by rfl) (hpl:(backTo pos (kj es X.env)).any (·.1)=false:=by rfl) :
  PE X (.Call (.Name x p) (e::es) [] pos) (c1f sp dvs E t):=by
 intro a s σ H Q I h;refine ma (a5Z I hg hm ?_ hdb);refine PySem.W.callWith_K I.ok.mod.kin hk (thn (ha pos a s σ H _ I h) λi d ⟨c,g,b,r,q⟩=>⟨b.kIn,?_⟩) he hpl;exact b2h F hr hb hd hx b r q
theorem b2j (he:PE X o ta) (c:Cls X.K C) (hm:Meth X.K C m f) (F:FnOk X.prog X.w X.K X.mg X.base CX k f fd ps sp) (hr:Room k X.A) (hb:Binds X.K fd ps ds) (hd:Vals dvs ds) (hx:a28 CX X E) (ha:PA X (e::es) t)
  (hst:kj (e::es) X.env=(false,eval e X.env)::kj es X.env:=by rfl) (hpl:(backTo pos (kj es X.env)).any (·.1)=false:=by rfl)
  (ht:eval (.Call (.Attribute o m apos) (e::es) [] pos) X.env=(do
   let ov <- eval o X.env
   kR apos.atName
   let (f,first) <- kL [ov] (ll ov m pl)
   lB pos f first (backTo pos (kj (e::es) X.env)) (lp pos (lq [] X.env))):=by rfl) :
  PE X (.Call (.Attribute o m apos) (e::es) [] pos) (b4m C m sp dvs E ta t):=by
 intro b s σ H Q I h;refine PySem.W.methodCall_KW (thn (he b s σ H _ I h) λu z ⟨x,p,i,n,a,dx,fs,v,y,l,q⟩=>?_) ht;subst v;obtain rfl:u=Value.ref a:=n;refine a40 i y c hm l ?_;refine PySem.W.callWith_K I.ok.mod.kin hm.kp (thn (ha pos b z σ p _ i q) λus s2 ⟨vs,H2,g,r,B⟩=>⟨g.kIn,?_⟩) hst hpl;exact b2h (vs:=.ref a::vs) F hr hb hd hx g (.cons rfl r) B
theorem b4n (he:PE X o ta) (c:Cls X.K C) (hm:Meth X.K C m f) (F:FnOk X.prog X.w X.K X.mg X.base CX k f fd ps sp) (hr:Room k X.A) (hb:Binds X.K fd ps ds) (hd:Vals dvs ds) (hx:a28 CX X E)
  (ht:eval (.Call (.Attribute o m apos) [] [] pos) X.env=(do
   let ov <- eval o X.env
   kR apos.atName
   let (f,first) <- kL [ov] (ll ov m pl)
   lB pos f first (backTo pos (kj [] X.env)) (lp pos (lq [] X.env))):=by rfl) :
  PE X (.Call (.Attribute o m apos) [] [] pos) (b4m C m sp dvs E ta tNil):=by
 intro b s σ H Q I h;refine PySem.W.methodCall_KW (thn (he b s σ H _ I h) λu j ⟨x,r,d,i,a,p,n,g,e,l,q⟩=>?_) ht;subst g;obtain rfl:u=Value.ref a:=i;refine a40 d e c hm l ?_;exact PySem.W.callWith_K0 d.kIn hm.kp (b2h (vs:=[.ref a]) F hr hb hd hx d (.cons rfl .nil) q)
structure Mk (K:Fg) (C f:Addr):Prop where
 makes:PySem.W.makesIn K C=true
 init:PySem.W.findIn K (.ref C) "__init__"=some (some (.ref f))
 fn:PySem.W.isFn K (.ref f)=true
 kp:PySem.W.keepIn K (.ref C)=true
theorem b4o (M:Mk X.K C f) (F:FnOk X.prog X.w X.K X.mg X.base CX k f fd ps sp) (hr:Room (k+1) X.A) (hb:Binds X.K fd ps ds) (hd:Vals dvs ds)
  (hx:a28 CX X E) (I:Inv X pins σ H s) (r:Vals vs us)
  (h:∀ x dx,H x=none->H dx=none->dx≠x->sp (.ref x::(vs++dvs)) (upd (upd H dx (.own x)) x (.ins C dx [])) (λv H2=>v=.non/\Q (.ref x) H2) E) :
  wpAny (model X.prog X.w) X.A (call (.ref C) us) (EP X pins σ Q) X.xe s:=by
 have d:=h _ s.heap.objs.size (I.hok.fresh (ip _)) (I.hok.fresh (ff _)) (fz (jB _));have b:=Inv.made (C:=C) I;have c:Vals (V.ref (s.heap.objs.size+1)::_) _:=.cons rfl (r.append hd);have g:(Value.ref (s.heap.objs.size+1)::us++ds).length=ps.length:=by
  have e:=c.length;rw[F.len _ _ _ _ d]at e;exact e.symm
 refine lU (b4l I.kIn M.makes M.init (beq_iff_eq.mp M.fn) (lV (F.run _ X.stack _ _ ⟨Value.ref (s.heap.objs.size+1)::us,[]⟩ _ _ _ E (hr.make C us [])
  (b.env0.make C us []) (hb _ _ b.kIn g) c d) λr m a=>?_))
 cases r with
 | error e=>exact hx pins σ _ _ e m b a
 | ok fl=>
  cases fl with
  | ret u=>
   obtain⟨v,H',I3,j,l,i⟩:=b.after a;subst l;exact⟨j,⟨V.ref (s.heap.objs.size+1),H',I3,rfl,i⟩⟩
  | next=>exact fh a
  | brk=>exact fh a
  | cont=>exact fh a
theorem b4p (M:Mk X.K C f) (F:FnOk X.prog X.w X.K X.mg X.base CX k f fd ps sp) (hr:Room (k+1) X.A) (hg:Gl X x) (hm:X.mg x=some (.ref C)) (hb:Binds X.K fd ps ds) (hd:Vals dvs ds) (hx:a28 CX X E)
  (hdb:(x==("__debug__":Str))=false:=by decide):PE X (.Call (.Name x p) [] [] pos) (c1g C sp dvs E tNil):=by
 intro a s σ H Q I h;refine ma (a5Z I hg hm ?_ hdb);exact PySem.W.callWith_K0 I.kIn M.kp (b4o M F hr hb hd hx I .nil h)
end
section
variable {X:Cx}{CX:CXT}{k:Nat}{f C:Addr}{fd:kx}{ps ks:List Str}{sp:Sp}{E:XK}{x m:Str}{p pos apos kpos:Pos}{e o:Expr}{es:List Expr}{kws:List lW}{te ta:TE}{t tk:TA}{nm:Option Str}
variable {g:List Value->List Value->List Value}{gV:List V->List V->List V}
end
structure FnScope (N P:List Str) (sc:Scope):Prop where
 kind:sc.kind=.function
 co:sc.isCoroutine=false
 gen:sc.isGenerator=false
 nd:N.Nodup
 pre:N.take P.length=P
 par:∀ x∈P,sc.names.lookup x=some .local\/sc.names.lookup x=some .cell
 nofree:∀ y∈sc.names,y.2≠.free
theorem a8r {kindOf:Str->Option kD}:∀ {binds:List (Str×Value)}{m:Str->Option Value},(∀ v,(x,v)∉binds)->bindL kindOf binds m x=m x
 | [],_,_=>rfl
 | (n,v)::r,m,h=>by
  unfold bindL;rw[a8r λw a=>h w (fY _ a)]
  split
  ·have:x≠n:=by rintro rfl;exact h v gi
   simp[this]
  ·rfl
theorem a8s {kindOf:Str->Option kD}:∀ {binds:List (Str×Value)}{m:Str->Option Value},(∀ v,(x,v)∉binds)->bindC kindOf binds m x=m x
 | [],_,_=>rfl
 | (n,v)::r,m,h=>by
  unfold bindC;rw[a8s λw a=>h w (fY _ a)]
  split
  ·rfl
  ·have:x≠n:=by rintro rfl;exact h v gi
   simp[this]
theorem a8t {kindOf:Str->Option kD}:∀ {P:List Str}{vs:List Value}{i:Nat}{m:Str->Option Value},P.Nodup->P[i]?=some x->vs[i]?=some v->kindOf x=some .local ->
  bindL kindOf (P.zip vs) m x=some v
 | [],_,_,_,_,h,_,_=>by simp at h
 | _::_,[],_,_,_,_,h,_=>by simp at h
 | p::P,w::vs,0,m,nd,h1,h2,hk=>by
  simp at h1 h2;subst h1;subst h2
  show bindL kindOf (_::P.zip vs) m p=_
  unfold bindL;rw[a8r λv a=>(iq.mp nd).1 (je a).1,if_pos hk];simp
 | p::P,w::vs,i+1,m,nd,h1,h2,hk=>by
  unfold bindL;exact a8t (iq.mp nd).2 (by simpa using h1) (by simp_all) hk
theorem a8u {kindOf:Str->Option kD}:∀ {P:List Str}{vs:List Value}{i:Nat}{m:Str->Option Value},P.Nodup->P[i]?=some x->vs[i]?=some v->kindOf x≠some .local ->
  bindC kindOf (P.zip vs) m x=some v
 | [],_,_,_,_,h,_,_=>by simp at h
 | _::_,[],_,_,_,_,h,_=>by simp at h
 | p::P,w::vs,0,m,nd,h1,h2,hk=>by
  simp at h1 h2;subst h1;subst h2
  show bindC kindOf (_::P.zip vs) m p=_
  unfold bindC;rw[a8s λv a=>(iq.mp nd).1 (je a).1,if_neg hk];simp
 | p::P,w::vs,i+1,m,nd,h1,h2,hk=>by
  unfold bindC;exact a8u (iq.mp nd).2 (by simpa using h1) (by simp_all) hk
noncomputable def start (N:List Str) (vs:List V):St:=vs.map some++fB (N.length - vs.length) none
noncomputable def cxOf (CX:CXT) (P:kz) (w:World) (K:Fg) (mg:Str->Option Value) (base:Heap) (N:List Str) (qual:Str) (scope:Scope) (f:Addr) (cd:Value) (A:Around) (outer:List Env) (s:Shared) (H:Hp) (E:XK):Cx where
 prog:=P
 w:=w
 K:=K
 mg:=mg
 base:=base
 A:=A.deeper (envOfC qual scope s.heap.objs.size f cd)
 N:=N
 s₀:=s
 H₀:=H
 env:=envOfC qual scope s.heap.objs.size f cd
 outer:=outer
 stack:=envOfC qual scope s.heap.objs.size f cd::outer
 ex:=[]
 calm:=true
 fn:=λ_=>true
 pn:=[]
 xe:=λe s'=>wpAny (model P w) (A.deeper (envOfC qual scope s.heap.objs.size f cd)) (md (envOfC qual scope s.heap.objs.size f cd) e) (λ_ s''=>CX outer H s E e s'') (λe' s''=>CX outer H s E e' s'') s'
theorem a5O {sc:Scope}(h:sc.names.lookup x=some .cell):∃ c,(kE n sc.names []).lookup x=some c:=by
 have q:=PySem.W.cellsFrom_some sc.names n [] (.inl h);exact iM.mp q
theorem b2k {K:Fg}
  (S:FnScope N ps scope) (hd:A.handled=none) (e0:Env0 P w K mg base A outer s H) (hl:vs.length=ps.length) (r:Vals vs us)
  (x:InCallC s s.heap.objs.size (bindL (envOfC qual scope s.heap.objs.size f cd).kindOf (ps.zip us) λ_=>none) (kE (s.heap.objs.size+1) scope.names []) (bindC (envOfC qual scope s.heap.objs.size f cd).kindOf (ps.zip us) λ_=>none) s1) :
  Inv (cxOf CX P w K mg base N qual scope f cd A outer s H E) [] (start N vs) H s1:=by
 have G:ps.length<=N.length:=by have:=congrArg fN S.pre;rw[fC]at this;omega
 obtain⟨m,J,rfl,C⟩:=x.done;have l:∀ b:Addr,b∉(cxOf CX P w K mg base N qual scope f cd A outer s H E).ex:=λb z=>absurd (show b∈([]) from z) (by simp);refine⟨⟨e0.mod,S.kind,rfl,rfl,ff _,λy z c m d=>?_,λy g=>?_,λy c _ h=>?_,λ_=>hd,Around.frames_deeper e0.frames,.inr ⟨rfl,rfl⟩,λb z=>absurd z (l b),e0.bs,e0.bsz,λb _ _=>l b,λb z=>absurd z (l b),e0.funs,e0.frf⟩,
  rfl,e0.bare,Un.kept C,⟨_,x.toInCall.ns,λi y v m d I=>?_⟩,λy c h=>⟨_,x.cell y c h⟩,e0.hok.fresh (ff _),λy c h=>?_,λp j=>absurd (show p∈([]) from j) (by simp),e0.hok.kept C,?_⟩
 ·exact name_of_addr x.apart (PySem.mem_of_lookup m) (PySem.mem_of_lookup d)
 ·have g:=g;rcases g with g | g
  ·exact a5O g
  ·exact absurd rfl (S.nofree _ (PySem.mem_of_lookup g))
 ·exact g0 (x.above y c (PySem.mem_of_lookup h))
 ·have o:i<vs.length:=by
   unfold start at d
   by_cases o:i<vs.length
   ·exact o
   ·rw[iN (by simp_all)]at d;rw[List.getElem?_replicate]at d
    split at d<;>cases d
  have F:vs[i]?=some v:=by
   unfold start at d;rw[ir (by simpa using o),fm]at d;cases e:vs[i]? with
   | none=>rw[e]at d;cases d
   | some a=>rw[e]at d;cases d;rfl
  obtain⟨u,B,D⟩:=r.get F;have j:ps[i]?=some y:=by
   rw[<- S.pre,List.getElem?_take_of_lt (by omega)];exact m
  have t:ps.Nodup:=by rw[<- S.pre];exact S.nd.sublist (jf _ _)
  refine⟨u,D,?_⟩;rcases S.par y (fA j) with k | k
  ·exact .inl ⟨k,a8t t j B k⟩
  ·obtain⟨c,e⟩:=a5O k;refine .inr ⟨.inl k,c,e,?_⟩;have q:=x.cell y c e;rw[a8u t j B (by show scope.names.lookup y≠_;rw[k];decide)]at q;exact q
 ·exact e0.hok.fresh (g0 (x.above y c (PySem.mem_of_lookup h)))
 ·unfold start
  show _=N.length
  rw[fu,fc,List.length_replicate];omega
theorem b8P {K:Fg}{dV kV doc pm cdv ct oc:Value}
 (lk:K.lookup f=some ⟨oc,od,.func (PySem.W.fnOf name qual params body scope dV kV doc pm an cdv ct),osl⟩) (hcd:PySem.W.codeIn K cdv qual=true) (S:FnScope N ps scope)
    (len:∀ vs H Q E,sp vs H Q E->vs.length=ps.length)
    (hbody:∀ (A:Around) (outer:List Env) (s:Shared) (H:Hp) (vs:List V) (Q:VK) (E:XK),Room k (A.deeper (envOfC qual scope s.heap.objs.size f cdv))->sp vs H Q E ->
      ∃ t,PSs (cxOf CX P w K mg base N qual scope f cdv A outer s H E) body t/\t { nx:=λ_ H'=>Q .non H',rt:=Q } (start N vs) H) :
    FnOk P w K mg base CX (k+1) f (PySem.W.fnOf name qual params body scope dV kV doc pm an cdv ct) ps sp:=by
  refine⟨len,λA a s H L F m Q E z g R r i=>?_⟩;have M:=len _ _ _ _ i;have C:=g.mod.kin.keeps λb o e=>(g.bs b o e).1;have D:=g.mod.nolimit.keeps λb o e=>(g.bs b o e).1;have h:∀ y∈ps.zip F,scope.names.lookup y.1=some .local\/(scope.names.lookup y.1=some .cell/\((kE (s.heap.objs.size+1) scope.names []).lookup y.1).isSome=true):=λ⟨n,v⟩ G=>by
    rcases S.par n (je G).1 with q | q
    · exact .inl q
    · exact .inr ⟨q,PySem.W.cellsFrom_some _ _ _ (.inl q)⟩
  refine codeAny_call_function z.depth (C _ _ lk) rfl S.co S.gen rfl (PySem.W.codeRec_of C hcd) (R _ _ _ _ ?_);refine wpAny_newFunctionEnv_cells S.kind h λaa Y B x=>?_;subst Y;refine⟨D.keeps x.toInCall.keep,codeAny_func ?_⟩;obtain⟨t,T,U⟩:=hbody A a s H m Q E (z.deeper _) i;have I:Inv (cxOf CX P w K mg base N qual scope f cdv A a s H E) [] _ H B:=b2k S z.hd g M r x;refine kG (T [] B _ H _ I U) (λX p c=>?_) λe p c=>c;have j:∀ {σ':St}{d:Hp}{v:V}{u:Value},Inv (cxOf CX P w K mg base N qual scope f cdv A a s H E) [] σ' d p->RelV v u->Q v d->CE a P w H s Q u p:=
    λ{σ' d v u} J l q=>⟨v,d,J.os,J.bare,J.base,J.hok,l,q⟩
  cases X with
  | ret u=>
    obtain⟨v,σ',d,J,l,q⟩:=c;exact j J l q
  | next=>
    obtain⟨σ',d,J,q⟩:=c;exact j (v:=V.non) J rfl q
  | brk=>
    obtain⟨_,_,_,q⟩:=c;exact fh q
  | cont=>
    obtain⟨_,_,_,q⟩:=c;exact fh q
section
variable {X:Cx}{x:Str}{p pos:Pos}{e:Expr}{es:List Expr}{t:TA}{id T:String}{r:List V->Hp->VK->Prop}
def tCB (r:List V->Hp->VK->Prop) (t:TA):TE:=fun σ H Q=>t σ H λvs H1=>r vs H1 Q
theorem b4q (hc:CallR X (.builtin id) r) (hg:Gl X x) (hm:X.mg x=none) (hv:ls x=some (.builtin id)) (ha:PA X (e::es) t) (hn:x≠"__name__":=by decide) (hdb:(x==("__debug__":Str))=false:=by decide)
  (he:kj (e::es) X.env=(false,eval e X.env)::kj es X.env:=by rfl) (hpl:(backTo pos (kj es X.env)).any (·.1)=false:=by rfl):PE X (.Call (.Name x p) (e::es) [] pos) (tCB r t):=by
 intro a s σ H Q I h;refine ma (a7c I hg hm hv ?_ hn hdb);exact PyProof.Rows.callWith_builtin1 (thn (ha pos a s σ H _ I h) λg c ⟨b,f,i,d,j⟩=>hc a c σ f b g Q i d j) he hpl
theorem b2l (hc:CallR X (.type T) r) (hg:Gl X x) (hm:X.mg x=none) (hv:ls x=some (.type T)) (ha:PA X (e::es) t) (hn:x≠"__name__":=by decide) (hdb:(x==("__debug__":Str))=false:=by decide)
  (he:kj (e::es) X.env=(false,eval e X.env)::kj es X.env:=by rfl) (hpl:(backTo pos (kj es X.env)).any (·.1)=false:=by rfl):PE X (.Call (.Name x p) (e::es) [] pos) (tCB r t):=by
 intro a s σ H Q I h;refine ma (a7c I hg hm hv ?_ hn hdb);exact PyProof.Rows.callWith_type1 (thn (ha pos a s σ H _ I h) λj f ⟨b,g,d,i,c⟩=>hc a f σ g b j Q d i c) he hpl
end
end L2
namespace HT
open PySem PyProof.Rows
section
open PySem.SeqAt
open PySem.AutoSeq1 (wpAny_loadPart')
open PySem.MeetsSeq PySem.MeetsSeq2 PySem.MeetsSeq3
end
section
variable {prog:kz}{w:World}{A:Around}{E:Value->Shared->Prop}{s:Shared}
theorem cat_tup (ht:IsTup s.heap t vs.toArray) (hb:IsTup s.heap b ws.toArray) (hv:vs≠[])
  (h1:ws=[]->Q (.ref t) s) (h2:ws≠[]->Q (.ref s.heap.objs.size) { s with heap:=s.heap.push { cls:=.type "tuple",data:=.seq (vs++ws).toArray } })
  (hsz:vs.length+ws.length<=ki):wpAny (model prog w) A (kI .Add (.ref t) (.ref b)) Q E s:=by
 obtain⟨⟨r,j,p,k⟩,c,l,n,m⟩:=id ht;obtain⟨⟨q,f,o,h⟩,a,g,i,d⟩:=id hb;subst l m g d;have e:vs.toArray++ws.toArray=(vs++ws).toArray:=by simp
 by_cases hw:ws=[]
 ·exact concat_meets ⟨_,c,rfl⟩ ⟨_,a,rfl⟩ noFill_tuple_add seq_tuple_add PySem.F.slot_tuple_add PySem.F.entry_tuple_add (PySem.F.args_tuple_add_2 _ _)
   (tuple_addW1 t b vs.toArray ws.toArray n i j f k h (by simp_all) (by grind)) ⟨c,a,h1 hw⟩
 ·refine concat_meets ⟨_,c,rfl⟩ ⟨_,a,rfl⟩ noFill_tuple_add seq_tuple_add PySem.F.slot_tuple_add PySem.F.entry_tuple_add (PySem.F.args_tuple_add_2 _ _)
   (tuple_addW2 t b vs.toArray ws.toArray n i j f k h (by simp_all) (by simp_all) (by omega)) ⟨c,a,?_⟩
  rw[e];exact h2 hw
noncomputable def sIx (n d:Nat):Option Int->Nat
 | none=>d
 | some v=>if v<0 then (v+(n:Int)).toNat else min v.toNat n
theorem sIx_none (n d:Nat):sIx n d none=d:=rfl
theorem sIx_nat (n d k:Nat):sIx n d (some (k:Int))=min k n:=rfl
theorem c2E (n d:Nat) (hd:d<=n) (o:Option Int):sIx n d o<=n:=by
 cases o with
 | none=>exact hd
 | some v=>
  show (if v<0 then (v+n).toNat else min v.toNat n)<=n
  by_cases hv:v<0
  ·grind
  ·rw[if_neg hv];exact Nat.min_le_right _ _
theorem b2m (v:Int) (n d:Nat):(if v<0 then max (v+(n:Int)) 0 else min v (n:Int))=((sIx n d (some v):Nat):Int):=by grind [sIx]
theorem b1n (lo hi:Option Int) (n:Nat):kF.Slice.sliceAdjust lo hi 1 (n:Int)=(((sIx n 0 lo:Nat):Int),((sIx n n hi:Nat):Int)):=by
 unfold kF.Slice.sliceAdjust;refine Prod.ext ?_ ?_
 ·cases lo with
  | none=>rfl
  | some v=>exact b2m v n 0
 ·cases hi with
  | none=>rfl
  | some v=>exact b2m v n n
theorem b1o (i j:Nat):kF.Slice.slicePlaces (i:Int) (j:Int) 1=j - i:=by
 unfold kF.Slice.slicePlaces;simp
 split<;>omega
theorem a7g (p:IsPart v o) (h:Q o s):wpAny (model prog w) A (kF.Slice.slicePartIndex v) Q E s:=by
 cases p with
 | none=>exact slicePart_none h
 | int i t=>exact slicePart_int h
theorem a5z {lo hi:Option Int}{n:Nat}(hs:s.heap.IsSliceOf sl vl vu .none) (pl:IsPart vl lo) (pu:IsPart vu hi)
  (h:Q (((sIx n 0 lo:Nat):Int),1,sIx n n hi - sIx n 0 lo) s):wpAny (model prog w) A (kF.Slice.sliceApplied (.ref sl) (pure (n:Int))) Q E s:=by
 obtain⟨d,a,c,b⟩:=id hs;refine kh (kh (lI a b rfl (kh (lI a b rfl (kh (lI a b rfl (kA ?_)))))));refine kh (slicePart_none ?_);refine kh (a7g pl (kh (a7g pu (kh (kA ?_)))))
 show wpAny _ _ (match kF.Slice.sliceAdjust lo hi 1 n with | (lo,hi)=>pure (lo,_,kF.Slice.slicePlaces lo hi 1)) _ _ s
 rw[b1n lo hi n]
 show wpAny _ _ (pure _) _ _ s
 rw[b1o];exact kA h
theorem b4r (xs:Array Value) (i k:Nat):((im k).filterMap λ(m:Nat)=>xs[((i:Int)+(m:Int)*1).toNat]?).toArray=((xs.toList.drop i).take k).toArray:=by
 have e:(λ(m:Nat)=>xs[(i+(m:Int)*1).toNat]?)=λm=>xs[i+m]?:=by
  funext m
  have:(i+(m:Int)*1).toNat=i+m:=by omega
  rw[this]
 rw[e]
 have:=pick_run xs i k
 rw[jC]at this;have a:(_∘λx=>i+x)=λm=>xs[i+m]?:=rfl;rw[a]at this;rw[this]
theorem getItem_tuple_cut {lo hi:Option Int}(ht:IsTup s.heap t items) (hs:s.heap.IsSliceOf sl vl vu .none) (pl:IsPart vl lo) (pu:IsPart vu hi)
  (hw:¬ (sIx items.size 0 lo=0/\sIx items.size items.size hi=items.size))
  (h:Q (.ref s.heap.objs.size) { s with heap:=s.heap.push { cls:=.type "tuple",data:=.seq ((items.toList.drop (sIx items.size 0 lo)).take (sIx items.size items.size hi - sIx items.size 0 lo)).toArray } })
  (hsz:items.size<=ki):wpAny (model prog w) A (lX (.ref t) (.ref sl)) Q E s:=by
 have a:sizeOk (.seq ((items.toList.drop (sIx items.size 0 lo)).take (sIx items.size items.size hi - sIx items.size 0 lo)).toArray):=by
  show ((items.toList.drop (sIx items.size 0 lo)).take (sIx items.size items.size hi - sIx items.size 0 lo)).toArray.size<=ki
  rw[fR,fC,gj,g6];omega
 obtain⟨f,d,e,g⟩:=id hs;have b:s.TypeIs (.ref sl) "slice":=⟨f,d,e⟩;unfold lX
 try with_reducible refine kM ?_
 refine kh (wpAny_sequenceKey ht.typeIs (by decide) ?_);refine kh (wpAny_callSpecial?_slot ht.typeIs PyProof.Rows.slot_tuple_getitem
  (me PyProof.Rows.slot_tuple_getitem ht.typeIs entry_tuple_getitem ?_ (args_tuple_getitem _ _)))
 show wpAny _ _ (kF.Tuple.tupleItemsOf _ >>= _) _ _ s
 refine kh (tupleItemsOf_ ht ?_);refine kh (wpAny_typeOf b ?_);refine kh (a5z hs pl pu ?_);have c:¬ ((((sIx items.size 0 lo):Int)==0&&(1:Int)==1&&(sIx items.size items.size hi - sIx items.size 0 lo)==items.size)=true):=by grind
 show wpAny _ _ (if (((sIx items.size 0 lo):Int)==0&&(1:Int)==1&&(sIx items.size items.size hi - sIx items.size 0 lo)==items.size)=true then _ else _) _ _ s
 rw[if_neg c,b4r]
 first
  | exact kh (mJ (kA ⟨_,rfl,kA h⟩) a)
  | exact kh _
  | exact kh _
  | exact kh _
end
end HT
namespace L2
open PySem PySem.Spec PyProof.Rows
abbrev TO:=St->Hp->(Option Int->Hp->Prop)->Prop
def PO (X:Cx) (e:Option Expr) (t:TO):Prop:=
 ∀ (pins:List (Addr×Obj)) (s:Shared) (σ:St) (H:Hp) (Q:Option Int->Hp->Prop),Inv X pins σ H s->t σ H Q ->
  wpAny (model X.prog X.w) X.A (evalPart e X.env) (λu s'=>∃ o H',Inv X pins σ H' s'/\IsPart u o/\Q o H') X.xe s
def b6M:TO:=λ_ H Q=>Q none H
def c1h (t:TE):TO:=fun σ H Q=>t σ H λx H1=>∃ i,x=.int i/\Q (some i) H1
theorem b1p:∀ {us:List Value},Vals (ns.map V.int) us->kS us ns:=by
 induction ns with
 | nil=>intro a r;cases r;exact .nil
 | cons n ns ih=>
  intro a r;cases r with
  | cons r1 r2=>
   obtain⟨t,e⟩:=r1;subst e;exact .cons n t (ih r2)
section
variable {X:Cx}{e:Expr}{te:TE}{lo hi:Option Expr}{tl th:TO}{pos p2:Pos}
theorem b6N:PO X none b6M:=by
 intro a s σ H Q I h;exact kA ⟨none,H,I,.none,h⟩
theorem b6O (h:PE X e te):PO X (some e) (c1h te):=by
 intro a s σ H Q I b;refine thn (h a s σ H _ I b) λu j ⟨x,d,f,c,g⟩=>?_;obtain⟨i,rfl,q⟩:=g;obtain⟨t,rfl⟩:=c;exact⟨some i,d,f,.int i t,q⟩
def SlR (X:Cx) (r:V->Option Int->Option Int->Hp->VK->Prop):Prop:=
 ∀ (pins:List (Addr×Obj)) (s:Shared) (σ:St) (H:Hp) (x:V) (v vl vu:Value) (lo hi:Option Int) (sl:Addr) (Q:VK),Inv X pins σ H s->RelV x v->s.heap.IsSliceOf sl vl vu .none->IsPart vl lo->IsPart vu hi->r x lo hi H Q ->
  ∃ T id,typeLookup (.type T) "__getitem__"=pure (some (.builtin id))/\s.TypeIs v T/\wpAny (model X.prog X.w) X.A (lX v (.ref sl)) (EP X pins σ Q) X.xe s
theorem SlR.or (h:SlR X r) (h':SlR X r'):SlR X (λx lo hi H Q=>r x lo hi H Q\/r' x lo hi H Q):=by
 intro a s σ H x v b k d j c Q I g i e f q;rcases q with q | q
 ·exact h a s σ H x v b k d j c Q I g i e f q
 ·exact h' a s σ H x v b k d j c Q I g i e f q
def tSl (r:V->Option Int->Option Int->Hp->VK->Prop) (te:TE) (tl th:TO):TE:=fun σ H Q=>te σ H λx H1=>tl σ H1 λl H2=>th σ H2 λu H3=>r x l u H3 Q
theorem b4s (hr:SlR X r) (he:PE X e te) (hl:PO X lo tl) (hu:PO X hi th):PE X (.Subscript e (.Slice lo hi none p2) pos) (tSl r te tl th):=by
 intro a s σ H Q I h;refine Subscript_ (thn (he a s σ H _ I h) λv o ⟨x,D,j,t,J⟩=>?_);refine wpAny_Slice (thn (hl a o σ D _ j J) λf B ⟨l,p,m,n,G⟩=>thn (hu a B σ p _ m G) λd c ⟨u,g,y,z,k⟩=>?_);refine kA ?_;have C:Inv X a σ g { c with heap:=c.heap.push { cls:=.type "slice",data:=.fields #[f,d,.none] } }:=y.kept λb L q=>Heap.get?_push_of_some _ q;obtain⟨T,M,F,E,i⟩:=hr a { c with heap:=c.heap.push { cls:=.type "slice",data:=.fields #[f,d,.none] } } σ g x v f d l u c.heap.objs.size Q C t (Heap.IsSliceOf.new ..) n z k;exact tail_any E F i (by with_unfolding_all rfl)
noncomputable def cutV (xs:List V) (lo hi:Option Int):List V:=(xs.drop (HT.sIx xs.length 0 lo)).take (HT.sIx xs.length xs.length hi - HT.sIx xs.length 0 lo)
theorem a54 (xs:List V) (lo hi:Option Int):(cutV xs lo hi).length<=xs.length:=by
 unfold cutV;rw[fC,gj];omega
def rSlT (K:Fg):V->Option Int->Option Int->Hp->VK->Prop:=λx lo hi H Q=>∃ a xs,x=.ref a/\SqT K H a xs /\
 ¬ (HT.sIx xs.length 0 lo=0/\HT.sIx xs.length xs.length hi=xs.length)/\∀ p,H p=none->Q (.ref p) (upd H p (.tup (cutV xs lo hi)))
theorem sl_tup:SlR X (rSlT X.K):=by
 intro p s σ H x v A w e f z Q I k m l t h;obtain⟨a,d,rfl,n,u,q⟩:=h;cases k;obtain⟨j,r,g,i⟩:=I.tuple n;have c:j.toArray.size=d.length:=by rw[fR];exact r.length.symm
 refine⟨"tuple",_,PyProof.Rows.slot_tuple_getitem.lookup,g.typeIs,?_⟩;refine HT.getItem_tuple_cut g m l t (by rw[c];exact u) ?_ (by simp_all);rw[c];refine⟨.ref s.heap.objs.size,_,I.laid (λb y q=>Heap.get?_push_of_some _ q) (ff _) ?_,rfl,q _ (I.hok.fresh (ff _))⟩;exact⟨fx (a54 d e f) i,_,(r.drop _).take _,IsTup.new _ _⟩
def c1i (K:Fg):R2:=λx y H Q=>∃ a b xs ys,x=.ref a/\y=.ref b/\SqT K H a xs/\SqT K H b ys/\xs≠[]/\xs.length+ys.length<=ki /\
 (ys=[]->Q (.ref a) H)/\(ys≠[]->∀ p,H p=none->Q (.ref p) (upd H p (.tup (xs++ys))))
theorem Vals.nil_iff (r:Vals xs us):us=[]↔xs=[]:=by
 cases r with
 | nil=>simp
 | cons _ _=>simp
theorem op_catT:OpR X (kI .Add) (c1i X.K):=by
 intro r s σ H x y v u Q I p B h;obtain⟨a,b,k,j,rfl,rfl,t,g,f,e,m,n⟩:=h;cases p;cases B;obtain⟨C,d,i,_⟩:=I.tuple t;obtain⟨l,c,A,_⟩:=I.tuple g;refine HT.cat_tup i A (λz=>f (d.nil_iff.mp z)) (λz=>⟨.ref a,H,I,rfl,m (c.nil_iff.mp z)⟩) (λz=>?_) (by rw[<- d.length,<- c.length];exact e);refine⟨.ref s.heap.objs.size,_,I.laid (λb D q=>Heap.get?_push_of_some _ q) (ff _) ?_,rfl,n (λw=>z (c.nil_iff.mpr w)) _ (I.hok.fresh (ff _))⟩;exact⟨by rw[fu];exact e,_,d.append c,IsTup.new _ _⟩
end
noncomputable def ixN (n:Nat) (i:Int):Option Nat:=if 0<=i then (if i<n then some i.toNat else none) else if -(n:Int)<=i then some (i+n).toNat else none
noncomputable def atI {α:Type}(xs:List α) (i:Int):Option α:=(ixN xs.length i).bind λj=>xs[j]?
theorem b2n (h:ixN n i=some j):seqIndex? i n=some j/\j<n/\-(n:Int)<=i/\i<n:=by
 unfold ixN at h
 by_cases h0:0<=i
 ·rw[if_pos h0]at h
  by_cases h1:i<n
  ·rw[if_pos h1]at h;have e:=fQ.inj h;exact⟨by rw[mK h0 h1,e],by omega,by omega,h1⟩
  ·simp_all
 ·rw[if_neg h0]at h
  by_cases h1:-n<=i
  ·rw[if_pos h1]at h;have e:=fQ.inj h;exact⟨by rw[mL (by omega) h1,e],by omega,h1,by omega⟩
  ·simp_all
theorem a9A {α:Type}{xs:List α}{v:α}(h:atI xs i=some v):∃ j,seqIndex? i xs.length=some j/\xs[j]?=some v/\j<xs.length/\-(xs.length:Int)<=i/\i<xs.length:=by
 unfold atI at h;cases e:ixN xs.length i with
 | none=>rw[e]at h;cases h
 | some j=>
  rw[e]at h;obtain⟨d,c,b,a⟩:=b2n e;exact⟨j,d,h,c,b,a⟩
theorem a1A {α:Type}{xs:List α}{j:Nat}{v:α}(h:xs[j]?=some v):atI xs (j:Int)=some v:=by
 have a:=(fj.mp h).1;have e:ixN xs.length j=some j:=by
  unfold ixN;rw[if_pos (by simp),if_pos (by omega)];simp
 unfold atI;rw[e];exact h
def b2o (b:Expr):Prop:=∀ o i,subscripted b false o i=operate [o,i] (lX o i)
def IxR (X:Cx) (r:R2):Prop:=
 ∀ (value slice:Expr) (pins:List (Addr×Obj)) (s:Shared) (σ:St) (H:Hp) (x y:V) (v u:Value) (Q:VK),Inv X pins σ H s->RelV x v->RelV y u->r x y H Q ->
  subscripted slice false v u=operate [v,u] (lX v u)->wpAny (model X.prog X.w) X.A (subscriptTail value slice v u) (EP X pins σ Q) X.xe s
def MtR (X:Cx) (id:String) (r:V->List V->Hp->VK->Prop):Prop:=
 ∀ (pins:List (Addr×Obj)) (s:Shared) (σ:St) (H:Hp) (x:V) (xs:List V) (v:Value) (us:List Value) (Q:VK),Inv X pins σ H s->RelV x v->Vals xs us->r x xs H Q ->
  wpAny (model X.prog X.w) X.A (call (.builtin id) (v::us)) (EP X pins σ Q) X.xe s
section
variable {X:Cx}{a b:Expr}{ta tb:TE}{pos:Pos}
theorem IxR.or (h:IxR X r) (h':IxR X r'):IxR X (λx y H Q=>r x y H Q\/r' x y H Q):=by
 intro b a c s σ H x y v u Q I e f q d;rcases q with q | q
 ·exact h b a c s σ H x y v u Q I e f q d
 ·exact h' b a c s σ H x y v u Q I e f q d
theorem MtR.or {id:String}(h:MtR X id r) (h':MtR X id r'):MtR X id (λx xs H Q=>r x xs H Q\/r' x xs H Q):=by
 intro a s σ H x e v b Q I c d q;rcases q with q | q
 ·exact h a s σ H x e v b Q I c d q
 ·exact h' a s σ H x e v b Q I c d q
theorem c1j (hr:IxR X r) (ha:PE X a ta) (hb:PE X b tb) (hs:b2o b):PE X (.Subscript a b pos) (tOp r ta tb):=by
 intro c s σ H Q I h;exact Subscript_ (binT ha hb I h λv u d x y f g i e q=>hr a b c d σ f x y v u Q g i e q (hs _ _))
def rIxL (K:Fg):R2:=λx y H Q=>∃ p xs i v,x=.ref p/\y=.int i/\SqL K H p xs/\atI xs i=some v/\Q v H
def rIxT (K:Fg):R2:=λx y H Q=>∃ p xs i v,x=.ref p/\y=.int i/\SqT K H p xs/\atI xs i=some v/\Q v H
def rIxS:R2:=λx y H Q=>∃ z i c,x=.str z/\y=.int i/\z.length<=ki/\atI z.cps.toList i=some c/\Q (.str ⟨#[c]⟩) H
theorem ix_list:IxR X (rIxL X.K):=by
 intro n m a s σ H x y v u Q I F o h f;obtain⟨p,M,i,z,rfl,rfl,C,J,q⟩:=h;cases F;obtain⟨t,rfl⟩:=o;obtain⟨l,r,d,R⟩:=I.list C;obtain⟨j,b,B,L,D,A⟩:=a9A J;obtain⟨w,g,k⟩:=r.get B;have G:=r.length;have N:=a8p;have c:EP X a σ Q w s:=⟨z,H,I,k,q⟩
 by_cases h0:0<=i
 ·have e:i.toNat=j:=by
   rw[mK h0 A]at b;exact fQ.inj b
  exact item_listR d.isList h0 (by omega) (by rw[e];simpa using g) c f
 ·have e:(i+(l.toArray.size:Int)).toNat=j:=by
   rw[mL (by omega) D]at b;rw[fR,<- G];exact fQ.inj b
  exact mN d.isList.typeIs slot_list_getitem.lookup
   (wpAny_getItem_list_neg d.isList (by omega) (by simp_all) (by omega) (by rw[e];simpa using g) ⟨rfl,c⟩) f
theorem ix_tup:IxR X (rIxT X.K):=by
 intro f e a s σ H x y v u Q I A D h k;obtain⟨p,J,i,z,rfl,rfl,B,C,q⟩:=h;cases A;obtain⟨t,rfl⟩:=D;obtain⟨E,r,d,M⟩:=I.tuple B;obtain⟨j,l,g,G,F,L⟩:=a9A C;obtain⟨w,m,c⟩:=r.get g;have n:=r.length;have N:=a8p;have b:EP X a σ Q w s:=⟨z,H,I,c,q⟩;exact mN d.typeIs slot_tuple_getitem.lookup
  (getItem_tuple d (by omega) (by omega) (by rw[fR,<- n];exact l) (by simp_all) ⟨rfl,b⟩) k
theorem b8Q:IxR X rIxS:=by
 intro b d r s σ H x y v u Q I o f h p;obtain⟨z,i,c,rfl,rfl,A,n,q⟩:=h;obtain⟨t,rfl⟩:=o;obtain⟨C,rfl⟩:=f;obtain⟨j,a,l,D,g,w⟩:=a9A n;have k:z.cps.toList.length=z.length:=by simp[Str.length]
 rw[k]at a g w;have B:=a8p;exact tail_any (lJ s z t) slot_str_getitem.lookup (getItem_str (by grind) (by rw[a];simpa using l) ⟨.str ⟨#[c]⟩,H,I.tok _,⟨_,rfl⟩,q⟩) p
def rIx (K:Fg):R2:=λx y H Q=>rIxL K x y H Q\/rIxT K x y H Q\/rIxS x y H Q
theorem b8R:IxR X (rIx X.K):=ix_list.or (ix_tup.or b8Q)
theorem b1q (its:List Value) (n j:Nat) (u:Value):Obj.mapSeq (·.setIfInBounds j u) { cls:=.type "list",data:=.seq its.toArray n }={ cls:=.type "list",data:=.seq (its.set j u).toArray n }:=by
 simp[Obj.mapSeq]
theorem Inv.lst {pins:List (Addr×Obj)}{σ:St}{H:Hp}{s:Shared}{p:Addr}{xs:List V}(I:Inv X pins σ H s) (h:H p=some (.lst xs)) :
  ∃ (its:List Value) (n:Nat),Vals xs its/\s.heap.get? p=some { cls:=.type "list",data:=.seq its.toArray n }/\xs.length<=sizeLine:=by
 obtain⟨z,a,n,r,e⟩:=I.hok p _ h;exact⟨a,n,r,e,z⟩
theorem Inv.lstUpd {its its':List Value}(I:Inv X pins σ H s) (h:H p=some (.lst xs))
  (ho:s.heap.get? p=some { cls:=.type "list",data:=.seq its.toArray n }) (hf:f { cls:=.type "list",data:=.seq its.toArray n }={ cls:=.type "list",data:=.seq its'.toArray n' }) (r:Vals ys its') (hz:ys.length<=ki) (t:Nat) :
  Inv X pins σ (upd H p (.lst ys)) { s with heap:=s.heap.update p f,toks:=t }:=by
 have e:(s.heap.update p f).get? p=some { cls:=.type "list",data:=.seq its'.toArray n' }:=by
  rw[Heap.get?_update_self f ho (by rw[hf]<;>rfl),hf]
 refine I.write (by rw[h];trivial) (.inl rfl) (λb u a q=>(Heap.get?_update_other _ _ (Ne.symm a)).trans q) ⟨_,e⟩ ?_;exact⟨hz,its',n',r,e⟩
def c1k:V->V->V->Hp->(Hp->Prop)->Prop:=λo i v H Q=>∃ p xs k j,o=.ref p/\i=.int k/\H p=some (.lst xs)/\ixN xs.length k=some j/\Q (upd H p (.lst (xs.set j v)))
theorem b4t:PSet X c1k:=by
 intro d s σ H o i v D F u Q I x z C h;obtain⟨p,y,k,j,rfl,rfl,g,B,q⟩:=h;cases x;obtain⟨t,rfl⟩:=z;obtain⟨b,n,r,f,A⟩:=I.lst g;obtain⟨a,E,m,w⟩:=b2n B;have e:=r.length;have G:=a8p;have l:=
  I.lstUpd g f (b1q b n j u) (r.set C j) (by simp_all) s.toks
 by_cases h0:0<=k
 ·have c:k.toNat=j:=by
   rw[mK h0 w]at a;exact fQ.inj a
  exact PySem.W.ki_setAt f h0 (by omega) (by simp_all) (by rw[c];exact⟨_,l,q⟩)
 ·have c:(k+(b.toArray.size)).toNat=j:=by
   rw[mL (by omega) m]at a;rw[fR,<- e];exact fQ.inj a
  exact PySem.W.ki_setBack f (by omega) (by simp_all) (by omega) (by rw[c];exact⟨_,l,q⟩)
theorem a8v (lo hi:Option Int) (n:Nat):(lC lo hi none n).1=((HT.sIx n 0 lo:Nat):Int)/\(lC lo hi none n).2.1=((HT.sIx n n hi:Nat):Int)/\(lC lo hi none n).2.2=1:=by
 refine⟨?_,?_,rfl⟩
 ·cases lo with
  | none=>simp[lC,HT.sIx]
  | some i=>
   simp only[lC,HT.sIx,jD]
   by_cases h:i<0
   ·grind
   ·grind
 ·cases hi with
  | none=>simp[lC,HT.sIx]
  | some i=>
   simp only[lC,HT.sIx,jD]
   by_cases h:i<0
   ·grind
   ·grind
theorem a7J (its:List Value) (lo hi:Option Int):slicePick its.toArray lo hi none=((its.drop (HT.sIx its.length 0 lo)).take (HT.sIx its.length its.length hi - HT.sIx its.length 0 lo)).toArray:=by
 obtain⟨a,c,b⟩:=a8v lo hi its.toArray.size;unfold slicePick;rw[a,c,b];simp only[sliceRange_one,pick_run]<;>rfl
def rSlL (K:Fg):V->Option Int->Option Int->Hp->VK->Prop:=λx lo hi H Q=>∃ a xs,x=.ref a/\SqL K H a xs/\∀ p,H p=none->Q (.ref p) (upd H p (.lst (cutV xs lo hi)))
theorem sl_list:SlR X (rSlL X.K):=by
 intro p s σ H x v u w d e y Q I m i n j h;obtain⟨a,c,rfl,k,q⟩:=h;cases m;obtain⟨t,r,g,l⟩:=I.list k;have f:=r.length;refine⟨"list",_,slot_list_getitem.lookup,g.isList.typeIs,?_⟩;refine wpAny_getItem_list_slice g.isList i n j .none (by simp) ?_ (by grind);rw[a7J,<- f];refine⟨.ref s.heap.objs.size,_,I.laid (λb z q=>Heap.get?_push_of_some _ q) (ff _) ?_,rfl,q _ (I.hok.fresh (ff _))⟩;exact⟨fx (a54 c d e) l,_,0,(r.drop _).take _,Heap.get?_push_size _ rfl⟩
theorem CallR.or (h:CallR X f r) (h':CallR X f r'):CallR X f (λxs H Q=>r xs H Q\/r' xs H Q):=by
 intro a s σ H c d Q I b q;rcases q with q | q
 ·exact h a s σ H c d Q I b q
 ·exact h' a s σ H c d Q I b q
theorem a8w:CallR X (.type "list") (λxs H Q=>∃ p ys,xs=[.ref p]/\(SqL X.K H p ys\/SqT X.K H p ys)/\∀ l,H l=none->Q (.ref l) (upd H l (.lst ys))):=by
 intro z s σ H C D Q I r h;obtain⟨p,v,rfl,j,q⟩:=h;obtain⟨u,rfl,B⟩:=a3V r;cases B;have k:∀ a,Vals v a->v.length<=ki->∀ c f,_ ->
   c.get? s.heap.objs.size=some { cls:=.type "list",dict:=none,data:=.seq a.toArray f,slots:=#[] }->EP X z σ Q _ { s with heap:=c }:=λa d g c f i e=>
  ⟨.ref s.heap.objs.size,_,I.laid i (ff _) (show ObjOk X.prog X.w _ c _ (.lst v) from ⟨g,a,f,d,e⟩),rfl,q _ (I.hok.fresh (ff _))⟩
 rcases j with j | j
 ·obtain⟨a,d,y,g⟩:=I.list j;have t:=d.length;obtain⟨o,x,A,n,m⟩:=y.isList;exact call_list_seq p (.inl rfl) x A m (λc f i e=>k a d g c f i e) (by grind)
 ·obtain⟨a,d,y,g⟩:=I.tuple j;have t:=d.length;obtain⟨o,x,A,n,m⟩:=y;exact call_list_seq p (.inr rfl) x A m (λc f i e=>k a d g c f i e) (by grind)
theorem a7K:CallR X (.type "tuple") (λxs H Q=>∃ p ys,xs=[.ref p]/\((SqL X.K H p ys/\∀ l,H l=none->Q (.ref l) (upd H l (.tup ys)))\/(SqT X.K H p ys/\Q (.ref p) H))):=by
 intro c s σ H x y Q I r h;obtain⟨p,j,rfl,h⟩:=h;obtain⟨u,rfl,n⟩:=a3V r;cases n;rcases h with ⟨hq,q⟩ | ⟨hq,q⟩
 ·obtain⟨a,f,g,k⟩:=I.list hq;have m:=f.length;refine call_tuple_list g.isList (λd t=>?_) (by grind);have i:Inv X c σ H { s with heap:=d }:=I.kept t;have v:Inv X c σ (upd H d.objs.size (.tup j)) { s with heap:=d.push { cls:=.type "tuple",data:=.seq a.toArray } }:=
   i.laid (λb o e=>Heap.get?_push_of_some _ e) (ff _) (⟨k,a,f,IsTup.new _ _⟩)
  exact⟨.ref d.objs.size,_,v,rfl,q _ (i.hok.fresh (ff _))⟩
 ·obtain⟨a,f,g,k⟩:=I.tuple hq;exact call_tuple_same g ⟨.ref p,H,I,rfl,q⟩
def tyV (K:Fg) (T:String) (x:V) (H:Hp):Prop:=match x with
 | .str _=>T="str"
 | .int _=>T="int"
 | .ref p=>(T="list"/\∃ xs,SqL K H p xs)\/(T="tuple"/\∃ o,K.lookup p=some o/\o.cls=.type "tuple"/\o.dict=none) \/
   (T="dict"/\((∃ kvs,H p=some (.dK kvs))\/(∃ kvs,H p=some (.dT kvs))\/∃ ob kvs,H p=some (.frz ob (.dK kvs))))\/(T="set"/\∃ S n,H p=some (.set S n))
 | _=>False
theorem b8S (I:Inv X pins σ H s) (r:RelV x v) (ty:tyV X.K T x H) :
  s.TypeIs v T/\∀ a,v=.ref a->∃ ob,s.heap.get? a=some ob/\ob.dict=none:=by
 cases x with
 | str z=>
  obtain⟨t,rfl⟩:=r;cases (ty);exact⟨lJ s z t,λ_ e=>nomatch e⟩
 | int i=>
  obtain⟨t,rfl⟩:=r;cases (ty);exact⟨mO s i t,λ_ e=>nomatch e⟩
 | ref p=>
  cases r;rcases ty with ⟨rfl,xs,hq⟩ | ⟨rfl,o,hk,hc,f⟩ | ⟨rfl,hk⟩ | ⟨rfl,S,n,hk⟩
  ·obtain⟨h,_,g,_⟩:=I.list hq;refine⟨g.isList.typeIs,λa e=>?_⟩;cases e;obtain⟨o,n,e,c,f,_⟩:=g;exact⟨o,e,f⟩
  ·refine⟨⟨o,I.kIn p o hk,hc⟩,λa e=>?_⟩;cases e;exact⟨o,I.kIn _ o hk,f⟩
  ·have z:∃ o,s.heap.get? p=some o/\o.ExactDict:=by
    rcases hk with ⟨kvs,hk⟩ | ⟨kvs,hk⟩ | ⟨ob,kvs,hk⟩
    ·obtain⟨_,_,_,_,o,_,_,e,b,_⟩:=I.hok p _ hk;exact⟨o,e,b⟩
    ·obtain⟨_,_,_,_,o,_,_,e,b,_⟩:=I.hok p _ hk;exact⟨o,e,b⟩
    ·obtain⟨_,_,_,_,_,o,_,_,e,b,_⟩:=I.hok p _ hk;exact⟨o,e,b⟩
   obtain⟨o,e,b⟩:=z;refine⟨⟨o,e,b.1⟩,λa d=>?_⟩;cases d;exact⟨o,e,b.2.1⟩
  ·obtain⟨o,_,_,_,e,b,_⟩:=I.hok p _ hk;refine⟨⟨o,e,b.1⟩,λa d=>?_⟩;cases d;exact⟨o,e,b.2.1⟩
 | _=>exact fh ty
def tBM (K:Fg) (T:String) (r:V->List V->Hp->VK->Prop) (to:TE) (t:TA):TE:=fun σ H Q=>to σ H λx H1=>tyV K T x H1/\t σ H1 λxs H2=>r x xs H2 Q
variable {o e:Expr}{es:List Expr}{to:TE}{t:TA}{name:Str}{apos cpos:Pos}{T id:String}{r:V->List V->Hp->VK->Prop}
theorem c1l (pa:PlainAttrs T) (slot:Slot T name id) (hty:typeOf (.builtin id)=pure (.type "method_descriptor")) (hm:MtR X id r) (ho:PE X o to) (ha:PA X (e::es) t)
  (hbase:lS o name X.env (eval o X.env)=eval o X.env:=by rfl)
  (hfew:((backTo cpos (kj (e::es) X.env)).all (λx=>!x.1)&&(lp cpos (lq [] X.env)).all (λx=>x.1.isSome)
   && decide ((e::es).length+([]:List lW).length+(if ([]:List lW).isEmpty then 0 else 1)<30))=true:=by rfl)
  (hline:(apos.endLine==cpos.line)=true:=by rfl) (hs:kj (e::es) X.env=(false,eval e X.env)::kj es X.env:=by rfl) (hplain:(backTo cpos (kj es X.env)).any (·.1)=false:=by rfl) :
  PE X (.Call (.Attribute o name apos) (e::es) [] cpos) (tBM X.K T r to t):=by
 intro a s σ H Q I h;refine wpAny_Call_method_late hbase hfew hline rfl (thn (ho a s σ H _ I h) λv k ⟨x,w,b,c,u,j⟩=>?_);obtain⟨g,n⟩:=b8S b c u;refine⟨T,id,pa,slot,hty,g,n,?_⟩;have d:=ha cpos a k σ w _ b j;rw[hs]at d ⊢;refine Calls.callWith_builtin (by show (false||(backTo cpos _).any _)=false;rw[hplain]<;>rfl) (Calls.evalArgs_plain ?_)
 exact thn d λi m ⟨q,l,y,f,p⟩=>hm a m σ l x q v i Q y c f p
end
def MtM (X:Cx) (id:String) (r:V->List V->Hp->VK->Prop):Prop:=
 ∀ (pins:List (Addr×Obj)) (s:Shared) (σ:St) (H:Hp) (x:V) (xs:List V) (v:Value) (us:List Value) (Q:VK),Inv X pins σ H s->RelV x v->Vals xs us->r x xs H Q ->
  wpAny (model X.prog X.w) X.A (call (.builtin id) (v::us)) (EP X pins σ Q) X.xe s
theorem Vals.one:∀ {x:V}{us:List Value},Vals [x] us->∃ u,us=[u]/\RelV x u
 | _,_,.cons r .nil=>⟨_,rfl,r⟩
theorem Vals.two:∀ {x y:V}{us:List Value},Vals [x,y] us->∃ u v,us=[u,v]/\RelV x u/\RelV y v:=by
 intro x y a h;cases h with
 | cons r h=>cases h with
  | cons q h=>cases h;exact⟨_,_,rfl,r,q⟩
theorem Vals.zero:∀ {us:List Value},Vals [] us->us=[]
 | _,.nil=>rfl
theorem Vals.dropLast (h:Vals xs us):Vals xs.dropLast us.dropLast:=by
 induction h with
 | nil=>exact .nil
 | cons r t ih=>
  cases t with
  | nil=>exact .nil
  | cons q t'=>exact .cons r ih
theorem Vals.eraseIdx:∀ {xs:List V}{us:List Value}(i:Nat),Vals xs us->Vals (xs.eraseIdx i) (us.eraseIdx i)
 | _,_,_,.nil=>.nil
 | _,_,0,.cons _ t=>t
 | _,_,i+1,.cons r t=>.cons r (Vals.eraseIdx i t)
theorem Vals.reverse (h:Vals xs us):Vals xs.reverse us.reverse:=by
 induction h with
 | nil=>exact .nil
 | cons r t ih=>rw[ib,ib];exact Vals.append ih (.cons r .nil)
theorem Vals.rep (h:Vals xs us):∀ k:Nat,Vals (fB k xs).flatten (fB k us).flatten
 | 0=>.nil
 | k+1=>by
  exact Vals.append h (Vals.rep h k)
theorem a8x (its:List Value):∀ (k:Nat) (acc:List Value),
  List.foldl (λx1 x2=>x1++x2) acc.toArray (fB k its.toArray)=(acc++(fB k its).flatten).toArray
 | 0,acc=>by simp
 | k+1,acc=>by
  have e:acc.toArray++its.toArray=(acc++its).toArray:=by simp
  have a:(acc++its)++(fB k its).flatten=acc++(fB (k+1) its).flatten:=by
   rw[iO,iu,fI]
  rw[<- a,<- a8x its k (acc++its),<- e,iO,jE]
section
variable {X:Cx}{pins:List (Addr×Obj)}{σ:St}{H:Hp}{s:Shared}{l b:Addr}{xs ys zs:List V}
theorem Inv.lset {its its':List Value}(I:Inv X pins σ H s) (hH:H l=some (.lst xs))
  (e:s.heap.get? l=some { cls:=.type "list",data:=.seq its.toArray n }) (hf:f its.toArray=its'.toArray) (hv:Vals ys its') (hz:ys.length<=ki) :
  Inv X pins σ (upd H l (.lst ys)) { s with heap:=s.heap.update l (Obj.mapSeq f),toks:=t' }:=by
 have q:=PySem.IsL.update e f;rw[hf]at q;refine I.write (by rw[hH];exact trivial) (.inl rfl) (λc u a b=>(Heap.get?_update_other s.heap _ (Ne.symm a)).trans b) ⟨_,q⟩ ?_;exact⟨hz,its',_,hv,q⟩
theorem Inv.lnew (I:Inv X pins σ H s) (hv:Vals ys its) (hz:ys.length<=ki) :
  Inv X pins σ (upd H s.heap.objs.size (.lst ys)) { s with heap:=s.heap.push { cls:=.type "list",data:=.seq its.toArray },toks:=t' }:=
 I.laid (λ_ _ q=>Heap.get?_push_of_some _ q) (ff _) ⟨hz,its,0,hv,Heap.get?_push_size _ rfl⟩
theorem Inv.fresh (I:Inv X pins σ H s):H s.heap.objs.size=none:=I.hok.fresh (ff _)
theorem Inv.lstM (I:Inv X pins σ H s) (hH:H l=some (.lst xs)):xs.length<=ki/\∃ (its:List Value) (n:Nat),Vals xs its/\xs.length=its.length/\s.heap.get? l=some { cls:=.type "list",data:=.seq its.toArray n }:=by
 obtain⟨z,a,n,r,e⟩:=I.hok l _ hH;exact⟨z,a,n,r,r.length,e⟩
theorem b0p (h:n<=ki):kF.List.listTooLong n=false:=decide_eq_false (by omega)
end
section
variable {X:Cx}
def b6P:V->List V->Hp->VK->Prop:=λx vs H Q=>∃ l xs y,x=.ref l/\vs=[y]/\H l=some (.lst xs)/\xs.length<ki/\Q .non (upd H l (.lst (xs++[y])))
theorem a8y:MtM X "list.append" b6P:=by
 intro c s σ H x k v o Q I f d h;obtain⟨l,j,y,rfl,rfl,b,i,q⟩:=h;cases f;obtain⟨u,rfl,g⟩:=d.one;obtain⟨z,a,n,r,m,e⟩:=I.lstM b;refine lY F.slot_list_append ⟨_,e,rfl⟩ F.entry_list_append (F.args_list_append_2 _ _) (PySem.list_append l a.toArray n u (by grind)) ⟨e,?_⟩;refine⟨.non,_,I.lset b e (by simp) (r.append (.cons g .nil)) ?_,rfl,q⟩;rw[fu,iP];omega
def b6Q:V->List V->Hp->VK->Prop:=λx vs H Q=>∃ l b xs zs,x=.ref l/\vs=[.ref b]/\H l=some (.lst xs)/\H b=some (.lst zs)/\xs.length+zs.length<=ki/\Q .non (upd H l (.lst (xs++zs)))
theorem b2p:MtM X "list.extend" b6Q:=by
 intro k s σ H x A v C Q I i j h;obtain⟨l,b,B,E,rfl,rfl,f,t,G,q⟩:=h;cases i;obtain⟨u,rfl,p⟩:=j.one;cases p;obtain⟨z,c,n,r,D,e⟩:=I.lstM f;obtain⟨J,a,w,m,y,o⟩:=I.lstM t;have g:c.toArray.size+a.toArray.size<=sizeLine:=by grind
 have d:¬ (!c.toArray.isEmpty&&kF.List.listTooLong (c.toArray.size+a.toArray.size))=true:=by
  rw[b0p g,gL];exact fH
 refine lY F.slot_list_extend ⟨_,e,rfl⟩ F.entry_list_extend (F.args_list_extend_2 _ _)
  (AutoSeq1.list_extend_list_list_0 l c.toArray n b a.toArray w d (by grind) (by omega)) ⟨e,o,?_⟩
 refine⟨.non,_,I.lset f e (by simp) (r.append m) ?_,rfl,q⟩;rw[fu];omega
def rCat:R2:=λx y H Q=>∃ l b xs zs,x=.ref l/\y=.ref b/\H l=some (.lst xs)/\H b=some (.lst zs)/\xs.length+zs.length<=ki/\∀ p,H p=none->Q (.ref p) (upd H p (.lst (xs++zs)))
theorem b8T:OpR X (kI .Add) rCat:=by
 intro i s σ H x y v u Q I f k h;obtain⟨l,b,C,w,rfl,rfl,m,d,A,q⟩:=h;cases f;cases k;obtain⟨z,c,n,r,t,e⟩:=I.lstM m;obtain⟨B,a,D,o,p,g⟩:=I.lstM d;refine PySem.P.add_list e g ?_ (by grind);have j:c.toArray++a.toArray=(c++a).toArray:=by simp
 rw[j];exact⟨.ref _,_,I.lnew (r.append o) (by grind),rfl,q _ I.fresh⟩
def rRep:R2:=λx y H Q=>∃ l k xs,x=.ref l/\y=.int k/\H l=some (.lst xs)/\-(2 ^ 63)<=k/\k<2 ^ 63/\xs.length*k.toNat<=ki /\
 ∀ p,H p=none->Q (.ref p) (upd H p (.lst (fB k.toNat xs).flatten))
theorem b6R {α:Type}(xs:List α) (k:Nat):(fB k xs).flatten.length=k*xs.length:=by simp
theorem b8U:OpR X (kI .Mult) rRep:=by
 intro A s σ H x y v u Q I G w h;obtain⟨l,k,M,rfl,rfl,L,D,C,p,q⟩:=h;cases G;obtain⟨t,rfl⟩:=w;obtain⟨z,b,n,r,J,e⟩:=I.lstM L;have g:b.toArray.size*k.toNat<=sizeLine:=by simp_all
 have d:¬ b.toArray.size*k.toNat > (2 ^ 63 - 1) / 8:=by
  have:ki<=(2 ^ 63 - 1) / 8:=by decide
  omega
 have j:¬ (!kF.List.listFitsIndex k)=true:=by
  rw[fitsIndex_both D C];exact fH
 have c:¬ kF.List.listTooLong (b.toArray.size*k.toNat)=true:=by
  rw[b0p g];exact fH
 have i:List.foldl (λf o=>f++o) #[] (fB (if b.toArray.isEmpty=true then 0 else k.toNat) b.toArray)=(fB k.toNat b).flatten.toArray:=by
  have B:=λm=>by
   have:=a8x b m []
   rw[g7]at this;exact this
  rw[B];cases b with
  | nil=>simp
  | cons a r'=>rw[if_neg (by simp)]
 refine wpAny_binaryOp_repeat_ref (by simp) ⟨_,e,rfl⟩ (λE=>mO E k t) noFill_list_mul F.fills_int_mul F.slot_int_rmul repeat_list F.slot_int_index.lookup
  (lY F.slot_int_rmul (mO s k t) F.entry_int_rmul (F.args_int_rmul_2 _ _) (int___rmul___int_list k t l b.toArray n)
   ⟨e,rfl,⟨_,e,rfl⟩,lY F.slot_list_mul ⟨_,e,rfl⟩ F.entry_list_mul (F.args_list_mul_2 _ _) (AutoListH.list___mul___list_int_3 l b.toArray n k t j d c) ⟨e,?_⟩⟩)
 rw[i];exact⟨.ref _,_,I.lnew (r.rep k.toNat) (by rw[b6R,Nat.mul_comm];exact p),rfl,q _ I.fresh⟩
end
section
variable {prog:kz}{w:World}{A:Around}{E:Value->Shared->Prop}{s:Shared}
end
section
variable {X:Cx}
end
end L2
namespace Att
open PySem PySem.W PySem.Calls PyProof.Rows
theorem a55:∀ (ns:List Int) (vs:List Value),WellAll P h vs (ns.map WData.int)->kS vs ns:=by
 intro c
 induction c with
 | nil=>
  intro d w;cases w;exact .nil
 | cons n c ih=>
  intro d w;cases w with
  | cons a b=>
   cases a;exact .cons _ _ (ih _ b)
theorem b2q {l:OpenLaw}(hn:l.most=some n)
  (hpre:l.row.toRowW.claim.pre args=true) (hwl:WellAll P h vals args) :
  ∃ a vs ns,vals=[Value.ref a]/\args=[WData.list (ns.map WData.int)]/\h.get? a=some { cls:=.type "list",data:=.seq vs.toArray }/\kS vs ns/\ns.length<=n:=by
 have i:=(pre_splitW hpre).1;have g:l.pre.holds [] { args:=args }=true:=(pre_splitW hpre).2;obtain⟨d,r,rfl,j,m⟩:=hasAllW_cons i;obtain rfl:=hasAllW_nil m;obtain⟨p,rfl,o⟩:=hasW_list j;obtain⟨b,rfl⟩:=items_int o;have f:b.length<=n:=by
  have c:(WTm.not (.lt (.lit (.int n)) (.len (.arg 0)))).holds [] { args:=[.list (b.map .int)] }=true:=by
   have c:=(holds_andW g).1;rw[hn]at c;exact c
  have e:=condW_of c (w_not (w_lt w_lit (w_len_list (w_arg rfl))))
  first
   | (rw[decide_eq_true k]at e;exact absurd e (by simp))
   | (simp at e;omega)
 cases hwl with
 | cons w1 w2=>
  cases w2;cases w1 with
  | list ho hall=>exact⟨_,_,b,rfl,rfl,ho,a55 b _ hall,f⟩
theorem b2r (l:OpenLaw) (args:List WData):l.row.toRowW.claim.post args (.bool true) args=true:=
 postW_of
  (show WShape.has [] _ .bool=true by first | rfl | decide | simp)
  (w_eq_bool (w_res rfl) w_lit) rfl
theorem attach_call {l:OpenLaw}
  (hn:l.most=some n) (hdf:d.params.defaults=[])
  (call:∀ (w:World) (s₀ sj:Shared) (mg mb:Str->Option Value) (fa:Addr) (o:Obj) (pm cd doc:Value) (a:Addr) (vs:List Value) (ns:List Int),
   Ground q loose [] XP w s₀ mg mb sj.heap->YP w sj.heap ->
   sj.heap.get? fa=some o->o.data=.func (docDef d.name d.params d.body d.scope pm cd doc)->sj.heap.CodeRec cd d.name->mg d.name=some (.ref fa) ->
   sj.heap.get? a=some { cls:=.type "list",data:=.seq vs.toArray }->kS vs ns->ns.length<=n->sj.gens=#[] ->
   li (model l.prog w) lD (.call (.ref fa) ⟨[.ref a],[]⟩) (λr s'=>r=.ok (.ret (.bool true))/\OldK sj.heap s'.heap/\s'.os=sj.os/\lb s'.gens) sj) :
  WalkO q loose XP YP l.row.toRowW d [] (λf vs=>PySem.call f vs):=by
 intro w C s D y G Y x o F v i Q H L B k h j N u J U c A S m T;obtain rfl:Q=.none:=Dflts.none h hdf;obtain rfl:H=.none:=Dflts.noKw h;obtain⟨a,I,E,rfl,rfl,g,b,e⟩:=b2q hn c m;refine enter_call (lV (call w C s D y x o F v i a I E G Y L (fd_plain B) k j g b e N) λr V R=>?_);obtain⟨rfl,t,z,M⟩:=R;exact⟨.inl ⟨.bool true,.bool true,[],rfl,λ_=>rfl,.bool true,b2r l _,λ_=>⟨gn.nil,λ_ p=>(nomatch p)⟩⟩,t,z,M⟩
section
variable {prog:kz}{w:World}{A:Around}{E:Value->Shared->Prop}{s:Shared}{K:Frag}
end
end Att
namespace L2
open PySem PySem.Spec PyProof.Rows
theorem a8z:∀ {vs:List Value}{ns:List Int},kS vs ns->Vals (ns.map V.int) vs
 | _,_,.nil=>.nil
 | _,_,.cons n t h=>.cons ⟨t,rfl⟩ (a8z h)
def Only (H:Hp):Prop:=∀ b,H b=none\/∃ o xs,H b=some (.frz o (.lst xs))
theorem b4u {K:Fg}
  (KX:K.In sj.heap) (hns:sj.heap.Ns ku mg) (hb:sj.heap.Ns my mb) (hbb:∀ x:Str,x≠"__name__"->mb x=ls x) (hlim:sj.heap.NoLimit) (hg:sj.gens=#[])
  (ha:sj.heap.get? a=some { cls:=.type "list",data:=.seq vs.toArray }) (hi:kS vs ns) (hl:ns.length<=ki) (hr:Room k lD)
  (F:∀ base:Heap,K.In base->base.Ns ku mg->FnOk P w K mg base CX k fa fd [x] sp) (hbind:∀ (s:Shared) (u:Value),lH s fd ⟨[u],[]⟩ [(x,u)])
  (hsp:∀ H:Hp,Only H->SqL K H a (ns.map V.int)->sp [.ref a] H (λv _=>v=.bl true) λ_ _ _=>False)
  (hCX:∀ H e s',CX [] H sj (λ_ _ _=>False) e s'->False) :
  li (model P w) lD (.call (.ref fa) ⟨[.ref a],[]⟩) (λr s'=>r=.ok (.ret (.bool true))/\OldK sj.heap s'.heap/\s'.os=sj.os/\lb s'.gens) sj:=by
 have L:=a8z hi;have E:=hi.length;have p:∀ H:Hp,Only H->SqL K H a (ns.map V.int)->HOk P w H sj.heap->(∀ b,H b≠none->b=a)->(H a≠none->K.lookup a=none) ->
   li (model P w) lD (.call (.ref fa) ⟨[.ref a],[]⟩) (λr j=>r=.ok (.ret (.bool true))/\OldK sj.heap j.heap/\j.os=sj.os/\lb j.gens) sj:=by
  intro H I R y G X;have f:∀ {b:Addr}{o:Obj},sj.heap.get? b=some o->H b=none->(hidT sj.heap H).get? b=some o:=λe n=>b4e e n;have N:∀ {b:Addr}{o:Obj}{i:Array mI}{l:Nat},sj.heap.get? b=some o->o.data=.dict i l->H b=none:=λ{b o i l} e d=>by grind
  have g:∀ {b:Addr}{m:Str->Option Value},sj.heap.Ns b m->(hidT sj.heap H).Ns b m:=λ{b m} ⟨o,i,l,e,d,r⟩=>⟨o,i,l,f e (N e d),d,r⟩;have A:=λb o e=>f (KX b o e) (by grind);have T:Mod K mg (hidT sj.heap H):=⟨A,g hns,⟨mb,g hb,hbb⟩,let ⟨mc,h1,h2⟩:=hlim;⟨mc,g h1,h2⟩⟩;have U:Env0 P w K mg (hidT sj.heap H) lD [] sj H:=⟨rfl,T,λb o e=>b6w e,g5 (b10 _ _),trivial,λb hb=>absurd (show b∈([]) from hb) (by simp),y,.of_eq hg⟩;refine lV ((F _ A (g hns)).run lD [] sj H ⟨[.ref a],[]⟩ [.ref a] [.ref a] _ _ hr U (hbind sj (.ref a)) (.cons rfl .nil) (hsp H I R)) λr j h=>?_;cases r with
  | error e=>exact (hCX H e j h).elim
  | ok fl=>
   cases fl with
   | next=>exact fh h
   | brk=>exact fh h
   | cont=>exact fh h
   | ret u=>
    obtain⟨v,H',Q,C,J,B,S,q⟩:=h;have q':=q;subst q';obtain rfl:u=Value.bool true:=S;refine⟨rfl,OldK.of_keep λb o e=>?_,Q,C⟩;cases q:H b with
    | none=>exact J.keep b o e q (by intro z;exact absurd (show b∈([]) from z) (by simp)) (by simp)
    | some u=>
     rcases I b with z | ⟨ob,xs,z⟩
     ·rw[q]at z;cases z
     ·have z2:=J.frzs b ob _ z;obtain⟨M,_⟩:=y b _ z;obtain⟨Y,_⟩:=B b _ z2;rw[e]at M;cases M;exact Y
 cases hk:K.lookup a with
 | some o=>
  have e:=KX a o hk;rw[ha]at e;cases e;refine p _ (λ_=>.inl rfl) (.inr ⟨_,vs.toArray,_,hk,rfl,rfl,rfl,by rw[fR,E];exact hl,by simpa using L⟩) (λb u z=>by have t:=z;cases t) (λb z=>absurd rfl z) λz=>absurd rfl z
 | none=>
  refine p (λb=>if b=a then some _ else none) (λb=>?_) (.inl (.inr ⟨{ cls:=.type "list",data:=.seq vs.toArray },if_pos rfl⟩)) (λb u z=>?_) (λb z=>?_) λ_=>hk
  ·grind
  ·by_cases hb:b=a
   ·have t:=(if_pos hb).symm.trans z;cases t;subst hb;exact⟨ha,by rw[fc];exact hl,vs,_,L,ha⟩
   ·have t:=(if_neg hb).symm.trans z;cases t
  ·by_cases hb:b=a
   ·exact hb
   ·exact absurd (if_neg hb) z
theorem walk_of {l:PySem.W.OpenLaw}{K:Params->Fg}{CX:World->CXT}{sp:World->Sp}
  (hn:l.most=some n) (hn2:n<=ki) (hdf:d.params.defaults=[]) (hr:Room k lD)
  (hY:∀ (w:World) (h:Heap),YP w h->(K w.params).In h)
  (F:∀ (w:World) (mg:Str->Option Value) (fa:Addr) (h:Heap),(K w.params).In h->h.Ns ku mg->mg d.name=some (.ref fa) ->
   ∃ fd:kx,(∀ (s:Shared) (u:Value),lH s fd ⟨[u],[]⟩ [(x,u)]) /\
    ∀ base:Heap,(K w.params).In base->base.Ns ku mg->FnOk l.prog w (K w.params) mg base (CX w) k fa fd [x] (sp w))
  (hsp:∀ (w:World) (H:Hp) (a:Addr) (ns:List Int),ns.length<=n->Only H->SqL (K w.params) H a (ns.map V.int)->sp w [.ref a] H (λv _=>v=.bl true) λ_ _ _=>False)
  (hCX:∀ (w:World) (H:Hp) (s:Shared) (e:Value) (s':Shared),CX w [] H s (λ_ _ _=>False) e s'->False) :
  PySem.W.WalkO q loose XP YP l.row.toRowW d [] (λf vs=>PySem.call f vs):=by
 refine Att.attach_call hn hdf λw N r y U B o R Q J a S z G Y X M L p j i c D=>?_;have m:=hY w _ Y;obtain⟨fd,C,A⟩:=F w y B _ m G.T.g p;exact b4u m G.T.g G.T.b G.T.builtins G.T.nolimit D j i (fx c hn2) hr A C (λH I E=>hsp w H a z c I E) λH e t=>hCX w H r e t
noncomputable def a1B (s:Stmt) (j:Nat):Stmt:=match s with
 | .ClassDef _ _ _ body _ _ _ _ _ _ _=>body.getD j (.Pass ⟨0,0,0,0⟩)
 | _=>.Pass ⟨0,0,0,0⟩
def a3W (s:Stmt):Arguments:=match s with
 | .FunctionDef _ a _ _ _ _ _ _ _ _=>a
 | _=>{ posonlyargs:=[],args:=[],vararg:=none,kwonlyargs:=[],kw_defaults:=[],kwarg:=none,defaults:=[] }
noncomputable def a2s (s:Stmt):List Stmt:=match s with
 | .FunctionDef _ _ b _ _ _ _ _ _ _=>b
 | _=>[]
noncomputable def a0h (s:Stmt):Scope:=match s with
 | .FunctionDef _ _ _ _ _ _ sc _ _ _=>sc
 | _=>{ kind:=.function,names:=[],isGenerator:=false,isCoroutine:=false }
abbrev CX0:CXT:=λ_ _ _ _ _ _=>False
abbrev E0:XK:=λ_ _ _=>False
theorem b4v:a28 CX0 X E0:=λ_ _ _ _ _ _ _ h=>h.elim
structure Fun (K:Fg) (x qual:Str) (st:Stmt) (f:Addr) (fd:kx):Prop where
 ex:∃ (oc:Value) (od:Option Addr) (kV doc pm:Value) (an:Option Addr) (cdv ct:Value) (osl:Array (Option Value)),
  fd=PySem.W.fnOf x qual (a3W st) (a2s st) (a0h st) .none kV doc pm an cdv ct/\K.lookup f=some ⟨oc,od,.func fd,osl⟩/\PySem.W.codeIn K cdv qual=true
 kp:PySem.W.keepIn K (.ref f)=true
section
variable {P:kz}{w:World}{K:Fg}{mg:Str->Option Value}{base:Heap}
theorem Fun.ok {st:Stmt}(F:Fun K x qual st f fd) (S:FnScope N ps (a0h st)) (len:∀ vs H Q E,sp vs H Q E->vs.length=ps.length)
  (hbody:∀ (cdv:Value) (A:Around) (outer:List Env) (s:Shared) (H:Hp) (vs:List V) (Q:VK) (E:XK),Room k (A.deeper (envOfC qual (a0h st) s.heap.objs.size f cdv))->sp vs H Q E ->
   ∃ t,PSs (cxOf CX0 P w K mg base N qual (a0h st) f cdv A outer s H E).nox (a2s st) t/\t { nx:=λ_ H'=>Q .non H',rt:=Q } (start N vs) H):FnOk P w K mg base CX0 (k+1) f fd ps sp:=by
 obtain⟨n,u,r,l,m,o,c,p,j,rfl,i,d⟩:=F.ex;refine b8P i d S len λA a s H g Q E e b=>?_;obtain⟨t,h,q⟩:=hbody c A a s H g Q E e b;exact⟨t,h.nox,q⟩
theorem Fun.binds {st:Stmt}(F:Fun K x qual st f fd)
  (h:∀ (kV doc pm:Value) (an:Option Addr) (cdv ct:Value) (us:List Value),us.length=ps.length->bindArgs (PySem.W.fnOf x qual (a3W st) (a2s st) (a0h st) .none kV doc pm an cdv ct) ⟨us,[]⟩=pure (ps.zip us)):Binds K fd ps []:=by
 obtain⟨k,l,g,a,e,d,b,c,i,rfl,m,j⟩:=F.ex;exact .all (h g a e d b c)
theorem b5K {st:Stmt}{kV doc pm cdv ct:Value}(l:K.lookup f=some ⟨oc,od,.func (PySem.W.fnOf x qual (a3W st) (a2s st) (a0h st) .none kV doc pm an cdv ct),osl⟩)
  (c:PySem.W.codeIn K cdv qual=true) (k:PySem.W.keepIn K (.ref f)=true):Fun K x qual st f (PySem.W.fnOf x qual (a3W st) (a2s st) (a0h st) .none kV doc pm an cdv ct):=⟨⟨oc,od,kV,doc,pm,an,cdv,ct,osl,rfl,l,c⟩,k⟩
end
theorem a0u (h:n<=1000):n<sizeLine:=iw h (by decide)
section
variable {X:Cx}
theorem pv (i:Nat) (hN:X.N[i]?=some x:=by rfl) (hv:Vis X.env.scope x:=by first | exact fb rfl | exact gA (fb rfl) | exact gA (gA rfl)) (hd:(x==("__debug__":Str))=false:=by decide)
  (hcd:(x==("__classdict__":Str))=false:=by decide):PE X (.Name x pos) (tVar i):=b8j hN hv hd hcd
end
def Same (H H':Hp):Prop:=∀ b o,H b=some o->H' b=some o
theorem Same.refl (H:Hp):Same H H:=λ_ _ h=>h
theorem Same.trans (a:Same H H1) (b:Same H1 H2):Same H H2:=λc o h=>b c o (a c o h)
theorem Same.free (e:Same H H') (h:H' l=Option.none):H l=Option.none:=by
 cases q:H l with
 | none=>rfl
 | some o=>
  rw[e l o q]at h;cases h
theorem Same.seq {K:Fg}(e:Same H H') (h:SqL K H a xs):SqL K H' a xs:=by
 rcases h with (h | ⟨o,h⟩) | h
 ·exact .inl (.inl (e _ _ h))
 ·exact .inl (.inr ⟨o,e _ _ h⟩)
 ·exact .inr h
section
variable {κ:Type}[DecidableEq κ]
noncomputable def valV (kvs:List (κ×V)) (k:κ):Option V:=(kvs.find? λkv=>decide (kv.1=k)).map (·.2)
noncomputable def putK (kvs:List (κ×V)) (k:κ) (v:V):List (κ×V):=
 if (kvs.any λkv=>decide (kv.1=k))=true then kvs.map (λkv=>if kv.1=k then (kv.1,v) else kv) else kvs++[(k,v)]
def b8V (kvs:List (κ×V)) (k:κ):List (κ×V):=kvs.filter λkv=>decide (kv.1≠k)
theorem a7L {k:κ}(e:p.1=k):valV (p::r) k=some p.2:=by simp[valV,gM,e]
theorem a7M {k:κ}(e:¬ p.1=k):valV (p::r) k=valV r k:=by simp[valV,gM,e]
theorem a7N (k:κ):∀ kvs:List (κ×V),(kvs.any λkv=>decide (kv.1=k))=(valV kvs k).isSome
 | []=>rfl
 | p::r=>by
  rw[iy]
  by_cases e:p.1=k
  ·simp only[a7L e,decide_eq_true e,Bool.true_or,Option.isSome_some]
  ·rw[a7M e,decide_eq_false e,Bool.false_or];exact a7N k r
theorem a18 (kvs:List (κ×V)) (k:κ) (v:V):(putK kvs k v).length<=kvs.length+1:=by grind [putK]
theorem RelO.isSome_eq (r:RelO o u):o.isSome=u.isSome:=by
 cases o with
 | none=>cases u with
  | none=>rfl
  | some _=>exact (r).elim
 | some _=>cases u with
  | none=>exact (r).elim
  | some _=>rfl
theorem RelO.getD (r:RelO o u) (rd:RelV d d'):RelV (o.getD d) (u.getD d'):=by
 cases o with
 | none=>cases u with
  | none=>exact rd
  | some _=>exact (r).elim
 | some _=>cases u with
  | none=>exact (r).elim
  | some _=>exact r
theorem KV.val (r:KV kvs vs) (k:κ):RelO (valV kvs k) (lK vs k):=by
 induction r with
 | nil=>exact True.intro
 | @cons p q ps qs h t ih=>
  obtain⟨c,d⟩:=h
  by_cases e:p.1=k
  ·have a:=c.symm.trans e;have b:lK (q::qs) k=some q.2:=by simp[lK,a]
   rw[a7L e,b];exact d
  ·have a:¬ q.1=k:=λz=>e (c.trans z);have b:lK (q::qs) k=lK qs k:=by simp[lK,a]
   rw[a7M e,b];exact ih
theorem KV.any (r:KV kvs vs) (k:κ):(kvs.any λkv=>decide (kv.1=k))=vs.any λkv=>decide (kv.1=k):=by
 induction r with
 | nil=>rfl
 | cons h t ih=>rw[iy,iy,ih,h.1]
theorem KV.repl (r:KV kvs vs) (k:κ) (ry:RelV y u) :
  KV (kvs.map λkv=>if kv.1=k then (kv.1,y) else kv) (vs.map λkv=>if kv.1=k then (kv.1,u) else kv):=by
 induction r with
 | nil=>exact .nil
 | @cons p q ps qs h t ih=>
  rw[fy,fy];refine .cons ?_ ih;obtain⟨a,b⟩:=h
  by_cases e:p.1=k
  ·rw[if_pos e,if_pos (a.symm.trans e)];exact⟨a,ry⟩
  ·rw[if_neg e,if_neg (λz=>e (a.trans z))];exact⟨a,b⟩
theorem KV.put (r:KV kvs vs) (k:κ) (ry:RelV y u):KV (putK kvs k y) (stored vs k u):=by
 unfold putK stored;rw[r.any k]
 by_cases e:(vs.any λkv=>decide (kv.1=k))=true
 ·rw[if_pos e,if_pos e];exact r.repl k ry
 ·rw[if_neg e,if_neg e];exact Paired.snoc r ⟨rfl,ry⟩
theorem KV.drop (r:KV kvs vs) (k:κ):KV (b8V kvs k) (without vs k):=by
 unfold b8V without
 induction r with
 | nil=>exact .nil
 | @cons p q ps qs h t ih=>
  obtain⟨c,d⟩:=h;rw[gC,gC]
  by_cases e:p.1=k
  ·simp_all
  ·have f:¬ q.1=k:=λz=>e (c.trans z);have a:decide (p.1≠k)=true:=by simp[e]
   have b:decide (q.1≠k)=true:=by simp[f]
   rw[if_pos a,if_pos b];exact .cons ⟨c,d⟩ ih
theorem KV.keys {kvs:List (κ×V)}(r:KV kvs vs):kvs.map (·.1)=vs.map (·.1):=by
 induction r with
 | nil=>rfl
 | cons h t ih=>rw[fy,fy,ih,h.1]
theorem KV.length (r:KV kvs vs):kvs.length=vs.length:=Paired.length r
end
theorem a9B (r:RelV (kV k) u):(a0O P w).is k u=true:=by
 match k,r with
 | .inl (some i),r=>obtain⟨t,e⟩:=(r);subst e;exact a9x P w i t
 | .inl none,r=>rw[r];rfl
 | .inr x,r=>obtain⟨t,e⟩:=(r);subst e;exact a9y P w x t
theorem a8A:∀ {ks:List Key}{us:List Value},Vals (ks.map kV) us->ItemsAre (a0O P w) ks us
 | [],_,r=>by rw[fD]at r;cases r;exact .nil
 | k::ks,_,r=>by
  cases r with
  | cons h t=>exact .cons (a9B h) (a8A t)
abbrev KT (H:Hp):List (List Key×V)->List (List Key×Addr×Value)->Prop:=Paired λp q=>p.1=q.1/\H q.2.1=some (.tup (p.1.map kV))/\RelV p.2 q.2.2
theorem KT.val (r:KT H kvs xs) (k:List Key):RelO (valV kvs k) ((atKey xs k).map (·.2)):=by
 induction r with
 | nil=>exact True.intro
 | @cons p q ps qs h t ih=>
  obtain⟨c,_,d⟩:=h
  by_cases e:p.1=k
  ·have a:=c.symm.trans e;have b:atKey (q::qs) k=some q.2:=by simp[atKey,a]
   rw[a7L e,b];exact d
  ·have a:¬ q.1=k:=λz=>e (c.trans z);have b:atKey (q::qs) k=atKey qs k:=by simp[atKey,a]
   rw[a7M e,b];exact ih
theorem KT.repl (r:KT H kvs xs) (k:List Key) (ry:RelV y u) :
  KT H (kvs.map λkv=>if kv.1=k then (kv.1,y) else kv) (xs.map (putAt k u)):=by
 induction r with
 | nil=>exact .nil
 | @cons p q ps qs h t ih=>
  rw[fy,fy];refine .cons ?_ ih;obtain⟨a,b,c⟩:=h;unfold putAt
  by_cases e:p.1=k
  ·rw[if_pos e,if_pos (a.symm.trans e)];exact⟨a,b,ry⟩
  ·rw[if_neg e,if_neg (λz=>e (a.trans z))];exact⟨a,b,c⟩
theorem KT.put (r:KT H kvs xs) (k:List Key) (hb:H b=some (.tup (k.map kV))) (ry:RelV y u) :
  KT H (putK kvs k y) (lj xs k b u):=by
 have e:(kvs.any λa=>decide (a.1=k))=(atKey xs k).isSome:=by
  rw[a7N,(r.val k).isSome_eq,jF]
 unfold putK lj;rw[e]
 by_cases q:(atKey xs k).isSome=true
 ·rw[if_pos q,if_pos q];exact r.repl k ry
 ·rw[if_neg q,if_neg q];exact Paired.snoc r ⟨rfl,hb,ry⟩
theorem KT.keeps (r:KT H kvs xs) (ht:∀ b ys,H b=some (.tup ys)->H' b=some (.tup ys)):KT H' kvs xs:=
 Paired.mapP r λ_ _ z=>⟨z.1,ht _ _ z.2.1,z.2.2⟩
section
variable {P:kz}{w:World}{H:Hp}{h:Heap}{a:Addr}
theorem b8W (ok:HOk P w H h) (e:Rd H a u):ObjOk P w H h a u:=e.ok ok
theorem b6S (ok:HOk P w H h) (e:Rd H a (.dK kvs)):kvs.length<=ki/\(a==k6)=false/\∃ vs,KV kvs vs/\h.DictOf (a0O P w) a vs:=
 b8W ok e
theorem b1r (ok:HOk P w H h) (e:H a=some (.dK kvs)):kvs.length<=ki/\(a==k6)=false/\∃ vs,KV kvs vs/\h.DictOf (a0O P w) a vs:=b6S ok (.inl e)
theorem a8B (ok:HOk P w H h) (e:H a=some (.tup (ks.map kV))):(kO (a0O P w)).is h ks a:=by
 obtain⟨_,b,r,o,d,c,n,f⟩:=(ok a _ e);exact⟨o,b.toArray,n,d,c,f,by simpa using a8A r⟩
theorem b6T (ok:HOk P w H h) (e:Rd H a (.dT kvs)):kvs.length<=ki/\(a==k6)=false /\
  ∃ xs,KT H kvs xs/\h.DictOfH (kO (a0O P w)) a xs:=by
 obtain⟨z,y,g,r,o,d,s,j,k,f,n,i⟩:=(b8W ok e);refine⟨z,y,g,r,o,d,s,j,k,f,n,λx b=>?_,i⟩;have c:∀ {l:List _}{m:List _},KT H l m->∀ x∈m,(kO (a0O P w)).is h x.1 x.2.1:=by
  intro l m q
  induction q with
  | nil=>intro x b;exact nomatch b
  | @cons p q ps qs hq t ih=>
   intro x b;rcases ft.mp b with e | b
   ·subst e;exact a8B ok (by simp_all)
   ·exact ih x b
 exact c r x b
theorem c1m (ok:HOk P w H h) (e:H a=some (.dT kvs)):kvs.length<=ki/\(a==k6)=false /\
  ∃ xs,KT H kvs xs/\h.DictOfH (kO (a0O P w)) a xs:=b6T ok (.inl e)
end
def DGet (H:Hp) (a:Addr) (y:V) (r:Option V):Prop:=
 (∃ kvs k,Rd H a (.dK kvs)/\y=kV k/\r=valV kvs k)\/∃ kvs k b,Rd H a (.dT kvs)/\y=.ref b/\H b=some (.tup (k.map kV))/\r=valV kvs k
def DPut (H:Hp) (a:Addr) (y v:V) (H':Hp):Prop:=
 (∃ kvs k,H a=some (.dK kvs)/\y=kV k/\kvs.length<ki/\H'=upd H a (.dK (putK kvs k v))) \/
 ∃ kvs k b,H a=some (.dT kvs)/\y=.ref b/\H b=some (.tup (k.map kV))/\kvs.length<ki/\H'=upd H a (.dT (putK kvs k v))
theorem DGet.k {k:Key}(e:H a=some (.dK kvs)):DGet H a (kV k) (valV kvs k):=.inl ⟨kvs,k,.inl e,rfl,rfl⟩
theorem DGet.t {k:List Key}(e:H a=some (.dT kvs)) (eb:H b=some (.tup (k.map kV))):DGet H a (.ref b) (valV kvs k):=.inr ⟨kvs,k,b,.inl e,rfl,eb,rfl⟩
theorem DPut.k {k:Key}(e:H a=some (.dK kvs)) (hl:kvs.length<ki):DPut H a (kV k) v (upd H a (.dK (putK kvs k v))):=.inl ⟨kvs,k,e,rfl,hl,rfl⟩
theorem DPut.t {k:List Key}(e:H a=some (.dT kvs)) (eb:H b=some (.tup (k.map kV))) (hl:kvs.length<ki) :
  DPut H a (.ref b) v (upd H a (.dT (putK kvs k v))):=.inr ⟨kvs,k,b,e,rfl,eb,hl,rfl⟩
section
variable {X:Cx}{pins:List (Addr×Obj)}{σ:St}{H:Hp}{s:Shared}{a:Addr}{y v:V}{u r:Value}{o:Option V}{A:Around}{E:Value->Shared->Prop}
theorem Inv.big (I:Inv X pins σ H s):k6<s.heap.objs.size:=by
 have h:=(I.mod.glob.keeps I.bk).lt;exact iz (by decide) h
theorem b6U (hu:A.units+1<cLine) (I:Inv X pins σ H s) (g:DGet H a y o) (ry:RelV y u) (h:∀ s',Inv X pins σ H s'->Q (.bool (!o.isSome)) s') :
  wpAny (model X.prog X.w) A (kC .NotIn u (.ref a)) Q E s:=by
 rcases g with ⟨kvs,k,e,ey,l⟩ | ⟨kvs,k,b,e,ey,eb,l⟩
 ·subst ey;obtain⟨z,f,i,c,d⟩:=b6S I.hok e;refine wpAny_notIn_of (a9B ry) f d.mapOf ?_;rw[<- (c.val k).isSome_eq,<- l];exact h _ (I.tok _)
 ·subst ey;cases (ry);obtain⟨z,f,j,c,d⟩:=b6T I.hok e;refine wpAny_notIn_heap (mf hu) (a8B I.hok eb) f d ?_;have q:=(c.val k).isSome_eq;rw[jF]at q;rw[<- q,<- l];exact h _ (I.tok _)
theorem a7O (I:Inv X pins σ H s) (mu:Mut (H a)) (hs:Heap.SameBut a s.heap h') (he:∃ q,h'.get? a=some q) (new:ObjOk X.prog X.w (upd H a ob) h' a ob) :
  Inv X pins σ (upd H a ob) { s with heap:=h',toks:=t' }:=
 I.write mu (.inl rfl) (λb q c z=>(hs.2 b c).trans z) he new
theorem b2s (z:kvs.length<=ki) (hd:(a==k6)=false) (rel:KV kvs vs) (dd:h'.DictOf (a0O P w) a vs) :
  ObjOk P w H' h' a (.dK kvs):=⟨z,hd,vs,rel,dd⟩
theorem b2t (hu:A.units+1<cLine) (I:Inv X pins σ H s) (g:DPut H a y v H') (ry:RelV y u) (rv:RelV v r) (h:∀ s',Inv X pins σ H' s'->Q () s') :
  wpAny (model X.prog X.w) A (l8 (.ref a) u r) Q E s:=by
 rcases g with ⟨kvs,k,e,ey,l,eH⟩ | ⟨kvs,k,b,e,ey,eb,l,eH⟩
 ·subst ey eH;obtain⟨z,m,F,d,p⟩:=b1r I.hok e;have o:F.length<=sizeLine:=by rw[<- d.length];exact z
  have n:(putK kvs k v).length<=sizeLine:=by have:=a18 kvs k v;omega
  refine wpAny_setItem_pairs (a9B ry) p λx f j=>h _ ?_;have L:∃ q,x.get? a=some q:=let ⟨q,_,_,i,_⟩:=f;⟨q,i⟩
  exact a7O I (by rw[e];exact True.intro) j L (b2s n m (d.put k rv) f)
 ·subst ey eH;cases (ry);obtain⟨z,m,D,d,p⟩:=c1m I.hok e;have o:D.length<=sizeLine:=by rw[<- Paired.length d];exact z
  have n:(putK kvs k v).length<=sizeLine:=by have:=a18 kvs k v;omega
  refine wpAny_setItem_heap (hsz:=o) (mf hu) (a8B I.hok eb) p λx f j=>h _ ?_;obtain⟨q,C,M,i,J,N,B,_,G⟩:=f;refine a7O I (by rw[e];exact True.intro) j ⟨q,i⟩ ⟨n,m,_,(d.put k eb rv).keeps λc R t=>?_,q,C,M,i,J,N,B,G⟩;rw[a0x (c0X t e (λz=>nomatch z))];exact t
end
section
variable {X:Cx}{pins:List (Addr×Obj)}{σ:St}{H:Hp}{s:Shared}{a:Addr}{kvs:List (Key×V)}{k:Key}{u:Value}{A:Around}{E:Value->Shared->Prop}
end
section
variable {X:Cx}{o i e value:Expr}{pos pos' tpos:Pos}{td ty tv:TE}
end
theorem a7P (h:Heap) (hb:k6<h.objs.size):ObjOk P w H (h.push { cls:=.type "dict",data:=.dict #[] }) h.objs.size (.dK []):=
 ⟨fL _,beq_eq_false_iff_ne.mpr (Ne.symm (fz hb)),[],.nil,Heap.DictOf.new h⟩
def b8X:TE:=λ_ H Q=>∀ p,H p=none->Q (.ref p) (upd H p (.dK []))
section
variable {X:Cx}{pos:Pos}
theorem b4w:PE X (.Dict [] [] pos) b8X:=λb s σ H Q I h=>
 wpAny_Dict_empty ⟨.ref s.heap.objs.size,_,I.laid (λ_ _ q=>Heap.get?_push_of_some _ q) (ff _) (a7P s.heap I.big),rfl,h _ (I.hok.fresh (ff _))⟩
end
def b0q:List (TE×TE)->St->Hp->(List (V×V)->Hp->Prop)->Prop
 | [],_,H,Q=>Q [] H
 | (tk,tv)::r,σ,H,Q=>tk σ H λx H1=>tv σ H1 λy H2=>b0q r σ H2 λps H3=>Q ((x,y)::ps) H3
abbrev VV:List (V×V)->List (Value×Value)->Prop:=Paired λp q=>RelV p.1 q.1/\RelV p.2 q.2
def PPs (X:Cx) (pos:Pos) (keys:List (Option Expr)) (values:List Expr) (trs:List (TE×TE)):Prop:=
 ∀ (pins:List (Addr×Obj)) (s:Shared) (σ:St) (H:Hp) (Q:List (V×V)->Hp->Prop),Inv X pins σ H s->b0q trs σ H Q ->
  wpAny (model X.prog X.w) X.A (evalPairs (pairTrees keys values X.env pos)) (λvs s'=>∃ ps H',Inv X pins σ H' s'/\VV ps vs/\Q ps H') X.xe s
theorem b6V:PPs X pos [] [] []:=λa s σ H Q I h=>pairTrees_nil_walk ⟨[],H,I,.nil,h⟩
theorem b4x (hk:PE X k tk) (hv:PE X v tv) (hr:PPs X pos ks vs trs) :
  PPs X pos (some k::ks) (v::vs) ((tk,tv)::trs):=λa s σ H Q I h=>
 pairTrees_cons_walk (thn (hk a s σ H _ I h) λu i ⟨x,q,f,d,g⟩=>thn (hv a i σ q _ f g) λz n ⟨y,m,r,l,p⟩=>
  thn (hr a n σ m _ r p) λw t ⟨c,j,e,b,o⟩=>⟨_::c,j,e,.cons ⟨d,l⟩ b,o⟩)
def a5u (kvs more:List (Key×V)):List (Key×V):=more.foldl (λacc kv=>putK acc kv.1 kv.2) kvs
theorem KV.merge:∀ {more:List (Key×V)}{rs:List (Key×Value)}{kvs:List (Key×V)}{vs:List (Key×Value)},KV more rs->KV kvs vs->KV (a5u kvs more) (merged vs rs):=by
 intro d f a b r
 induction r generalizing a b with
 | nil=>intro q;exact q
 | @cons p q ps qs h t ih=>
  intro c;have e:KV (putK a p.1 p.2) (stored b q.1 q.2):=by
   have:=c.put p.1 h.2
   rw[<- h.1];exact this
  exact ih e
theorem a4m:∀ (more kvs:List (Key×V)),(a5u kvs more).length<=kvs.length+more.length
 | [],kvs=>by show kvs.length<=kvs.length+0;omega
 | p::r,kvs=>by
  have a:=a4m r (putK kvs p.1 p.2);have b:=a18 kvs p.1 p.2
  show (a5u (putK kvs p.1 p.2) r).length<=_
  rw[fk];omega
theorem a7h:∀ {kvs:List (Key×V)}{ws:List (Value×Value)},VV (kvs.map λkv=>(kV kv.1,kv.2)) ws->∃ rs,Carries (a0O P w) ws rs/\KV kvs rs
 | [],_,r=>by rw[fD]at r;cases r;exact⟨[],True.intro,.nil⟩
 | p::kvs,_,r=>by
  cases r with
  | @cons a b as bs h t=>
   obtain⟨d,c,q⟩:=a7h t;obtain⟨f,e⟩:=b;exact⟨(p.1,e)::d,⟨a9B h.1,rfl,c⟩,.cons ⟨rfl,h.2⟩ q⟩
def c1n (trs:List (TE×TE)):TE:=fun σ H Q=>∀ p,H p=none->b0q trs σ (upd H p (.dK [])) λps H2=>H2 p=some (.dK [])/\∃ kvs:List (Key×V),ps=kvs.map (λkv=>(kV kv.1,kv.2))/\kvs.length<=15/\Q (.ref p) (upd H2 p (.dK (a5u [] kvs)))
theorem b6W (h:PPs X pos keys values trs) (hall:keys.all (·.isSome)=true) (hl:keys.length=values.length) (h0:keys≠[])
  (h15:keys.length<=15):PE X (.Dict keys values pos) (c1n trs):=by
 intro f s σ H Q I q;have p:=I.hok.fresh (ff s.heap.objs.size);have v:=I.laid (t':=s.toks) (λ_ _ q=>Heap.get?_push_of_some _ q) (ff _) (a7P s.heap I.big);refine wpAny_Dict_walk (knd:=a0O X.prog X.w) hall hl h0 h15 (thn (h f _ σ _ _ v (q _ p)) λws s2 ⟨ps,H2,j,i,e,d,m,lk,B⟩=>?_);subst m;obtain⟨k,c,n⟩:=a7h i;obtain⟨z,A,C,u,r⟩:=b1r j.hok e;cases u;refine⟨k,c,r,λh' b y=>⟨.ref s.heap.objs.size,_,?_,rfl,B⟩⟩;have l:(a5u [] d).length<=sizeLine:=by
  have x:=a4m d [];rw[jG]at x;rw[kJ];omega
 have t:∃ q,h'.get? s.heap.objs.size=some q:=let ⟨q,_,_,hq,_⟩:=b;⟨q,hq⟩
 exact a7O j (by rw[e];exact True.intro) y t (b2s l A (n.merge .nil) b)
section
variable {X:Cx}{pins:List (Addr×Obj)}{σ:St}{H:Hp}{s:Shared}{a:Addr}{y d:V}{u r:Value}{o:Option V}{A:Around}{E:Value->Shared->Prop}
theorem b8Y (hu:A.units+1<cLine) (I:Inv X pins σ H s) (g:DGet H a y o) (ry:RelV y u) (rd:RelV d r) (h:∀ w' s',Inv X pins σ H s'->RelV (o.getD d) w'->Q w' s') :
  wpAny (model X.prog X.w) A (call (.builtin "dict.get") [.ref a,u,r]) Q E s:=by
 rcases g with ⟨kvs,k,e,ey,l⟩ | ⟨kvs,k,b,e,ey,eb,l⟩
 ·subst ey;obtain⟨z,i,m,f,c⟩:=b6S I.hok e;refine mP PySem.F.slot_dict_get c.typeIs PySem.F.entry_dict_get (PySem.F.args_dict_get_3 _ _ _) (meets_dict_get_default _ a (a9B ry) i r) ⟨_,c.mapOf,h _ _ (I.tok _) ?_⟩;rw[l];exact (f.val k).getD rd
 ·subst ey;cases (ry);obtain⟨z,i,j,f,c⟩:=b6T I.hok e;refine mP PySem.F.slot_dict_get c.typeIs PySem.F.entry_dict_get (PySem.F.args_dict_get_3 _ _ _) (meetsH_dict_get_default _ a b i r) ⟨mf hu,k,j,a8B I.hok eb,c,h _ _ (I.tok _) ?_⟩;rw[l];exact (f.val k).getD rd
end
section
variable {X:Cx}{o e f:Expr}{apos cpos:Pos}{td ty tx:TE}
end
section
variable {X:Cx}{pins:List (Addr×Obj)}{σ:St}{H:Hp}{s:Shared}{a:Addr}{kvs:List (Key×V)}{A:Around}{E:Value->Shared->Prop}
end
section
variable {X:Cx}{pins:List (Addr×Obj)}{σ:St}{H:Hp}{s:Shared}{a:Addr}{y:V}{u:Value}{A:Around}{E:Value->Shared->Prop}
end
end L2
namespace PySem
noncomputable def a1q (env:Env):List (Str×kD)->List (Str×Addr)->List (Str×Addr)
 | [],cs=>cs
 | (n,k)::r,cs=>if (k==.free)=true then a1q env r ((n,(env.cells.lookup n).getD 0)::cs) else a1q env r cs
theorem a7Q (h:∀ x∈scope.names,x.2=.free->∃ c,env.cells.lookup x.1=some c):closureFor scope env=pure (a1q env scope.names []):=by
 simp only[closureFor]
 suffices H:∀ l b,(∀ x∈l,x.2=.free->∃ c,env.cells.lookup x.1=some c) ->
   forIn l b _=pure (a1q env l b) by
  rw[H scope.names [] h];rfl
 intro l
 induction l with
 | nil=>intro b _;rfl
 | cons x l ih=>
  intro b j;obtain⟨n,k⟩:=x;have g:=λb=>ih b λy o=>j y (fY _ o);rw[List.forIn_cons]
  by_cases hk:k=.free
  ·subst hk;obtain⟨c,m⟩:=j _ gi rfl;have f:cellOf env n=pure c:=by unfold cellOf;rw[m]
   rw[if_pos (show (kD.free==kD.free)=true from rfl),f];have e:a1q env ((n,kD.free)::l) b=a1q env l ((n,c)::b):=by
    show (if (kD.free==kD.free)=true then _ else _)=_
    rw[m];rfl
   rw[e,<- g ((n,c)::b)]
   rfl
  ·have i:(k==kD.free)=false:=by simpa using hk
   have e:a1q env ((n,k)::l) b=a1q env l b:=by
    show (if (k==kD.free)=true then _ else _)=_
    rw[i];rfl
   rw[e,<- g b];rw[i,if_neg fH]
   rfl
theorem a2I:∀ (l:List (Str×kD)) (cs:List (Str×Addr)),(∀ y∈l,y.2=.free->∃ c,env.cells.lookup y.1=some c)->(∀ y c,cs.lookup y=some c->env.cells.lookup y=some c) ->
  ∀ c,(a1q env l cs).lookup x=some c->env.cells.lookup x=some c
 | [],cs,_,hc,c,h=>hc x c h
 | (n,k)::r,cs,hx,hc,c,h=>by
  have g:=λy m=>hx y (fY _ m);unfold a1q at h
  split at h
  ·rename_i hk
   have f:k=.free:=by simpa using hk
   obtain⟨d,j⟩:=hx (n,k) gi f;refine a2I r _ g (λy i a=>?_) c h;rw[gq]at a;cases e:y==n with
   | true=>
    rw[e]at a;have o:y=n:=by simpa using e
    subst o;have b:=j;rw[b]at a ⊢;exact a
   | false=>rw[e]at a;exact hc y i a
  ·exact a2I r cs g hc c h
theorem a2J:∀ (l:List (Str×kD)) (cs:List (Str×Addr)) (c:Addr),cs.lookup x=some c->∃ c',(a1q env l cs).lookup x=some c'
 | [],cs,c,h=>⟨c,h⟩
 | (n,k)::r,cs,c,h=>by
  unfold a1q
  split
  ·cases e:x==n with
   | true=>exact a2J r _ _ (by rw[gq,e])
   | false=>exact a2J r _ c (by rw[gq,e];exact h)
  ·exact a2J r cs c h
theorem a3v:∀ (l:List (Str×kD)) (cs:List (Str×Addr)),(x,kD.free)∈l->∃ c,(a1q env l cs).lookup x=some c
 | [],cs,h=>by cases h
 | _::r,cs,h=>by
  unfold a1q;rcases ft.mp h with e | e
  ·cases e;exact a2J r _ ((env.cells.lookup x).getD 0) (by simp)
  ·split
   ·exact a3v r _ e
   ·exact a3v r _ e
theorem a3G {env:Env}:∀ (names:List (Str×kD)),
  (names.map λ(n,k)=>if (k==kD.free&&env.scope.kind==.function&&env.kindOf n==some .cell) then (n,kD.cell) else (n,k)).lookup x =
   (names.lookup x).map λk=>if (k==kD.free&&env.scope.kind==.function&&env.kindOf x==some .cell)=true then kD.cell else k
 | []=>rfl
 | (n,k)::r=>by
  have a:=a3G (env:=env) (x:=x) r
  show iK x ((if _=true then _ else (n,k))::_)=_
  cases hx:x==n with
  | true=>
   have e:x=n:=by grind
   subst e
   by_cases hc:(k==kD.free&&env.scope.kind==.function&&env.kindOf x==some .cell)=true
   simp only[gq,hx,iQ,if_pos hc];simp only[gq,hx,iQ,if_neg hc]
  | false=>
   by_cases hc:(k==kD.free&&env.scope.kind==.function&&env.kindOf n==some .cell)=true
   ·rw[if_pos hc];simp only[gq,hx];exact a
   ·rw[if_neg hc];simp only[gq,hx];exact a
theorem a3X (I:Nat->Shared->Prop)
  (turn:∀ n s,I n s->wpAny (model prog w) A (pyNext it) (λr sj=>match r with
   | none=>R (.ok .next) sj
   | some v=>wpAny (model prog w) A (mG target it v) (λ_ sj=>wpAny (model prog w) A (assign target env v) (λ_ sv=>
     wpAny (model prog w) A (forIn ifs true λc r=>if r=true then do let ok <- isTrue c env (eval c env);pure (ForInStep.yield ok) else pure (ForInStep.yield r)) (λok sw=>
      if ok=true then wpAny (model prog w) A (eval elt env) (λx sx=>
       wpAny (model prog w) A (call (.builtin "list.append") [acc,x]) (λ_ sy=>∃ m,m<n/\I m sy) (lZ (model prog w) A env λe s'=>R (.error e) s') sx) (lZ (model prog w) A env λe s'=>R (.error e) s') sw
      else ∃ m,m<n/\I m sw) (lZ (model prog w) A env λe s'=>R (.error e) s') sv) (lZ (model prog w) A env λe s'=>R (.error e) s') sj) (λ_ _=>False) sj) (λ_ _=>False) s)
  (n:Nat) (h:I n s) :
  li (model prog w) A (.compLoop (.ListComp elt [⟨target,iter,ifs,0⟩] scope pos) 0 it acc env) R s:=by
 refine codeAny_loop rfl I (λn s k=>?_) n h;refine wpAny_noted ?_;refine kh (mD (kh (kG (turn n s k) (λr d a=>?_) λ_ _ f=>f.elim)));cases r with
 | none=>exact kA a
 | some v=>
  refine kh (kG a (λ_ d a=>?_) λ_ _ f=>f.elim);refine kh (kG a (λ_ p g=>kh (kG g (λl z b=>?_) λ_ _ f=>f)) λ_ _ f=>f);cases l with
  | false=>exact kA ⟨rfl,b⟩
  | true=>
   exact kh (kh (kG b (λx o i=>kh (kG i (λ_ u j=>kA (kA ⟨rfl,j⟩)) λ_ _ f=>f)) λ_ _ f=>f))
theorem a1O:∀ (names:List (Str×kD)) (n:Nat) (acc:List (Str×Addr)),kE n names acc=kE n names []++acc
 | [],_,_=>rfl
 | (x,k)::r,n,acc=>by
  rw[kE,kE]
  split
  ·rw[a1O r _ _,a1O r _ [_]];simp
  ·exact a1O r n acc
theorem a56:∀ {names:List (Str×kD)}{n:Nat},(x,c)∈kE n names []->(x,kD.cell)∈names
 | [],_,h=>by rw[kE]at h;simp at h
 | _::r,n,h=>by
  rw[kE]at h
  split at h
  ·next e=>
   rw[a1O,fg]at h;rcases h with h | h
   ·exact .tail _ (a56 h)
   ·grind
  ·exact .tail _ (a56 h)
theorem a7R {code:Value}
  (h:∀ h',h'.Ns s.heap.objs.size (λ_=>none)->(∀ b o,s.heap.get? b=some o->h'.get? b=some o)->mh h' (s.heap.objs.size+1) (kE (s.heap.objs.size+1) scope.names [])->Q (newEnv scope s.heap.objs.size globals (kE (s.heap.objs.size+1) scope.names closure) qual func code around builtins) { s with heap:=h' }) :
  wpAny M A (newFunctionEnv scope globals closure [] qual func code around builtins) Q E s:=by
 refine kh (wpAny_alloc (kh (wpAny_layCells _ (λ_ _ _=>rfl) scope.names closure _ _ ?_)));have e:=Heap.size_push s.heap { cls:=Value.type (if around.isSome=true then "dict" else "frame"),data:=.dict #[] };have q:=h _ ((Heap.Ns.new s.heap _).keeps (pushCells_keeps _ _)) (λb o h=>pushCells_keeps _ _ _ _ (Heap.get?_push_of_some _ h)) (by
  rw[<- e];exact cellsFrom_ok scope.names _ _ [] ⟨λ_ _ h=>by simp at h,.nil⟩ (ff _))
 rw[<- e]at q;exact kh (kA (kA q))
end PySem
namespace L2
open PySem PySem.Spec PyProof.Rows
def a41 (cap:List (Option Nat)) (σ:St):St:=cap.map λo=>o.bind λj=>(σ[j]?).join
def a2K:St->St->Prop
 | [],[]=>True
 | none::a,_::b=>a2K a b
 | some x::a,y::b=>y=some x/\a2K a b
 | _,_=>False
theorem a42:∀ {a b:St},a2K a b->a.length=b.length/\∀ (i:Nat) v,a[i]?=some (some v)->b[i]?=some (some v)
 | [],[],_=>⟨rfl,λi v h=>by simp at h⟩
 | none::a,y::b,h=>by
  have c:=a42 (b:=b) h;refine⟨by simp[c.1],λi v e=>?_⟩;cases i with
  | zero=>simp at e
  | succ i=>simpa using c.2 i v (by simp_all)
 | some x::a,y::b,h=>by
  obtain⟨d,h⟩:=(h);have c:=a42 (b:=b) h;refine⟨by simp[c.1],λi v e=>?_⟩;cases i with
  | zero=>rw[d];simpa using e
  | succ i=>simpa using c.2 i v (by simpa using e)
 | [],_::_,h=>fh h
 | none::_,[],h=>fh h
 | some _::_,[],h=>fh h
theorem a3j:∀ a:St,a2K a a
 | []=>True.intro
 | none::a=>a3j a
 | some _::a=>⟨rfl,a3j a⟩
noncomputable def capB (N:List Str) (so sc:Scope) (N':List Str) (cap:List (Option Nat)):Bool:=
 decide (sc.kind=.function)&&decide N'.Nodup&&decide (cap.length=N'.length)&&(sc.names.all λy=>decide (y.2=.cell->sc.names.lookup y.1=some .cell)) &&
 (sc.names.all λy=>decide (y.2=.local->sc.names.lookup y.1=some .local)) &&
 (sc.names.all λy=>decide (y.2=.free->so.names.lookup y.1=some .cell\/so.names.lookup y.1=some .free)) &&
 ((N'.zip cap).all λy=>match y.2 with | none=>true | some j=>decide (N[j]?=some y.1)&&decide (sc.names.lookup y.1=some .free))
structure CapOk (N:List Str) (so sc:Scope) (N':List Str) (cap:List (Option Nat)):Prop where
 kind:sc.kind=.function
 nd:N'.Nodup
 len:cap.length=N'.length
 cms:∀ y∈sc.names,y.2=.cell->sc.names.lookup y.1=some .cell
 nms:∀ y∈sc.names,y.2=.local->sc.names.lookup y.1=some .local
 fre:∀ y∈sc.names,y.2=.free->so.names.lookup y.1=some .cell\/so.names.lookup y.1=some .free
 cap:∀ (i:Nat) x j,N'[i]?=some x->cap[i]?=some (some j)->N[j]?=some x/\sc.names.lookup x=some .free
theorem b2u (h:capB N so sc N' cap=true):CapOk N so sc N' cap:=by
 unfold capB at h;simp only[gr,decide_eq_true_eq,gv]at h;obtain⟨⟨⟨⟨⟨⟨f,k⟩,d⟩,g⟩,b⟩,l⟩,e⟩:=h;refine⟨f,k,d,g,b,l,λi x j c a=>?_⟩;have m:(N'.zip cap)[i]?=some (x,some j):=by rw[List.getElem?_zip_eq_some];exact⟨c,a⟩
 have q:=e (x,some j) (fA m);simpa using q
structure Lk (fr:List Addr) (ex:Addr->Prop) (h h':Heap):Prop where
 keep:∀ b o,h.get? b=some o->b∉fr->¬ ex b->h'.get? b=some o
 slot:∀ b o,h.get? b=some o->¬ ex b->∃ sl,h'.get? b=some { o with slots:=sl }
 size:h.objs.size<=h'.objs.size
theorem Lk.refl {fr:List Addr}{ex:Addr->Prop}{h:Heap}:Lk fr ex h h:=⟨λ_ _ q _ _=>q,λ_ o q _=>⟨o.slots,q⟩,ff _⟩
theorem Lk.trans {fr:List Addr}{ex ex2:Addr->Prop}{h h1 h2:Heap}(a:Lk fr ex h h1) (b:Lk fr ex2 h1 h2) (i:∀ x,ex2 x->ex x\/h.objs.size<=x):Lk fr ex h h2:=by
 have n:∀ {x o},h.get? x=some o->¬ ex x->¬ ex2 x:=λ{x o} q n z=>by
  rcases i x z with z | z
  ·exact n z
  ·exact absurd (Heap.lt_size q) (Nat.not_lt.mpr z)
 refine⟨λx o q f z=>b.keep x o (a.keep x o q f z) f (n q z),λx o q z=>?_,fx a.size b.size⟩;obtain⟨sl,e⟩:=a.slot x o q z;obtain⟨sl2,e2⟩:=b.slot x _ e (n q z);exact⟨sl2,e2⟩
theorem Lk.funs (k:Lk fr ex h h'):∀ {l:List Env},(∀ b∈frs l,¬ ex b)->h.FunFrames base l->h'.FunFrames base l
 | [],_,_=>True.intro
 | env::rest,hx,⟨hk,⟨L,o,hf,hn,ho,hd⟩,hr⟩=>by
  have a:L∈frs (env::rest):=by show L∈(env::rest).filterMap _;rw[gy,hf];exact .head _
  obtain⟨d,e⟩:=k.slot L o ho (hx L a);exact⟨hk,⟨L,_,hf,hn,e,hd⟩,k.funs (λb c=>hx b (by show b∈(env::rest).filterMap _;rw[gy,hf];exact .tail _ c)) hr⟩
def FlyT (e:Addr) (cls:Value) (T:Addr) (fl:Value) (h:Heap):Prop:=∃ oe vs oT ts,h.get? e=some oe/\(oe.cls=cls/\oe.dict=none)/\oe.data=.fields vs/\vs[1]?=some (.ref T)/\T≠e/\h.get? T=some oT/\oT.data=.fields ts/\ts[3]?=some fl
section
variable {M:Model}{A:Around}{E:Value->Shared->Prop}{s:Shared}{base:Heap}{env:Env}{outer:List Env}{L e T:Addr}{cls fl:Value}{Q:Unit->Shared->Prop}
theorem a6S (f:Array Value->Array Value) (o:Obj):(o.mapFields f).dict=o.dict:=by
 unfold Obj.mapFields
 split<;>rfl
theorem b5L (hfr:A.frames=some (env::outer)) (hl:s.heap.FunFrames base (env::outer)) (hf:env.frame=some L) (he:s.heap.get? e=some oe) (hn0:oe.dict=none) (hd:oe.data=.fields vs) (hz:1<vs.size)
  (q:∀ h' T',Lk (frs (env::outer)) (·=e) s.heap h'->FlyT e oe.cls T' (rawInt L) h'->s.heap.objs.size<=T'->Q () { s with heap:=h' }) :
  wpAny M A (do let a <- frameOf env;let pl <- entryPlaceOf L hn;let b <- EntryCells.newEntry head a .none (rawInt L) .none pl;setField (.ref e) 1 b) Q E s:=by
 have t:e∉frs _:=λD=>by
  obtain⟨_,F,i,C⟩:=hl.mem D;rw[he]at i;cases i;exact C vs hd
 refine kh (wpAny_frameOf_fun hfr hl hf λc g=>kh (wpAny_entryPlaceOf λl m=>?_));unfold EntryCells.newEntry;refine kh ?_;refine mJ ?_ (m.sizeOk5 _ _ _ _ _);generalize ht:([head,Value.ref L,.none,rawInt L,.none]++_).toArray=ts;have w:ts[3]?=some (rawInt L):=by rw[<- ht];simp
 have p:=(g.2.1 e t).trans he;have z:=Heap.lt_size p;have j:=iJ z;have k:=Heap.get?_push_of_some { cls:=.type "traceback",dict:=none,data:=.fields ts } p;have r:=Obj.data_mapFields hd (·.setIfInBounds 1 (Value.ref c.objs.size));have u:=Heap.get?_update_self _ k (Obj.isFreed_of_fields r);have y:=(Heap.get?_update_other (c.push { cls:=.type "traceback",dict:=none,data:=.fields ts }) (Obj.mapFields (·.setIfInBounds 1 (Value.ref c.objs.size))) (Ne.symm j)).trans (Heap.get?_push_size c rfl);refine wpAny_setField k hd hz (q _ c.objs.size ?_ ⟨_,_,_,_,u,⟨Obj.cls_mapFields _ _,(a6S _ _).trans hn0⟩,r,by simp[hz],j,y,rfl,w⟩ (g5 g.1.symm));have n:∀ b o,b≠e->c.get? b=some o->((c.push { cls:=.type "traceback",dict:=none,data:=.fields ts }).update e (Obj.mapFields (·.setIfInBounds 1 (Value.ref c.objs.size)))).get? b=some o:=λb o d f=>by
  rw[Heap.get?_update_other _ _ (Ne.symm d)];exact Heap.get?_push_of_some _ f
 refine⟨λb o f x d=>n b o d ((g.2.1 b x).trans f),λb o f d=>?_,?_⟩
 ·obtain⟨v,B⟩:=g.2.2 b o f;exact⟨v,n b _ d B⟩
 ·rw[Heap.size_update,<- g.1];exact g0 (by simp)
theorem b2v (hT:FlyT e cls T fl s.heap) (q:∀ h',(∀ fr,Lk fr (·=T) s.heap h')->FlyT e cls T x h'->Q () { s with heap:=h' }):wpAny M A (setField (.ref T) 3 x) Q E s:=by
 obtain⟨l,m,oT,ts,r,p,j,k,i,hT,c,t⟩:=hT;have h:=(iR.mp t).1;refine wpAny_setField hT c h (q _ (λfr=>?_) ?_)
 all_goals have d:∀ b,b≠T->(s.heap.update T (Obj.mapFields (·.setIfInBounds 3 x))).get? b=s.heap.get? b:=λb a=>Heap.get?_update_other _ _ (Ne.symm a)
 all_goals have n:=Heap.get?_update_self (Obj.mapFields (·.setIfInBounds 3 x)) hT (Obj.isFreed_of_fields (Obj.data_mapFields c _))
 ·exact⟨λb o a _ g=>(d b g).trans a,λb o a g=>⟨o.slots,(d b g).trans a⟩,by rw[Heap.size_update];exact ff _⟩
 ·exact⟨l,m,_,_,(d e (Ne.symm i)).trans r,p,j,k,i,n,Obj.data_mapFields c _,by simp[h]⟩
theorem FlyT.field {Q:Value->Shared->Prop}(h:FlyT e cls T fl s.heap) (q:Q (.ref T) s):wpAny M A (field (.ref e) 1) Q E s:=by
 obtain⟨_,_,_,_,a,_,b,c,_⟩:=h;exact lI a b c q
theorem FlyT.mark {Q:Value->Shared->Prop}(h:FlyT e cls T fl s.heap) (q:Q fl s):wpAny M A (PySem.field (.ref T) 3) Q E s:=by
 obtain⟨_,_,_,_,_,_,_,_,_,a,c,b⟩:=h;exact lI a c b q
theorem b4y (hT:FlyT e cls T fl s.heap) (q:∀ h',(∀ fr,Lk fr (·=T) s.heap h')->FlyT e cls T (fo.elim .none λf=>rawInt f) h'->Q () { s with heap:=h' }):wpAny M A (setFlight (.ref e) fo) Q E s:=by
 refine kh (hT.field ?_);exact b2v hT q
theorem b4z (hfr:A.frames=some (env::outer)) (hl:s.heap.FunFrames base (env::outer)) (hf:env.frame=some L) (he:s.heap.get? e=some oe) (hn0:oe.dict=none) (hd:oe.data=.fields vs) (h1:vs[1]?=some .none)
  (q:∀ h' T',Lk (frs (env::outer)) (·=e) s.heap h'->FlyT e oe.cls T' (rawInt L) h'->s.heap.objs.size<=T'->Q () { s with heap:=h' }):wpAny M A (mi (.ref e) env) Q E s:=by
 unfold mi;simp only[hf];refine kh ?_;refine lI he hd h1 ?_;exact b5L hfr hl hf he hn0 hd (iR.mp h1).1 q
theorem b5M (hfr:A.frames=some (env::outer)) (hl:s.heap.FunFrames base (env::outer)) (hf:env.frame=some L) (hT:FlyT e cls T fl s.heap)
  (q:∀ h' T',Lk (frs (env::outer)) (λb=>b=e\/b=T) s.heap h'->FlyT e cls T' (rawInt L) h'->T'=T\/s.heap.objs.size<=T'->Q () { s with heap:=h' }):wpAny M A (mi (.ref e) env) Q E s:=by
 unfold mi;simp only[hf];refine kh (hT.field ?_);refine kh (hT.mark ?_)
 by_cases c:(fl==rawInt L)=true
 ·rw[if_pos c];rw[show fl=rawInt L by simpa using c]at hT;exact kA (q s.heap T .refl hT (.inl rfl))
 ·rw[if_neg c];refine kh (b2v hT λh a B=>?_);have l:=(a []).funs (λb v z=>by
   obtain⟨_,I,g,u⟩:=hl.mem v;obtain⟨_,_,_,i,_,_,_,_,_,d,j,_⟩:=hT;rw[z,d]at g;cases g;exact u i j) hl
  obtain⟨D,G,F,i,C,p,t,r,H,d,j,J⟩:=B;refine b5L hfr l hf C p.2 t (iR.mp r).1 λy w k f z=>q y w ?_ (p.1▸f) (.inr (fx (a []).size z));have m:Lk (frs (env::outer)) (λb=>b=e\/b=T) s.heap h:=⟨λb o q f n=>(a _).keep b o q f λz=>n (.inr z),λb o q n=>(a []).slot b o q λz=>n (.inr z),(a []).size⟩;exact m.trans k λx z=>.inl (.inl z)
theorem b4A (hfr:A.frames=some (env::outer)) (hl:s.heap.FunFrames base (env::outer)) (hf:env.frame=some L) (he:s.heap.get? e=some oe) (hn0:oe.dict=none) (hd:oe.data=.fields vs) (h1:vs[1]?=some .none)
  (q:∀ h' T',Lk (frs (env::outer)) (·=e) s.heap h'->FlyT e oe.cls T' .none h'->s.heap.objs.size<=T'->Q () { s with heap:=h' }):wpAny M A (md env (.ref e)) Q E s:=
 kh (b4z hfr hl hf he hn0 hd h1 λ_ b k f z=>b4y f λa d c=>q a b (k.trans (d _) λx w=>.inr (by rw[w];exact z)) c z)
theorem b8Z (hfr:A.frames=some (env::outer)) (hl:s.heap.FunFrames base (env::outer)) (hf:env.frame=some L) (hT:FlyT e cls T fl s.heap)
  (q:∀ h' T',Lk (frs (env::outer)) (λb=>b=e\/b=T) s.heap h'->FlyT e cls T' .none h'->T'=T\/s.heap.objs.size<=T'->Q () { s with heap:=h' }):wpAny M A (md env (.ref e)) Q E s:=
 kh (b5M hfr hl hf hT λ_ c k f z=>b4y f λa g d=>q a c (k.trans (g _) λx w=>by
  rw[w];rcases z with z | z
  ·exact .inl (.inr z)
  ·exact .inr z) d z)
end
theorem Un.lk (u:Un fs ex0 H0 H h0 h) (v:Lk fr ex h h') (hf:∀ b∈fr,b∈fs\/h0.get? b=none) (hx:∀ b,ex b->b∈ex0\/h0.get? b=none):Un fs ex0 H0 H h0 h':=by
 have g:∀ {b o},h0.get? b=some o->b∉ex0->¬ ex b:=λ{b o} q n z=>by
  rcases hx b z with z | z
  ·grind
  ·grind
 refine⟨λb o q n c a=>?_,λb o q n c a=>?_,u.free,λb o q a=>?_,u.tups,u.frzs,u.tbls⟩
 ·refine v.keep b o (u.keep b o q n c a) (λz=>?_) (g q a);rcases hf b z with z | z
  ·grind
  ·grind
 ·obtain⟨j,f⟩:=u.slot b o q n c a;obtain⟨d,e⟩:=v.slot b _ f (g q a);exact⟨d,e⟩
 ·obtain⟨i,f⟩:=u.there b o q a;obtain⟨d,e⟩:=v.slot b _ f (g q a);exact⟨_,e⟩
theorem Un.gone (u:Un fs ex H0 H h0 h) (n:h.get? b=none):b∈ex\/h0.get? b=none:=by
 cases q:h0.get? b with
 | none=>exact .inr rfl
 | some o=>
  by_cases c:b∈ex
  ·exact .inl c
  ·obtain⟨a,e⟩:=u.there b o q c;rw[n]at e;cases e
theorem Un.gone0 (u:Un fs [] H0 H h0 h) (n:h.get? b=none):h0.get? b=none:=(u.gone n).resolve_left (by simp)
theorem ObjOk.is (x:ObjOk P w H h a o):∃ ob,h.get? a=some ob:=by
 cases o with
 | lst xs=>obtain⟨_,_,_,_,e⟩:=x;exact⟨_,e⟩
 | tup xs=>obtain⟨_,_,_,b,e,_⟩:=x;exact⟨_,e⟩
 | dK kvs=>obtain⟨_,_,_,_,o,_,_,e,_⟩:=x;exact⟨_,e⟩
 | dT kvs=>obtain⟨_,_,_,_,o,_,_,e,_⟩:=x;exact⟨_,e⟩
 | set S n=>obtain⟨o,_,_,_,e,_⟩:=x;exact⟨_,e⟩
 | ins C dx fs=>obtain⟨_,_,_,e,_⟩:=x;exact⟨_,e⟩
 | own y=>obtain⟨_,e⟩:=x;exact⟨_,e⟩
 | xd fs=>obtain⟨_,⟨_,_,_,e,_⟩,_⟩:=x;exact⟨_,e⟩
 | rng lo hi=>obtain⟨_,_,_,e⟩:=x;exact⟨_,e⟩
 | frz b u=>obtain⟨e,_⟩:=x;exact⟨_,e⟩
 | tbl ps=>exact⟨_,x⟩
 | met f y=>exact⟨_,x⟩
 | ext φ=>obtain⟨_,⟨_,e⟩,_⟩:=x;exact⟨_,e⟩
theorem HOk.gone (x:HOk P w H h) (n:h.get? a=none):H a=none:=by
 cases q:H a with
 | none=>rfl
 | some u=>obtain⟨b,e⟩:=(x a u q).is;rw[n]at e;cases e
theorem HOk.lk (x:HOk P w H h) (l:Lk fr ex h h') (hf:∀ b∈fr,H b=none) (he:∀ b,ex b->H b=none):HOk P w H h':=λa o q=>
 (x a o q).stay (λb u c r=>by
  have d:H b≠none:=by
   rcases c with rfl | c
   ·simp_all
   ·simp_all
  exact l.keep b u r (λz=>d (hf b z)) λz=>d (he b z)) (λ_ q=>q) λ_ _ q=>q
structure Fly (N:Addr->Prop) (H:Hp) (fl:Value) (e:Addr) (cls:Value) (h:Heap):Prop where
 at_:∃ T,FlyT e cls T fl h/\N T/\H T=none
 old:N e
 free:H e=none
def CXx (P:kz) (w:World):CXT:=λouter H s E ev s'=>∃ e C H',ev=.ref e/\s'.os=s.os/\lb s'.gens/\Un (frs outer) [] H H' s.heap s'.heap/\HOk P w H' s'.heap/\Fly (λb=>s.heap.get? b=none) H' .none e (.ref C) s'.heap/\E (.ref C) none H'
structure TKs (H H':Hp):Prop where
 tup:∀ b xs,H b=some (.tup xs)->H' b=some (.tup xs)
 frz:∀ b o u,H b=some (.frz o u)->H' b=some (.frz o u)
def since (H:Hp) (E:XK):XK:=λc d H'=>TKs H H'->E c d H'
structure Outs (X:Cx) (E:XK):Prop where
 xe:∀ ev s',wpAny (model X.prog X.w) X.A (md X.env ev) (λ_ s''=>CXx X.prog X.w X.outer X.H₀ X.s₀ E ev s'') (λe' s''=>CXx X.prog X.w X.outer X.H₀ X.s₀ E e' s'') s'->X.xe ev s'
 stk:X.stack=X.env::X.outer
 frm:X.env.frame=some X.env.locals
 ex:X.ex=[]
theorem Outs.of {P:kz}{w:World}{K:Fg}{mg:Str->Option Value}{base:Heap}{N:List Str}{qual:Str}{scope:Scope}{f:Addr}{cd:Value}{A:Around}{outer:List Env}{s:Shared}{H:Hp}{E:XK}:Outs (cxOf (CXx P w) P w K mg base N qual scope f cd A outer s H E) E:=⟨λ_ _ h=>h,rfl,rfl,rfl⟩
section
variable {X:Cx}{E:XK}{pins:List (Addr×Obj)}{σ:St}{H:Hp}{s:Shared}
theorem Outs.frames (O:Outs X E) (I:Inv X pins σ H s):X.A.frames=some (X.env::X.outer):=by rw[<- O.stk];exact I.ok.frames
theorem Outs.sub (O:Outs X E) (I:Inv X pins σ H s):∀ b∈frs (X.env::X.outer),b∈X.fs\/X.s₀.heap.get? b=none:=λb a=>by
 rw[<- O.stk]at a;rcases ft.mp (I.stkSub b a) with z | z
 ·rw[z];exact .inr (Heap.get?_none_of_le I.ok.above)
 ·exact .inl z
theorem Outs.funs (O:Outs X E) (I:Inv X pins σ H s):s.heap.FunFrames X.base (X.env::X.outer):=by rw[<- O.stk];exact I.stack
theorem Outs.free (O:Outs X E) (I:Inv X pins σ H s):∀ b∈frs (X.env::X.outer),H b=none:=by rw[<- O.stk];exact I.stkFree
theorem Outs.base (O:Outs X E) (I:Inv X pins σ H s):Un X.fs [] X.H₀ H X.s₀.heap s.heap:=by have:=I.base;rw[O.ex]at this;exact this
theorem Outs.fin (O:Outs X E) (I:Inv X pins σ H s) {e C T:Addr}{ex:Addr->Prop}{h':Heap}(k:Lk (frs (X.env::X.outer)) ex s.heap h') (f:FlyT e (.ref C) T .none h') (hx:∀ b,ex b->X.s₀.heap.get? b=none/\H b=none) (he:ex e) (hT:ex T\/s.heap.objs.size<=T) (q:since X.H₀ E (.ref C) none H) :
  CXx X.prog X.w X.outer X.H₀ X.s₀ E (.ref e) { s with heap:=h' }:=
 ⟨e,C,H,rfl,I.os,I.bare,(O.base I).lk k (O.sub I) (λb hb=>.inr (hx b hb).1),I.hok.lk k (O.free I) λb hb=>(hx b hb).2,⟨⟨T,f,by
  rcases hT with z | z
  ·exact hx T z
  ·exact⟨Heap.get?_none_of_le (fx I.sz z),I.hok.fresh z⟩⟩,(hx e he).1,(hx e he).2⟩,q ⟨I.base.tups,I.base.frzs⟩⟩
theorem b4B (O:Outs X E) (I:Inv X pins σ H s) (hm:Heap.MadeExcOf s.heap h' e (.ref C) vs) (q:since X.H₀ E (.ref C) none H):X.xe (.ref e) { s with heap:=h' }:=by
 obtain⟨t,d,g,_⟩:=hm.there;have a:Inv X pins σ H { s with heap:=h' }:=I.kept hm.keeps;refine O.xe _ _ (b4A (O.frames I) (O.funs a) O.frm d rfl rfl (by simp) λh T l f z=>?_)
 exact O.fin a l f (λb c=>by rw[c];exact⟨(O.base I).gone0 hm.new,I.hok.gone hm.new⟩) rfl (.inr z) q
theorem a1L (O:Outs X E):a28 (CXx X.prog X.w) X (since X.H₀ E):=by
 intro a σ H s t k I ⟨e,C,o,r,i,c,n,g,⟨⟨T,f,m,d⟩,old,fe⟩,q⟩;subst r;have h:=I.call' i n g c λ_ z=>nomatch z;refine O.xe _ _ (b8Z (O.frames I) (O.funs h) O.frm f λv u l p z=>?_);refine O.fin h l p (λb j=>?_) (.inl rfl) (by
  rcases z with z | z
  ·simp_all
  ·exact .inr z) q
 rcases j with rfl | rfl
 ·exact⟨(O.base I).gone0 old,fe⟩
 ·exact⟨(O.base I).gone0 m,d⟩
end
def ExC (X:Cx) (E:XK) (C:Addr) (s:Shared) (H:Hp) (fp:List Addr) (ev:Value) (s':Shared):Prop:=
 ∃ e Cl H',ev=.ref e/\s'.os=s.os/\lb s'.gens/\Un (frs X.stack) fp H H' s.heap s'.heap/\HOk X.prog X.w H' s'.heap/\Fly (λb=>b∈fp\/s.heap.get? b=none) H' .none e (.ref Cl) s'.heap/\(∃ m,s'.heap.Ns C m)/\H' C=none/\C≠e/\E (.ref Cl) none H'
def a7S (X:Cx) (EW:XK) (sc:Scope):Prop:=∀ (pins:List (Addr×Obj)) (σ:St) (H:Hp) (s:Shared) (C:Addr) (fp:List Addr) (use:Option (Value->Sem Unit)) (Fin:Value->Shared->Prop) (acc:Value),Inv X pins σ H s->(∀ b∈fp,FpOk X pins H b)->C=s.heap.objs.size ->
 ∀ ev s',ExC X EW C s H fp ev s'->lZ (model X.prog X.w) X.A (lM sc (kE (C+1) sc.names (a1q X.env sc.names [])) C X.env) (λe s''=>mQ (model X.prog X.w) X.A X.xe use Fin acc C (.error e) s'') ev s'
theorem b0r:a7S X (λ_ _ _=>False) sc:=by
 rintro a σ H s C g d c b _ _ _ e f ⟨_,_,_,_,_,_,_,_,_,_,_,_,q⟩;exact q.elim
noncomputable def cxC (X:Cx) (EW:XK) (N':List Str) (sc:Scope) (C:Addr) (s:Shared) (H:Hp) (fp:List Addr):Cx:=
 { X with N:=N',s₀:=s,H₀:=H,env:=lM sc (kE (C+1) sc.names (a1q X.env sc.names [])) C X.env,outer:=X.stack,stack:=X.stack,ex:=fp,fn:=λx=>sc.names.lookup x==some .cell,pn:=[],xe:=ExC X EW C s H fp }
def PIfs (X:Cx) (ifs:List Expr) (t:TT):Prop:=
 ∀ (pins:List (Addr×Obj)) (s:Shared) (σ:St) (H:Hp) (Q:Bool->Hp->Prop),Inv X pins σ H s->t σ H Q ->
  wpAny (model X.prog X.w) X.A (forIn ifs true λc r=>if r=true then do let ok <- isTrue c X.env (eval c X.env);pure (ForInStep.yield ok) else pure (ForInStep.yield r)) (TP X pins σ Q) X.xe s
def tTT:TT:=λ_ H Q=>Q true H
theorem b4C:PIfs X [] tTT:=λ_ _ _ H _ I h=>wpAny_tests_nil ⟨H,I,h⟩
theorem b4D (h:PT X c t):PIfs X [c] t:=λa s σ H Q I q=>wpAny_tests_one (h a s σ H Q I q)
def LcB (J:It) (cap:List (Option Nat)) (g:TG) (tt:TT) (te:TE) (σ:St) (Q:VK) (D:Addr) (H1:Hp):Prop:=
 ∃ W:Nat->Nat->List V->Hp->Prop,(∃ m,W 0 m [] (upd H1 D (.lst [])))/\∀ i m ys H2,W i m ys H2 ->
  (J.stop i H2/\Q (.ref D) H2) \/
  (J.go i H2/\∃ N:List V->Hp->Prop,(∀ ys' H',N ys' H'->∃ m',m'<m/\W (i+1) m' ys' H')/\∀ x H',J.yld i H2 x H' ->
   g x (a41 cap σ) H' fun σ2 H3=>a2K (a41 cap σ) σ2/\tt σ2 H3 λb H4=>if b=true then te σ2 H4 λy H5=>∃ zs,H5 D=some (.lst zs)/\zs.length<ki/\N (zs++[y]) (upd H5 D (.lst (zs++[y]))) else N ys H4)
def tLC (wi:TI) (cap:List (Option Nat)) (g:TG) (tt:TT) (te:TE):TE:=fun σ H Q=>wi σ H λJ H1=>∀ D,H1 D=none->LcB J cap g tt te σ Q D H1
structure CFree (X:Cx) (pins:List (Addr×Obj)) (H:Hp) (C:Addr):Prop where
 free:H C=none
 loc:C≠X.env.locals
 old:X.s₀.heap.objs.size<=C
 cell:∀ x c,X.env.cells.lookup x=some c->c≠C
 pin:∀ p∈X.pn++pins,p.1≠C
section
variable {X:Cx}{pins:List (Addr×Obj)}{σ:St}{H:Hp}{s:Shared}{N':List Str}{sc:Scope}{cap:List (Option Nat)}{C:Addr}{fp:List Addr}{EW:XK}
theorem b2w (I:Inv X pins σ H s) (ck:CapOk X.N X.env.scope sc N' cap):∀ x∈sc.names,x.2=.free->∃ c,X.env.cells.lookup x.1=some c:=λx a b=>
 I.ok.has x.1 (ck.fre x a b)
theorem a7i (I:Inv X pins σ H s) (ck:CapOk X.N X.env.scope sc N' cap) (h:(a1q X.env sc.names []).lookup x=some c):X.env.cells.lookup x=some c:=
 a2I sc.names [] (b2w I ck) (λy c h=>by simp at h) c h
theorem b2x (h:(kE n sc.names acc).lookup x=some c):(kE n sc.names []).lookup x=some c\/((kE n sc.names []).lookup x=none/\acc.lookup x=some c):=by
 rw[a1O,iU]at h;cases e:(kE n sc.names []).lookup x with
 | none=>rw[e]at h;exact .inr ⟨rfl,h⟩
 | some d=>rw[e]at h;exact .inl h
theorem a7T (I:Inv X pins σ H s) (ck:CapOk X.N X.env.scope sc N' cap) (co:mh hjq n (kE n sc.names [])) (h:(kE n sc.names (a1q X.env sc.names [])).lookup x=some c):(hjq.IsCell c none/\n<=c)\/X.env.cells.lookup x=some c:=by
 rcases b2x h with h | ⟨_,h⟩
 ·exact .inl (co.empty _ _ (PySem.mem_of_lookup h))
 ·exact .inr (a7i I ck h)
theorem b2y (env:Env) (x:Str):(lM sc cl C env).kindOf x=(sc.names.lookup x).map λk=>if (k==kD.free&&env.scope.kind==.function&&env.kindOf x==some .cell)=true then kD.cell else k:=
 a3G sc.names
theorem a2t {l:List (Str×kD)}(h:l.lookup x=some k):(x,k)∈l:=PySem.mem_of_lookup h
theorem c1o (I:Inv X pins σ H s) (ck:CapOk X.N X.env.scope sc N' cap) (hf:∀ b∈fp,FpOk X pins H b) (hlt:∀ b∈fp,b<s.heap.objs.size) (hC:C=s.heap.objs.size) (co:mh hjq (C+1) (kE (C+1) sc.names [])):(cxC X EW N' sc C s H fp).Ok:=by
 have cl:∀ {x:Str}{c:Addr},(kE _ sc.names _).lookup x=some c->_\/X.env.cells.lookup x=some c:=λh=>a7T I ck co h;have j:∀ {x:Str}{c:Addr},X.env.cells.lookup x=some c->c<C:=λe=>by
  obtain⟨v,q⟩:=I.cell _ _ e;rw[hC];exact q.lt
 refine⟨I.ok.mod,ck.kind,I.ok.glob,I.ok.blt,by rw[hC];exact ff _,λx y c t g=>?_,λx m=>?_,λx c h g=>?_,I.ok.hd,I.ok.frames,.inl rfl,λb a=>⟨?_,λx c h=>?_⟩,I.bs,fx I.ok.bsz I.sz,λb o e a=>?_,λb a r=>?_,I.stack,I.stkFree⟩
 ·rcases b2x t with a1 | ⟨_,a1⟩<;>rcases b2x g with a2 | ⟨_,a2⟩
  ·exact name_of_addr co.apart (PySem.mem_of_lookup a1) (PySem.mem_of_lookup a2)
  ·exact absurd (fF (j (a7i I ck a2)) (ic (co.empty _ _ (PySem.mem_of_lookup a1)).2)) (fM _)
  ·exact absurd (fF (j (a7i I ck a1)) (ic (co.empty _ _ (PySem.mem_of_lookup a2)).2)) (fM _)
  ·exact I.ok.inj x y c (a7i I ck a1) (a7i I ck a2)
 ·have f:(sc.names.lookup x).map (λk=>if (k==kD.free&&X.env.scope.kind==.function&&X.env.kindOf x==some .cell)=true then kD.cell else k)=some .cell \/
    (sc.names.lookup x).map (λk=>if (k==kD.free&&X.env.scope.kind==.function&&X.env.kindOf x==some .cell)=true then kD.cell else k)=some .free:=by
   rw[<- b2y X.env x];exact m
  show ∃ c,(kE _ sc.names _).lookup x=some c
  cases e:sc.names.lookup x with
  | none=>rw[e]at f;rcases f with z | z<;>cases z
  | some k=>
   have p:=a2t e;rw[a1O,iU];cases e2:(kE _ sc.names []).lookup x with
   | some d=>exact⟨d,rfl⟩
   | none=>
    by_cases hk:k=.free
    ·subst hk;exact a3v sc.names [] p
    ·rw[e]at f;have a:(k==kD.free)=false:=by simpa using hk
     simp only[iQ,a,fQ.injEq]at f;rcases f with z | z
     ·subst z;obtain⟨d,i⟩:=a5O e;rw[i]at e2;cases e2
     ·exact absurd z hk
 ·have e:sc.names.lookup x=some .cell:=by
   have h:(sc.names.lookup x==some .cell)=true:=h;simpa using h
  obtain⟨d,i⟩:=a5O e;have g:(kE _ sc.names _).lookup x=some c:=g;rw[a1O,iU,i]at g;cases g;exact fx (g5 hC.symm) (ic (co.empty _ _ (PySem.mem_of_lookup i)).2)
 ·show b≠C
  rw[hC];exact fz (hlt b a)
 ·rcases cl h with ⟨_,z⟩ | z
  ·exact λe=>absurd (fF (hlt b a) (fx (g5 hC.symm) (e▸ic z))) (fM _)
  ·exact (hf b a).2.2.2.2.1 x c z
 ·obtain⟨_,_,_,z,_⟩:=hf b a;rcases z with z | z
  ·exact I.ok.noex b o e z
  ·exact absurd (fF (Heap.lt_size e) (fx I.ok.bsz z)) (fM _)
 ·rcases ft.mp (I.stkSub b r) with z | z
  ·exact (hf b a).2.1 z
  ·exact (hf b a).2.2.1 z
theorem b80 (I:Inv X pins σ H s) (ck:CapOk X.N X.env.scope sc N' cap) (hf:∀ b∈fp,FpOk X pins H b) (hlt:∀ b∈fp,b<s.heap.objs.size) (hC:C=s.heap.objs.size)
  (hn:hjq.Ns C m) (co:mh hjq (C+1) (kE (C+1) sc.names [])) (hk:∀ b o,s.heap.get? b=some o->hjq.get? b=some o):Inv (cxC X EW N' sc C s H fp) [] (a41 cap σ) H { s with heap:=hjq,toks:=t' }:=by
 refine⟨c1o I ck hf hlt hC co,rfl,I.bare,Un.kept hk,⟨m,hn,λi x v F a T=>?_⟩,λx c h=>?_,?_,λx c h=>?_,λp G=>absurd (show p∈([]) from G) (by simp),I.hok.kept hk,?_⟩
 ·have B:=F;unfold a41 at a;rw[fm]at a;cases ec:cap[i]? with
  | none=>rw[ec]at a;cases a
  | some o=>
   rw[ec]at a;cases o with
   | none=>simp at a
   | some j=>
    have e:(σ[j]?).join=some v:=by simpa using a
    have t:σ[j]?=some (some v):=by
     cases q:σ[j]? with
     | none=>rw[q]at e;cases e
     | some w=>rw[q]at e;rw[show w=some v from e]
    obtain⟨L,g⟩:=ck.cap i x j B ec;have n:=ck.fre _ (a2t g) rfl;obtain⟨S,_,M⟩:=I.loc;obtain⟨u,E,Q⟩:=M j x v L t (.inr n);refine⟨u,E,.inr ⟨?_,?_⟩⟩
    ·show (lM sc _ C X.env).kindOf x=some .cell\/(lM sc _ C X.env).kindOf x=some .free
     rw[b2y,g];simp only[iQ,beq_self_eq_true,fZ]
     by_cases hc:(X.env.scope.kind==ScopeKind.function&&X.env.kindOf x==some kD.cell)=true
     ·simp_all
     ·rw[if_neg hc];exact .inr rfl
    ·obtain⟨D,l⟩:=a3v sc.names [] (a2t g);have J:=a7i I ck l;rcases Q with ⟨k,_⟩ | ⟨_,c,ec',z⟩
     ·have R:X.env.scope.names.lookup x=some .local:=k;have f:=n;rw[R]at f;rcases f with q | q<;>cases q
     ·rw[J]at ec';cases ec';obtain⟨y,A,r⟩:=z;refine⟨D,?_,y,hk _ _ A,r⟩
      show (kE (C+1) sc.names _).lookup x=some D
      rw[a1O,iU,l];cases a:(kE (C+1) sc.names []).lookup x with
      | none=>rfl
      | some d=>
       have:=ck.cms _ (a56 (PySem.mem_of_lookup a)) rfl
       rw[g]at this;cases this
 ·rcases a7T I ck co h with ⟨z,_⟩ | z
  ·grind
  ·obtain⟨v,y,A,r⟩:=I.cell x c z;exact⟨v,y,hk _ _ A,r⟩
 ·show H C=none
  rw[hC];exact I.hok.fresh (ff _)
 ·rcases a7T I ck co h with ⟨_,z⟩ | z
  ·exact I.hok.fresh (fx (g5 hC.symm) (ic z))
  ·exact I.freeC x c z
 ·show (a41 cap σ).length=N'.length
  unfold a41;rw[fc];exact ck.len
theorem b6X (I:Inv X pins σ H s) (hf:∀ b∈fp,FpOk X pins H b) (J:Inv (cxC X EW N' sc C s H fp) pins' σ' H' s'):Inv X pins σ H' s':=
 I.call' J.os J.base J.hok J.bare λb a=>⟨(hf b a).2.2.2.1,(hf b a).2.1,(hf b a).2.2.2.2.1,(hf b a).2.2.2.2.2⟩
theorem b4E (I:Inv X pins σ H s) (hC:C=s.heap.objs.size) (J:Inv (cxC X EW N' sc C s H fp) pins' σ' H' s'):CFree X pins H' C:=by
 refine⟨J.free,by rw[hC];exact iJ I.lt,by rw[hC];exact I.sz,λx c e z=>?_,λp a z=>?_⟩
 ·obtain⟨v,q⟩:=I.cell x c e;exact absurd q.lt (by simp_all)
 ·exact absurd (Heap.lt_size (I.pin p a).1) (by simp_all)
theorem CFree.after (F:CFree X pins H C) (I:Inv X pins σ H s) (k:∀ b o,b≠C->s.heap.get? b=some o->h'.get? b=some o):Inv X pins σ H { s with heap:=h',toks:=t' }:=
 I.turned k F.free F.loc (.inr F.old) F.cell F.pin
end
section
variable {X:Cx}{elt tg iter:Expr}{ifs:List Expr}{sc:Scope}{pos:Pos}{wi:TI}{g:TG}{tt:TT}{te:TE}{N':List Str}{cap:List (Option Nat)}{EW:XK}
theorem b2z (hc:X.calm=true) (hE:a7S X EW sc) (ck:CapOk X.N X.env.scope sc N' cap) (hi:PI X tg iter wi)
    (hg:∀ C s H fp,PG (cxC X EW N' sc C s H fp) tg g) (ht:∀ C s H fp,PIfs (cxC X EW N' sc C s H fp) ifs tt) (he:∀ C s H fp,PE (cxC X EW N' sc C s H fp) elt te)
    (hs:∀ x,lA iter X.env x=pure x) {Fin:Value->Shared->Prop}
 (I:Inv X pins σ H s) (h:tLC wi cap g tt te σ H Q)
    (fin:∀ D s' C m H',Inv X pins σ H' s'->Q (.ref D) H'->s'.heap.Ns C m->CFree X pins H' C->mQ (model X.prog X.w) X.A X.xe use Fin (.ref D) C (.ok .next) s') :
    wpAny (model X.prog X.w) X.A (comprehension (.ListComp elt [⟨tg,iter,ifs,0⟩] sc pos) sc X.env pos' (newList []) false (eval iter X.env) use) Fin X.xe s:=by
  refine wpAny_comprehension_free rfl hs (a7Q (b2w I ck)) ck.kind ck.nms ?_;refine thn (hi pins s σ H _ I h) λv s1 h1=>thn h1 λitv j h2=>?_;obtain⟨it,f,tn,J,H2,e,I2,T,st2,f2,h2⟩:=h2;subst e;have hD:=I2.hok.fresh (ff _);obtain⟨W,⟨m0,w0⟩,turn⟩:=h2 j.heap.objs.size hD;refine mJ ?_;have t:=I2.lnew (t':=j.toks) .nil (fL _);generalize hs3:({ j with heap:=j.heap.push { cls:=.type "list",data:=.seq ([]:List Value).toArray } }:Shared)=s3 at t;generalize hH3:upd H2 j.heap.objs.size (.lst [])=H3 at t w0;have ac:∀ b∈f,b<j.heap.objs.size:=λb a=>by
    obtain⟨o,e,_⟩:=T.obj _ _ st2 b a;exact Heap.lt_size e
  have sz3:s3.heap.objs.size=j.heap.objs.size+1:=by rw[<- hs3];exact Heap.size_push _ _
  have L:∀ b∈f,b<s3.heap.objs.size:=λb a=>by rw[sz3];exact ie (ac b a)
  have B:∀ b∈f,FpOk X pins H3 b:=λb a=>by
    refine⟨?_,(f2 b a).2⟩;rw[<- hH3,a0x (fz (ac b a))];exact (f2 b a).1
  have st3:tn 0 s3.heap:=T.keep _ _ _ st2 λb _ o e=>by rw[<- hs3];exact Heap.get?_push_of_some _ e
  refine a7R λhjq hjj hk co=>?_;have I4:=b80 (EW:=EW) (t':=s3.toks) t ck B L rfl hjj co hk;generalize hs4:({ s3 with heap:=hjq,toks:=s3.toks }:Shared)=s4 at I4 ⊢;have st4:tn 0 s4.heap:=T.keep _ _ _ st3 λb _ o e=>by rw[<- hs4];exact hk b o e
  have G:∀ {k:Hp}{l:List (Addr×Obj)},(∀ p∈l,p.1∉f)->(∀ b∈f,k b=none)->∀ b∈f,FpOk (cxC X EW N' sc s3.heap.objs.size s3 H3 f) l k b:=λ{k l} E hn b a=>
    ⟨hn b a,fz (L b a),λz=>by
      rcases ft.mp (t.stkSub b z) with z | z
      · exact (B b a).2.1 z
      · exact (B b a).2.2.1 z,.inl a,λx c e=>by
        rcases a7T t ck co e with ⟨_,z⟩ | z
        · exact λe=>absurd (fF (L b a) (e▸ic z)) (fM _)
        · exact (B b a).2.2.2.2.1 x c z,λp hp' z=>E p hp' (by rw[z];exact a)⟩
  have hx:=hE pins σ H3 s3 s3.heap.objs.size f use Fin (.ref j.heap.objs.size) t B rfl;have ab:li (model X.prog X.w) X.A (.compLoop (.ListComp elt [⟨tg,iter,ifs,0⟩] sc pos) 0 (.ref it) (.ref j.heap.objs.size) (lM sc (kE (s3.heap.objs.size+1) sc.names (a1q X.env sc.names [])) s3.heap.objs.size X.env))
      (mQ (model X.prog X.w) X.A X.xe use Fin (.ref j.heap.objs.size) s3.heap.objs.size) s4:=by
    refine a3X (λn s'=>∃ i ys σ' k,Inv (cxC X EW N' sc s3.heap.objs.size s3 H3 f) [] σ' k s'/\a2K (a41 cap σ) σ'/\tn i s'.heap/\(∀ b∈f,k b=none)/\W i n ys k) ?_ m0
      ⟨0,[],a41 cap σ,H3,I4,a3j _,st4,λb a=>(B b a).1,w0⟩
    rintro n s5 ⟨i,ys,σ5,H5,I5,k5,st5,fr5,w5⟩;have kk:=a42 k5;have I5:=I5.weak kk.1 kk.2;rcases turn i n ys H5 w5 with ⟨stop,q⟩ | ⟨go,N,hN,step⟩
    · refine thn (T.done (cxC X EW N' sc s3.heap.objs.size s3 H3 f) rfl rfl rfl hc i [] s5 _ H5 _ I5 (G (λp E=>by cases E) fr5) st5 stop) λr s6 ⟨hr,I6⟩=>?_
      subst hr;obtain⟨m6,n6,_⟩:=I6.loc;exact fin _ s6 _ m6 H5 (b6X t B I6) q n6 (b4E t rfl I6)
    · refine thn (T.item (cxC X EW N' sc s3.heap.objs.size s3 H3 f) rfl rfl rfl hc i [] s5 _ H5 _ I5 (G (λp E=>by cases E) fr5) st5 go) λr s6 ⟨u,hr,h6⟩=>?_
      subst hr;refine thn h6 λ_ s7 ⟨x,H7,I7,r7,y7,aa,fr7⟩=>?_;have I7':=I7.pinned (G (λp E=>by cases E) fr7) (T.obj _ _ aa);have R:∀ {σ9:St}{F:Hp}{U:Shared}{M:List V},Inv (cxC X EW N' sc s3.heap.objs.size s3 H3 f) ([]++b0o f s7.heap) σ9 F U->a2K (a41 cap σ) σ9->N M F ->
          ∃ m,m<n/\∃ i ys σ' k,Inv (cxC X EW N' sc s3.heap.objs.size s3 H3 f) [] σ' k U/\a2K (a41 cap σ) σ'/\tn i U.heap/\(∀ b∈f,k b=none)/\W i m ys k:=λ{σ9 F U M} Y k9 n9=>by
        obtain⟨m',hm,w9⟩:=hN M F n9;refine⟨m',hm,i+1,M,σ9,F,Y.unpinned,k9,T.keep _ _ _ aa λb a o e=>(Y.pin (b,o) (gz _ (gz _ (a3u a e)))).1,λb a=>?_,w9⟩;obtain⟨o,e,d⟩:=T.obj _ _ aa b a;exact (Y.pin (b,o) (gz _ (gz _ (a3u a e)))).2.1
      refine kG (hg _ _ _ _ _ s7 _ H7 x u _ I7' r7 (step x H7 y7)) (λ_ s8 ⟨σ8,H8,I8,k8,q8⟩=>?_) hx;refine kG (ht _ _ _ _ _ s8 σ8 H8 _ I8 q8) (λb U ⟨F,Y,q9⟩=>?_) hx;cases b with
      | false=>
        rw[if_neg fH]at q9 ⊢;exact R Y k8 q9
      | true=>
        rw[if_pos rfl]at q9 ⊢;refine kG (he _ _ _ _ _ U σ8 F _ Y q9) (λy s10 ⟨vy,H10,I10,r10,zs,hacc,hsz,q10⟩=>?_) hx;refine kG (a8y (X:=cxC X EW N' sc s3.heap.objs.size s3 H3 f) _ s10 σ8 H10 (.ref j.heap.objs.size) [vy] (.ref j.heap.objs.size) [y] (λ_ k=>N (zs++[vy]) k) I10 rfl (.cons r10 .nil) ⟨_,zs,vy,rfl,rfl,hacc,hsz,q10⟩) (λ_ s11 ⟨_,H11,I11,_,q11⟩=>?_) hx;exact R I11 k8 q11
  exact codeAny_compStart_list ab (T.self _ 0 _ _ _ st4 ab)
theorem c1p (hc:X.calm=true) (hE:a7S X EW sc) (hNN:X.N=N₀) (hso:X.env.scope=so) (ck:capB N₀ so sc N' cap=true) (hi:PI X tg iter wi)
  (hg:∀ C s H fp,PG (cxC X EW N' sc C s H fp) tg g) (ht:∀ C s H fp,PIfs (cxC X EW N' sc C s H fp) ifs tt) (he:∀ C s H fp,PE (cxC X EW N' sc C s H fp) elt te)
  (hs:∀ x,lA iter X.env x=pure x:=by intro _;rfl):PE X (.ListComp elt [⟨tg,iter,ifs,0⟩] sc pos) (tLC wi cap g tt te):=by
 intro f s σ H Q I h;subst hNN hso;refine b2z hc hE (b2u ck) hi hg ht he hs I h λD d C m i c q k F=>?_;exact⟨m,k,λl a=>⟨.ref D,i,F.after c (λb o j e=>a.extBut b o j e),rfl,q⟩⟩
theorem b4F (hN:X.N.Nodup) (hx:X.N[i]?=some x) (hl:X.env.scope.names.lookup x=some .local) (hc:X.calm=true) (hE:a7S X EW sc) (hNN:X.N=N₀) (hso:X.env.scope=so) (ck:capB N₀ so sc N' cap=true) (hi:PI X tg iter wi)
  (hg:∀ C s H fp,PG (cxC X EW N' sc C s H fp) tg g) (ht:∀ C s H fp,PIfs (cxC X EW N' sc C s H fp) ifs tt) (he:∀ C s H fp,PE (cxC X EW N' sc C s H fp) elt te)
  (hsw:lh (.ListComp elt [⟨tg,iter,ifs,0⟩] sc pos) (some (.Name x pos')) spos.line X.env=pure true:=by rfl)
  (hs:∀ x,lA iter X.env x=pure x:=by intro _;rfl):PS X (.Assign [.Name x pos'] (.ListComp elt [⟨tg,iter,ifs,0⟩] sc pos) spos) (tAsg (tLC wi cap g tt te) (b12 i)):=by
 subst hNN hso;intro f s σ H D I h;rw[exec_Assign_Name_used _ _ _ _ hsw];refine kh (mD (kh ?_));refine kh (kG (b2z hc hE (b2u ck) hi hg ht he hs I h λd c C m w t q E F=>?_) (λ_ c u=>kA (kA u)) λ_ _ e=>e);refine wpAny_assign_Name (a8o t hN hx (.inl hl) (v:=.ref d) rfl (λj n y=>?_) (.inr hl));obtain⟨a,p,r⟩:=y;have l:C≠a:=by
  rcases r with z | z
  ·rw[z];exact F.loc
  ·exact Ne.symm (F.cell _ _ z)
 exact⟨m,E.sameBut p l,λG k=>⟨_,w,F.after n (λb o B e=>k.extBut b o B e),q⟩⟩
end
section
variable {X:Cx}{st:Stmt}{rest:List Stmt}{t u:TS}{e:Expr}{te:TE}{tt:TT}
end
mutual
def DV (H:Hp):PyData->V->Prop
 | .none,x=>x=.non
 | .bool b,x=>x=.bl b
 | .int i,x=>x=.int i
 | .str s,x=>x=.str s
 | .list ds,x=>∃ a vs,x=.ref a/\H a=some (.lst vs)/\DVs H ds vs
 | .tuple ds,x=>∃ a vs,x=.ref a/\H a=some (.tup vs)/\DVs H ds vs
 | .dict _,_=>False
def DVs (H:Hp):List PyData->List V->Prop
 | [],vs=>vs=[]
 | d::ds,vs=>∃ v r,vs=v::r/\DV H d v/\DVs H ds r
end
mutual
theorem DV.reads {P:kz}{w:World}{H:Hp}{h:Heap}(ok:HOk P w H h):∀ {d:PyData}{x:V}{u:Value},DV H d x->RelV x u->∃ as,Reads h u d as
 | .none,x,u,q,r=>by
  unfold DV at q;subst q;cases (show u=Value.none from r);exact⟨_,.none⟩
 | .bool b,x,u,q,r=>by
  unfold DV at q;subst q;cases (show u=Value.bool b from r);exact⟨_,.bool b⟩
 | .int i,x,u,q,r=>by
  unfold DV at q;subst q;obtain⟨t,e⟩:=(show ∃ t,u=Value.int i t from r);subst e;exact⟨_,.int i t⟩
 | .str s,x,u,q,r=>by
  unfold DV at q;subst q;obtain⟨t,e⟩:=(show ∃ t,u=Value.str s t from r);subst e;exact⟨_,.str s t⟩
 | .list ds,x,u,q,r=>by
  unfold DV at q;obtain⟨a,vs,e,ha,q⟩:=q;subst e;cases (show u=Value.ref a from r);obtain⟨_,its,n,rv,e⟩:=ok a _ ha;obtain⟨as,rd⟩:=DVs.reads ok q rv;exact⟨_,.list e rfl rfl (by simpa using rd)⟩
 | .tuple ds,x,u,q,r=>by
  unfold DV at q;obtain⟨a,vs,e,ha,q⟩:=q;subst e;cases (show u=Value.ref a from r);obtain⟨_,its,rv,o,e,c,n,d⟩:=ok a _ ha;obtain⟨as,rd⟩:=DVs.reads ok q rv;exact⟨_,.tuple e c d (by simpa using rd)⟩
 | .dict _,x,u,q,r=>by unfold DV at q;exact q.elim
theorem DVs.reads {P:kz}{w:World}{H:Hp}{h:Heap}(ok:HOk P w H h):∀ {ds:List PyData}{vs:List V}{us:List Value},DVs H ds vs->Vals vs us->∃ as,ReadsAll h us ds as
 | [],vs,us,q,r=>by
  unfold DVs at q;subst q;cases r;exact⟨_,.nil⟩
 | d::ds,vs,us,q,r=>by
  unfold DVs at q;obtain⟨v,rr,e,q1,q2⟩:=q;subst e;cases r with
  | cons r1 r2=>
   obtain⟨as,h1⟩:=DV.reads ok q1 r1;obtain⟨bs,h2⟩:=DVs.reads ok q2 r2;exact⟨_,.cons h1 h2⟩
end
def rEqD:R2:=λx y H Q=>∃ d e,DV H d x/\DV H e y/\SeqAt.shaped d=true/\SeqAt.shaped e=true/\Q (.bl (PyData.eqv d e)) H
def rNeD:R2:=λx y H Q=>∃ d e,DV H d x/\DV H e y/\SeqAt.shaped d=true/\SeqAt.shaped e=true/\Q (.bl (!PyData.eqv d e)) H
section
variable {X:Cx}
theorem b5N (hu:X.A.units+66<cLine):OpR X (kC .Eq) rEqD:=by
 intro i s σ H x y v u Q I g k h;obtain⟨d,e,b,f,l,a,q⟩:=h;obtain⟨m,j⟩:=b.reads I.hok g;obtain⟨n,c⟩:=f.reads I.hok k;exact eq_dataH j c l a (by omega) ⟨.bl _,H,I,rfl,q⟩
theorem b81 (hu:X.A.units+66<cLine):OpR X (kC .NotEq) rNeD:=by
 intro b s σ H x y v u Q I j c h;obtain⟨d,e,a,g,l,i,q⟩:=h;obtain⟨n,f⟩:=a.reads I.hok j;obtain⟨m,k⟩:=g.reads I.hok c;exact ne_dataH f k l i (by omega) ⟨.bl _,H,I,rfl,q⟩
def b82 (_ j:Int):Prop:=0<j/\j<2 ^ 64
theorem b4G:OpR X (kI .FloorDiv) (rI b82 λi j=>.int (i / j)):=opI λi j _ _ _ _ _ a q=>by
 have c:(0:Int)<j:=a.1;have d:j<2 ^ 64:=a.2;refine floordiv_int (by omega) ?_ (.inl (PyProof.noPylong_of_log2 ?_))
 ·rw[Int.fdiv_eq_ediv_of_nonneg i (by omega)];exact q
 ·have b:j.natAbs<2 ^ 64:=by omega
  have e:=(Nat.log2_lt (by omega)).mpr b;omega
def rIsT (K:Fg):List V->Hp->VK->Prop:=λxs H Q=>∃ x T t b,xs=[x,.ty T]/\TyOf K H x t/\PySem.W.kitOne K t (.type T)=some b/\Q (.bl b) H
theorem b4H:CallR X (.builtin "isinstance") (rIsT X.K):=by
 intro c s σ H j k Q I r h;obtain⟨x,T,t,b,rfl,i,e,q⟩:=h;obtain⟨u,g,rfl,f,a⟩:=a9z r;cases (a);exact a8q I f i e λd=>⟨.bl b,H,I.tok d,rfl,q⟩
end
abbrev veM:List Value:=[.type "ValueError",.type "Exception",.type "BaseException",.type "object"]
theorem b83 {K:Fg}(q:PySem.W.excIn K C veM "ValueError.__new__"=true):∃ bm N nm qn bs hd sn sub ab col dd k0 k1 k2 k3 k5,K.lookup C=some (excClassObj nm qn C N bs bm hd sn sub ab col dd k0 k1 k2 k3 k5 "ValueError.__new__") /\
  PySem.W.nsOkIn K N=true/\PySem.W.nsIn K N "__init__"=some none/\PySem.W.tailIn K veM bm=true:=by
 unfold PySem.W.excIn at q
 split at q
 ·rename_i dd cd sl ho
  split at q
  ·rename_i C2 bm k0 k1 k2 k3 nw k5 hm hs
   simp at q;obtain⟨⟨⟨⟨⟨p,k⟩,e⟩,g⟩,b⟩,d⟩:=q;subst p k;obtain⟨r,h,t,m,o,i,n,a,j,c,s⟩:=cd;subst hm e;have f:sl=#[k0,k1,k2,k3,some (.builtin "ValueError.__new__"),k5]:=by
    cases sl with
    | mk l=>dsimp only at hs;rw[hs]
   subst f;exact⟨bm,m,r,o,h,i,n,a,j,c,dd,k0,k1,k2,k3,k5,ho,b,d,g⟩
  ·cases q
 ·cases q
section
variable {X:Cx}{E:XK}
theorem b4I (O:Outs X E) (hc:X.calm=true) (hg:Gl X x) (hm:X.mg x=some (.ref C)) (hq:PySem.W.excIn X.K C veM "ValueError.__new__"=true) (he:PE X e0 te)
  (hs:kj [e0] X.env=(false,eval e0 X.env)::kj [] X.env:=by rfl) (hp:(backTo cpos (kj [] X.env)).any (·.1)=false:=by rfl) (hd:(x==("__debug__":Str))=false:=by decide) :
  PS X (.Raise (some (.Call (.Name x np) [e0] [] cpos)) none pos) (λ_ σ H=>te σ H λ_ H1=>since X.H₀ E (.ref C) none H1):=by
 intro d s σ H D I h;obtain⟨bm,N,nm,qn,bs,k,sn,sub,ab,col,dd,k0,k1,k2,k3,k5,hC,u,z6,z4⟩:=b83 hq;have B:=I.mod.kin;have hN:X.base.Ns N (X.base.nsMap N):=.of_isNs (PySem.W.isNs_of_in B u);have hi:=PySem.W.nsMap_none_of_in B u z6;have T:=PySem.W.tail_of_in B z4;refine wpAny_Raise_call_subT (nm:=nm) (q:=qn) (N:=N) (bs:=bs) (hdct:=k) (sn:=sn) (sub:=sub) (ab:=ab) (col:=col) (dd:=dd) (k0:=k0) (k1:=k1) (k2:=k2) (k3:=k3) (k5:=k5) PySem.F.excBase_ValueError (T.hasType (by decide)) (I.ok.hd hc)
  (by rw[hs];show (false||(backTo cpos _).any (·.1))=false;rw[hp];rfl) hi (a5Z I hg hm ⟨rfl,?_⟩ hd)
 rw[hs];refine Calls.evalArgs_plain (Calls.spliced_cons (thn (he d s σ H _ I h) λv s2 ⟨y,H2,a,_,q2⟩=>Calls.spliced_nil ⟨rfl,g0 (a0u (jH rfl)),a.bk _ _ (B _ _ hC),hN.keeps a.bk,T.keeps a.bk,λh' e hm=>b4B O a hm q2⟩))
end
section
variable {X:Cx}{E:XK}
end
end L2
namespace L2
open PySem PySem.Spec PySem.Calls PyProof.Rows PySem.W
structure ExK (K:Frag) (D:Addr):Prop where
 cls:(clsIn K D).isSome=true
 ga:findIn K (.ref D) "__getattribute__"=some (some (.builtin "BaseException.__getattribute__"))
 hk:findIn K (.ref D) "__getattr__"=some none
 ha:findIn K (.ref D) "__class__"=some (some (.builtin "object.__class__"))
 hn:specialIn K (.builtin "object.__class__") "__get__"=some (some (.builtin "getset_descriptor.__get__"))
 tk:takesIn K (.builtin "object.__class__")=some true
 hm:mroIn K D (.type "object")=some true
 hb:mroIn K D (.type "BaseException")=some true
section
variable {prog:kz}{w:World}{A:Around}{E:Value->Shared->Prop}{s:Shared}{K:Frag}{x D:Addr}{ox:Obj}
theorem ExK.find (k:ExK K D):findObj K D none "__class__"=some (.bind (.builtin "getset_descriptor.__get__") (.builtin "object.__class__")):=by
 obtain⟨b,a⟩:=iM.mp k.cls;unfold findObj;rw[a,jI,k.ha,jI];simp[k.hn,k.tk]
theorem a8C (k:ExK K D) (X:K.In s.heap) (I:InstAt s.heap x ox D none) (h:Q () s):wpAny (model prog w) A (checkBuiltinCall "BaseException.__getattribute__" ⟨[.ref x,v],[]⟩) Q E s:=by
 have b:builtinKind "BaseException.__getattribute__"=some .slot:=by decide +kernel
 have a:splitId "BaseException.__getattribute__"=some ("BaseException","__getattribute__"):=by decide +kernel
 have i:=I.type (M:=model prog w);have j:=looks_mroIn (M:=model prog w) X k.hb;simp only[checkBuiltinCall,b,a]
 repeat lk
 exact h
theorem b84 (k:ExK K D) (X:K.In s.heap) (I:InstAt s.heap x ox D none) (h:Q (.done (.ret (.ref D))) s) :
  wpAny (model prog w) A (kF.«object.__getattribute__» ⟨[.ref x,.str "__class__" tk],[]⟩) Q E s:=by
 obtain⟨b,g,d,t,a⟩:=s;have c:=I.type (M:=model prog w);have e:=looks_find (M:=model prog w) X I k.find
 repeat (first | with_reducible refine lU ?_ | lk)
 exact class_get X I k.hm (kA h)
theorem b2A (k:ExK K D) (X:K.In s.heap) (I:InstAt s.heap x ox D none) (h:Q (some (.ref D)) { s with toks:=s.toks+1 }):wpAny (model prog w) A (getAttr? (.ref x) "__class__") Q E s:=by
 have c:=I.type (M:=model prog w);have a:=looks_findIn (M:=model prog w) X k.ga;have e:=looks_findIn (M:=model prog w) X k.hk;refine kh (wpAny_mkText (kh (mj (kM (kh (c.at (kh (a.at ?_))))))));dsimp only;refine kh (e.at ?_);refine kh (mj (kM ?_));unfold callGetattribute boundAndCalled;rw[if_neg (by simp)];have b:=PySem.F.excAttr_ValueError.ga.bind (.ref x);rw[b];refine kh (kA (lU (codeAny_call_builtin PySem.F.excAttr_ValueError.ga.plain PySem.F.entry_bexc_ga (a8C k X I (b84 k X I ?_)))));exact handed_on rfl (kA h)
theorem a7U (k:ExK K D):KitX K (.ref x) (.ref D) (λh=>InstAt h x ox D none) where
 ty:=λ_ _ _ I=>I.type
 it:=λ_ _ X _=>by
  obtain⟨cd,hc⟩:=iM.mp k.cls;unfold clsIn at hc
  split at hc
  ·rename_i ho
   intro A' Q' E' s' k q;unfold isType loadHead;exact kh (wpAny_loadPart (k _ _ (X _ _ ho)) (kA q))
  ·cases hc
 ne:=λh tp dd its n sl X htp=>by
  obtain⟨cd,hc⟩:=iM.mp k.cls;refine Bool.eq_false_iff.mpr λq=>?_;have e:D=tp:=Value.ref.inj (beq_iff_eq.mp q);subst e;unfold clsIn at hc
  split at hc
  ·rename_i ho
   have z:=(X _ _ ho).symm.trans htp;cases z
  ·cases hc
 ca:=λX I q=>b2A k X I q
end
end L2
namespace L2
open PySem PySem.Spec PyProof.Rows
section
variable {X:Cx}{pins:List (Addr×Obj)}{σ σ':St}{H:Hp}{s:Shared}
theorem Inv.lk (I:Inv X pins σ H s) (k:Lk (frs X.stack) ex s.heap h') (hx:∀ b,ex b->X.s₀.heap.get? b=none/\H b=none/\(∀ x c,X.env.cells.lookup x=some c->c≠b)/\∀ p∈X.pn++pins,p.1≠b)
  (hl:∃ m,h'.Ns X.env.locals m/\∀ (i:Nat) (x:Str) (v:V),X.N[i]?=some x->σ'[i]?=some (some v)->Vis X.env.scope x->∃ u,RelV v u/\Look X.env h' m x u) (hn:σ'.length=σ.length):Inv X pins σ' H { s with heap:=h',toks:=t' }:=by
 refine⟨I.ok,I.os,I.bare,I.base.lk k (λb a=>?_) (λb a=>.inr (hx b a).1),hl,λx c e=>?_,I.free,I.freeC,λp g=>?_,I.hok.lk k I.stkFree λb a=>(hx b a).2.1,hn.trans I.len⟩
 ·rcases ft.mp (I.stkSub b a) with z | z
  ·rw[z];exact .inr (Heap.get?_none_of_le I.ok.above)
  ·simp_all
 ·obtain⟨v,o,l,n⟩:=I.cell x c e;obtain⟨r,d⟩:=k.slot c o l λz=>(hx c z).2.2.1 x c e rfl;exact⟨v,_,d,n⟩
 ·obtain⟨d,q,f,h,j⟩:=I.pin p g;refine⟨k.keep _ _ d (λz=>?_) (λz=>(hx _ z).2.2.2 p g rfl),q,f,h,j⟩;rcases ft.mp (I.stkSub _ z) with z | z
  ·exact f z
  ·exact h z
theorem Inv.lk0 (I:Inv X pins σ H s) (k:Lk (frs X.stack) ex s.heap h') (hx:∀ b,ex b->X.s₀.heap.get? b=none/\H b=none/\b≠X.env.locals/\(∀ x c,X.env.cells.lookup x=some c->c≠b)/\∀ p∈X.pn++pins,p.1≠b):Inv X pins σ H { s with heap:=h' }:=by
 refine I.lk k (λb a=>⟨(hx b a).1,(hx b a).2.1,(hx b a).2.2.2⟩) ?_ rfl;obtain⟨m,⟨o,e,q,B,w,y,h⟩,l⟩:=I.loc;obtain⟨j,r⟩:=k.slot _ o B λz=>(hx _ z).2.2.1 rfl;refine⟨m,⟨_,e,q,r,w,y,h⟩,λi x v d f A=>?_⟩;obtain⟨u,t,n⟩:=l i x v d f A;refine⟨u,t,?_⟩;rcases n with z | ⟨z1,c,z2,oc,z3,z4⟩
 ·exact .inl z
 ·obtain⟨j,g⟩:=k.slot c oc z3 λz=>(hx c z).2.2.2.1 x c z2 rfl;exact .inr ⟨z1,c,z2,_,g,z4⟩
abbrev Cx.hnd (X:Cx) (e:Addr) (oe:Obj):Cx:={ X with A:=X.A.mark (some (.ref e)),calm:=false,pn:=(e,oe)::X.pn,xe:=λ_ _=>False }
theorem Inv.hnd (I:Inv X pins σ H s) (h1:s.heap.get? e=some oe) (h2:H e=none) (h3:e≠X.env.locals) (h4:e∉X.fs) (h5:∀ v,oe.data≠.cell v):Inv (X.hnd e oe) pins σ H s:=
 ⟨⟨I.ok.mod,I.ok.kind,I.ok.glob,I.ok.blt,I.ok.above,I.ok.inj,I.ok.has,I.ok.cab,(λz=>nomatch z),I.ok.frames,I.ok.stk,I.ok.exf,I.ok.bs,I.ok.bsz,I.ok.noex,I.ok.exfs,I.ok.funs,I.ok.frf⟩,I.os,I.bare,I.base,I.loc,I.cell,I.free,I.freeC,(λp a=>by
  rcases ft.mp (a) with rfl | a
  ·exact⟨h1,h2,h3,h4,h5⟩
  ·exact I.pin p a),I.hok,I.len⟩
theorem Inv.unhnd (ok:X.Ok) (I:Inv (X.hnd e oe) pins σ H s):Inv X pins σ H s:=⟨ok,I.os,I.bare,I.base,I.loc,I.cell,I.free,I.freeC,λp a=>I.pin p (fY _ a),I.hok,I.len⟩
theorem a4n (I:Inv X pins σ H s) (hN:X.N.Nodup) (hi:X.N[i]?=some n) (hl:X.env.scope.names.lookup n=some .local) (q:∀ s',Inv X pins (σ.set i none) H s'->Q () s') :
  wpAny M A (do bindName X.env n .none;unbindBehindTheSuite X.env n pos) Q E s:=by
 obtain⟨m,w,B⟩:=I.loc;have f:(X.env.scope.kind==.class||(X.env.scope.kind==.module&&X.env.locals != X.env.globals))=false:=by rw[I.ok.kind];rfl
 refine wpAny_nameGoes_keeps hl w f λJ v g a=>q _ ?_;refine I.lk ⟨λb o q _ n=>(a.2 b n).trans q,λb o q n=>⟨o.slots,(a.2 b n).trans q⟩,g5 a.1.symm⟩ (λb y=>?_) ⟨_,g,λj x r h d l=>?_⟩ (jJ ..)
 ·rw[y];exact⟨Heap.get?_none_of_le I.ok.above,I.free,I.cne,λp D=>(I.pin p D).2.2.1⟩
 ·by_cases hj:j=i
  ·subst hj;rw[iI (by rw[I.len];exact (fj.mp hi).1)]at d;cases d
  ·rw[io (Ne.symm hj)]at d;obtain⟨u,C,z⟩:=B j x r h d l;refine⟨u,C,?_⟩;rcases z with ⟨z1,z2⟩ | ⟨z1,c,z2,oc,z3,z4⟩
   ·refine .inl ⟨z1,?_⟩
    show (if x=n then v else m x)=some u
    rw[if_neg λe=>hj (by
     subst e;obtain⟨G,t⟩:=fj.mp h;obtain⟨F,k⟩:=fj.mp hi;exact (jz hN).mp (t.trans k.symm))]
    exact z2
   ·exact .inr ⟨z1,c,z2,oc,(a.2 c (I.cne x c z2)).trans z3,z4⟩
def PX (X:Cx) (e:Expr) (t:XK->TE):Prop:=∀ (pins:List (Addr×Obj)) (s:Shared) (σ:St) (H:Hp) (Q:VK) (E:XK),Inv X pins σ H s->t E σ H Q ->
 wpAny (model X.prog X.w) X.A (eval e X.env) (EP X pins σ Q) (λev s'=>∃ H1 s1,Inv X pins σ H1 s1/\CXx X.prog X.w X.stack H1 s1 E ev s') s
end
section
variable {X:Cx}{k:Nat}{f C D:Addr}{fd:kx}{ps:List Str}{sp:Sp}{x n:Str}{p pos np hpos tpos:Pos}{e ce:Expr}{es:List Expr}{t:TA}
theorem b6Y (he:PE X.nox o ta) (c:Cls X.K C) (hm:Meth X.K C m f) (F:FnOk X.prog X.w X.K X.mg X.base (CXx X.prog X.w) k f fd ps sp) (hr:Room k X.A) (hb:Binds X.K fd ps []) (ha:PA X.nox (e::es) t)
  (hst:kj (e::es) X.env=(false,eval e X.env)::kj es X.env:=by rfl) (hpl:(backTo pos (kj es X.env)).any (·.1)=false:=by rfl)
  (ht:eval (.Call (.Attribute o m apos) (e::es) [] pos) X.env=(do
   let ov <- eval o X.env
   kR apos.atName
   let (f,first) <- kL [ov] (ll ov m pl)
   lB pos f first (backTo pos (kj (e::es) X.env)) (lp pos (lq [] X.env))):=by rfl) :
  PX X (.Call (.Attribute o m apos) (e::es) [] pos) (λE=>b4m C m sp [] E ta t):=by
 intro d s σ H Q E I h;refine PySem.W.methodCall_KW (kG (he d s σ H _ (I.wish _) h) (λu N ⟨x,J,n,D,a,R,T,G,L,l,q⟩=>?_) λ_ _ z=>fh z) ht;subst G;obtain rfl:u=Value.ref a:=D;have n:=n.unwish;refine a40 n L c hm l ?_;refine PySem.W.callWith_K I.ok.mod.kin hm.kp (kG (ha pos d N σ J _ (n.wish _) q) (λg p ⟨y,v,b,r,j⟩=>⟨b.kIn,?_⟩) λ_ _ z=>fh z) hst hpl;have b:=b.unwish;have j:sp _ v Q E:=j;rw[fK]at j;have B:Vals (.ref a::y) _:=.cons rfl r;have M:(Value.ref a::g).length=ps.length:=by rw[<- B.length];exact F.len _ _ _ _ j
 refine lU (lV (F.run X.A X.stack p v ⟨.ref a::g,[]⟩ _ (.ref a::y) Q E hr b.env0 (by simpa using hb p _ b.kIn (by simp_all)) B j) λr S i=>?_);cases r with
 | error e=>exact⟨v,p,b,i⟩
 | ok fl=>
  cases fl with
  | ret u=>exact b.after i
  | next=>exact fh i
  | brk=>exact fh i
  | cont=>exact fh i
def tTry (PC:Addr->Prop) (i:Nat) (tc:XK->TE) (th:Addr->Addr->TS):TS:=λD σ H=>∃ E:XK,tc E σ H (λ_ H1=>D.nx σ H1)/\∀ c H',E c none H'->∃ C,c=.ref C/\PC C/\∀ e,H' e=none ->
 th C e { nx:=fun σ' H''=>D.nx (σ'.set i none) H'',rt:=D.rt,bk:=fun σ' H''=>D.bk (σ'.set i none) H'',ct:=fun σ' H''=>D.ct (σ'.set i none) H'' } (σ.set i (some (.ref e))) H'
theorem b85 {PC:Addr->Prop}(hst:X.stack=X.env::X.outer) (hex:X.ex=[]) (hfm:X.env.frame=some X.env.locals) (hb:PX X ce tc) (hg:Gl X x) (hm:X.mg x=some (.ref D)) (hD:∀ C,PC C->PySem.W.exmOne X.K (.ref C) (.ref D)=some true)
  (hN:X.N.Nodup) (hi:X.N[i]?=some n) (hl:X.env.scope.names.lookup n=some .local) (hh:∀ C e oe,PC C->oe.cls=.ref C->oe.dict=none->PySem.W.notCls oe=true->PSs (X.hnd e oe) (b₀::suite) (th C e))
  (hs:lh ce none pos.line X.env=pure false:=by rfl) (hd:(x==("__debug__":Str))=false:=by decide) :
  PS X (.Try [.Expr ce pos] [.ExceptHandler (some (.Name x np)) (some n) (b₀::suite) hpos] [] [] tpos) (tTry PC i tc th):=by
 intro a s σ H D' I ⟨E,hc,hE⟩;refine wpAny_Try_except (mC (wpAny_Expr_any (kG (hb a s σ H _ E I hc) (λv s1 ⟨y,H1,t,r1,q1⟩=>lF (lF ⟨σ,H1,t,q1⟩)) λev k q=>?_) I.quiet hs));obtain⟨H1,s1,t,e,C,H',rfl,os,U,un,hok,⟨⟨T,f,nT,fT⟩,ne,L⟩,q⟩:=q;obtain⟨C0,hC,M,hth⟩:=hE _ _ q;cases hC;have I2:Inv X a σ H' k:=t.call' (ch:=[]) os un hok U λ_ z=>nomatch z;have fr:X.A.frames=some (X.env::X.outer):=by rw[<- hst];exact I.ok.frames
 have V:k.heap.FunFrames X.base (X.env::X.outer):=by rw[<- hst];exact I2.stack
 have j:∀ b,s1.heap.get? b=none->H' b=none->X.s₀.heap.get? b=none/\H' b=none/\b≠X.env.locals/\(∀ x c,X.env.cells.lookup x=some c->c≠b)/\∀ p∈X.pn++a,p.1≠b:=λb r B=>by
  refine⟨?_,B,λz=>?_,λx c hx z=>?_,λp hp z=>?_⟩
  ·cases q0:X.s₀.heap.get? b with
   | none=>rfl
   | some o=>
    obtain⟨o',g⟩:=t.base.there b o q0 (by rw[hex];exact gS);rw[r]at g;cases g
  ·obtain⟨m,⟨o,_,_,g,_⟩,_⟩:=t.loc;rw[z,g]at r;cases r
  ·obtain⟨v,o,g,_⟩:=t.cell x c hx;rw[z,r]at g;cases g
  ·have g:=(t.pin p hp).1;rw[z,r]at g;cases g
 refine b5M fr V hfm f λr T1 k1 f1 z1=>b4y f1 λB k2 f2=>?_;have yT:∀ b,b=e\/b=T->X.s₀.heap.get? b=none/\H' b=none/\b≠X.env.locals/\(∀ x c,X.env.cells.lookup x=some c->c≠b)/\∀ p∈X.pn++a,p.1≠b:=λb hb=>by
  rcases hb with rfl | rfl
  ·exact j _ ne L
  ·exact j _ nT fT
 have tk:∀ b,b=T1->(b=e\/b=T)\/k.heap.objs.size<=b:=λb hb=>by
  rw[hb];rcases z1 with z | z
  ·exact .inl (.inr z)
  ·exact .inr z
 have Q:=k1.trans (k2 _) tk;have I3:=I2.lk0 (by rw[hst];exact Q) yT;have mk:∀ {h:Heap},FlyT e (.ref C) T1 .none h->Inv X a σ H' { k with heap:=h }->∃ d,d.cls=.ref C/\d.dict=none/\PySem.W.notCls d=true/\Inv (X.hnd e d) a σ H' { k with heap:=h }:=λ{h} f I=>by
  obtain⟨d,vs,_,_,g1,g2,S,_⟩:=f;refine⟨d,g2.1,g2.2,by unfold PySem.W.notCls;rw[S],I.hnd g1 L (j e ne L).2.2.1 (λz=>?_) (λv=>by rw[S];exact λz=>nomatch z)⟩;obtain⟨_,ob,hob,no⟩:=I.funs.mem z;have F:h.get? e=some ob:=hob;rw[g1]at F;cases F;exact no vs S
 obtain⟨d,R,c2,c3,J3⟩:=mk f2 I3;refine wpAny_handleBy_cons (codeAny_handlers_test (a5Z J3 hg hm ?_ hd)) (by intro q;cases q);have LT:PySem.W.Looks (model X.prog X.w) B (typeOf (.ref e)) (.ref C):=by
  have he:=(J3.pin (e,d) (.head _)).1;exact R▸(PySem.W.Looks.ld he).andThen .now
 refine (PySem.W.exm_one I3.kIn LT (hD C M)).at ?_;refine codeAny_handlers_suite_as ?_;refine b4y f2 λh3 k3 f3=>?_;have I4:=I2.lk0 (by rw[hst];exact Q.trans (k3 _) tk) yT;obtain⟨d,R,c2,c3,J4⟩:=mk f3 I4;refine a5N (X:=X.hnd e d) J4 hN hi (.inl hl) (v:=.ref e) rfl (λs5 J5=>?_) (.inr hl);refine kG (hh C e d M R c2 c3 a s5 _ H' _ J5 (hth e L)) (λV s6 G=>?_) λ_ _ z=>fh z;cases V with
 | next=>
  obtain⟨σ6,H6,J6,q⟩:=G;exact a4n (J6.unhnd I.ok) hN hi hl λY l=>⟨_,H6,l,q⟩
 | brk=>
  obtain⟨σ6,H6,J6,q⟩:=G;exact a4n (J6.unhnd I.ok) hN hi hl λY l=>⟨_,H6,l,q⟩
 | cont=>
  obtain⟨σ6,H6,J6,q⟩:=G;exact a4n (J6.unhnd I.ok) hN hi hl λY l=>⟨_,H6,l,q⟩
 | ret u=>
  obtain⟨v,σ6,H6,J6,r6,q⟩:=G;exact a4n (J6.unhnd I.ok) hN hi hl λY l=>⟨v,_,H6,l,r6,q⟩
end
end L2
namespace L3
open PySem PySem.Spec PyProof.Rows L2
inductive Z where
 | non | bl (b:Bool) | int (i:Int) | str (x:Str) | ref (a:Addr) | ty (n:String) | scr (a:Addr) (ns:List Int)
 | tup (ws:List Z)
mutual
def eqZ:Z->Z->Bool
 | .non,.non=>true
 | .bl a,.bl b=>a==b
 | .int a,.int b=>decide (a=b)
 | .str a,.str b=>decide (a=b)
 | .ref a,.ref b=>decide (a=b)
 | .ty a,.ty b=>decide (a=b)
 | .scr a ns,.scr b ms=>decide (a=b)&&decide (ns=ms)
 | .tup a,.tup b=>eqZs a b
 | _,_=>false
def eqZs:List Z->List Z->Bool
 | [],[]=>true
 | a::as,b::bs=>eqZ a b&&eqZs as bs
 | _,_=>false
end
mutual
theorem b2B:∀ x y:Z,eqZ x y=true↔x=y
 | .tup a,y=>by
  cases y with
  | tup b=>simp only[eqZ,Z.tup.injEq];exact b0s a b
  | _=>simp[eqZ]
 | .non,y=>by cases y<;>simp[eqZ]
 | .bl _,y=>by cases y<;>simp[eqZ]
 | .int _,y=>by cases y<;>simp[eqZ]
 | .str _,y=>by cases y<;>simp[eqZ]
 | .ref _,y=>by cases y<;>simp[eqZ]
 | .ty _,y=>by cases y<;>simp[eqZ]
 | .scr _ _,y=>by cases y<;>simp[eqZ]
theorem b0s:∀ x y:List Z,eqZs x y=true↔x=y
 | [],y=>by cases y<;>simp[eqZs]
 | a::as,y=>by
  cases y with
  | nil=>simp[eqZs]
  | cons b bs=>simp only[eqZs,gr,gO.injEq,b2B a b,b0s as bs]
end
instance:DecidableEq Z:=λx y=>decidable_of_iff _ (b2B x y)
section
variable {K:Fg}{H H' H1 H2:Hp}{a p:Addr}{xs:List V}
def Fz (K:Fg) (H:Hp) (a:Addr) (xs:List V):Prop:=
 (∃ o,H a=some (.frz o (.lst xs)))\/∃ (o:Obj) (its:Array Value) (n:Nat),K.lookup a=some o/\o.cls=.type "list"/\o.dict=none/\o.data=.seq its n/\its.size<=ki/\Vals xs its.toList
theorem Fz.sq (h:Fz K H a xs):SqL K H a xs:=by
 rcases h with ⟨o,h⟩ | h
 ·exact .inl (.inr ⟨o,h⟩)
 ·exact .inr h
theorem Fz.of (hO:Only H) (h:SqL K H a xs):Fz K H a xs:=by
 rcases h with (h | h) | h
 ·rcases hO a with z | ⟨o,ys,z⟩
  ·grind
  ·simp_all
 ·exact .inl h
 ·exact .inr h
structure TW (K:Fg) (H H':Hp):Prop where
 tup:∀ a xs,H a=some (.tup xs)->H' a=some (.tup xs)
 frz:∀ a xs,Fz K H a xs->Fz K H' a xs
structure TK (K:Fg) (H H':Hp):Prop where
 tup:∀ a xs,H a=some (.tup xs)->H' a=some (.tup xs)
 frz:∀ a xs,Fz K H a xs->Fz K H' a xs
 frd:∀ a o u,H a=some (.frz o u)->H' a=some (.frz o u)
theorem TK.refl (K:Fg) (H:Hp):TK K H H:=⟨λ_ _ h=>h,λ_ _ h=>h,λ_ _ _ h=>h⟩
theorem TK.trans (a:TK K H H1) (b:TK K H1 H2):TK K H H2:=⟨λc d h=>b.tup c d (a.tup c d h),λc d h=>b.frz c d (a.frz c d h),λc o u h=>b.frd c o u (a.frd c o u h)⟩
theorem TK.upd (h:∀ xs,H p≠some (.tup xs)) (h2:∀ o u,H p≠some (.frz o u)):TK K H (L2.upd H p o):=by
 refine⟨λc b e=>?_,λc b e=>?_,λc a u e=>by rw[a0x (by rintro rfl;exact h2 _ _ e)];exact e⟩
 ·rw[a0x (by rintro rfl;exact h _ e)];exact e
 ·rcases e with ⟨a,e⟩ | e
  ·exact .inl ⟨a,by rw[a0x (by rintro rfl;exact h2 _ _ e)];exact e⟩
  ·exact .inr e
theorem TK.new (h:H p=none):TK K H (L2.upd H p o):=.upd (λa e=>by rw[h]at e;cases e) (λo u e=>by rw[h]at e;cases e)
theorem TK.lst {o:HO}(h:H p=some (.lst xs)):TK K H (L2.upd H p o):=by simp_all[upd]
theorem TK.dK {o:HO}{kvs:List (Key×V)}(h:H p=some (.dK kvs)):TK K H (L2.upd H p o):=by simp_all[upd]
theorem TK.ins {o:HO}{C dx:Addr}{fs:List (Str×V)}(h:H p=some (.ins C dx fs)):TK K H (L2.upd H p o):=by simp_all[upd]
end
mutual
def Rep (K:Fg) (H:Hp):Z->V->Prop
 | .non,v=>v=.non
 | .bl b,v=>v=.bl b
 | .int i,v=>v=.int i
 | .str x,v=>v=.str x
 | .ref a,v=>v=.ref a
 | .ty n,v=>v=.ty n
 | .scr a ns,v=>v=.ref a/\Fz K H a (ns.map V.int)
 | .tup ws,v=>∃ a vs,v=.ref a/\H a=some (.tup vs)/\Reps K H ws vs
def Reps (K:Fg) (H:Hp):List Z->List V->Prop
 | [],vs=>vs=[]
 | w::ws,vs=>∃ v r,vs=v::r/\Rep K H w v/\Reps K H ws r
end
section
variable {K:Fg}{H H':Hp}
theorem a01:Rep K H .non v=(v=.non):=by unfold Rep;rfl
theorem a0Q:Rep K H (.bl b) v=(v=.bl b):=by unfold Rep;rfl
theorem a0y:Rep K H (.int i) v=(v=.int i):=by unfold Rep;rfl
theorem a0K:Rep K H (.str x) v=(v=.str x):=by unfold Rep;rfl
theorem a0B:Rep K H (.ref a) v=(v=.ref a):=by unfold Rep;rfl
theorem b2C:Rep K H (.ty n) v=(v=.ty n):=by unfold Rep;rfl
theorem a43:Rep K H (.scr a ns) v=(v=.ref a/\Fz K H a (ns.map V.int)):=by unfold Rep;rfl
theorem a19:Rep K H (.tup ws) v=(∃ a vs,v=.ref a/\H a=some (.tup vs)/\Reps K H ws vs):=by conv=>lhs;unfold Rep
theorem a0v:Reps K H [] vs=(vs=[]):=by unfold Reps;rfl
theorem a0X:Reps K H (w::ws) vs=(∃ v r,vs=v::r/\Rep K H w v/\Reps K H ws r):=by conv=>lhs;unfold Reps
mutual
theorem Rep.monoW (t:TW K H H'):∀ (w:Z) (v:V),Rep K H w v->Rep K H' w v
 | .tup ws,v,h=>by
  rw[a19]at h ⊢;obtain⟨a,vs,e,h,r⟩:=h;exact⟨a,vs,e,t.tup _ _ h,Reps.monoW t ws vs r⟩
 | .scr a ns,v,h=>by
  rw[a43]at h ⊢;exact⟨h.1,t.frz _ _ h.2⟩
 | .non,v,h=>by rw[a01]at h ⊢;exact h
 | .bl _,v,h=>by rw[a0Q]at h ⊢;exact h
 | .int _,v,h=>by rw[a0y]at h ⊢;exact h
 | .str _,v,h=>by rw[a0K]at h ⊢;exact h
 | .ref _,v,h=>by rw[a0B]at h ⊢;exact h
 | .ty _,v,h=>by rw[b2C]at h ⊢;exact h
theorem Reps.monoW (t:TW K H H'):∀ (ws:List Z) (vs:List V),Reps K H ws vs->Reps K H' ws vs
 | [],vs,h=>by rw[a0v]at h ⊢;exact h
 | w::ws,vs,h=>by
  rw[a0X]at h ⊢;obtain⟨v,r,e,h1,h2⟩:=h;exact⟨v,r,e,Rep.monoW t w v h1,Reps.monoW t ws r h2⟩
end
theorem Rep.mono (t:TK K H H') (w:Z) (v:V) (h:Rep K H w v):Rep K H' w v:=Rep.monoW ⟨t.tup,t.frz⟩ w v h
theorem Reps.mono (t:TK K H H') (ws:List Z) (vs:List V) (h:Reps K H ws vs):Reps K H' ws vs:=Reps.monoW ⟨t.tup,t.frz⟩ ws vs h
theorem Reps.cons {w:Z}{v:V}{ws:List Z}{vs:List V}(a:Rep K H w v) (b:Reps K H ws vs):Reps K H (w::ws) (v::vs):=by rw[a0X];exact⟨v,vs,rfl,a,b⟩
theorem Reps.nil:Reps K H [] []:=by rw[a0v]
theorem Reps.length:∀ {ws:List Z}{vs:List V},Reps K H ws vs->ws.length=vs.length
 | [],vs,h=>by rw[a0v]at h;rw[h];rfl
 | w::ws,vs,h=>by
  obtain⟨v,r,e,_,a⟩:=h;rw[e,fk,fk,Reps.length a]
theorem Reps.get:∀ {ws:List Z}{vs:List V}{i:Nat}{w:Z},Reps K H ws vs->ws[i]?=some w->∃ v,vs[i]?=some v/\Rep K H w v
 | [],_,_,_,_,e=>by simp at e
 | w::ws,vs,i,x,h,e=>by
  obtain⟨v,r,rfl,b,a⟩:=h;cases i with
  | zero=>simp at e;subst e;exact⟨v,rfl,b⟩
  | succ i=>simpa using Reps.get a (by simp_all)
theorem Reps.tog {i:Nat}(h:Reps K H ws vs) (e:vs[i]?=some v):∃ w,ws[i]?=some w/\Rep K H w v:=by
 have c:=h.length;have a:i<ws.length:=by grind
 obtain⟨d,b,r⟩:=h.get (fw a);rw[e]at b;cases b;exact⟨_,fw a,r⟩
theorem Reps.append:∀ {ws ws':List Z}{vs vs':List V},Reps K H ws vs->Reps K H ws' vs'->Reps K H (ws++ws') (vs++vs')
 | [],_,vs,_,h,h'=>by rw[a0v]at h;subst h;exact h'
 | w::ws,_,vs,_,h,h'=>by
  obtain⟨v,r,rfl,a,b⟩:=h;exact .cons a (Reps.append b h')
theorem Reps.drop:∀ {ws:List Z}{vs:List V}(n:Nat),Reps K H ws vs->Reps K H (ws.drop n) (vs.drop n)
 | [],vs,n,h=>by rw[a0v]at h;subst h;simpa using Reps.nil
 | w::ws,vs,0,h=>h
 | w::ws,vs,n+1,h=>by
  obtain⟨v,r,rfl,b,a⟩:=h;exact Reps.drop n a
theorem Reps.take:∀ {ws:List Z}{vs:List V}(n:Nat),Reps K H ws vs->Reps K H (ws.take n) (vs.take n)
 | [],vs,n,h=>by rw[a0v]at h;subst h;simpa using Reps.nil
 | w::ws,vs,0,h=>by simpa using Reps.nil
 | w::ws,vs,n+1,h=>by
  obtain⟨v,r,rfl,a,b⟩:=h;exact .cons a (Reps.take n b)
theorem Reps.set (r:Rep K H w v):∀ {ws:List Z}{vs:List V}(i:Nat),Reps K H ws vs->Reps K H (ws.set i w) (vs.set i v)
 | [],vs,i,h=>by rw[a0v]at h;subst h;simpa using Reps.nil
 | x::ws,vs,i,h=>by
  obtain⟨y,s,rfl,b,a⟩:=h;cases i with
  | zero=>exact .cons r a
  | succ i=>exact .cons b (Reps.set r i a)
theorem Reps.reverse:∀ {ws:List Z}{vs:List V},Reps K H ws vs->Reps K H ws.reverse vs.reverse
 | [],vs,h=>by rw[a0v]at h;subst h;exact Reps.nil
 | x::ws,vs,h=>by
  obtain⟨y,s,rfl,b,a⟩:=h;rw[ib,ib];exact (Reps.reverse a).append (.cons b .nil)
theorem a8D:∀ {ns:List Int}{vs:List V},Reps K H (ns.map Z.int) vs->vs=ns.map V.int
 | [],vs,h=>by rw[fD,a0v]at h;subst h;rfl
 | n::ns,vs,h=>by
  obtain⟨v,r,rfl,a,b⟩:=h;rw[a,a8D b];rfl
theorem a3k:∀ (ns:List Int),Reps K H (ns.map Z.int) (ns.map V.int)
 | []=>Reps.nil
 | n::ns=>.cons (by rw[a0y]) (a3k ns)
theorem Reps.one (h:Reps K H [w] vs):∃ v,vs=[v]/\Rep K H w v:=by
 obtain⟨v,r,rfl,b,a⟩:=h;exact⟨v,by rw[a],b⟩
theorem Reps.two (h:Reps K H [w,w'] vs):∃ v v',vs=[v,v']/\Rep K H w v/\Rep K H w' v':=by
 obtain⟨v,r,rfl,c,a⟩:=h;obtain⟨d,rfl,b⟩:=a.one;exact⟨v,d,rfl,c,b⟩
end
inductive O where
 | lst (ws:List Z)
 | dK (kvs:List (Key×Z))
 | ins (C dx:Addr) (fs:List (Str×Z))
 | dF (kvs:List (Key×Z))
 | dT (ks:List (List Key))
abbrev Hq:=Addr->Option O
noncomputable def put (G:Hq) (a:Addr) (o:O):Hq:=λb=>if b=a then some o else G b
theorem a0d:put G a o a=some o:=by unfold put;rw[if_pos rfl]
theorem a0E (h:b≠a):put G a o b=G b:=by unfold put;rw[if_neg h]
theorem a2a:put (put G a o) a u=put G a u:=by
 funext b;unfold put;split<;>rfl
theorem a0z {G:Hq}(h:G a=some o) (h':G b=none):a≠b:=by
 intro e;subst e;rw[h]at h';cases h'
theorem a0l (h:G b=some u) (n:G a=none):put G a o b=some u:=by rw[a0E (a0z h n)];exact h
def ROb (K:Fg) (H:Hp) (a:Addr):O->Prop
 | .lst ws=>∃ vs,H a=some (.lst vs)/\Reps K H ws vs
 | .dK kvs=>∃ us,H a=some (.dK us)/\us.map (·.1)=kvs.map (·.1)/\Reps K H (kvs.map (·.2)) (us.map (·.2))
 | .ins C dx fs=>∃ gs,H a=some (.ins C dx gs)/\gs.map (·.1)=fs.map (·.1)/\Reps K H (fs.map (·.2)) (gs.map (·.2))
 | .dF kvs=>∃ o us,H a=some (.frz o (.dK us))/\us.map (·.1)=kvs.map (·.1)/\Reps K H (kvs.map (·.2)) (us.map (·.2))
 | .dT ks=>∃ us,H a=some (.dT us)/\us.map (·.1)=ks
def RH (K:Fg) (G:Hq) (H:Hp):Prop:=∀ a o,G a=some o->ROb K H a o
section
variable {K:Fg}{H H':Hp}{G:Hq}{a p:Addr}{o:O}{u:HO}
theorem ROb.some (h:ROb K H a o):∃ u,H a=some u:=by
 cases o with
 | lst ws=>obtain⟨b,e,_⟩:=h;exact⟨_,e⟩
 | dK kvs=>obtain⟨b,e,_⟩:=h;exact⟨_,e⟩
 | ins C dx fs=>obtain⟨b,e,_⟩:=h;exact⟨_,e⟩
 | dF kvs=>obtain⟨c,b,e,_⟩:=h;exact⟨_,e⟩
 | dT ks=>obtain⟨b,e,_⟩:=h;exact⟨_,e⟩
theorem ROb.stay (t:TK K H H') (e:H' a=H a) (h:ROb K H a o):ROb K H' a o:=by
 cases o with
 | lst ws=>obtain⟨b,q,r⟩:=h;exact⟨b,e.trans q,r.mono t⟩
 | dK kvs=>obtain⟨b,q,n,r⟩:=h;exact⟨b,e.trans q,n,r.mono t⟩
 | ins C dx fs=>obtain⟨b,q,n,r⟩:=h;exact⟨b,e.trans q,n,r.mono t⟩
 | dF kvs=>obtain⟨c,b,q,n,r⟩:=h;exact⟨c,b,e.trans q,n,r.mono t⟩
 | dT ks=>obtain⟨b,q,n⟩:=h;exact⟨b,e.trans q,n⟩
theorem RH.out (h:RH K G H) (e:H a=none):G a=none:=by
 cases q:G a with
 | none=>rfl
 | some o=>obtain⟨u,z⟩:=(h a o q).some;rw[e]at z;cases z
theorem RH.hid (h:RH K G H) (e:H p=none):RH K G (upd H p u):=λb o q=>
 (h b o q).stay (.new e) (a0x (by rintro rfl;obtain⟨u,z⟩:=(h _ o q).some;rw[e]at z;cases z))
theorem RH.set (h:RH K G H) (t:TK K H (upd H p u)) (n:ROb K (upd H p u) p o):RH K (put G p o) (upd H p u):=λb a q=>by
 by_cases hb:b=p
 ·subst hb;rw[a0d]at q;cases q;exact n
 ·rw[a0E hb]at q;exact (h b a q).stay t (a0x hb)
end
abbrev S3:=List (Option Z)
abbrev K3:=Z->Hq->Prop
abbrev C3:=S3->Hq->Prop
abbrev E3:=S3->Hq->K3->Prop
abbrev T3:=S3->Hq->(Bool->Hq->Prop)->Prop
abbrev A3:=S3->Hq->(List Z->Hq->Prop)->Prop
abbrev X3:=C3->K3->C3->C3->S3->Hq->Prop
def ROp (K:Fg) (H:Hp) (ow:Option Z) (ov:Option V):Prop:=∀ w,ow=some w->∃ v,ov=some v/\Rep K H w v
def RSt (K:Fg) (H:Hp):S3->L2.St->Prop:=Paired (ROp K H)
section
variable {K:Fg}{H H':Hp}
theorem RSt.mono (t:TK K H H'):∀ {σ:S3}{τ:L2.St},RSt K H σ τ->RSt K H' σ τ
 | _,_,.nil=>.nil
 | _,_,.cons r s=>.cons (λw e=>let ⟨v,q,h⟩:=r w e;⟨v,q,h.mono t⟩) (RSt.mono t s)
theorem RSt.get:∀ {σ:S3}{τ:L2.St}{i:Nat}{w:Z},RSt K H σ τ->σ[i]?=some (some w)->∃ v,τ[i]?=some (some v)/\Rep K H w v
 | _,_,_,_,.nil,e=>by simp at e
 | _,_,0,w,.cons r _,e=>by
  obtain⟨v,q,h⟩:=r w (by simpa using e);exact⟨v,by rw[q];rfl,h⟩
 | _,_,i+1,w,.cons _ s,e=>by
  obtain⟨v,q,h⟩:=RSt.get s (by simpa using e);exact⟨v,by simpa using q,h⟩
theorem RSt.set (r:Rep K H w v):∀ {σ:S3}{τ:L2.St}(i:Nat),RSt K H σ τ->RSt K H (σ.set i (some w)) (τ.set i (some v))
 | _,_,_,.nil=>.nil
 | _,_,0,.cons _ s=>.cons (λ_ e=>by cases e;exact⟨v,rfl,r⟩) s
 | _,_,i+1,.cons q s=>.cons q (RSt.set r i s)
theorem RSt.length (h:RSt K H σ τ):σ.length=τ.length:=Paired.length h
theorem RSt.nones:∀ n:Nat,RSt K H (fB n none) (fB n none)
 | 0=>.nil
 | n+1=>.cons (λ_ e=>nomatch e) (RSt.nones n)
theorem RSt.app:∀ {σ σ':S3}{τ τ':L2.St},RSt K H σ τ->RSt K H σ' τ'->RSt K H (σ++σ') (τ++τ')
 | _,_,_,_,.nil,h=>h
 | _,_,_,_,.cons r s,h=>.cons r (RSt.app s h)
theorem RSt.ofVals:∀ {ws:List Z}{vs:List V},Reps K H ws vs->RSt K H (ws.map some) (vs.map some)
 | [],vs,h=>by rw[a0v]at h;subst h;exact .nil
 | w::ws,vs,h=>by
  obtain⟨v,r,rfl,b,a⟩:=h;exact .cons (λ_ e=>by cases e;exact⟨v,rfl,b⟩) (RSt.ofVals a)
end
def a5v (N:List Str) (ws:List Z):S3:=ws.map some++fB (N.length - ws.length) none
theorem RSt.start {K:Fg}(h:Reps K H ws vs):RSt K H (a5v N ws) (L2.start N vs):=by
 unfold a5v L2.start;rw[h.length];exact (RSt.ofVals h).app (RSt.nones _)
def UpV (K:Fg) (H:Hp) (R:K3) (Q:VK):Prop:=∀ w G v H',R w G->Rep K H' w v->RH K G H'->TK K H H'->Q v H'
def UpB (K:Fg) (H:Hp) (R:Bool->Hq->Prop) (Q:Bool->Hp->Prop):Prop:=∀ b G H',R b G->RH K G H'->TK K H H'->Q b H'
def UpA (K:Fg) (H:Hp) (R:List Z->Hq->Prop) (Q:List V->Hp->Prop):Prop:=∀ ws G vs H',R ws G->Reps K H' ws vs->RH K G H'->TK K H H'->Q vs H'
def UpS (K:Fg) (H:Hp) (R:C3) (Q:L2.St->Hp->Prop):Prop:=∀ σ G τ H',R σ G->RSt K H' σ τ->RH K G H'->TK K H H'->Q τ H'
section
variable {K:Fg}{H H':Hp}
theorem UpV.mono (h:UpV K H R Q) (t:TK K H H'):UpV K H' R Q:=λw G v b q r g a=>h w G v b q r g (t.trans a)
theorem UpB.mono (h:UpB K H R Q) (t:TK K H H'):UpB K H' R Q:=λw G b q g a=>h w G b q g (t.trans a)
theorem UpA.mono (h:UpA K H R Q) (t:TK K H H'):UpA K H' R Q:=λw G v b q r g a=>h w G v b q r g (t.trans a)
theorem UpS.mono (h:UpS K H R Q) (t:TK K H H'):UpS K H' R Q:=λw G v b q r g a=>h w G v b q r g (t.trans a)
end
def low (K:Fg) (t:E3):TE:=fun τ H Q=>∃ σ G R,RSt K H σ τ/\RH K G H/\t σ G R/\UpV K H R Q
theorem low.un {K:Fg}{C:Prop}(z:low K t τ H Q) (f:∀ σ G R,(RSt K H σ τ)->(RH K G H)->(t σ G R)->(UpV K H R Q)->C):C:=by obtain⟨σ,G,R,d,b,c,a⟩:=z;exact f _ _ _ d b c a
def lowT (K:Fg) (t:T3):TT:=fun τ H Q=>∃ σ G R,RSt K H σ τ/\RH K G H/\t σ G R/\UpB K H R Q
theorem lowT.un {K:Fg}{C:Prop}(z:lowT K t τ H Q) (f:∀ σ G R,(RSt K H σ τ)->(RH K G H)->(t σ G R)->(UpB K H R Q)->C):C:=by obtain⟨σ,G,R,b,a,d,c⟩:=z;exact f _ _ _ b a d c
def lowA (K:Fg) (t:A3):TA:=fun τ H Q=>∃ σ G R,RSt K H σ τ/\RH K G H/\t σ G R/\UpA K H R Q
theorem lowA.un {K:Fg}{C:Prop}(z:lowA K t τ H Q) (f:∀ σ G R,(RSt K H σ τ)->(RH K G H)->(t σ G R)->(UpA K H R Q)->C):C:=by obtain⟨σ,G,R,d,b,c,a⟩:=z;exact f _ _ _ d b c a
def lowS (K:Fg) (t:X3):TS:=λD τ H=>∃ σ G nx rt bk ct,RSt K H σ τ/\RH K G H/\t nx rt bk ct σ G/\UpS K H nx D.nx/\UpV K H rt D.rt/\UpS K H bk D.bk/\UpS K H ct D.ct
theorem lowS.un {K:Fg}{C:Prop}(z:lowS K t D τ H) (f:∀ σ G nx rt bk ct,(RSt K H σ τ)->(RH K G H)->(t nx rt bk ct σ G)->(UpS K H nx D.nx)->(UpV K H rt D.rt)->(UpS K H bk D.bk)->(UpS K H ct D.ct)->C):C:=by obtain⟨σ,G,k,j,l,i,h,a,g,b,c,d,e⟩:=z;exact f _ _ _ _ _ _ h a g b c d e
structure QE (X:Cx) (e:Expr) (t:E3):Prop where
 p:PE X e (low X.K t)
structure QT (X:Cx) (e:Expr) (t:T3):Prop where
 p:PT X e (lowT X.K t)
structure QW (X:Cx) (e:Expr) (t:T3):Prop where
 p:PW X e (lowT X.K t)
structure QA (X:Cx) (es:List Expr) (t:A3):Prop where
 p:PA X es (lowA X.K t)
structure QS (X:Cx) (st:Stmt) (t:X3):Prop where
 p:PS X st (lowS X.K t)
structure QSs (X:Cx) (st:List Stmt) (t:X3):Prop where
 p:PSs X st (lowS X.K t)
theorem QW.qt (h:QW X e t):QT X e t:=⟨PW.pt h.p⟩
section
variable {X:Cx}{e:Expr}{es:List Expr}{st:Stmt}{sts:List Stmt}
theorem a1C (h:PE X e t') (i:∀ σ H Q,t σ H Q->t' σ H Q):PE X e t:=λa s σ H Q I q=>h a s σ H Q I (i σ H Q q)
theorem b4J (h:PT X e t') (i:∀ σ H Q,t σ H Q->t' σ H Q):PT X e t:=λa s σ H Q I q=>h a s σ H Q I (i σ H Q q)
theorem b86 (h:PW X e t') (i:∀ σ H Q,t σ H Q->t' σ H Q):PW X e t:=λw a s σ H Q I q=>h w a s σ H Q I (i σ H Q q)
theorem b87 (h:PA X es t') (i:∀ σ H Q,t σ H Q->t' σ H Q):PA X es t:=λb a s σ H Q I q=>h b a s σ H Q I (i σ H Q q)
theorem a4o (h:PS X st t') (i:∀ D σ H,t D σ H->t' D σ H):PS X st t:=λa s σ H D I q=>h a s σ H D I (i D σ H q)
theorem b2D (h:PSs X sts t') (i:∀ D σ H,t D σ H->t' D σ H):PSs X sts t:=λa s σ H D I q=>h a s σ H D I (i D σ H q)
end
abbrev R3:=Z->Z->Hq->K3->Prop
def low2 (K:Fg) (r:R3):R2:=λx y H Q=>∃ a b G R,Rep K H a x/\Rep K H b y/\RH K G H/\r a b G R/\UpV K H R Q
theorem low2.un {K:Fg}{C:Prop}(z:low2 K r x y H Q) (f:∀ a b G R,(Rep K H a x)->(Rep K H b y)->(RH K G H)->(r a b G R)->(UpV K H R Q)->C):C:=by obtain⟨a,b,G,R,e,h,g,c,d⟩:=z;exact f _ _ _ _ e h g c d
def low1 (K:Fg) (r:Z->Hq->K3->Prop):V->Hp->VK->Prop:=λx H Q=>∃ a G R,Rep K H a x/\RH K G H/\r a G R/\UpV K H R Q
theorem low1.un {K:Fg}{C:Prop}(z:low1 K r x H Q) (f:∀ a G R,(Rep K H a x)->(RH K G H)->(r a G R)->(UpV K H R Q)->C):C:=by obtain⟨a,G,R,c,e,d,b⟩:=z;exact f _ _ _ c e d b
def lowC (K:Fg) (r:List Z->Hq->K3->Prop):List V->Hp->VK->Prop:=λxs H Q=>∃ ws G R,Reps K H ws xs/\RH K G H/\r ws G R/\UpV K H R Q
theorem lowC.un {K:Fg}{C:Prop}(z:lowC K r xs H Q) (f:∀ ws G R,(Reps K H ws xs)->(RH K G H)->(r ws G R)->(UpV K H R Q)->C):C:=by obtain⟨e,G,R,b,d,c,a⟩:=z;exact f _ _ _ b d c a
def lowM (K:Fg) (r:Z->List Z->Hq->K3->Prop):V->List V->Hp->VK->Prop:=λx xs H Q=>∃ w ws G R,Rep K H w x/\Reps K H ws xs/\RH K G H/\r w ws G R/\UpV K H R Q
theorem lowM.un {K:Fg}{C:Prop}(z:lowM K r x xs H Q) (f:∀ w ws G R,(Rep K H w x)->(Reps K H ws xs)->(RH K G H)->(r w ws G R)->(UpV K H R Q)->C):C:=by obtain⟨w,g,G,R,a,d,e,b,c⟩:=z;exact f _ _ _ _ a d e b c
def OpQ (X:Cx) (f:Value->Value->Sem Value) (r:R3):Prop:=OpR X f (low2 X.K r)
def UnQ (X:Cx) (f:Value->Sem Value) (r:Z->Hq->K3->Prop):Prop:=UnR X f (low1 X.K r)
noncomputable def a2y (X:Cx) (f:Value) (r:List Z->Hq->K3->Prop):Prop:=CallR X f (lowC X.K r)
def IxQ (X:Cx) (r:R3):Prop:=IxR X (low2 X.K r)
def MtQ (X:Cx) (id:String) (r:Z->List Z->Hq->K3->Prop):Prop:=MtR X id (lowM X.K r)
theorem a57 (h:OpR X f r') (i:∀ x y H Q,r x y H Q->r' x y H Q):OpR X f r:=λa s σ H x y v u Q I c b q=>h a s σ H x y v u Q I c b (i x y H Q q)
theorem c1q (h:UnR X f r') (i:∀ x H Q,r x H Q->r' x H Q):UnR X f r:=λa s σ H x v Q I b q=>h a s σ H x v Q I b (i x H Q q)
theorem a1f (h:CallR X f r') (i:∀ xs H Q,r xs H Q->r' xs H Q):CallR X f r:=λa s σ H b d Q I c q=>h a s σ H b d Q I c (i b H Q q)
theorem b88 (h:IxR X r') (i:∀ x y H Q,r x y H Q->r' x y H Q):IxR X r:=λa b c s σ H x y v u Q I e d q=>h a b c s σ H x y v u Q I e d (i x y H Q q)
theorem b2E {id:String}(h:MtR X id r') (i:∀ x xs H Q,r x xs H Q->r' x xs H Q):MtR X id r:=λa s σ H x b v e Q I d c q=>h a s σ H x b v e Q I d c (i x b H Q q)
def uVar (i:Nat):E3:=fun σ G R=>∃ w,σ[i]?=some (some w)/\R w G
def uC (w:Z):E3:=λ_ G R=>R w G
section
variable {X:Cx}{e a b c:Expr}{pos:Pos}{ta tb tc:E3}
theorem a0c (h:PE X e (tVar i)):QE X e (uVar i):=⟨a1C h fun τ H Q ⟨σ,G,R,c,b,⟨w,e,q⟩,d⟩=>by
 obtain⟨v,a,r⟩:=c.get e;exact⟨v,a,d w G v H q r b (.refl _ _)⟩⟩
theorem a9C (h:PE X e (tC v)) (hr:∀ H,Rep X.K H w v):QE X e (uC w):=⟨a1C h fun τ H Q b=>b.un fun σ G R d a q c=>c w G v H q (hr H) a (.refl _ _)⟩
theorem a0g:QE X (.Constant (.int i) j pos) (uC (.int i)):=a9C b8k λ_=>by rw[a0y]
theorem q_bl {b j pos}:QE X (.Constant (.bool b) j pos) (uC (.bl b)):=a9C c0Y λ_=>by rw[a0Q]
theorem a1y:QE X (.Constant .none j pos) (uC .non):=a9C b8l λ_=>by rw[a01]
theorem a2b:QE X (.Constant (.str x) j pos) (uC (.str x)):=a9C b8m λ_=>by rw[a0K]
theorem b5O (h:PE X e (tC (.int i))):QE X e (uC (.int i)):=a9C h λ_=>by rw[a0y]
theorem q_ty (h:PE X e (tC (.ty n))):QE X e (uC (.ty n)):=a9C h λ_=>by rw[b2C]
def uOp (r:R3) (ta tb:E3):E3:=fun σ G R=>ta σ G λx G1=>tb σ G1 λy G2=>r x y G2 R
def uUn (r:Z->Hq->K3->Prop) (ta:E3):E3:=fun σ G R=>ta σ G λx G1=>r x G1 R
theorem b0t {K:Fg}(h:low K (uOp r ta tb) τ H Q):tOp (low2 K r) (low K ta) (low K tb) τ H Q:=by
 obtain⟨σ,G,R,f,k,h,o⟩:=h;refine⟨σ,G,_,f,k,h,λw m v p l i b e=>?_⟩;refine⟨σ,m,_,f.mono e,b,l,λn g q s j d c a=>?_⟩;exact⟨w,n,g,R,i.mono a,d,c,j,o.mono (e.trans a)⟩
theorem b89 {K:Fg}(h:low K (uUn r ta) τ H Q):tUn (low1 K r) (low K ta) τ H Q:=by
 obtain⟨σ,G,R,d,f,h,c⟩:=h;exact⟨σ,G,_,d,f,h,λw e v j g b a i=>⟨w,e,R,b,a,g,c.mono i⟩⟩
theorem q_op (ho:OpQ X (kI op) r) (ha:QE X a ta) (hb:QE X b tb):QE X (.BinOp a op b pos) (uOp r ta tb):=⟨a1C (c07 ho ha.p hb.p) λ_ _ _=>b0t⟩
theorem q_un (ho:UnQ X (l9 op) r) (ha:QE X a ta):QE X (.UnaryOp op a pos) (uUn r ta):=⟨a1C (c08 ho ha.p) λ_ _ _=>b89⟩
theorem a4p (ho:OpQ X (kC op) r) (ha:QE X a ta) (hb:QE X b tb) (hm:lG op b=false):QE X (.Compare a [op] [b] pos) (uOp r ta tb):=⟨a1C (b6F ho ha.p hb.p hm) λ_ _ _=>b0t⟩
def b4K (t:E3):T3:=fun σ G R=>t σ G λx G1=>∃ k,x=.bl k/\R k G1
theorem b0u {K:Fg}(h:lowT K (b4K ta) τ H Q):low K ta τ H λx H'=>∃ k,x=.bl k/\Q k H':=by
 obtain⟨σ,G,R,g,f,h,i⟩:=h;refine⟨σ,G,_,g,f,h,λw l v j ⟨k,e,c⟩ a b d=>?_⟩;subst e;exact⟨k,a,i _ _ _ c b d⟩
theorem a0r (ho:OpQ X (kC op) r) (ha:QE X a ta) (hb:QE X b tb) (hm:lG op b=false):QT X (.Compare a [op] [b] pos) (b4K (uOp r ta tb)):=⟨b4J (b6G ho ha.p hb.p hm) λ_ _ _ h=>b0t (b0u h)⟩
def b2F (r r':R3) (ta tb tc:E3):E3:=fun σ G R=>ta σ G λx G1=>tb σ G1 λy G2=>r x y G2 λz G3=>∃ k,z=.bl k/\(if k=true then tc σ G3 λw G4=>r' y w G4 R else R (.bl false) G3)
theorem b2G {K:Fg}(h:low K (b2F r r' ta tb tc) τ H Q):b5J (low2 K r) (low2 K r') (low K ta) (low K tb) (low K tc) τ H Q:=by
 obtain⟨σ,G,R,g,F,h,p⟩:=h;refine⟨σ,G,_,g,F,h,λw A v N q B l a=>?_⟩;refine⟨σ,A,_,g.mono a,l,q,λm y T L s e j b=>?_⟩;refine⟨w,m,y,_,B.mono b,e,j,s,λz x M S ⟨k,t,f⟩ o d c=>?_⟩;subst t;refine⟨k,o,?_⟩;cases k with
 | false=>exact p _ _ _ _ (by simpa using f) (by rw[a0Q]) d ((a.trans b).trans c)
 | true=>
  refine⟨σ,x,_,g.mono ((a.trans b).trans c),d,f,λC E J I D u n i=>?_⟩;exact⟨m,C,E,R,e.mono (c.trans i),u,n,D,p.mono (((a.trans b).trans c).trans i)⟩
theorem b2H (ho:OpQ X (kC op) r) (ho':OpQ X (kC op') r') (ha:QE X a ta) (hb:QE X b tb) (hc:QE X c tc)
  (hm:lastMarks [op,op'] [b,c]=false:=by with_unfolding_all rfl):QE X (.Compare a [op,op'] [b,c] pos) (b2F r r' ta tb tc):=⟨a1C (b4h ho ho' ha.p hb.p hc.p hm) λ_ _ _=>b2G⟩
def uAnd (t u:T3):T3:=fun σ G R=>t σ G λc G1=>if c=true then u σ G1 R else R false G1
def uOr (t u:T3):T3:=fun σ G R=>t σ G λc G1=>if c=true then R true G1 else u σ G1 R
def uNot (t:T3):T3:=fun σ G R=>t σ G λc G1=>R (!c) G1
variable {t u:T3}{rest:List Expr}
theorem a3H (ha:QT X a t):QW X (.BoolOp .And [a] pos) t:=⟨b6y ha.p⟩
theorem a44 (ha:QT X a t):QW X (.BoolOp .Or [a] pos) t:=⟨b8o ha.p⟩
theorem a5A (ha:QT X a t) (hb:QW X (.BoolOp .And (b::rest) pos) u):QW X (.BoolOp .And (a::b::rest) pos) (uAnd t u):=⟨b86 (b8p ha.p hb.p) fun τ H Q l=>l.un fun σ G R f j h g=>by
 refine⟨σ,G,_,f,j,h,λk i m d c e=>?_⟩;cases k with
 | false=>exact g _ _ _ (by simp_all) c e
 | true=>rw[if_pos rfl]at d ⊢;exact⟨σ,i,R,f.mono e,c,d,g.mono e⟩⟩
theorem q_or (ha:QT X a t) (hb:QW X (.BoolOp .Or (b::rest) pos) u):QW X (.BoolOp .Or (a::b::rest) pos) (uOr t u):=⟨b86 (c0Z ha.p hb.p) fun τ H Q l=>l.un fun σ G R f j h g=>by
 refine⟨σ,G,_,f,j,h,λk i m e c d=>?_⟩;cases k with
 | true=>exact g _ _ _ (by simp_all) c d
 | false=>rw[if_neg (by simp)]at e ⊢;exact⟨σ,i,R,f.mono d,c,e,g.mono d⟩⟩
theorem a29 (ha:QT X a t):QT X (.UnaryOp .Not a pos) (uNot t):=⟨b4J (b8q ha.p) fun τ H Q g=>g.un fun σ G R d f h i=>
 ⟨σ,G,_,d,f,h,λk j l e b c=>i _ _ _ e b c⟩⟩
def b9a (ta tb:E3):E3:=fun σ G R=>ta σ G λx G1=>∃ c,x=.bl c/\if c=true then tb σ G1 R else R (.bl false) G1
def uOrV (ta tb:E3):E3:=fun σ G R=>ta σ G λx G1=>∃ c,x=.bl c/\if c=true then R (.bl true) G1 else tb σ G1 R
def b9b (ta:E3):E3:=fun σ G R=>ta σ G λx G1=>∃ c,x=.bl c/\R (.bl (!c)) G1
theorem a9D (h:QE X a ta):QE X (.BoolOp op [a] pos) ta:=⟨b8r h.p⟩
theorem a58 (ha:QE X a ta) (hb:QE X (.BoolOp .And (b::rest) pos) tb):QE X (.BoolOp .And (a::b::rest) pos) (b9a ta tb):=⟨a1C (b8s ha.p hb.p) fun τ H Q l=>l.un fun σ G R g j h i=>by
 refine⟨σ,G,_,g,j,h,λx n v o ⟨k,m,e⟩ f c d=>?_⟩;subst m;refine⟨k,f,?_⟩;cases k with
 | false=>exact i _ _ _ _ (by simpa using e) (by rw[a0Q]) c d
 | true=>rw[if_pos rfl]at e ⊢;exact⟨σ,n,R,g.mono d,c,e,i.mono d⟩⟩
theorem c1r (ha:QE X a ta) (hb:QE X (.BoolOp .Or (b::rest) pos) tb):QE X (.BoolOp .Or (a::b::rest) pos) (uOrV ta tb):=⟨a1C (c02 ha.p hb.p) fun τ H Q m=>m.un fun σ G R g n h i=>by
 refine⟨σ,G,_,g,n,h,λx j v o ⟨k,l,d⟩ f c e=>?_⟩;subst l;refine⟨k,f,?_⟩;cases k with
 | true=>exact i _ _ _ _ (by simpa using d) (by rw[a0Q]) c e
 | false=>rw[if_neg (by simp)]at d ⊢;exact⟨σ,j,R,g.mono e,c,d,i.mono e⟩⟩
theorem b9c (ha:QE X a ta):QE X (.UnaryOp .Not a pos) (b9b ta):=⟨a1C (b8t ha.p) fun τ H Q f=>f.un fun σ G R g d h j=>by
 refine⟨σ,G,_,g,d,h,λx m v n ⟨k,e,i⟩ b c l=>?_⟩;subst e;exact⟨k,b,j _ _ _ _ i (by rw[a0Q]) c l⟩⟩
def uIf (t:T3) (ta tb:E3):E3:=fun σ G R=>t σ G λc G1=>if c=true then ta σ G1 R else tb σ G1 R
theorem q_if (hc:QT X c t) (ha:QE X a ta) (hb:QE X b tb):QE X (.IfExp c a b pos) (uIf t ta tb):=⟨a1C (b4f hc.p ha.p hb.p) fun τ H Q l=>l.un fun σ G R g m h j=>by
 refine⟨σ,G,_,g,m,h,λk i n e f d=>?_⟩;cases k with
 | true=>rw[if_pos rfl]at e ⊢;exact⟨σ,i,R,g.mono d,f,e,j.mono d⟩
 | false=>rw[if_neg (by simp)]at e ⊢;exact⟨σ,i,R,g.mono d,f,e,j.mono d⟩⟩
def tru:Z->Hq->(Bool->Hq->Prop)->Prop
 | .non,G,R=>R false G
 | .bl b,G,R=>R b G
 | .int i,G,R=>R (i != 0) G
 | .str y,G,R=>y.length<=ki/\R ((y.length:Int) != 0) G
 | .tup ws,G,R=>R (!ws.isEmpty) G
 | .scr _ ns,G,R=>R (!ns.isEmpty) G
 | .ref p,G,R=>(∃ ws,G p=some (.lst ws)/\R (!ws.isEmpty) G)\/∃ kvs,G p=some (.dK kvs)/\R (!kvs.isEmpty) G
 | .ty _,_,_=>False
def uTru (ta:E3):T3:=fun σ G R=>ta σ G λx G1=>tru x G1 R
theorem a2L {α β:Type}{a:List α}{b:List β}(h:a.length=b.length):a.isEmpty=b.isEmpty:=by
 cases a<;>cases b<;>simp_all
theorem b6Z {K:Fg}(h:tru w G R) (r:Rep K H w v) (hg:RH K G H) (up:UpB K H R Q):∃ k,TruV K v H k/\Q k H:=by
 cases w with
 | non=>rw[a01]at r;subst r;exact⟨_,rfl,up _ _ _ h hg (.refl _ _)⟩
 | bl b=>rw[a0Q]at r;subst r;exact⟨_,rfl,up _ _ _ h hg (.refl _ _)⟩
 | int i=>rw[a0y]at r;subst r;exact⟨_,rfl,up _ _ _ h hg (.refl _ _)⟩
 | str y=>rw[a0K]at r;subst r;exact⟨_,⟨h.1,rfl⟩,up _ _ _ h.2 hg (.refl _ _)⟩
 | ty n=>exact fh h
 | scr a ns=>rw[a43]at r;obtain⟨rfl,f⟩:=r;exact⟨!ns.isEmpty,.inl ⟨_,f.sq,by rw[a2L (fc ..).symm]⟩,up _ _ _ h hg (.refl _ _)⟩
 | tup ws=>
  obtain⟨a,d,rfl,e,c⟩:=r;exact⟨!ws.isEmpty,.inr (.inl ⟨d,SqT.of e,by rw[a2L c.length]⟩),up _ _ _ h hg (.refl _ _)⟩
 | ref p=>
  subst r;rcases h with ⟨ws,e,h⟩ | ⟨kvs,e,h⟩
  ·obtain⟨d,g,c⟩:=hg p _ e;exact⟨_,.inl ⟨d,SqL.of g,by rw[<- a2L c.length]⟩,up _ _ _ h hg (.refl _ _)⟩
  ·obtain⟨j,g,l,c⟩:=hg p _ e;exact⟨_,.inr (.inr ⟨j,g,by rw[a2L (show kvs.length=j.length by rw[<- fc,c.length,fc])]⟩),up _ _ _ h hg (.refl _ _)⟩
theorem b9d (ha:QE X a ta) (he:∀ whole,isTrue a X.env whole=(do let v <- whole;kR a.pos;kL [v] (truthy v))):QT X a (uTru ta):=⟨b4J (b4i ha.p he) fun τ H Q i=>i.un fun σ G R d f h j=>
 ⟨σ,G,_,d,f,h,λw k v l e g b c=>b6Z e g b (j.mono c)⟩⟩
theorem a3l (ha:QE X a ta) (he:∀ whole,isTrue a X.env whole=(do let v <- whole;kR a.pos;kL [v] (truthy v)):=by intro _;rfl):QT X a (b4K ta):=⟨b4J (b8n ha.p he) λ_ _ _ h=>b0u h⟩
end
section
variable {env:Env}{es:List Expr}{pos:Pos}
theorem a0e:kj (.Constant c k p::es) env=(false,eval (.Constant c k p) env)::kj es env:=rfl
theorem a0a:kj (.Name x p::es) env=(false,eval (.Name x p) env)::kj es env:=rfl
theorem a0A:kj (.BinOp a o b p::es) env=(false,eval (.BinOp a o b p) env)::kj es env:=rfl
theorem a45:kj (.UnaryOp o a p::es) env=(false,eval (.UnaryOp o a p) env)::kj es env:=rfl
theorem a46:kj (.Compare a o b p::es) env=(false,eval (.Compare a o b p) env)::kj es env:=rfl
theorem a3Y:kj (.List a p::es) env=(false,eval (.List a p) env)::kj es env:=rfl
theorem a0G:kj (.Tuple a k p::es) env=(false,eval (.Tuple a k p) env)::kj es env:=rfl
theorem a0m:kj (.Subscript a b p::es) env=(false,eval (.Subscript a b p) env)::kj es env:=rfl
theorem a1l:kj (.Attribute a b p::es) env=(false,eval (.Attribute a b p) env)::kj es env:=rfl
theorem a0C:kj (.Call a b c p::es) env=(false,eval (.Call a b c p) env)::kj es env:=rfl
theorem a0M:kj (.ListComp a b c p::es) env=(false,eval (.ListComp a b c p) env)::kj es env:=rfl
theorem a0i:(backTo pos (kj [] env)).any (·.1)=false:=rfl
theorem a0j (h:kj (e::es) env=(false,eval e env)::kj es env) (r:(backTo pos (kj es env)).any (·.1)=false):(backTo pos (kj (e::es) env)).any (·.1)=false:=by
 rw[h]
 show (false||(backTo pos _).any _)=false
 rw[r];rfl
end
section
variable {X:Cx}{e a b:Expr}{es:List Expr}{pos p2:Pos}{te ta tb:E3}{t:A3}
theorem q_ix (hr:IxQ X r) (ha:QE X a ta) (hb:QE X b tb) (hs:b2o b):QE X (.Subscript a b pos) (uOp r ta tb):=⟨a1C (c1j hr ha.p hb.p hs) λ_ _ _=>b0t⟩
abbrev O3:=S3->Hq->(Option Int->Hq->Prop)->Prop
def b2I:O3:=λ_ G R=>R none G
def b9e (t:E3):O3:=fun σ G R=>t σ G λx G1=>∃ i,x=.int i/\R (some i) G1
def lowO (K:Fg) (t:O3):TO:=fun τ H Q=>∃ σ G R,RSt K H σ τ/\RH K G H/\t σ G R/\∀ o G' H',R o G'->RH K G' H'->TK K H H'->Q o H'
theorem lowO.un {K:Fg}{t:O3}{C:Prop}(z:lowO K t τ H Q) (f:∀ σ G R,(RSt K H σ τ)->(RH K G H)->(t σ G R)->(∀ o G' H',R o G'->RH K G' H'->TK K H H'->Q o H')->C):C:=by obtain⟨σ,G,R,d,b,c,a⟩:=z;exact f _ _ _ d b c a
def QO (X:Cx) (e:Option Expr) (t:O3):Prop:=PO X e (lowO X.K t)
theorem a05:QO X none b2I:=λa s τ H Q I ⟨σ,G,R,d,c,h,b⟩=>b6N a s τ H Q I (b _ _ _ h c (.refl _ _))
theorem a1m (h:QE X e te):QO X (some e) (b9e te):=λa s τ H Q I ⟨σ,G,R,f,k,q,l⟩=>b6O h.p a s τ H Q I ⟨σ,G,_,f,k,q,λw n v m ⟨i,g,d⟩ b c j=>by
 subst g;exact⟨i,b,l _ _ _ d c j⟩⟩
abbrev L3r:=Z->Option Int->Option Int->Hq->K3->Prop
def lowL (K:Fg) (r:L3r):V->Option Int->Option Int->Hp->VK->Prop:=λx lo hi H Q=>∃ w G R,Rep K H w x/\RH K G H/\r w lo hi G R/\UpV K H R Q
theorem lowL.un {K:Fg}{lo hi:Option Int}{C:Prop}(z:lowL K r x lo hi H Q) (f:∀ w G R,(Rep K H w x)->(RH K G H)->(r w lo hi G R)->(UpV K H R Q)->C):C:=by obtain⟨w,G,R,a,d,b,c⟩:=z;exact f _ _ _ a d b c
def SlQ (X:Cx) (r:L3r):Prop:=SlR X (lowL X.K r)
theorem c1s (h:SlR X r') (i:∀ x lo hi H Q,r x lo hi H Q->r' x lo hi H Q):SlR X r:=λa s σ H x v l b j f d Q I c e g k q=>h a s σ H x v l b j f d Q I c e g k (i _ _ _ _ _ q)
def uSl (r:L3r) (te:E3) (tl th:O3):E3:=fun σ G R=>te σ G λx G1=>tl σ G1 λl G2=>th σ G2 λu G3=>r x l u G3 R
theorem a09 {lo hi:Option Expr}(hr:SlQ X r) (he:QE X e te) (hl:QO X lo tl) (hu:QO X hi th):QE X (.Subscript e (.Slice lo hi none p2) pos) (uSl r te tl th):=⟨a1C (b4s hr he.p hl hu) fun τ H Q q=>q.un fun σ G R c k h y=>
 ⟨σ,G,_,c,k,h,λw m v z j t f b=>⟨σ,m,_,c.mono b,f,j,λl o A s d a=>⟨σ,o,_,c.mono (b.trans a),d,s,λu x B n i g=>
  ⟨w,x,R,t.mono (a.trans g),i,n,y.mono ((b.trans a).trans g)⟩⟩⟩⟩⟩
def uNil:A3:=λ_ G R=>R [] G
def b9f (ta:E3) (tr:A3):A3:=fun σ G R=>ta σ G λx G1=>tr σ G1 λxs G2=>R (x::xs) G2
theorem a0f:QA X [] uNil:=⟨b87 b8M fun τ H Q b=>b.un fun σ G R d a h c=>c _ _ _ _ h .nil a (.refl _ _)⟩
theorem a0b (ha:QE X e te) (hr:QA X es t) (hs:kj (e::es) X.env=(false,eval e X.env)::kj es X.env:=by rfl):QA X (e::es) (b9f te t):=⟨b87 (b6L ha.p hr.p hs) fun τ H Q i=>i.un fun σ G R hs l h o=>
 ⟨σ,G,_,hs,l,h,λw j v H1 g m f d=>⟨σ,j,_,hs.mono d,f,g,λws G2 vs H2 n k c b=>o _ _ _ _ n (.cons (m.mono b) k) c (d.trans b)⟩⟩⟩
def uTup (t:A3):E3:=fun σ G R=>t σ G λxs G1=>xs.length<=ki/\R (.tup xs) G1
def uLst (t:A3):E3:=fun σ G R=>t σ G λxs G1=>xs.length<=ki/\∀ p,G1 p=none->R (.ref p) (put G1 p (.lst xs))
theorem a1g (h:QA X es t):QE X (.Tuple es x1 pos) (uTup t):=⟨a1C (b8N h.p) fun τ H Q k=>k.un fun σ G R f j h d=>
 ⟨σ,G,_,f,j,h,λo m l n ⟨i,g⟩ b c e=>⟨by rw[<- b.length];exact i,λp a=>d _ _ _ _ g (by rw[a19];exact⟨p,l,rfl,a0w,b.mono (.new a)⟩) (c.hid a) (e.trans (.new a))⟩⟩⟩
theorem a1R {K:Fg}(r:Reps K H ws vs) (t:TK K H (upd H p (.lst vs))):ROb K (upd H p (.lst vs)) p (.lst ws):=⟨vs,a0w,r.mono t⟩
theorem a1p (h:QA X es t):QE X (.List es pos) (uLst t):=⟨a1C (b8O h.p) fun τ H Q g=>g.un fun σ G R d k h i=>
 ⟨σ,G,_,d,k,h,λm l o n ⟨f,e⟩ c b j=>⟨by rw[<- c.length];exact f,λp a=>i _ _ _ _ (e p (b.out a)) (by rw[a0B]) (b.set (.new a) (a1R c (.new a))) (j.trans (.new a))⟩⟩⟩
def uCB (r:List Z->Hq->K3->Prop) (t:A3):E3:=fun σ G R=>t σ G λws G1=>r ws G1 R
theorem b5P {K:Fg}(h:low K (uCB r t) τ H Q):tCB (lowC K r) (lowA K t) τ H Q:=by
 obtain⟨σ,G,R,e,j,h,i⟩:=h;exact⟨σ,G,_,e,j,h,λc g k l f b a d=>⟨c,g,R,b,a,f,i.mono d⟩⟩
variable {x:Str}{p:Pos}{id T:String}{r:List Z->Hq->K3->Prop}
theorem a0t (hc:a2y X (.builtin id) r) (hg:Gl X x) (hm:X.mg x=none) (hv:ls x=some (.builtin id)) (ha:QA X (e::es) t) (hn:x≠"__name__":=by decide) (hdb:(x==("__debug__":Str))=false:=by decide)
  (he:kj (e::es) X.env=(false,eval e X.env)::kj es X.env:=by rfl) (hpl:(backTo pos (kj es X.env)).any (·.1)=false:=by rfl):QE X (.Call (.Name x p) (e::es) [] pos) (uCB r t):=⟨a1C (b4q hc hg hm hv ha.p hn hdb he hpl) λ_ _ _=>b5P⟩
theorem a13 (hc:a2y X (.type T) r) (hg:Gl X x) (hm:X.mg x=none) (hv:ls x=some (.type T)) (ha:QA X (e::es) t) (hn:x≠"__name__":=by decide) (hdb:(x==("__debug__":Str))=false:=by decide)
  (he:kj (e::es) X.env=(false,eval e X.env)::kj es X.env:=by rfl) (hpl:(backTo pos (kj es X.env)).any (·.1)=false:=by rfl):QE X (.Call (.Name x p) (e::es) [] pos) (uCB r t):=⟨a1C (b2l hc hg hm hv ha.p hn hdb he hpl) λ_ _ _=>b5P⟩
def tyZ (T:String) (x:Z) (G:Hq):Prop:=match x with
 | .str _=>T="str"
 | .int _=>T="int"
 | .ref p=>(T="list"/\∃ ws,G p=some (.lst ws))\/(T="dict"/\∃ kvs,G p=some (.dK kvs)\/G p=some (.dF kvs))
 | .scr _ _=>T="list"
 | _=>False
theorem b60 {K:Fg}(h:tyZ T w G) (r:Rep K H w v) (hg:RH K G H):tyV K T v H:=by
 cases w with
 | str y=>rw[a0K]at r;subst r;exact h
 | int y=>rw[a0y]at r;subst r;exact h
 | ref q=>
  subst r;rcases h with ⟨e,ws,g⟩ | ⟨e,kvs,g⟩
  ·obtain⟨b,a,_⟩:=hg q _ g;exact .inl ⟨e,b,SqL.of a⟩
  ·rcases g with g | g
   ·obtain⟨b,a,_⟩:=hg q _ g;exact .inr (.inr (.inl ⟨e,.inl ⟨b,a⟩⟩))
   ·obtain⟨c,b,a,_⟩:=hg q _ g;exact .inr (.inr (.inl ⟨e,.inr (.inr ⟨c,b,a⟩)⟩))
 | scr q ns=>rw[a43]at r;obtain⟨rfl,f⟩:=r;exact .inl ⟨h,_,f.sq⟩
 | _=>exact fh h
def uBM (T:String) (r:Z->List Z->Hq->K3->Prop) (to:E3) (t:A3):E3:=fun σ G R=>to σ G λx G1=>tyZ T x G1/\t σ G1 λxs G2=>r x xs G2 R
variable {o:Expr}{to:E3}{name:Str}{apos cpos:Pos}{rm:Z->List Z->Hq->K3->Prop}
theorem q_bm (pa:PlainAttrs T) (slot:Slot T name id) (hty:typeOf (.builtin id)=pure (.type "method_descriptor")) (hm:MtQ X id rm) (ho:QE X o to) (ha:QA X (e::es) t)
  (hbase:lS o name X.env (eval o X.env)=eval o X.env:=by rfl)
  (hfew:((backTo cpos (kj (e::es) X.env)).all (λx=>!x.1)&&(lp cpos (lq [] X.env)).all (λx=>x.1.isSome)
   && decide ((e::es).length+([]:List lW).length+(if ([]:List lW).isEmpty then 0 else 1)<30))=true:=by rfl)
  (hline:(apos.endLine==cpos.line)=true:=by rfl) (hs:kj (e::es) X.env=(false,eval e X.env)::kj es X.env:=by rfl) (hplain:(backTo cpos (kj es X.env)).any (·.1)=false:=by rfl) :
  QE X (.Call (.Attribute o name apos) (e::es) [] cpos) (uBM T rm to t):=⟨a1C (c1l pa slot hty hm ho.p ha.p hbase hfew hline hs hplain) fun τ H Q q=>q.un fun σ G R hs r h u=>
  ⟨σ,G,_,hs,r,h,λw j v H1 ⟨m,n⟩ d a g=>⟨b60 m d a,σ,j,_,hs.mono g,a,n,λs i vs H2 k l f c=>⟨w,s,i,R,d.mono c,l,f,k,u.mono (g.trans c)⟩⟩⟩⟩
abbrev P3:=List Z->Hq->K3->Prop
def lowP (K:Fg) (sp:P3):Sp:=λvs H Q _=>lowC K sp vs H Q
def b9g (sp:P3) (t:A3):E3:=fun σ G R=>t σ G λws G1=>sp ws G1 R
variable {k:Nat}{f:Addr}{fd:kx}{ps:List Str}{sp:P3}
theorem a0q (F:FnOk X.prog X.w X.K X.mg X.base CX0 k f fd ps (lowP X.K sp)) (hr:Room k X.A) (hg:Gl X x) (hm:X.mg x=some (.ref f)) (hk:PySem.W.keepIn X.K (.ref f)=true) (hb:Binds X.K fd ps []) (ha:QA X (e::es) t)
  (hdb:(x==("__debug__":Str))=false:=by decide) (he:kj (e::es) X.env=(false,eval e X.env)::kj es X.env:=by rfl) (hpl:(backTo pos (kj es X.env)).any (·.1)=false:=by rfl) :
  QE X (.Call (.Name x p) (e::es) [] pos) (b9g sp t):=⟨a1C (b2i F hr hg hm hk hb .nil b4v ha.p hdb he hpl) fun τ H Q d=>d.un fun σ G R i hg h m=>⟨σ,G,_,i,hg,h,λc j vs H1 l g b n=>⟨c,j,R,by rw[fK];exact g,b,l,m.mono n⟩⟩⟩
end
section
variable {X:Cx}{e c tg:Expr}{st:Stmt}{rest sa sb:List Stmt}{pos:Pos}{te:E3}{t u:X3}{tc:T3}
def b9h:X3:=λnx _ _ _ σ G=>nx σ G
def uSeq (t u:X3):X3:=λnx rt bk ct σ G=>t (u nx rt bk ct) rt bk ct σ G
theorem a1a:QSs X [] b9h:=⟨b2D b6z λD τ H a=>a.un fun σ G g e k f d b h c i j l=>c _ _ _ _ h d b (.refl _ _)⟩
theorem a0k (h1:QS X st t) (h2:QSs X rest u):QSs X (st::rest) (uSeq t u):=⟨b2D (b0m h1.p h2.p) λD τ H q=>q.un fun σ G k j c e l o h n d b g=>
 ⟨σ,G,_,j,c,e,l,o,h,fun σ' r τ' s m f i a=>⟨σ',r,k,j,c,e,f,i,m,n.mono a,d.mono a,b.mono a,g.mono a⟩,d,b,g⟩⟩
theorem a0n (h1:QS X st t):QSs X [st] t:=⟨b6A h1.p⟩
def uCut (t u:X3):X3:=λnx rt bk ct σ G=>∃ M:C3,t M rt bk ct σ G/\∀ σ' G',M σ' G'->u nx rt bk ct σ' G'
theorem a8E (h1:QS X st t) (h2:QSs X rest u):QSs X (st::rest) (uCut t u):=⟨b2D (b0m h1.p h2.p) λD τ H v=>v.un fun σ G n d j b q m l s g e i=>by
 obtain⟨M,h,k⟩:=l;exact⟨σ,G,M,d,j,b,q,m,h,fun σ' o τ' w r f c a=>⟨σ',o,n,d,j,b,f,c,k _ _ r,s.mono a,g.mono a,e.mono a,i.mono a⟩,g,e,i⟩⟩
def b9i (te:E3):X3:=λnx _ _ _ σ G=>te σ G λ_ G1=>nx σ G1
theorem a06 (he:QE X e te) (hs:lh e none pos.line X.env=pure false:=by rfl):QS X (.Expr e pos) (b9i te):=⟨a4o (b6B he.p hs) λD τ H i=>i.un fun σ G nx rt bk ct hs g h f u2 u3 u4=>
 ⟨σ,G,_,hs,g,h,λw G1 v H1 d rv c b=>f _ _ _ _ d (hs.mono b) c b⟩⟩
def uRet (te:E3):X3:=λ_ rt _ _ σ G=>te σ G rt
theorem a0D (he:QE X e te):QS X (.Return (some e) pos) (uRet te):=⟨a4o (b8u he.p) λD τ H c=>c.un fun σ G f j k m a b h g d l i=>⟨σ,G,_,a,b,h,d⟩⟩
def uIfS (c:T3) (t u:X3):X3:=λnx rt bk ct σ G=>c σ G λb G1=>if b=true then t nx rt bk ct σ G1 else u nx rt bk ct σ G1
theorem z_if (hc:QT X c tc) (ha:QSs X sa t) (hb:QSs X sb u):QS X (.If c sa sb pos) (uIfS tc t u):=⟨a4o (c05 hc.p ha.p hb.p) λD τ H s=>s.un fun σ G l g k m f r h n q j i=>by
 refine⟨σ,G,_,f,r,h,λb o v d e a=>?_⟩;cases b with
 | true=>rw[if_pos rfl]at d ⊢;exact⟨σ,o,l,g,k,m,f.mono a,e,d,n.mono a,q.mono a,j.mono a,i.mono a⟩
 | false=>rw[if_neg (by simp)]at d ⊢;exact⟨σ,o,l,g,k,m,f.mono a,e,d,n.mono a,q.mono a,j.mono a,i.mono a⟩⟩
def b9j (c:T3) (tb:X3):X3:=λnx rt _ _ σ G=>∃ I:Nat->S3->Hq->Prop,(∃ m,I m σ G)/\∀ m σ G,I m σ G ->
 c σ G λb G1=>if b=true then tb (fun σ' G'=>∃ m',m'<m/\I m' σ' G') rt nx (fun σ' G'=>∃ m',m'<m/\I m' σ' G') σ G1 else nx σ G1
theorem b61 (hp:kH (model X.prog X.w) X.A X.env X.xe) (hc:QT X c tc) (hb:QSs X sb t):QS X (.While c sb [] pos) (b9j tc t):=⟨a4o (b4g hp hc.p hb.p) λD τ H L=>L.un fun σ G C R Y T F J B v Q W V=>by
 obtain⟨I,⟨y,E⟩,l⟩:=B;refine⟨λm τ' i=>∃ σ' G',RSt X.K i σ' τ'/\RH X.K G' i/\TK X.K H i/\I m σ' G',⟨y,σ,G,F,J,.refl _ _,E⟩,?_⟩;rintro m τ' S ⟨σ1,u,g,x,f,M⟩;refine⟨σ1,u,_,g,x,l m σ1 u M,λb z U j k a=>?_⟩;cases b with
 | false=>rw[if_neg (by simp)]at j ⊢;exact v _ _ _ _ j (g.mono a) k (f.trans a)
 | true=>
  refine⟨_,fun σ' i h=>h,σ1,z,_,R,C,_,g.mono a,k,j,?_,Q.mono (f.trans a),v.mono (f.trans a),?_⟩
  ·rintro σ3 s τ3 N ⟨o,n,r⟩ d e q;exact⟨o,n,σ3,s,d,e,(f.trans a).trans q,r⟩
  ·rintro σ3 s τ3 N ⟨o,n,r⟩ d e q;exact⟨o,n,σ3,s,d,e,(f.trans a).trans q,r⟩⟩
inductive Pt where
 | nm (i:Nat)
 | tp (is:List Nat)
def gsOf:List Nat->TGs
 | []=>gNil
 | i::is=>b8v (b12 i) (gsOf is)
def gP (K:Fg):Pt->TG
 | .nm i=>b12 i
 | .tp is=>gTup K is.length (gsOf is)
noncomputable def sets:List Nat->List Z->S3->S3
 | i::is,w::ws,σ=>sets is ws (σ.set i (some w))
 | _,_,σ=>σ
def a59:Pt->Z->S3->Option S3
 | .nm i,w,σ=>some (σ.set i (some w))
 | .tp is,.tup ws,σ=>if ws.length=is.length then some (sets is ws σ) else none
 | _,_,_=>none
noncomputable def Pt.slots:Pt->List Nat
 | .nm i=>[i]
 | .tp is=>is
def a5B:List Nat->List V->L2.St->L2.St
 | i::is,w::ws,σ=>a5B is ws (σ.set i (some w))
 | _,_,σ=>σ
theorem b2J:∀ {is:List Nat}{vs:List V}{τ:L2.St},vs.length=is.length->Q (a5B is vs τ) H->gsOf is vs τ H Q
 | [],[],_,_,q=>⟨rfl,q⟩
 | i::is,v::vs,τ,h,q=>⟨v,vs,rfl,b2J (by simpa using h) q⟩
 | [],_::_,_,h,_=>by simp at h
 | _::_,[],_,h,_=>by simp at h
theorem a8F {K:Fg}:∀ {is:List Nat}{ws:List Z}{vs:List V}{σ:S3}{τ:L2.St},Reps K H ws vs->RSt K H σ τ->RSt K H (sets is ws σ) (a5B is vs τ)
 | [],ws,vs,σ,τ,_,h=>by unfold sets a5B;exact h
 | i::is,[],vs,σ,τ,r,h=>by rw[a0v]at r;subst r;exact h
 | i::is,w::ws,vs,σ,τ,r,h=>by
  obtain⟨v,c,rfl,a,b⟩:=r;exact a8F (is:=is) b (h.set a i)
theorem a7j:∀ {is:List Nat}{vs:List V}{τ:L2.St}{j:Nat},j∉is->(a5B is vs τ)[j]?=τ[j]?
 | [],_,_,_,_=>by unfold a5B;rfl
 | i::is,[],_,_,_=>by unfold a5B;rfl
 | i::is,v::vs,τ,j,h=>by
  have b:j≠i:=λz=>h (by rw[z];exact gi ..);have a:=λz=>h (fY _ z)
  show (a5B is vs _)[j]?=τ[j]?
  rw[a7j a,io (Ne.symm b)]
theorem a5w:∀ {is:List Nat}{vs:List V}{τ:L2.St},(a5B is vs τ).length=τ.length
 | [],_,_=>by unfold a5B;rfl
 | i::is,[],_=>by unfold a5B;rfl
 | i::is,v::vs,τ=>by
  show (a5B is vs _).length=τ.length
  rw[a5w,jJ]
theorem b62 {K:Fg}(r:Rep K H w v) (hs:RSt K H σ τ) (hb:a59 pt w σ=some σ')
  (q:∀ τ',RSt K H σ' τ'->τ'.length=τ.length->(∀ j,j∉pt.slots->τ'[j]?=τ[j]?)->Q τ' H):gP K pt v τ H Q:=by
 cases pt with
 | nm i=>
  cases hb;exact q _ (hs.set r i) (by simp) λj d=>by rw[io];intro z;exact d (by rw[z];exact gi ..)
 | tp is=>
  cases w with
  | tup ws=>
   obtain⟨a,f,rfl,e,c⟩:=r;have b:(if ws.length=is.length then some _ else none)=some σ':=hb
   by_cases hl:ws.length=is.length
   ·rw[if_pos hl]at b;cases b;exact⟨a,f,rfl,SqT.of e,by rw[<- c.length];exact hl,b2J (by rw[<- c.length];exact hl) (q _ (a8F c hs) a5w λj d=>a7j d)⟩
   ·simp_all
  | _=>cases hb
def QP (X:Cx) (tg:Expr) (pt:Pt):Prop:=PG X tg (gP X.K pt)
def uAsg (te:E3) (pt:Pt):X3:=λnx _ _ _ σ G=>te σ G λx G1=>∃ σ',a59 pt x σ=some σ'/\nx σ' G1
theorem a9E {K:Fg}(h:lowS K (uAsg te pt) D τ H):tAsg (low K te) (gP K pt) D τ H:=by
 obtain⟨σ,G,p,s,k,l,b,e,h,j,r,m,n⟩:=h;exact⟨σ,G,_,b,e,h,λw o v q ⟨σ',g,i⟩ f c d=>b62 f (b.mono d) g fun τ' a _ _=>j _ _ _ _ i a c d⟩
theorem a0F (hN:X.N.Nodup) (hi:X.N[i]?=some x) (hx:Loc X.env.scope x) (he:QE X e te) (hs:lh e (some (.Name x pos')) pos.line X.env=pure false:=by rfl) (hf:X.fn x=true\/X.env.scope.names.lookup x=some .local:=by first | exact .inl rfl | exact .inr rfl | assumption) :
  QS X (.Assign [.Name x pos'] e pos) (uAsg te (.nm i)):=⟨a4o (b8x hN hi hx he.p hs hf) λ_ _ _=>a9E⟩
theorem b9k (he:QE X e te) (hg:QP X tg pt) (hs:mE [tg] e pos.line X.env=pure false:=by rfl) (hw:mF [tg] e X.env=pure none:=by rfl)
  (h1:(lv [tg] X.env).map (·.2)=[assign tg X.env]:=by rfl):QS X (.Assign [tg] e pos) (uAsg te pt):=⟨a4o (b5I he.p hg hs hw h1) λ_ _ _=>a9E⟩
abbrev Z3:=Z->Z->Z->Hq->(Hq->Prop)->Prop
def lowZ (K:Fg) (r:Z3):TSet:=λo i v H Q=>∃ a b w G R,Rep K H a o/\Rep K H b i/\Rep K H w v/\RH K G H/\r a b w G R/\∀ G' H',R G'->RH K G' H'->TK K H H'->Q H'
theorem lowZ.un {K:Fg}{C:Prop}(z:lowZ K r o i v H Q) (f:∀ a b w G R,(Rep K H a o)->(Rep K H b i)->(Rep K H w v)->(RH K G H)->(r a b w G R)->(∀ G' H',R G'->RH K G' H'->TK K H H'->Q H')->C):C:=by obtain⟨a,b,w,G,R,d,j,e,g,c,h⟩:=z;exact f _ _ _ _ _ d j e g c h
def SetQ (X:Cx) (r:Z3):Prop:=PSet X (lowZ X.K r)
theorem b5Q (h:PSet X r') (i:∀ o j v H Q,r o j v H Q->r' o j v H Q):PSet X r:=λa s σ H o j v c f u Q I b d e q=>h a s σ H o j v c f u Q I b d e (i _ _ _ _ _ q)
def uPut (te to ti:E3) (r:Z3):X3:=λnx _ _ _ σ G=>te σ G λw G1=>to σ G1 λo G2=>ti σ G2 λi G3=>r o i w G3 λG4=>nx σ G4
theorem c1t (h:PS X st (tAsg (low X.K te) (gSub (low X.K to) (low X.K ti) (lowZ X.K r)))):QS X st (uPut te to ti r):=⟨a4o h λD τ H z=>z.un fun σ G Q I J N a s h B T V C=>
 ⟨σ,G,_,a,s,h,λw m v U o t e d=>⟨σ,m,_,a.mono d,e,o,λx u R S n i l c=>⟨σ,u,_,a.mono (d.trans c),l,n,λy A M F q g k b=>
  ⟨x,y,w,A,_,i.mono b,g,t.mono (c.trans b),k,q,λE L p j f=>B _ _ _ _ p (a.mono (((d.trans c).trans b).trans f)) j (((d.trans c).trans b).trans f)⟩⟩⟩⟩⟩
theorem a7k (he:QE X e te) (ho:QE X o to) (hi:QE X i ti) (hr:SetQ X r) (hs:mE [.Subscript o i p'] e pos.line X.env=pure false:=by rfl) (hw:mF [.Subscript o i p'] e X.env=pure none:=by rfl)
  (h1:(lv [.Subscript o i p'] X.env).map (·.2)=[assign (.Subscript o i p') X.env]:=by rfl) (ha:∀ v,assign (.Subscript o i p') X.env v=(do
   let ov <- kL [v] (eval o X.env)
   let iv <- kL [v,ov] (eval i X.env)
   kR p'
   kL [v,ov,iv] (l8 ov iv v)
   release [v,ov,iv] []):=by intro _;rfl):QS X (.Assign [.Subscript o i p'] e pos) (uPut te to ti r):=c1t (b5I he.p (b8w ho.p hi.p hr ha) hs hw h1)
def uAug (i:Nat) (te:E3) (r:R3):X3:=λnx _ _ _ σ G=>∃ x,σ[i]?=some (some x)/\te σ G λy G1=>r x y G1 λz G2=>nx (σ.set i (some z)) G2
theorem c1u (h:PS X st (tAug i (low X.K te) (low2 X.K r))):QS X st (uAug i te r):=⟨a4o h λD τ H q=>q.un fun σ G y L C u a s k t A B M=>by
 obtain⟨x,p,h⟩:=k;obtain⟨v,n,o⟩:=a.get p;exact⟨v,n,σ,G,_,a,s,h,λw m N z j c g b=>⟨x,w,m,_,o.mono b,c,g,j,λF I J E l d e f=>t _ _ _ _ l ((a.mono (b.trans f)).set d i) e (b.trans f)⟩⟩⟩
theorem b9l (hN:X.N.Nodup) (hi:X.N[i]?=some x) (hx:Loc X.env.scope x) (he:QE X e te) (ho:OpQ X (lw op) r) (hf:X.fn x=true\/X.env.scope.names.lookup x=some .local:=by first | exact .inl rfl | exact .inr rfl | assumption) :
  QS X (.AugAssign (.Name x pos') op e pos) (uAug i te r):=c1u (b8y hN hi hx he.p ho hf)
end
abbrev I3:=S3->Hq->(List Z->(Hq->Prop)->Hq->Prop)->Prop
def a7V (K:Fg) (ws:List Z) (ok:Hq->Prop) (J:It) (H0:Hp):Prop:=∀ i G H,RH K G H->TK K H0 H->ok G->i<=ws.length ->
 (i=ws.length->J.stop i H)/\∀ w,ws[i]?=some w->J.go i H/\∀ x H',J.yld i H x H'->Rep K H' w x/\RH K G H'/\TK K H H'
def lowI (K:Fg) (wi:I3):TI:=fun τ H R2=>∃ σ G R,RSt K H σ τ/\RH K G H/\wi σ G R/\∀ ws ok G' J H',R ws ok G'->a7V K ws ok J H'->RH K G' H'->TK K H H'->R2 J H'
theorem lowI.un {K:Fg}{R2:It->Hp->Prop}{C:Prop}(z:lowI K wi τ H R2) (f:∀ σ G R,(RSt K H σ τ)->(RH K G H)->(wi σ G R)->(∀ ws ok G' J H',R ws ok G'->a7V K ws ok J H'->RH K G' H'->TK K H H'->R2 J H')->C):C:=by obtain⟨σ,G,R,d,b,c,a⟩:=z;exact f _ _ _ d b c a
def QI (X:Cx) (tg iter:Expr) (wi:I3):Prop:=PI X tg iter (lowI X.K wi)
theorem a9F (h:PI X tg iter wi') (i:∀ σ H R,wi σ H R->wi' σ H R):PI X tg iter wi:=λa s σ H R I q=>h a s σ H R I (i σ H R q)
def FORB (ws:List Z) (ok:Hq->Prop) (pt:Pt) (tb:X3) (nx:C3) (rt:K3) (σ:S3) (G1:Hq):Prop:=∃ I:Nat->S3->Hq->Prop,I 0 σ G1/\(∀ i σ G,i<=ws.length->I i σ G->ok G) /\
 (∀ i x σ G,ws[i]?=some x->I i σ G->∃ σ',a59 pt x σ=some σ'/\tb (I (i+1)) rt nx (I (i+1)) σ' G)/\∀ σ G,I ws.length σ G->nx σ G
def uFor (wi:I3) (pt:Pt) (tb:X3):X3:=λnx rt _ _ σ G=>wi σ G λws ok G1=>FORB ws ok pt tb nx rt σ G1
theorem a1n (I:Nat->S3->Hq->Prop) (h0:I 0 σ G) (hok:∀ i σ G,i<=ws.length->I i σ G->ok G)
  (step:∀ i x σ G,ws[i]?=some x->I i σ G->∃ σ',a59 pt x σ=some σ'/\tb (I (i+1)) rt nx (I (i+1)) σ' G) (fin:∀ σ G,I ws.length σ G->nx σ G):FORB ws ok pt tb nx rt σ G:=⟨I,h0,hok,step,fin⟩
theorem a3E (hp:kH (model X.prog X.w) X.A X.env X.xe) (hc:X.calm=true) (hi:QI X tg iter wi) (hg:QP X tg pt) (hb:QSs X sb t)
  (hs:∀ x,lA iter X.env x=pure x:=by intro _;rfl):QS X (.For tg iter sb [] pos) (uFor wi pt t):=⟨a4o (b8D hp hc hi hg hb.p hs) λD τ H U=>U.un fun σ G nx rt bk ct hs hg h R u2 u3 u4=>by
 refine⟨σ,G,_,hs,hg,h,?_⟩;rintro b ok G1 J L ⟨I,i0,S,u,E⟩ hJ M k;refine⟨λi m τ' a=>m=b.length - i/\i<=b.length/\∃ σ' G',RSt X.K a σ' τ'/\RH X.K G' a/\TK X.K L a/\I i σ' G',⟨b.length,by simp,fL _,σ,G1,hs.mono k,M,.refl _ _,i0⟩,?_⟩;rintro i m τ2 H2 ⟨rfl,n,σ2,j,o,r,c,z⟩;have l:=hJ i j H2 r c (S i σ2 j n z) n
 by_cases hlt:i<b.length
 ·obtain⟨Y,T⟩:=l.2 _ (fw hlt);refine .inr ⟨Y,fun τ' a=>i+1<=b.length/\∃ σ' G',RSt X.K a σ' τ'/\RH X.K G' a/\TK X.K L a/\I _ σ' G',fun σ' a q=>⟨b.length - _,by omega,rfl,q.1,q.2⟩,λx H3 V=>?_⟩;obtain⟨rx,N,g⟩:=T x H3 V;obtain⟨σ',F,h3⟩:=u i _ σ2 j (fw hlt) z;refine b62 rx (o.mono g) F fun τ' C _ _=>⟨σ',j,_,rt,nx,_,C,N,h3,?_,u2.mono ((k.trans c).trans g),R.mono ((k.trans c).trans g),?_⟩
  ·exact fun σ4 v τ4 W s d f y=>⟨hlt,σ4,v,d,f,(c.trans g).trans y,s⟩
  ·exact fun σ4 v τ4 W s d f y=>⟨hlt,σ4,v,d,f,(c.trans g).trans y,s⟩
 ·have e:i=b.length:=by omega
  subst e;exact .inl ⟨l.1 rfl,R _ _ _ _ (E σ2 j z) o r (k.trans c)⟩⟩
section
variable {X:Cx}{tg l:Expr}{tl:E3}
def wkL (x:Z) (G:Hq) (R:List Z->(Hq->Prop)->Hq->Prop):Prop:=match x with
 | .ref a=>∃ ws,G a=some (.lst ws)/\R ws (λG=>G a=some (.lst ws)) G
 | .scr _ ns=>R (ns.map Z.int) (λ_=>True) G
 | _=>False
def iL (tl:E3):I3:=fun σ G R=>tl σ G λx G1=>wkL x G1 R
theorem b1s {K:Fg}:a7V K ws (λG=>G a=some (.lst ws)) (Itl K a) H:=λi G H c t g m=>by
 obtain⟨b,e,f⟩:=c a _ g;refine⟨λh=>⟨b,SqL.of e,by rw[<- f.length,h];exact ff _⟩,λw j=>?_⟩;obtain⟨v,d,k⟩:=f.get j;refine⟨⟨b,v,SqL.of e,d⟩,?_⟩;rintro x l ⟨rfl,y⟩
 have:=y b (SqL.of e)
 rw[d]at this;cases this;exact⟨k,c,.refl _ _⟩
theorem b2K {K:Fg}{ns:List Int}(f:Fz K H0 a (ns.map V.int)):a7V K (ns.map Z.int) (λ_=>True) (Itl K a) H0:=λi G H g t m l=>by
 have b:=(t.frz _ _ f).sq;have c:Reps K H _ _:=a3k ns;refine⟨λh=>⟨_,b,by rw[<- c.length,h];exact ff _⟩,λw j=>?_⟩;obtain⟨v,d,e⟩:=c.get j;refine⟨⟨_,v,b,d⟩,?_⟩;rintro x k ⟨rfl,y⟩
 have:=y _ b
 rw[d]at this;cases this;exact⟨e,g,.refl _ _⟩
theorem a0R (hl:QE X l tl):QI X tg l (iL tl):=a9F (b6C hl.p) fun τ H s k=>k.un fun σ G R i j h f=>by
 refine⟨σ,G,_,i,j,h,λw q v o c b d g=>?_⟩;cases w with
 | ref a=>
  obtain⟨r,e,c⟩:=c;obtain⟨m,n,_⟩:=d a _ e;exact⟨a,b,⟨m,SqL.of n⟩,f _ _ _ _ _ c b1s d g⟩
 | scr a ns=>
  exact⟨a,b.1,⟨_,b.2.sq⟩,f _ _ _ _ _ c (b2K b.2) d g⟩
 | _=>exact fh c
def wkT (x:Z) (G:Hq) (R:List Z->(Hq->Prop)->Hq->Prop):Prop:=match x with
 | .tup ws=>R ws (λ_=>True) G
 | _=>False
def iT (tl:E3):I3:=fun σ G R=>tl σ G λx G1=>wkT x G1 R
theorem b2L {K:Fg}(e:H0 a=some (.tup vs)) (rs:Reps K H0 ws vs):a7V K ws (λ_=>True) (Itt K a) H0:=λi G H f t ok hi=>by
 have e:=t.tup _ _ e;have rs:=rs.mono t;refine⟨λh=>⟨vs,SqT.of e,by rw[<- rs.length,h];exact ff _⟩,λw g=>?_⟩;obtain⟨v,c,d⟩:=rs.get g;refine⟨⟨vs,v,SqT.of e,c⟩,?_⟩;rintro x H' ⟨rfl,y⟩
 have:=y vs (SqT.of e)
 rw[c]at this;cases this;exact⟨d,f,.refl _ _⟩
theorem b5R (hl:QE X l tl):QI X tg l (iT tl):=a9F (b8A hl.p) fun τ H o j=>j.un fun σ G R m i h n=>by
 refine⟨σ,G,_,m,i,h,λw r v q d c b k=>?_⟩;cases w with
 | tup ws=>
  obtain⟨a,g,rfl,e,f⟩:=c;exact⟨a,rfl,⟨g,SqT.of e⟩,n _ _ _ _ _ d (b2L e f) b k⟩
 | _=>exact fh d
noncomputable def rng (lo:Int):Nat->List Z
 | 0=>[]
 | n+1=>.int lo::rng (lo+1) n
theorem a2z:∀ (lo:Int) (n:Nat),(rng lo n).length=n
 | _,0=>rfl
 | lo,n+1=>by rw[rng,fk,a2z]
theorem a47:∀ {lo:Int}{n i:Nat}{w:Z},(rng lo n)[i]?=some w->i<n/\w=.int (lo+i)
 | _,0,_,_,h=>by simp[rng]at h
 | lo,n+1,0,w,h=>by simp[rng]at h;exact⟨by omega,by rw[<- h];simp⟩
 | lo,n+1,i+1,w,h=>by
  have:=a47 (by simpa[rng]using h)
  refine⟨by omega,?_⟩;rw[this.2]
  congr 1
  omega
theorem a8G {K:Fg}{lo:Int}:a7V K (rng lo n) (λ_=>True) (Itr lo n) H0:=λi G H b t e g=>by
 rw[a2z];refine⟨λh=>by rw[h];exact ff _,λw d=>?_⟩;obtain⟨a,c⟩:=a47 d;refine⟨a,?_⟩;rintro x f ⟨rfl,rfl⟩;exact⟨by rw[c,a0y],b,.refl _ _⟩
variable {t:A3}
def iR1 (t:A3):I3:=fun σ G R=>t σ G λws G1=>∃ j:Int,ws=[.int j]/\-(2 ^ 62)<=j/\j<2 ^ 62/\R (rng 0 j.toNat) (λ_=>True) G1
def iR2 (t:A3):I3:=fun σ G R=>t σ G λws G1=>∃ i j:Int,ws=[.int i,.int j]/\(-(2 ^ 62)<=i/\i<2 ^ 62/\-(2 ^ 62)<=j/\j<2 ^ 62)/\R (rng i (j - i).toNat) (λ_=>True) G1
theorem b2M (h:PI X tg wi (b8B (lowA X.K t))):QI X tg wi (iR1 t):=a9F h fun τ H p g=>g.un fun σ G R i d h l=>by
 refine⟨σ,G,_,i,d,h,λq o n s ⟨j,e,a,b,k⟩ f c m=>?_⟩;subst e;obtain⟨v,rfl,r⟩:=f.one;subst r;exact⟨j,rfl,a,b,l _ _ _ _ _ k a8G c m⟩
theorem b2N (h:PI X tg wi (b8C (lowA X.K t))):QI X tg wi (iR2 t):=a9F h fun τ H q g=>g.un fun σ G R l f h n=>by
 refine⟨σ,G,_,l,f,h,λo w p s ⟨i,j,e,a,m⟩ d b k=>?_⟩;subst e;obtain⟨v,u,rfl,r,c⟩:=d.two;subst r c;exact⟨i,j,rfl,a,n _ _ _ _ _ m a8G b k⟩
end
section
variable {X:Cx}{tg a b:Expr}{p pos:Pos}{t:A3}
theorem a48 (hg:Gl X "range") (hm:X.mg "range"=none) (ha:QA X [a] t) (hs:kj [a] X.env=[(false,eval a X.env)]:=by rfl):QI X tg (.Call (.Name "range" p) [a] [] pos) (iR1 t):=b2M (b14 hg hm ha.p hs)
theorem b1t (hg:Gl X "range") (hm:X.mg "range"=none) (ha:QA X [a,b] t) (hs:kj [a,b] X.env=[(false,eval a X.env),(false,eval b X.env)]:=by rfl) (hs2:kj [b] X.env=[(false,eval b X.env)]:=by rfl):QI X tg (.Call (.Name "range" p) [a,b] [] pos) (iR2 t):=b2N (b15 hg hm ha.p hs hs2)
end
noncomputable def cap3 (cap:List (Option Nat)) (σ:S3):S3:=cap.map λo=>o.bind λj=>(σ[j]?).join
theorem a9G {K:Fg}(h:RSt K H σ τ):∀ cap:List (Option Nat),RSt K H (cap3 cap σ) (a41 cap τ)
 | []=>.nil
 | none::cap=>.cons (λ_ e=>nomatch e) (a9G h cap)
 | some j::cap=>.cons (λw e=>by
   have a:(σ[j]?).join=some w:=e;have b:σ[j]?=some (some w):=by
    cases q:σ[j]? with
    | none=>rw[q]at a;cases a
    | some o=>rw[q]at a;cases o with
     | none=>cases a
     | some z=>cases a;rfl
   obtain⟨v,c,r⟩:=h.get b;exact⟨v,by show (τ[j]?).join=some v;rw[c];rfl,r⟩) (a9G h cap)
theorem a49:∀ {a b:L2.St},b.length=a.length->(∀ (i:Nat) v,a[i]?=some (some v)->b[i]?=some (some v))->a2K a b
 | [],[],_,_=>True.intro
 | none::a,_::b,h,k=>a49 (b:=b) (by simpa using h) λi v e=>by simpa using k (i+1) v (by simpa using e)
 | some x::a,y::b,h,k=>⟨by simpa using k 0 x rfl,a49 (b:=b) (by simpa using h) λi v e=>by simpa using k (i+1) v (by simpa using e)⟩
 | [],_::_,h,_=>by simp at h
 | _::_,[],h,_=>by simp at h
def LCB (ws:List Z) (ok:Hq->Prop) (cap:List (Option Nat)) (pt:Pt) (tt:T3) (te:E3) (σ:S3) (R:K3) (D:Addr) (G1:Hq):Prop:=∃ I:Nat->List Z->Hq->Prop,I 0 [] (put G1 D (.lst []))/\(∀ i ys G,i<=ws.length->I i ys G->ok G) /\
 (∀ i x ys G,ws[i]?=some x->I i ys G->∃ σ',a59 pt x (cap3 cap σ)=some σ'/\tt σ' G λb G4=>if b=true then te σ' G4 λy G5=>G5 D=some (.lst ys)/\ys.length<ki/\I (i+1) (ys++[y]) (put G5 D (.lst (ys++[y]))) else I (i+1) ys G4) /\
 ∀ ys G,I ws.length ys G->R (.ref D) G
def uLC (wi:I3) (cap:List (Option Nat)) (pt:Pt) (tt:T3) (te:E3):E3:=fun σ G R=>wi σ G λws ok G1=>∀ D,G1 D=none->LCB ws ok cap pt tt te σ R D G1
theorem b1u (I:Nat->List Z->Hq->Prop) (h0:I 0 [] (put G1 D (.lst []))) (hok:∀ i ys G,i<=ws.length->I i ys G->ok G)
  (step:∀ i x ys G,ws[i]?=some x->I i ys G->∃ σ',a59 pt x (cap3 cap σ)=some σ'/\tt σ' G λb G4=>if b=true then te σ' G4 λy G5=>G5 D=some (.lst ys)/\ys.length<ki/\I (i+1) (ys++[y]) (put G5 D (.lst (ys++[y]))) else I (i+1) ys G4)
  (fin:∀ ys G,I ws.length ys G->R (.ref D) G):LCB ws ok cap pt tt te σ R D G1:=⟨I,h0,hok,step,fin⟩
theorem a1o {α β:Type}{f:α->Option β}{ws:List α}{x:α}(h:ws[i]?=some x):(ws.take (i+1)).filterMap f=(ws.take i).filterMap f++(f x).toList:=by
 rw[gG,List.filterMap_append,h];cases e:f x<;>simp[e]
theorem b63 (f:Z->Option Z) (hok:∀ ys,ok (put G1 D (.lst ys))) (hz:ws.length<=1000)
  (turn:∀ x,x∈ws->∀ (ys:List Z) (K1:K3) (K2:Hq->Prop),(∀ y,f x=some y->K1 y (put G1 D (.lst ys)))->(f x=none->K2 (put G1 D (.lst ys)))->∃ σ',a59 pt x (cap3 cap σ)=some σ'/\tt σ' (put G1 D (.lst ys)) λb G4=>if b=true then te σ' G4 K1 else K2 G4)
  (fin:R (.ref D) (put G1 D (.lst (ws.filterMap f)))):LCB ws ok cap pt tt te σ R D G1:=by
 refine⟨λi a G=>a=(ws.take i).filterMap f/\G=put G1 D (.lst a),⟨by simp,rfl⟩,?_,?_,?_⟩
 ·simp_all
 ·rintro i x a G c ⟨e,rfl⟩;refine turn x (fA c) a _ _ (λy g=>⟨a0d,?_,?_,?_⟩) λd=>⟨?_,rfl⟩
  ·rw[e];exact iw (fx (iA _ _) (by rw[fC];omega)) (a0u (ff 1000))
  ·rw[a1o c,g,e];rfl
  ·rw[a2a]
  ·rw[a1o c,d,e];simp
 ·simp_all
def QIfs (X:Cx) (ifs:List Expr) (t:T3):Prop:=PIfs X ifs (lowT X.K t)
def uTT:T3:=λ_ G R=>R true G
theorem a3Z:QIfs X [] uTT:=λa s τ H Q I ⟨σ,G,R,d,b,h,c⟩=>b4C a s τ H Q I (c _ _ _ h b (.refl _ _))
theorem a30 (h:QT X c t):QIfs X [c] t:=b4D h.p
theorem b64 {pt:Pt}(hc:(pt.slots.all λj=>decide (cap[j]?=some none))=true) (h:(a41 cap τ)[i]?=some (some v)):i∉pt.slots:=λa=>by
 have q:=of_decide_eq_true ((gv.mp hc) i a);unfold a41 at h;rw[fm,q]at h;cases h
theorem b5S {K:Fg}(hc:(pt.slots.all λj=>decide (cap[j]?=some none))=true) (h:low K (uLC wi cap pt tt te) τ H Q) :
  tLC (lowI K wi) cap (gP K pt) (lowT K tt) (low K te) τ H Q:=by
 obtain⟨σ,G,R,hs,hg,h,up⟩:=h;refine⟨σ,G,_,hs,hg,h,λc ok G1 J H1 h1 hJ t U D B=>?_⟩;obtain⟨I,i0,S,C,N⟩:=h1 D (t.out B);refine⟨λi m _ d=>m=c.length - i/\i<=c.length/\∃ a G',RH K G' d/\TK K H1 d/\I i a G',⟨c.length,by simp,fL _,[],_,t.set (o:=.lst []) (.new B) ⟨[],a0w,.nil⟩,.new B,i0⟩,?_⟩;rintro i m vs H2 ⟨rfl,w,a,f,p,g,E⟩;have n:=hJ i f H2 p g (S i a f w E) w
 by_cases hlt:i<c.length
 ·obtain⟨go,yl⟩:=n.2 _ (fw hlt);refine .inr ⟨go,λ_ d=>i+1<=c.length/\∃ a G',RH K G' d/\TK K H1 d/\I _ a G',λvs' d q=>⟨c.length - _,by omega,rfl,q.1,q.2⟩,λx H3 y3=>?_⟩;obtain⟨rx,aa,F⟩:=yl x H3 y3;obtain⟨σ',Y,h3⟩:=C i _ a f (fw hlt) E;refine b62 rx (a9G (hs.mono ((U.trans g).trans F)) cap) Y fun τ' z M hk'=>⟨a49 M λj v T=>by rw[hk' j (b64 hc T)];exact T,?_⟩;refine⟨σ',f,_,z,aa,h3,λb G4 H4 l u A=>?_⟩;cases b with
  | false=>
   exact⟨hlt,a,G4,u,(g.trans F).trans A,l⟩
  | true=>
   refine⟨σ',G4,_,z.mono A,u,l,λy G5 v5 H5 ⟨L,V,h5⟩ r5 r t5=>?_⟩;obtain⟨X,k,s⟩:=r D _ L;refine⟨X,k,by rw[<- s.length];exact V,hlt,_,_,r.set (.lst k) (a1R (s.append (.cons r5 .nil)) (.lst k)),?_,h5⟩;exact (((g.trans F).trans A).trans t5).trans (.lst k)
 ·have e:i=c.length:=by omega
  subst e;exact .inl ⟨n.1 rfl,up _ _ _ _ (N a f E) (by rw[a0B]) p (U.trans g)⟩
section
variable {X:Cx}{N':List Str}{sc:Scope}{cap:List (Option Nat)}{tg iter elt:Expr}{ifs:List Expr}{wi:I3}{pt:Pt}{tt:T3}{te:E3}{pos:Pos}
theorem q_lc (hc:X.calm=true) (hNN:X.N=N₀) (hso:X.env.scope=so) (ck:capB N₀ so sc N' cap=true) (hp:(pt.slots.all λj=>decide (cap[j]?=some none))=true) (hi:QI X tg iter wi)
  (hg:∀ C s H fp,QP (cxC X E0 N' sc C s H fp) tg pt) (ht:∀ C s H fp,QIfs (cxC X E0 N' sc C s H fp) ifs tt) (he:∀ C s H fp,QE (cxC X E0 N' sc C s H fp) elt te)
  (hs:∀ x,lA iter X.env x=pure x:=by intro _;rfl):QE X (.ListComp elt [⟨tg,iter,ifs,0⟩] sc pos) (uLC wi cap pt tt te):=⟨a1C (c1p (g:=gP X.K pt) (tt:=lowT X.K tt) hc b0r hNN hso ck hi hg ht (λC s H a=>(he C s H a).p) hs) λ_ _ _=>b5S hp⟩
theorem a9H (hN:X.N.Nodup) (hx:X.N[i]?=some x) (hl:X.env.scope.names.lookup x=some .local) (hc:X.calm=true) (hNN:X.N=N₀) (hso:X.env.scope=so) (ck:capB N₀ so sc N' cap=true)
  (hp:(pt.slots.all λj=>decide (cap[j]?=some none))=true) (hi:QI X tg iter wi)
  (hg:∀ C s H fp,QP (cxC X E0 N' sc C s H fp) tg pt) (ht:∀ C s H fp,QIfs (cxC X E0 N' sc C s H fp) ifs tt) (he:∀ C s H fp,QE (cxC X E0 N' sc C s H fp) elt te)
  (hsw:lh (.ListComp elt [⟨tg,iter,ifs,0⟩] sc pos) (some (.Name x pos')) spos.line X.env=pure true:=by rfl)
  (hs:∀ x,lA iter X.env x=pure x:=by intro _;rfl):QS X (.Assign [.Name x pos'] (.ListComp elt [⟨tg,iter,ifs,0⟩] sc pos) spos) (uAsg (uLC wi cap pt tt te) (.nm i)):=⟨a4o (b4F (g:=gP X.K pt) (tt:=lowT X.K tt) hN hx hl hc b0r hNN hso ck hi hg ht (λC s H a=>(he C s H a).p) hsw hs) λD τ H h=>b5S hp (a9E h)⟩
end
section
variable {P:kz}{w:World}{K:Fg}{mg:Str->Option Value}{base:Heap}
theorem fn3 {st:Stmt}(F:Fun K x qual st f fd) (S:FnScope N ps (a0h st)) (len:∀ ws G R,sp ws G R->ws.length=ps.length)
  (hbody:∀ (cdv:Value) (A:Around) (outer:List Env) (s:Shared) (H:Hp) (E:XK) (ws:List Z) (G:Hq) (R:K3),Room k (A.deeper (envOfC qual (a0h st) s.heap.objs.size f cdv))->sp ws G R ->
   ∃ t,QSs (cxOf CX0 P w K mg base N qual (a0h st) f cdv A outer s H E).nox (a2s st) t/\t (λ_ G'=>R .non G') R (λ_ _=>False) (λ_ _=>False) (a5v N ws) G):FnOk P w K mg base CX0 (k+1) f fd ps (lowP K sp):=by
 refine F.ok S (λn H Q E ⟨d,G,R,c,e,h,b⟩=>by rw[<- c.length];exact len _ _ _ h) ?_;rintro g A a s H n Q E j ⟨d,G,R,c,e,h,b⟩;obtain⟨t,l,q⟩:=hbody g A a s H E d G R j h;exact⟨_,l.p,a5v N d,G,_,R,_,_,.start c,e,q,fun σ' v τ' u m r i o=>b _ _ _ _ m (by rw[a01]) i o,b,λ_ _ _ _ h _ _ _=>h.elim,λ_ _ _ _ h _ _ _=>h.elim⟩
end
section
variable {X:Cx}
def zAdd:R3:=λx y G R=>match x,y with
 | .int i,.int j=>R (.int (i+j)) G
 | .str a,.str b=>a.length+b.length<=ki/\R (.str (a++b)) G
 | .tup xs,.tup ys=>xs≠[]/\xs.length+ys.length<=ki/\R (.tup (xs++ys)) G
 | .ref p,.ref q=>∃ xs ys,G p=some (.lst xs)/\G q=some (.lst ys)/\xs.length+ys.length<=ki/\∀ t,G t=none->R (.ref t) (put G t (.lst (xs++ys)))
 | _,_=>False
theorem a1i:OpQ X (kI .Add) zAdd:=a57 (op_add.or (op_add_str.or (op_catT.or b8T))) λx y H Q D=>D.un λa b G R c d f h m=>by
 cases a with
 | int i=>
  cases b with
  | int j=>rw[a0y]at c d;exact .inl ⟨_,_,c,d,m _ _ _ _ h (by rw[a0y]) f (.refl _ _)⟩
  | _=>exact fh h
 | str i=>
  cases b with
  | str j=>rw[a0K]at c d;exact .inr (.inl ⟨_,_,c,d,h.1,m _ _ _ _ h.2 (by rw[a0K]) f (.refl _ _)⟩)
  | _=>exact fh h
 | tup w=>
  cases b with
  | tup ws=>
   obtain⟨p,n,rfl,o,k⟩:=c;obtain⟨q,r,rfl,u,l⟩:=d;obtain⟨B,s,h⟩:=h;refine .inr (.inr (.inl ⟨p,q,n,r,rfl,rfl,SqT.of o,SqT.of u,λz=>?_,by rw[<- k.length,<- l.length];exact s,λz=>?_,λz t g=>?_⟩))
   ·subst z;exact B (iV.mp k.length)
   ·subst z;have e:=iV.mp l.length;subst e;rw[fK]at h;exact m _ _ _ _ h (by rw[a19];exact⟨p,n,rfl,o,k⟩) f (.refl _ _)
   ·exact m _ _ _ _ h (by rw[a19];exact⟨t,n++r,rfl,a0w,Reps.mono (.new g) _ _ (k.append l)⟩) (f.hid g) (.new g)
  | _=>exact fh h
 | ref p=>
  cases b with
  | ref q=>
   subst c d;obtain⟨n,r,o,u,s,h⟩:=h;obtain⟨C,A,k⟩:=f _ _ o;obtain⟨w,v,l⟩:=f _ _ u;exact .inr (.inr (.inr ⟨_,_,C,w,rfl,rfl,A,v,by rw[<- k.length,<- l.length];exact s,λt g=>m _ _ _ _ (h t (f.out g)) (by rw[a0B]) (f.set (.new g) (a1R (k.append l) (.new g))) (.new g)⟩))
  | _=>exact fh h
 | _=>exact fh h
def zI (C:Int->Int->Prop) (g:Int->Int->Z):R3:=λx y G R=>match x,y with
 | .int i,.int j=>C i j/\R (g i j) G
 | _,_=>False
def zI0 (g:Int->Int->Z):R3:=λx y G R=>match x,y with
 | .int i,.int j=>R (g i j) G
 | _,_=>False
theorem oI {g:Int->Int->Int}(h:OpR X f (rI C λi j=>.int (g i j))):OpQ X f (zI C λi j=>.int (g i j)):=a57 h λx y H Q l=>l.un λa b G R d c k h e=>by
 cases a<;>cases b<;>first
  | exact fh h
  | (rw[a0y]at d c;exact⟨_,_,d,c,h.1,e _ _ _ _ h.2 (by rw[a0y]) k (.refl _ _)⟩)
theorem oI0 {g:Int->Int->Int}(h:OpR X f (rI0 λi j=>.int (g i j))):OpQ X f (zI0 λi j=>.int (g i j)):=a57 h λx y H Q l=>l.un λa b G R d c k h e=>by
 cases a<;>cases b<;>first
  | exact fh h
  | (rw[a0y]at d c;exact⟨_,_,d,c,e _ _ _ _ h (by rw[a0y]) k (.refl _ _)⟩)
theorem a6a:OpQ X (kI .Sub) (zI0 λi j=>.int (i - j)):=oI0 b8E
theorem b4L:OpQ X (kI .Mult) (zI CMul λi j=>.int (i*j)):=oI b8F
theorem b2O:OpQ X (kI .FloorDiv) (zI b82 λi j=>.int (i / j)):=oI b4G
theorem a2k:OpQ X (kI .Mod) (zI (λ_ j=>0<j) λi j=>.int (i % j)):=oI b8G
theorem a6b:OpQ X (kI .Pow) (zI CPow λi j=>.int (i ^ j.toNat)):=oI b8H
theorem b5T:OpQ X (lw .Add) (zI0 λi j=>.int (i+j)):=oI0 b6D
def zNeg:Z->Hq->K3->Prop:=λx G R=>match x with
 | .int i=>R (.int (-i)) G
 | _=>False
theorem a2M:UnQ X (l9 .USub) zNeg:=c1q b8I λx H Q c=>c.un λa G R b d h e=>by
 cases a<;>first
  | exact fh h
  | (rw[a0y]at b;exact⟨_,b,e _ _ _ _ h (by rw[a0y]) d (.refl _ _)⟩)
theorem b2P:OpR X (kC .LtE) (λx y H Q=>∃ i j,x=.str i/\y=.str j/\Q (.bl (!decide (j.cps.toList<i.cps.toList))) H):=by
 intro b s σ H x y v u Q I a c h;obtain⟨i,j,rfl,rfl,q⟩:=h;obtain⟨t,rfl⟩:=a;obtain⟨d,rfl⟩:=c;exact PySem.P.le_str (a0H I q rfl)
theorem b2Q:OpR X (kC .Gt) (λx y H Q=>∃ i j,x=.str i/\y=.str j/\Q (.bl (decide (j.cps.toList<i.cps.toList))) H):=by
 intro b s σ H x y v u Q I a c h;obtain⟨i,j,rfl,rfl,q⟩:=h;obtain⟨t,rfl⟩:=a;obtain⟨d,rfl⟩:=c;exact PySem.P.gt_str (a0H I q rfl)
theorem b2R:OpR X (kC .GtE) (λx y H Q=>∃ i j,x=.str i/\y=.str j/\Q (.bl (!decide (i.cps.toList<j.cps.toList))) H):=by
 intro b s σ H x y v u Q I a c h;obtain⟨i,j,rfl,rfl,q⟩:=h;obtain⟨t,rfl⟩:=a;obtain⟨d,rfl⟩:=c;exact PySem.P.ge_str (a0H I q rfl)
def zC (f:Int->Int->Bool) (g:Str->Str->Bool):R3:=λx y G R=>match x,y with
 | .int i,.int j=>R (.bl (f i j)) G
 | .str i,.str j=>R (.bl (g i j)) G
 | _,_=>False
theorem oC (h:OpR X (kC op) (rI0 λi j=>.bl (f i j))) (h':OpR X (kC op) (λx y H Q=>∃ i j,x=.str i/\y=.str j/\Q (.bl (g i j)) H)) :
  OpQ X (kC op) (zC f g):=a57 (h.or h') λx y H Q l=>l.un λa b G R c d e h k=>by
 cases a<;>cases b<;>first
  | exact fh h
  | (rw[a0y]at c d;exact .inl ⟨_,_,c,d,k _ _ _ _ h (by rw[a0Q]) e (.refl _ _)⟩)
  | (rw[a0K]at c d;exact .inr ⟨_,_,c,d,k _ _ _ _ h (by rw[a0Q]) e (.refl _ _)⟩)
abbrev ltS (x y:Str):Bool:=decide (x.cps.toList<y.cps.toList)
theorem o_lt:OpQ X (kC .Lt) (zC (λi j=>decide (i<j)) λx y=>ltS x y):=oC c09 b2b
theorem o_le:OpQ X (kC .LtE) (zC (λi j=>decide (i<=j)) λx y=>!ltS y x):=oC c1a b2P
theorem o_gt:OpQ X (kC .Gt) (zC (λi j=>decide (j<i)) λx y=>ltS y x):=oC c1b b2Q
theorem o_ge:OpQ X (kC .GtE) (zC (λi j=>decide (j<=i)) λx y=>!ltS x y):=oC c1c b2R
def zIs (neg:Bool):R3:=λx y G R=>match y with
 | .non=>R (.bl (if neg then !decide (x=.non) else decide (x=.non))) G
 | .bl b=>match x with
  | .bl a=>neg=false/\R (.bl (a==b)) G
  | _=>False
 | _=>False
theorem a7l {K:Fg}(r:Rep K H w v):decide (v=.non)=decide (w=.non):=by
 cases w with
 | non=>rw[a01]at r;subst r;rfl
 | bl _=>rw[a0Q]at r;subst r;simp
 | int _=>rw[a0y]at r;subst r;simp
 | str _=>rw[a0K]at r;subst r;simp
 | ref _=>rw[a0B]at r;subst r;simp
 | ty _=>rw[b2C]at r;subst r;simp
 | scr _ _=>rw[a43]at r;obtain⟨rfl,_⟩:=r;simp
 | tup _=>rw[a19]at r;obtain⟨_,_,rfl,_⟩:=r;simp
end
mutual
def dZ:Z->PyData
 | .bl b=>.bool b
 | .int i=>.int i
 | .str x=>.str x
 | .tup ws=>.tuple (dZs ws)
 | _=>.none
def dZs:List Z->List PyData
 | []=>[]
 | w::ws=>dZ w::dZs ws
end
noncomputable def flat:Nat->Z->Bool
 | _,.non=>true
 | _,.int _=>true
 | _,.str x=>PyData.strOk x
 | n+1,.tup ws=>ws.all (flat n)
 | _,_=>false
theorem b5U:∀ (n:Nat) (d:Z),flat n d=true->(dZ d).canLay0=true/\(dZ d).depth<=n:=by
 have f:∀ n,(∀ d,flat n d=true->(dZ d).canLay0=true/\(dZ d).depth<=n)->∀ a:List Z,(∀ d∈a,flat n d=true)->PyData.canLayAll0 (dZs a)=true/\PyData.depthAll (dZs a)<=n:=by
  intro n b a
  induction a with
  | nil=>intro _;simp[dZs,PyData.canLayAll0,PyData.depthAll]
  | cons d a hi=>
   intro h;have g:=b d (h d (.head _));have c:=hi λe j=>h e (.tail _ j);simp only[dZs,PyData.canLayAll0,PyData.depthAll,g.1,c.1,Bool.and_self,true_and];omega
 intro n
 induction n with
 | zero=>
  intro d h;cases d<;>simp_all[flat,dZ,PyData.canLay0,PyData.depth]
 | succ n b=>
  intro d h;cases d with
  | non=>simp[dZ,PyData.canLay0,PyData.depth]
  | int i=>simp[dZ,PyData.canLay0,PyData.depth]
  | str x=>simp[flat]at h;simp[dZ,PyData.canLay0,PyData.depth,h]
  | tup a=>
   have q:=f n b a (by simpa[flat]using h);simp only[dZ,PyData.canLay0,PyData.depth,q.1,true_and];omega
  | _=>simp[flat]at h
theorem b65 (n:Nat) (ds:List Z) (h:ds.all (flat n)=true):PyData.canLayAll0 (dZs ds)=true/\PyData.depthAll (dZs ds)<=n:=by
 have q:=b5U (n+1) (.tup ds) (by simpa[flat]using h);simp only[dZ,PyData.depth]at q;exact⟨q.1,by omega⟩
theorem b5V:∀ (n:Nat) (d e:Z) (k:Nat),flat n d=true->flat k e=true->(PyData.eqv (dZ d) (dZ e)=true↔d=e):=by
 have all:∀ (n:Nat),(∀ d e k,flat n d=true->flat k e=true->(PyData.eqv (dZ d) (dZ e)=true↔d=e))->∀ (k:Nat) (ds es:List Z),(∀ d∈ds,flat n d=true)->(∀ d∈es,flat k d=true) ->
   (PyData.eqvAll (dZs ds) (dZs es)=true↔ds=es):=by
  intro n ih k ds
  induction ds with
  | nil=>intro es _ _;cases es<;>simp[dZs,PyData.eqvAll]
  | cons d ds hi=>
   intro es h1 h2;cases es with
   | nil=>simp[dZs,PyData.eqvAll]
   | cons e es=>
    have q1:=ih d e k (h1 d (.head _)) (h2 e (.head _));have q2:=hi es (λx hx=>h1 x (.tail _ hx)) λx hx=>h2 x (.tail _ hx);simp only[dZs,PyData.eqvAll,gr,q1,q2,gO.injEq]
 intro n
 induction n with
 | zero=>
  intro d e k h1 h2;cases d<;>cases e<;>simp_all[flat,dZ,PyData.eqv]
 | succ n ih=>
  intro d e k h1 h2;cases d with
  | tup ds=>
   cases e with
   | tup es=>
    cases k with
    | zero=>simp[flat]at h2
    | succ k=>
     simp only[dZ,PyData.eqv,Z.tup.injEq];exact all n ih k ds es (by simpa[flat]using h1) (by simpa[flat]using h2)
   | _=>simp_all[flat,dZ,PyData.eqv]
  | _=>cases e<;>simp_all[flat,dZ,PyData.eqv]
theorem b66 (n k:Nat) (ds es:List Z) (h:ds.all (flat n)=true) (h':es.all (flat k)=true):PyData.eqvAll (dZs ds) (dZs es)=true↔ds=es:=by
 have q:=b5V (n+1) (.tup ds) (.tup es) (k+1) (by simpa[flat]using h) (by simpa[flat]using h');simpa only [dZ,PyData.eqv,Z.tup.injEq]using q
section
variable {K:Fg}{H:Hp}
theorem b67:∀ (n:Nat) (w:Z) (v:V),flat n w=true->Rep K H w v->DV H (dZ w) v:=by
 have g:∀ n,(∀ w v,flat n w=true->Rep K H w v->DV H (dZ w) v)->∀ b c,(∀ d∈b,flat n d=true)->Reps K H b c->DVs H (dZs b) c:=by
  intro n f b
  induction b with
  | nil=>intro c _ r;exact r
  | cons w b hi=>
   intro c h r;obtain⟨v,j,e,o,l⟩:=r;exact⟨v,j,e,f w v (h w (.head _)) o,hi j (λd k=>h d (.tail _ k)) l⟩
 intro n
 induction n with
 | zero=>
  intro w v h r;cases w with
  | non=>rw[a01]at r;exact r
  | int i=>rw[a0y]at r;exact r
  | str x=>rw[a0K]at r;exact r
  | _=>simp[flat]at h
 | succ n f=>
  intro w v h r;cases w with
  | non=>rw[a01]at r;exact r
  | int i=>rw[a0y]at r;exact r
  | str x=>rw[a0K]at r;exact r
  | tup b=>
   obtain⟨a,c,e,p,m⟩:=r;exact⟨a,c,e,p,g n f b c (by simpa[flat]using h) m⟩
  | _=>simp[flat]at h
theorem b2S (n:Nat):∀ (ws:List Z) (vs:List V),ws.all (flat n)=true->Reps K H ws vs->DVs H (dZs ws) vs
 | [],vs,_,r=>by rw[a0v]at r;simp only[dZs];unfold DVs;exact r
 | w::ws,vs,h,r=>by
  obtain⟨v,a,e,b,c⟩:=r;rw[gH,gr]at h;exact⟨v,a,e,b67 n w v h.1 b,b2S n ws a h.2 c⟩
end
theorem a6c (h:flat n w=true) (hn:n<=64):SeqAt.shaped (dZ w)=true:=by
 have q:=b5U n w h;unfold SeqAt.shaped;rw[q.1,fZ];exact decide_eq_true (by omega)
theorem a6d (h:ws.all (flat n)=true) (hn:n<=63):SeqAt.shaped (.list (dZs ws))=true:=by
 have q:=b65 n ws h;unfold SeqAt.shaped;simp only[PyData.canLay0,PyData.depth,q.1];exact decide_eq_true (by omega)
theorem b2T {p:Prop}[Decidable p] (h:a=true↔p):a=decide p:=by
 cases a with
 | true=>exact (decide_eq_true (h.mp rfl)).symm
 | false=>exact (decide_eq_false λq=>by cases h.mpr q).symm
theorem a1b {p q:Prop}[Decidable p] [Decidable q] (h:p=q):decide p=decide q:=by grind
def zEq (f:Bool->Bool):R3:=λx y G R=>match x,y with
 | .bl a,.bl b=>R (.bl (f (a==b))) G
 | .int a,.int b=>R (.bl (f (decide (a=b)))) G
 | .str a,.str b=>R (.bl (f (decide (a=b)))) G
 | .ref p,.ref q=>∃ xs ys,G p=some (.lst xs)/\G q=some (.lst ys)/\xs.all (flat 8)=true/\ys.all (flat 8)=true/\R (.bl (f (decide (xs=ys)))) G
 | x,y=>flat 8 x=true/\flat 8 y=true/\R (.bl (f (decide (x=y)))) G
section
variable {X:Cx}
theorem b5W {K:Fg}(h:low2 K (zEq f) x y H Q) :
    (scal x y=true/\Q (.bl (f (decide (x=y)))) H)\/∃ d e,DV H d x/\DV H e y/\SeqAt.shaped d=true/\SeqAt.shaped e=true/\Q (.bl (f (PyData.eqv d e))) H:=by
  obtain⟨a,b,G,R,g,c,i,h,j⟩:=h;have p:flat 8 a=true/\flat 8 b=true/\R (.bl (f (decide (a=b)))) G->∃ d e,DV H d x/\DV H e y/\SeqAt.shaped d=true/\SeqAt.shaped e=true/\Q (.bl (f (PyData.eqv d e))) H:=λ⟨n,m,w⟩=>by
    refine⟨dZ a,dZ b,b67 8 _ _ n g,b67 8 _ _ m c,a6c n (by simp),a6c m (by simp),?_⟩;rw[b2T (b5V 8 a b 8 n m)];exact j _ _ _ _ w (by rw[a0Q]) i (.refl _ _)
  cases a<;>cases b<;>first
    | exact .inr (p h)
    | (rw[a0Q]at g c;subst g c;exact .inl ⟨rfl,by rw[b18];exact j _ _ _ _ h (by rw[a0Q]) i (.refl _ _)⟩)
    | (rw[a0y]at g c;subst g c;exact .inl ⟨rfl,by rw[a1b (V.int.injEq _ _)];exact j _ _ _ _ h (by rw[a0Q]) i (.refl _ _)⟩)
    | (rw[a0K]at g c;subst g c;exact .inl ⟨rfl,by rw[a1b (V.str.injEq _ _)];exact j _ _ _ _ h (by rw[a0Q]) i (.refl _ _)⟩)
    | (rw[a0B]at g c
       subst g c;obtain⟨r,s,t,z,k,l,h⟩:=h;obtain⟨u,q,v⟩:=i _ _ t;obtain⟨B,o,A⟩:=i _ _ z;refine .inr ⟨.list _,.list _,?_,?_,a6d k (by simp),a6d l (by simp),?_⟩;exact⟨_,u,rfl,q,b2S 8 _ _ k v⟩;exact⟨_,B,rfl,o,b2S 8 _ _ l A⟩
       · simp only[PyData.eqv]
         rw[b2T (b66 8 8 r s k l)];exact j _ _ _ _ h (by rw[a0Q]) i (.refl _ _))
theorem o_eq (hu:X.A.units+66<cLine):OpQ X (kC .Eq) (zEq id):=a57 (op_eq.or (b5N hu)) λx y H Q h=>b5W h
theorem o_ne (hu:X.A.units+66<cLine):OpQ X (kC .NotEq) (zEq not):=a57 (op_ne.or (b81 hu)) λx y H Q h=>b5W h
end
end L3
namespace L2
open PySem PySem.Spec PyProof.Rows
noncomputable def Its (x:Str):It:=⟨λi _=>i<x.cps.size,λi H v H'=>H'=H/\∃ c,x.cps[i]?=some c/\v=.str ⟨#[c]⟩,λi _=>i=x.cps.size⟩
theorem b0v {P:kz}{w:World}{K:Fg}{tg:Expr}{it:Addr}{ty:String}{x:Str}{t:Tok}
  (hty:["enumerate","zip","dict_itemiterator","dict_reverseitemiterator","odict_iterator","itertools.zip_longest","itertools.pairwise"].contains ty=false)
  (W:∀ A':Around,A'.handled=none->Walks P w A' it [it] [it] x.cps.size (SignAt x) (λi h=>h.IsStrIter it ty x t i))
  (hself:∀ (A:Around) (i:Nat) (s:Shared) (Q:Value->Shared->Prop) (E:Value->Shared->Prop),s.heap.IsStrIter it ty x t i->Q (.ref it) s->wpAny (model P w) A (pyIter (.ref it)) Q E s) :
  Turn P w K tg (Its x) [it] it (λi h=>h.IsStrIter it ty x t i) where
 mem:=by simp
 obj:=λi h st b hb=>by
  have e:b=it:=by simpa using hb
  subst e;obtain⟨o,e,c,d⟩:=st;exact⟨o,e,λv z=>by rw[d]at z;cases z⟩
 keep:=λi h h' st k=>let ⟨o,e,r⟩:=st;⟨o,k it (by simp) o e,r⟩
 item:=by
  intro X hP hw hK hc i pins s σ H E I hf st hg;subst hP hw hK;obtain⟨f0,f1,f2,f3,f4,f5⟩:=hf it (by simp);refine (W X.A (I.ok.hd hc)).item i s _ _ hg st λv h' tk ⟨c,u,hx,e⟩ st' k=>?_;subst e;have I1:Inv X pins σ H { s with heap:=h',toks:=tk }:=I.turned (t':=tk) (λb o hb e=>k b o (by simpa using hb) e) f0 f1 f3 f4 f5;obtain⟨o,e,cl,d⟩:=id st';exact⟨_,rfl,b1h (s:={ s with heap:=h',toks:=tk }) e cl d hty ⟨.str ⟨#[c]⟩,H,I1,⟨_,rfl⟩,⟨rfl,c,hx,rfl⟩,st',λb hb=>(hf b hb).1⟩⟩
 done:=by
  intro X hP hw hK hc i pins s σ H E I hf st hg;subst hP hw hK;obtain⟨f0,f1,f2,f3,f4,f5⟩:=hf it (by simp);have hg':i=x.cps.size:=hg;subst hg';exact (W X.A (I.ok.hd hc)).done s _ _ st λh' tk k=>⟨rfl,I.turned (t':=tk) (λb o hb e=>k b o (by simpa using hb) e) f0 f1 f3 f4 f5⟩
 self:=hself
def iStr (tl:TE):TI:=fun σ H R=>tl σ H λv H1=>∃ x,v=.str x/\R (Its x) H1
theorem b9m (hl:PE X l tl):PI X tg l (iStr tl):=by
 intro c s σ H R I h;refine thn (hl c s σ H _ I h) λv a ⟨x,f,d,p,m⟩=>?_;obtain⟨y,e,q⟩:=m;subst e;obtain⟨t,rfl⟩:=p;have j:∀ (o:Obj),∀ b∈[a.heap.objs.size],FpOk X c f b:=λo b k=>by
  have e:b=a.heap.objs.size:=by simpa using k
  subst e;exact d.fpOk (ff _) (d.hok.fresh (ff _))
 cases ha:y.cps.all _
 ·refine wpAny_pyIter_wide ha ?_;exact⟨a.heap.objs.size,[a.heap.objs.size],_,_,f,rfl,d.kept (λb o e=>Heap.get?_push_of_some _ e),b0v (by decide) (λn i=>Walks.strWide i _ y t) (λ_ _ _ _ _ g h=>wpAny_pyIter_striter_wide g h),
   ⟨_,Heap.get?_push_size _ rfl,rfl,rfl⟩,j default,q⟩
 ·refine wpAny_pyIter_ascii ha ?_;exact⟨a.heap.objs.size,[a.heap.objs.size],_,_,f,rfl,d.kept (λb o e=>Heap.get?_push_of_some _ e),b0v (by decide) (λn i=>Walks.strAscii i _ y t) (λ_ _ _ _ _ g h=>wpAny_pyIter_striter_ascii g h),
   ⟨_,Heap.get?_push_size _ rfl,rfl,rfl⟩,j default,q⟩
theorem Vals.tog:∀ {xs:List V}{us:List Value}{i:Nat}{u:Value},Vals xs us->us[i]?=some u->∃ x,xs[i]?=some x/\RelV x u
 | _,_,_,_,.nil,e=>by simp at e
 | _,_,0,_,.cons r _,e=>by simp at e;subst e;exact⟨_,rfl,r⟩
 | _,_,i+1,u,.cons _ t,e=>by
  obtain⟨x,a,b⟩:=Vals.tog t (by simpa using e);exact⟨x,by simpa using a,b⟩
theorem a7m:∀ {ys:List Str}{us:List Value},Vals (ys.map V.str) us->lN us ys
 | [],us,r=>by rw[fD]at r;cases r;exact .nil
 | y::ys,us,r=>by
  cases r with
  | cons r1 r2=>
   obtain⟨t,e⟩:=r1;subst e;exact .cons y t (a7m r2)
theorem b2U (bs:List Bool):(im bs.length).all (λi=>bs.getD i false)=bs.all id:=by
 rw[g4];simp only[gv,jx,id]
 constructor
 ·intro h b c;obtain⟨i,a,e⟩:=List.getElem_of_mem c
  have:=h i a
  rw[jK,fw a]at this;rw[<- e];exact this
 ·intro h i a;rw[jK,fw a];exact h _ (fS a)
section
variable {X:Cx}
theorem b2V (hc:X.calm=true):CallR X (.builtin "all") (λxs H Q=>∃ (p:Addr) (bs:List Bool),xs=[.ref p]/\SqL X.K H p (bs.map V.bl)/\Q (.bl (bs.all id)) H):=by
 intro n s σ H M R Q I r h;obtain⟨p,a,rfl,E,q⟩:=h;obtain⟨u,rfl,y⟩:=a3V r;cases y;obtain⟨d,l,g,_⟩:=I.list E;have B:p<s.heap.objs.size:=by obtain⟨o,_,e,_⟩:=g;exact Heap.lt_size e
 refine call_all_walk (mH g.isList ?_);have D:X.A.in1.handled=none:=I.ok.hd hc;have t:(s.heap.push { cls:=.type "list_iterator",data:=.fields #[.ref p,rawInt 0] }).IsList p d.toArray:=by
  obtain⟨o,e,c⟩:=g.isList;exact⟨o,Heap.get?_push_of_some _ e,c⟩
 refine⟨_,_,_,_,_,_,λi=>a.getD i false,rfl,Walks.list D s.heap.objs.size p (fz B) d.toArray,⟨⟨_,Heap.get?_push_size _ rfl,rfl,rfl⟩,t⟩,?_,?_⟩
 ·intro i v N L J C j;obtain⟨x,f,w⟩:=Vals.tog l (by simpa using C);rw[fm]at f;cases hb:a[i]? with
  | none=>rw[hb]at f;cases f
  | some b=>
   rw[hb]at f;cases f;cases w;refine lu ?_
   have:a.getD i false=b:=by simp_all
   dsimp only at j;rw[this]at j;exact j
 ·intro G F k;have e:(im d.toArray.size).all (λi=>a.getD i false)=a.all id:=by
   have z:d.toArray.size=a.length:=by rw[fR,<- l.length,fc]
   rw[z];exact b2U a
  rw[e];exact⟨.bl _,H,I.kept (λb o m=>k b o (by simpa using fz (Heap.lt_size m)) (Heap.get?_push_of_some _ m)),rfl,q⟩
theorem b9n:OpR X (kC .Is) (λx y H Q=>∃ a b,x=.bl a/\y=.bl b/\Q (.bl (a==b)) H):=by
 intro d s σ H x y v u Q I c e h;obtain⟨a,b,rfl,rfl,q⟩:=h;cases c;cases e;exact wpAny_is_plain rfl (a0H I q (by cases a<;>cases b<;>rfl))
theorem b68:MtR X "str.join" (λx vs H Q=>∃ (z:Str) (p:Addr) (ys:List Str),x=.str z/\vs=[.ref p]/\SqL X.K H p (ys.map V.str)/\(ys.map (·.length)).sum+ys.length*z.length<=16777216/\Q (.str (Txt.join z ys)) H):=by
 intro c s σ H x m v n Q I a g h;obtain⟨z,p,o,rfl,rfl,d,i,q⟩:=h;obtain⟨t,rfl⟩:=a;obtain⟨u,rfl,f⟩:=a3V g;cases f;obtain⟨j,b,e,_⟩:=I.list d;exact join_list e.isList (by simpa using a7m b) i λl k=>⟨.str _,H,I.tok k,⟨_,rfl⟩,q⟩
def rSlS:V->Option Int->Option Int->Hp->VK->Prop:=λx lo hi H Q=>∃ z,x=.str z/\z.length<=ki/\Q (.str (Txt.slice z lo hi)) H
theorem b9o:SlR X rSlS:=by
 intro g s σ H x v A B f b C Q I w p y m h;obtain⟨z,rfl,r,q⟩:=h;obtain⟨t,rfl⟩:=w;obtain⟨o,e,c,d⟩:=p;have a:∀ f b,Q _ H->(Txt.slice z f b).length<=ki/\∀ n k,EP X g σ Q (.str (Txt.slice z f b) n) { s with toks:=k }:=λf b q=>
  ⟨fx (Txt.slice_le z _ _) r,λn k=>⟨.str _,H,I.tok k,⟨_,rfl⟩,q⟩⟩
 cases y with
 | none=>
  cases m with
  | none=>exact⟨"str",_,F.slot_str_getitem.lookup,lJ _ _ _,ml (l:=none) (u:=none) (st:=none) ⟨o,e,c,d⟩ rfl (mn (a _ _ q))⟩
  | int j u=>exact⟨"str",_,F.slot_str_getitem.lookup,lJ _ _ _,ml (l:=none) (u:=some (j,u)) (st:=none) ⟨o,e,c,d⟩ rfl (mn (a _ _ q))⟩
 | int i v=>
  cases m with
  | none=>exact⟨"str",_,F.slot_str_getitem.lookup,lJ _ _ _,ml (l:=some (i,v)) (u:=none) (st:=none) ⟨o,e,c,d⟩ rfl (mn (a _ _ q))⟩
  | int j u=>exact⟨"str",_,F.slot_str_getitem.lookup,lJ _ _ _,ml (l:=some (i,v)) (u:=some (j,u)) (st:=none) ⟨o,e,c,d⟩ rfl (mn (a _ _ q))⟩
end
end L2
namespace L3
open PySem PySem.Spec PyProof.Rows L2
section
variable {X:Cx}
theorem o_is:OpQ X (kC .Is) (zIs false):=a57 (op_isN.or b9n) λx y H Q g=>g.un λa b G R d c e h f=>by
 cases b with
 | non=>rw[a01]at c;exact .inl ⟨c,by rw[a7l d];exact f _ _ _ _ h (by rw[a0Q];rfl) e (.refl _ _)⟩
 | bl b=>
  cases a with
  | bl a=>rw[a0Q]at d c;exact .inr ⟨_,_,d,c,f _ _ _ _ h.2 (by rw[a0Q]) e (.refl _ _)⟩
  | _=>exact fh h
 | _=>exact fh h
theorem a7W:OpQ X (kC .IsNot) (zIs true):=a57 b6E λx y H Q d=>d.un λa b G R g c e h f=>by
 cases b with
 | non=>rw[a01]at c;exact⟨c,by rw[a7l g];exact f _ _ _ _ h (by rw[a0Q];rfl) e (.refl _ _)⟩
 | bl b=>
  cases a with
  | bl a=>exact nomatch h.1
  | _=>exact fh h
 | _=>exact fh h
def zIx:R3:=λx y G R=>match x,y with
 | .ref p,.int i=>∃ ws w,G p=some (.lst ws)/\atI ws i=some w/\R w G
 | .scr _ ns,.int i=>∃ n,atI ns i=some n/\R (.int n) G
 | .tup ws,.int i=>∃ w,atI ws i=some w/\R w G
 | .str z,.int i=>∃ c,z.length<=ki/\atI z.cps.toList i=some c/\R (.str ⟨#[c]⟩) G
 | _,_=>False
theorem b2W {K:Fg}(r:Reps K H ws vs) (h:atI ws i=some w):∃ v,atI vs i=some v/\Rep K H w v:=by
 unfold atI at h ⊢;rw[<- r.length];cases e:ixN ws.length i with
 | none=>rw[e]at h;cases h
 | some j=>
  rw[e]at h;exact r.get h
theorem b69 {α β:Type}{f:α->β}{xs:List α}{x:α}(h:atI xs i=some x):atI (xs.map f) i=some (f x):=by
 unfold atI at h ⊢;rw[fc];cases e:ixN xs.length i with
 | none=>rw[e]at h;cases h
 | some j=>
  rw[e]at h;have a:xs[j]?=some x:=h
  show _[j]?=some _
  rw[fm,a];rfl
theorem x_ix:IxQ X zIx:=b88 b8R λx y H Q s=>s.un λa b G R d f g h i=>by
  cases a<;>cases b<;>first
    | exact fh h
    | (rw[a0B]at d
       obtain⟨z,w,e,m,h⟩:=h;obtain⟨q,k,j⟩:=g _ _ e;obtain⟨v,o,l⟩:=b2W j m;exact .inl ⟨_,_,_,v,d,f,SqL.of k,o,i _ _ _ _ h l g (.refl _ _)⟩)
    | (rw[a43]at d
       obtain⟨n,u,h⟩:=h;exact .inl ⟨_,_,_,_,d.1,f,d.2.sq,b69 u,i _ _ _ _ h (by rw[a0y]) g (.refl _ _)⟩)
    | (rw[a19]at d
       obtain⟨p,q,e,k,j⟩:=d;obtain⟨w,m,h⟩:=h;obtain⟨v,o,l⟩:=b2W j m;exact .inr (.inl ⟨p,q,_,v,e,f,SqT.of k,o,i _ _ _ _ h l g (.refl _ _)⟩))
    | (rw[a0K]at d
       obtain⟨c,r,t,h⟩:=h;exact .inr (.inr ⟨_,_,c,d,f,r,t,i _ _ _ _ h (by rw[a0K]) g (.refl _ _)⟩))
noncomputable def cutZ {α:Type}(xs:List α) (lo hi:Option Int):List α:=(xs.drop (HT.sIx xs.length 0 lo)).take (HT.sIx xs.length xs.length hi - HT.sIx xs.length 0 lo)
theorem b7a (xs:List V) (lo hi:Option Int):cutV xs lo hi=cutZ xs lo hi:=rfl
theorem a6e {α:Type}(xs:List α) (lo hi:Option Int):(cutZ xs lo hi).length<=xs.length:=by
 unfold cutZ;rw[fC,gj];omega
theorem Reps.cut {K:Fg}(r:Reps K H ws vs) (lo hi:Option Int):Reps K H (cutZ ws lo hi) (cutV vs lo hi):=by
 unfold cutZ cutV;rw[<- r.length];exact (r.drop _).take _
theorem b4M {α β:Type}(f:α->β) (xs:List α) (lo hi:Option Int):cutZ (xs.map f) lo hi=(cutZ xs lo hi).map f:=by
 unfold cutZ;rw[fc,jL,List.map_drop]
def zSl:L3r:=λx lo hi G R=>match x with
 | .ref p=>∃ ws,G p=some (.lst ws)/\∀ t,G t=none->R (.ref t) (put G t (.lst (cutZ ws lo hi)))
 | .scr _ ns=>∀ t,G t=none->R (.ref t) (put G t (.lst ((cutZ ns lo hi).map Z.int)))
 | .tup ws=>¬ (HT.sIx ws.length 0 lo=0/\HT.sIx ws.length ws.length hi=ws.length)/\R (.tup (cutZ ws lo hi)) G
 | .str z=>z.length<=ki/\R (.str (Txt.slice z lo hi)) G
 | _=>False
theorem x_sl:SlQ X zSl:=c1s (sl_list.or (sl_tup.or b9o)) λx l k H Q m=>m.un λa G R c d h g=>by
 cases a with
 | ref p=>
  obtain⟨n,e,h⟩:=h;obtain⟨j,i,f⟩:=d _ _ e;exact .inl ⟨p,j,c,SqL.of i,λt b=>g _ _ _ _ (h t (d.out b)) (by rw[a0B]) (d.set (.new b) (a1R (f.cut l k) (.new b))) (.new b)⟩
 | scr p ns=>
  refine .inl ⟨p,_,c.1,c.2.sq,λt b=>?_⟩;rw[b7a,b4M];exact g _ _ _ _ (h t (d.out b)) (by rw[a0B]) (d.set (.new b) (a1R (a3k _) (.new b))) (.new b)
 | tup n=>
  obtain⟨p,j,e,i,f⟩:=c;exact .inr (.inl ⟨p,j,e,SqT.of i,by rw[<- f.length];exact h.1,λt b=>g _ _ _ _ h.2 (by rw[a19];exact⟨t,_,rfl,a0w,(f.cut l k).mono (.new b)⟩) (d.hid b) (.new b)⟩)
 | str z=>
  exact .inr (.inr ⟨z,c,h.1,g _ _ _ _ h.2 (by rw[a0K]) d (.refl _ _)⟩)
 | _=>exact fh h
def zSet:Z3:=λo i v G R=>match o,i with
 | .ref p,.int k=>∃ ws j,G p=some (.lst ws)/\ixN ws.length k=some j/\R (put G p (.lst (ws.set j v)))
 | _,_=>False
theorem b4N:SetQ X zSet:=b5Q b4t λo i v H Q p=>p.un λa b w G R f g l k h q=>by
  cases a<;>cases b<;>first
    | exact fh h
    | (rw[a0B]at f
       obtain⟨r,j,e,m,h⟩:=h;obtain⟨n,c,d⟩:=k _ _ e;exact⟨_,n,_,j,f,g,c,by rw[<- d.length];exact m,q _ _ h (k.set (.lst c) (a1R (d.set l j) (.lst c))) (.lst c)⟩)
def zLen:List Z->Hq->K3->Prop:=λxs G R=>match xs with
 | [.str z]=>z.length<=ki/\R (.int z.length) G
 | [.ref p]=>∃ ws,G p=some (.lst ws)/\R (.int ws.length) G
 | [.tup ws]=>R (.int ws.length) G
 | [.scr _ ns]=>R (.int ns.length) G
 | _=>False
theorem b_len:a2y X (.builtin "len") zLen:=a1f b4j λl H Q k=>k.un λj G R c a h d=>by
 match j,h with
 | [.str z],h=>
  obtain⟨v,rfl,r⟩:=c.one;exact⟨v,z.length,rfl,by rw[r];exact⟨h.1,rfl⟩,d _ _ _ _ h.2 (by rw[a0y]) a (.refl _ _)⟩
 | [.ref p],h=>
  obtain⟨v,rfl,r⟩:=c.one;obtain⟨i,e,h⟩:=h;obtain⟨g,f,b⟩:=a _ _ e;exact⟨v,i.length,rfl,by rw[r];exact .inl ⟨g,SqL.of f,b.length⟩,d _ _ _ _ h (by rw[a0y]) a (.refl _ _)⟩
 | [.tup i],h=>
  obtain⟨v,rfl,r⟩:=c.one;obtain⟨p,g,e,f,b⟩:=r;exact⟨v,i.length,rfl,by rw[e];exact .inr ⟨g,SqT.of f,b.length⟩,d _ _ _ _ h (by rw[a0y]) a (.refl _ _)⟩
 | [.scr p ns],h=>
  obtain⟨v,rfl,r⟩:=c.one;exact⟨v,ns.length,rfl,by rw[r.1];exact .inl ⟨_,r.2.sq,(fc ..).symm⟩,d _ _ _ _ h (by rw[a0y]) a (.refl _ _)⟩
def zMM (f:Int->Int->Int):List Z->Hq->K3->Prop:=λxs G R=>match xs with
 | [.int i,.int j]=>R (.int (f i j)) G
 | _=>False
theorem bMM {id:String}(hf:CallR X (.builtin id) (λxs H Q=>∃ i j,xs=[.int i,.int j]/\Q (.int (f i j)) H)):a2y X (.builtin id) (zMM f):=a1f hf λl H Q d=>d.un λc G R e b h g=>by
 match c,h with
 | [.int i,.int j],h=>
  obtain⟨v,k,rfl,r,a⟩:=e.two;exact⟨i,j,by rw[r,a],g _ _ _ _ h (by rw[a0y]) b (.refl _ _)⟩
theorem b_max (hc:X.calm=true):a2y X (.builtin "max") (zMM λi j=>if j > i then j else i):=bMM (b2c hc)
theorem b_min (hc:X.calm=true):a2y X (.builtin "min") (zMM λi j=>if j<i then j else i):=bMM (b2d hc)
def zAll:List Z->Hq->K3->Prop:=λxs G R=>match xs with
 | [.ref p]=>∃ bs:List Bool,G p=some (.lst (bs.map Z.bl))/\R (.bl (bs.all id)) G
 | _=>False
theorem b0w {K:Fg}:∀ {bs:List Bool}{vs:List V},Reps K H (bs.map Z.bl) vs->vs=bs.map V.bl
 | [],vs,h=>by rw[fD,a0v]at h;subst h;rfl
 | n::ns,vs,h=>by
  obtain⟨v,r,rfl,a,b⟩:=h;rw[a,b0w b];rfl
theorem a8H {K:Fg}:∀ {bs:List Str}{vs:List V},Reps K H (bs.map Z.str) vs->vs=bs.map V.str
 | [],vs,h=>by rw[fD,a0v]at h;subst h;rfl
 | n::ns,vs,h=>by
  obtain⟨v,r,rfl,a,b⟩:=h;rw[a,a8H b];rfl
theorem b_all (hc:X.calm=true):a2y X (.builtin "all") zAll:=a1f (b2V hc) λl H Q f=>f.un λd G R c a h j=>by
 match d,h with
 | [.ref p],h=>
  obtain⟨v,rfl,r⟩:=c.one;obtain⟨g,e,h⟩:=h;obtain⟨k,i,b⟩:=a _ _ e
  have:=b0w b
  subst this;exact⟨p,g,by rw[r],SqL.of i,j _ _ _ _ h (by rw[a0Q]) a (.refl _ _)⟩
def b9p:List Z->Hq->K3->Prop:=λxs G R=>match xs with
 | [.ref p]=>∃ ws,G p=some (.lst ws)/\∀ t,G t=none->R (.ref t) (put G t (.lst ws))
 | [.tup ws]=>∀ t,G t=none->R (.ref t) (put G t (.lst ws))
 | [.scr _ ns]=>∀ t,G t=none->R (.ref t) (put G t (.lst (ns.map Z.int)))
 | _=>False
theorem b_list:a2y X (.type "list") b9p:=a1f a8w λm H Q j=>j.un λl G R i b h f=>by
 match l,h with
 | [.ref p],h=>
  obtain⟨v,rfl,r⟩:=i.one;obtain⟨k,e,h⟩:=h;obtain⟨d,g,c⟩:=b _ _ e;exact⟨p,d,by rw[r],.inl (SqL.of g),λt a=>f _ _ _ _ (h t (b.out a)) (by rw[a0B]) (b.set (.new a) (a1R c (.new a))) (.new a)⟩
 | [.tup k],h=>
  obtain⟨v,rfl,r⟩:=i.one;obtain⟨p,d,e,g,c⟩:=r;exact⟨p,d,by rw[e],.inr (SqT.of g),λt a=>f _ _ _ _ (h t (b.out a)) (by rw[a0B]) (b.set (.new a) (a1R c (.new a))) (.new a)⟩
 | [.scr p ns],h=>
  obtain⟨v,rfl,r⟩:=i.one;exact⟨p,_,by rw[r.1],.inl r.2.sq,λt a=>f _ _ _ _ (h t (b.out a)) (by rw[a0B]) (b.set (.new a) (a1R (a3k _) (.new a))) (.new a)⟩
noncomputable def kit0 (n T:String):Option Bool:=if (Value.type n==Value.type T)=true then some true else if PySem.W.kitMeta T=true then (PySem.fastBuiltinMro n).map (·.contains (.type T)) else none
theorem b9q {K:Fg}:PySem.W.kitOne K (.type n) (.type T)=kit0 n T:=rfl
noncomputable def tyN (G:Hq):Z->Option String
 | .non=>some "NoneType"
 | .bl _=>some "bool"
 | .int _=>some "int"
 | .str _=>some "str"
 | .tup _=>some "tuple"
 | .ref p=>match G p with
  | some (.lst _)=>some "list"
  | some (.dK _)=>some "dict"
  | _=>none
 | _=>none
def zIsT:List Z->Hq->K3->Prop:=λxs G R=>match xs with
 | [x,.ty T]=>∃ n b,tyN G x=some n/\kit0 n T=some b/\R (.bl b) G
 | _=>False
theorem b4O {K:Fg}(h:tyN G x=some n) (r:Rep K H x v) (hg:RH K G H):TyOf K H v (.type n):=by
 cases x with
 | non=>rw[a01]at r;subst r;cases h;exact .non
 | bl _=>rw[a0Q]at r;subst r;cases h;exact .bl _
 | int _=>rw[a0y]at r;subst r;cases h;exact .int _
 | str _=>rw[a0K]at r;subst r;cases h;exact .str _
 | tup ws=>rw[a19]at r;obtain⟨a,c,rfl,e,_⟩:=r;cases h;exact .tup e
 | ref p=>
  subst r;cases e:G p with
  | none=>simp[tyN,e]at h
  | some o=>
   cases o with
   | lst ws=>simp[tyN,e]at h;subst h;obtain⟨c,b,_⟩:=hg _ _ e;exact .lst b
   | dK kvs=>simp[tyN,e]at h;subst h;obtain⟨c,b,_⟩:=hg _ _ e;exact .dK b
   | ins C dx fs=>simp[tyN,e]at h
   | dF kvs=>simp[tyN,e]at h
   | dT ks=>simp[tyN,e]at h
 | ty _=>cases h
 | scr _ _=>cases h
theorem b4P:a2y X (.builtin "isinstance") zIsT:=a1f b4H λl H Q g=>g.un λf G R d a h i=>by
 match f,h with
 | [x,.ty T],h=>
  obtain⟨v,j,rfl,r,c⟩:=d.two;obtain⟨n,b,e,k,h⟩:=h;exact⟨v,T,.type n,b,by rw[c],b4O e r a,by rw[b9q];exact k,i _ _ _ _ h (by rw[a0Q]) a (.refl _ _)⟩
def a7X:Z->List Z->Hq->K3->Prop:=λx xs G R=>match x,xs with
 | .ref p,[y]=>∃ ws,G p=some (.lst ws)/\ws.length<ki/\R .non (put G p (.lst (ws++[y])))
 | _,_=>False
theorem a1j:MtQ X "list.append" a7X:=b2E a8y λx n H Q j=>j.un λw k G R c f d h l=>by
 match w,k,h with
 | .ref p,[y],h=>
  obtain⟨v,rfl,r⟩:=f.one;obtain⟨m,e,g,h⟩:=h;obtain⟨i,a,b⟩:=d _ _ e;exact⟨p,i,v,c,rfl,a,by rw[<- b.length];exact g,l _ _ _ _ h (by rw[a01]) (d.set (.lst a) (a1R (b.append (.cons r .nil)) (.lst a))) (.lst a)⟩
def b2X:Z->List Z->Hq->K3->Prop:=λx xs G R=>match x,xs with
 | .ref p,[.ref q]=>∃ ws ys,G p=some (.lst ws)/\G q=some (.lst ys)/\ws.length+ys.length<=ki/\R .non (put G p (.lst (ws++ys)))
 | _,_=>False
theorem b4Q:MtQ X "list.extend" b2X:=b2E b2p λx u H Q m=>m.un λw n G R d i f h s=>by
 match w,n,h with
 | .ref p,[.ref q],h=>
  obtain⟨v,rfl,r⟩:=i.one;obtain⟨t,y,e,k,j,h⟩:=h;obtain⟨l,a,c⟩:=f _ _ e;obtain⟨o,g,b⟩:=f _ _ k;exact⟨p,q,l,o,d,by rw[r],a,g,by rw[<- c.length,<- b.length];exact j,s _ _ _ _ h (by rw[a01]) (f.set (.lst a) (a1R (c.append b) (.lst a))) (.lst a)⟩
def b9r:Z->List Z->Hq->K3->Prop:=λx xs G R=>match x,xs with
 | .str z,[.ref p]=>∃ ys:List Str,G p=some (.lst (ys.map Z.str))/\(ys.map (·.length)).sum+ys.length*z.length<=16777216/\R (.str (Txt.join z ys)) G
 | _,_=>False
theorem b9s:MtQ X "str.join" b9r:=b2E b68 λx n H Q i=>i.un λw f G R a j b h l=>by
 match w,f,h with
 | .str z,[.ref p],h=>
  obtain⟨v,rfl,r⟩:=j.one;obtain⟨g,e,k,h⟩:=h;obtain⟨m,d,c⟩:=b _ _ e
  have:=a8H c
  subst this;exact⟨z,p,g,a,by rw[r],SqL.of d,k,l _ _ _ _ h (by rw[a0K]) b (.refl _ _)⟩
def b9t:E3:=λ_ G R=>∀ p,G p=none->R (.ref p) (put G p (.dK []))
theorem b9u:QE X (.Dict [] [] pos) b9t:=⟨a1C b4w fun τ H Q ⟨σ,G,R,d,b,h,c⟩ p a=>c _ _ _ _ (h p (b.out a)) (by rw[a0B]) (b.set (.new a) ⟨[],a0w,rfl,.nil⟩) (.new a)⟩
def a5C (x:Str):List Z:=x.cps.toList.map λc=>.str ⟨#[c]⟩
def wkS (x:Z) (G:Hq) (R:List Z->(Hq->Prop)->Hq->Prop):Prop:=match x with
 | .str z=>R (a5C z) (λ_=>True) G
 | _=>False
def iS (tl:E3):I3:=fun σ G R=>tl σ G λx G1=>wkS x G1 R
theorem b2Y {K:Fg}:a7V K (a5C x) (λ_=>True) (Its x) H0:=λi G H f t j k=>by
 have e:(a5C x).length=x.cps.size:=by unfold a5C;rw[fc,g6]
 refine⟨λh=>by rw[h,e];rfl,λw a=>?_⟩;unfold a5C at a;rw[fm]at a;cases hc:x.cps.toList[i]? with
 | none=>rw[hc]at a;cases a
 | some c=>
  rw[hc]at a;cases a;have b:x.cps[i]?=some c:=by simp_all
  refine⟨(iR.mp b).1,?_⟩;rintro v l ⟨rfl,g,d,rfl⟩;rw[b]at d;cases d;exact⟨by rw[a0K],f,.refl _ _⟩
theorem b9v (hl:QE X l tl):QI X tg l (iS tl):=a9F (b9m hl.p) fun τ H j g=>g.un fun σ G R f e h i=>by
 refine⟨σ,G,_,f,e,h,λw m v k a c b d=>?_⟩;cases w with
 | str x=>
  exact⟨x,c,i _ _ _ _ _ a b2Y b d⟩
 | _=>exact fh a
end
section
variable {σ:S3}{G:Hq}{R:K3}{Rb:Bool->Hq->Prop}{Ra:List Z->Hq->Prop}{nx bk ct:C3}{rt:K3}{t u:X3}{te ta tb tc to ti:E3}{c d:T3}{al:A3}{r r':R3}{w x y:Z}{i:Nat}
theorem c1v (e:σ[i]?=some (some w)) (h:R w G):uVar i σ G R:=⟨w,e,h⟩
theorem i_c (h:R w G):uC w σ G R:=h
theorem i_op (h:ta σ G λx G1=>tb σ G1 λy G2=>r x y G2 R):uOp r ta tb σ G R:=h
theorem i_un {r:Z->Hq->K3->Prop}(h:ta σ G λx G1=>r x G1 R):uUn r ta σ G R:=h
theorem b9w (h:ta σ G λx G1=>∃ k,x=.bl k/\Rb k G1):b4K ta σ G Rb:=h
theorem b7b (h:ta σ G λx G1=>tb σ G1 λy G2=>r x y G2 λz G3=>∃ k,z=.bl k/\(if k=true then tc σ G3 λw G4=>r' y w G4 R else R (.bl false) G3)):b2F r r' ta tb tc σ G R:=h
theorem c1w (h:c σ G λk G1=>if k=true then d σ G1 Rb else Rb false G1):uAnd c d σ G Rb:=h
theorem i_or (h:c σ G λk G1=>if k=true then Rb true G1 else d σ G1 Rb):uOr c d σ G Rb:=h
theorem c1x (h:c σ G λk G1=>Rb (!k) G1):uNot c σ G Rb:=h
theorem b9x (h:ta σ G λx G1=>∃ c,x=.bl c/\if c=true then tb σ G1 R else R (.bl false) G1):b9a ta tb σ G R:=h
theorem c1y (h:ta σ G λx G1=>∃ c,x=.bl c/\if c=true then R (.bl true) G1 else tb σ G1 R):uOrV ta tb σ G R:=h
theorem b9y (h:ta σ G λx G1=>∃ c,x=.bl c/\R (.bl (!c)) G1):b9b ta σ G R:=h
theorem i_if (h:c σ G λk G1=>if k=true then ta σ G1 R else tb σ G1 R):uIf c ta tb σ G R:=h
theorem c1z (h:ta σ G λx G1=>tru x G1 Rb):uTru ta σ G Rb:=h
theorem b5X (e:G p=some (.lst ws)) (h:Rb (!ws.isEmpty) G):tru (.ref p) G Rb:=.inl ⟨ws,e,h⟩
theorem i_sl {r:L3r}(h:te σ G λx G1=>tl σ G1 λl G2=>th σ G2 λu G3=>r x l u G3 R):uSl r te tl th σ G R:=h
theorem b4R (h:Ro none G):b2I σ G Ro:=h
theorem b9z (h:te σ G λx G1=>∃ i,x=.int i/\Ro (some i) G1):b9e te σ G Ro:=h
theorem c1A (h:Ra [] G):uNil σ G Ra:=h
theorem b9A (h:ta σ G λx G1=>al σ G1 λxs G2=>Ra (x::xs) G2):b9f ta al σ G Ra:=h
theorem c1B (h:al σ G λxs G1=>xs.length<=ki/\R (.tup xs) G1):uTup al σ G R:=h
theorem c1C (h:al σ G λxs G1=>xs.length<=ki/\∀ p,G1 p=none->R (.ref p) (put G1 p (.lst xs))):uLst al σ G R:=h
theorem i_cb {r:List Z->Hq->K3->Prop}(h:al σ G λws G1=>r ws G1 R):uCB r al σ G R:=h
theorem i_bm {r:Z->List Z->Hq->K3->Prop}(h:to σ G λx G1=>tyZ T x G1/\al σ G1 λxs G2=>r x xs G2 R):uBM T r to al σ G R:=h
theorem b9B (h:al σ G λws G1=>sp ws G1 R):b9g sp al σ G R:=h
theorem b9C (h:nx σ G):b9h nx rt bk ct σ G:=h
theorem c1D (h:t (u nx rt bk ct) rt bk ct σ G):uSeq t u nx rt bk ct σ G:=h
theorem b9D (h:te σ G λ_ G1=>nx σ G1):b9i te nx rt bk ct σ G:=h
theorem c1E (h:te σ G rt):uRet te nx rt bk ct σ G:=h
theorem c1F (h:c σ G λb G1=>if b=true then t nx rt bk ct σ G1 else u nx rt bk ct σ G1):uIfS c t u nx rt bk ct σ G:=h
theorem c1G (h:te σ G λx G1=>∃ σ',a59 pt x σ=some σ'/\nx σ' G1):uAsg te pt nx rt bk ct σ G:=h
theorem c1H {r:Z3}(h:te σ G λw G1=>to σ G1 λo G2=>ti σ G2 λi G3=>r o i w G3 λG4=>nx σ G4):uPut te to ti r nx rt bk ct σ G:=h
theorem c1I (e:σ[i]?=some (some x)) (h:te σ G λy G1=>r x y G1 λz G2=>nx (σ.set i (some z)) G2):uAug i te r nx rt bk ct σ G:=⟨x,e,h⟩
theorem a8I (M:C3) (h:t M rt bk ct σ G) (h':∀ σ' G',M σ' G'->u nx rt bk ct σ' G'):uCut t u nx rt bk ct σ G:=⟨M,h,h'⟩
theorem b9E (h:R (.int (a+b)) G):zAdd (.int a) (.int b) G R:=h
theorem a8J (z:a.length+b.length<=ki) (h:R (.str (a++b)) G):zAdd (.str a) (.str b) G R:=⟨z,h⟩
theorem b5Y (e:xs≠[]) (z:xs.length+ys.length<=ki) (h:R (.tup (xs++ys)) G):zAdd (.tup xs) (.tup ys) G R:=⟨e,z,h⟩
theorem a7n (e:G p=some (.lst xs)) (e':G q=some (.lst ys)) (z:xs.length+ys.length<=ki) (h:∀ t,G t=none->R (.ref t) (put G t (.lst (xs++ys)))):zAdd (.ref p) (.ref q) G R:=⟨xs,ys,e,e',z,h⟩
theorem i_I (k:C a b) (h:R (g a b) G):zI C g (.int a) (.int b) G R:=⟨k,h⟩
theorem i_I0 (h:R (g a b) G):zI0 g (.int a) (.int b) G R:=h
theorem c1J (h:R (.int (-a)) G):zNeg (.int a) G R:=h
theorem i_CI (h:R (.bl (f a b)) G):zC f g (.int a) (.int b) G R:=h
theorem i_CS (h:R (.bl (g a b)) G):zC f g (.str a) (.str b) G R:=h
theorem b7c (h:R (.bl (decide (x=.non))) G):zIs false x .non G R:=h
theorem b9F (h:R (.bl (!decide (x=.non))) G):zIs true x .non G R:=h
theorem b9G (h:R (.bl (f (decide (a=b)))) G):zEq f (.int a) (.int b) G R:=h
theorem c1K (h:R (.bl (f (decide (a=b)))) G):zEq f (.str a) (.str b) G R:=h
theorem a9I (e:G p=some (.lst xs)) (e':G q=some (.lst ys)) (f1:xs.all (flat 8)=true) (f2:ys.all (flat 8)=true) (h:R (.bl (f (decide (xs=ys)))) G):zEq f (.ref p) (.ref q) G R:=⟨xs,ys,e,e',f1,f2,h⟩
theorem a0I (e:G p=some (.lst ws)) (a:atI ws k=some w) (h:R w G):zIx (.ref p) (.int k) G R:=⟨ws,w,e,a,h⟩
theorem c1L (a:atI ns k=some n) (h:R (.int n) G):zIx (.scr p ns) (.int k) G R:=⟨n,a,h⟩
theorem a4q (a:atI ws k=some w) (h:R w G):zIx (.tup ws) (.int k) G R:=⟨w,a,h⟩
theorem b7d (l:z.length<=ki) (a:atI z.cps.toList k=some ch) (h:R (.str ⟨#[ch]⟩) G):zIx (.str z) (.int k) G R:=⟨ch,l,a,h⟩
theorem a9J {lo hi:Option Int}(l:z.length<=ki) (h:R (.str (Txt.slice z lo hi)) G):zSl (.str z) lo hi G R:=⟨l,h⟩
theorem b9H {lo hi:Option Int}(e:G p=some (.lst ws)) (h:∀ t,G t=none->R (.ref t) (put G t (.lst (cutZ ws lo hi)))):zSl (.ref p) lo hi G R:=⟨ws,e,h⟩
theorem b9I {lo hi:Option Int}(h:∀ t,G t=none->R (.ref t) (put G t (.lst ((cutZ ns lo hi).map Z.int)))):zSl (.scr p ns) lo hi G R:=h
theorem b1v {lo hi:Option Int}(n:¬ (HT.sIx ws.length 0 lo=0/\HT.sIx ws.length ws.length hi=ws.length)) (h:R (.tup (cutZ ws lo hi)) G):zSl (.tup ws) lo hi G R:=⟨n,h⟩
theorem b4S (e:G p=some (.lst ws)) (a:ixN ws.length k=some j) (h:Rg (put G p (.lst (ws.set j w)))):zSet (.ref p) (.int k) w G Rg:=⟨ws,j,e,a,h⟩
theorem b9J (h:∀ p,G p=none->R (.ref p) (put G p (.dK []))):b9t σ G R:=h
theorem a8K (l:z.length<=ki) (h:R (.int z.length) G):zLen [.str z] G R:=⟨l,h⟩
theorem a2m (e:G p=some (.lst ws)) (h:R (.int ws.length) G):zLen [.ref p] G R:=⟨ws,e,h⟩
theorem b9K (h:R (.int ns.length) G):zLen [.scr p ns] G R:=h
theorem i_mm (h:R (.int (f a b)) G):zMM f [.int a,.int b] G R:=h
theorem c1M {bs:List Bool}(e:G p=some (.lst (bs.map Z.bl))) (h:R (.bl (bs.all id)) G):zAll [.ref p] G R:=⟨bs,e,h⟩
theorem a9K (e:G p=some (.lst ws)) (h:∀ t,G t=none->R (.ref t) (put G t (.lst ws))):b9p [.ref p] G R:=⟨ws,e,h⟩
theorem c1N (e:tyN G x=some n) (k:kit0 n T=some b) (h:R (.bl b) G):zIsT [x,.ty T] G R:=⟨n,b,e,k,h⟩
theorem a1k (e:G p=some (.lst ws)) (z:ws.length<ki) (h:R .non (put G p (.lst (ws++[y])))):a7X (.ref p) [y] G R:=⟨ws,e,z,h⟩
theorem b4T (e:G p=some (.lst ws)) (e':G q=some (.lst ys)) (z:ws.length+ys.length<=ki) (h:R .non (put G p (.lst (ws++ys)))):b2X (.ref p) [.ref q] G R:=⟨ws,ys,e,e',z,h⟩
theorem b9L (e:G p=some (.lst (ys.map Z.str))) (l:(ys.map (·.length)).sum+ys.length*z.length<=16777216) (h:R (.str (Txt.join z ys)) G):b9r (.str z) [.ref p] G R:=⟨ys,e,l,h⟩
theorem c1O {P:Prop}(h:P):tyZ "str" (.str z) G/\P:=⟨rfl,h⟩
theorem a3m {P:Prop}(e:G p=some (.lst ws)) (h:P):tyZ "list" (.ref p) G/\P:=⟨.inl ⟨rfl,ws,e⟩,h⟩
theorem i_nm (h:nx (σ.set j (some w)) G):∃ σ',a59 (.nm j) w σ=some σ'/\nx σ' G:=⟨_,rfl,h⟩
theorem b9M {tb:X3}(h:wi σ G λws ok G1=>FORB ws ok pt tb nx rt σ G1):uFor wi pt tb nx rt bk ct σ G:=h
theorem c1P (h:wi σ G λws ok G1=>∀ D,G1 D=none->LCB ws ok cap pt tt te σ R D G1):uLC wi cap pt tt te σ G R:=h
variable {Ri:List Z->(Hq->Prop)->Hq->Prop}
theorem i_iL (h:te σ G λx G1=>wkL x G1 Ri):iL te σ G Ri:=h
theorem i_iT (h:te σ G λx G1=>wkT x G1 Ri):iT te σ G Ri:=h
theorem i_iS (h:te σ G λx G1=>wkS x G1 Ri):iS te σ G Ri:=h
theorem c1Q (h:al σ G λws G1=>∃ j:Int,ws=[.int j]/\-(2 ^ 62)<=j/\j<2 ^ 62/\Ri (rng 0 j.toNat) (λ_=>True) G1):iR1 al σ G Ri:=h
theorem c1R (h:al σ G λws G1=>∃ i j:Int,ws=[.int i,.int j]/\(-(2 ^ 62)<=i/\i<2 ^ 62/\-(2 ^ 62)<=j/\j<2 ^ 62)/\Ri (rng i (j - i).toNat) (λ_=>True) G1):iR2 al σ G Ri:=h
theorem a2l (e:G p=some (.lst ws)) (h:Ri ws (λG=>G p=some (.lst ws)) G):wkL (.ref p) G Ri:=⟨ws,e,h⟩
theorem c1S (h:Ri ws (λ_=>True) G):wkT (.tup ws) G Ri:=h
theorem c1T (h:Ri (a5C z) (λ_=>True) G):wkS (.str z) G Ri:=h
theorem i_tt (h:Rb true G):uTT σ G Rb:=h
end
theorem ifD {p A B:Prop}[Decidable p] (h1:p->A) (h2:¬ p->B):if decide p=true then A else B:=by simp_all
theorem ifN {p A B:Prop}[Decidable p] (h1:¬ p->A) (h2:p->B):if (!decide p)=true then A else B:=by simp_all
theorem ifB {A B:Prop}(h1:b=true->A) (h2:b=false->B):if b=true then A else B:=by simp_all
theorem ifNB {A B:Prop}(h1:b=false->A) (h2:b=true->B):if (!b)=true then A else B:=by grind
theorem ifT {A B:Prop}(h:A):if true=true then A else B:=by rw[if_pos rfl];exact h
theorem ifF {A B:Prop}(h:B):if false=true then A else B:=by rw[if_neg (by decide)];exact h
theorem ifNN {A B:Prop}(h:A):if decide (Z.non=Z.non)=true then A else B:=by simp_all
theorem ifNI {A B:Prop}(h:B):if decide (Z.int i=Z.non)=true then A else B:=by rw[if_neg (by simp)];exact h
theorem ifMN {A B:Prop}(h:B):if (!decide (Z.non=Z.non))=true then A else B:=by rw[if_neg (by simp)];exact h
theorem ifMI {A B:Prop}(h:A):if (!decide (Z.int i=Z.non))=true then A else B:=by rw[if_pos (by simp)];exact h
theorem at0 {α:Type}{a:α}{r:List α}:atI (a::r) 0=some a:=a1A (j:=0) rfl
theorem at1 {α:Type}{a b:α}{r:List α}:atI (a::b::r) 1=some b:=a1A (j:=1) rfl
theorem at2 {α:Type}{a b c:α}{r:List α}:atI (a::b::c::r) 2=some c:=a1A (j:=2) rfl
def Sm (G G':Hq):Prop:=∀ b o,G b=some o->G' b=some o
theorem Sm.refl (G:Hq):Sm G G:=λ_ _ h=>h
theorem Sm.trans (a:Sm G G1) (b:Sm G1 G2):Sm G G2:=λc o h=>b c o (a c o h)
theorem Sm.get (s:Sm G G') (h:G b=some o):G' b=some o:=s b o h
theorem Sm.new (h:G p=none):Sm G (put G p o):=λ_ _ e=>a0l e h
theorem Sm.free (s:Sm G G') (h:G' p=none):G p=none:=by
 cases e:G p with
 | none=>rfl
 | some o=>rw[s p o e]at h;cases h
def Kq (r:Addr) (G G':Hq):Prop:=∀ b o,G b=some o->b≠r->G' b=some o
theorem Kq.refl (r:Addr) (G:Hq):Kq r G G:=λ_ _ h _=>h
theorem Kq.trans (a:Kq r G G1) (b:Kq r G1 G2):Kq r G G2:=λc o h n=>b c o (a c o h n) n
theorem Kq.new (h:G p=none):Kq r G (put G p o):=λ_ _ e _=>a0l e h
theorem Kq.at:Kq r G (put G r o):=λ_ _ e n=>by rw[a0E n];exact e
theorem Sm.kq (s:Sm G G'):Kq r G G':=λb o e _=>s b o e
theorem Sm.put (s:Sm G G') (h:G p=none):Sm G (put G' p o):=λb u e=>by rw[a0E (a0z e h)];exact s b u e
end L3
set_option maxHeartbeats 4000000
namespace Tim
open PySem PyProof.Rows
abbrev KF:=Keyed->Int
noncomputable def Kk (κ:KF) (xs:Array Keyed) (i:Nat):Int:=match xs[i]? with
 | some p=>κ p
 | none=>0
section
variable {κ:KF}{xs ys:Array Keyed}{i j:Nat}{p:Keyed}
theorem a9L (h:xs[i]?=some p):Kk κ xs i=κ p:=by unfold Kk;rw[h]
theorem a6f (h:xs[i]?=ys[j]?):Kk κ xs i=Kk κ ys j:=by unfold Kk;rw[h]
end
def LtOk (M:Model) (A:Around) (E:Value->Shared->Prop) (s:Shared) (κ:KF) (k0:kU) (ajj:Array Keyed):Prop:=
 ∀ x y,x∈ajj.toList->y∈ajj.toList->∀ (st:SortSt) (Q:Option Bool->SortSt->Prop),kindOf st=k0->Q (some (decide (κ x<κ y))) st->wpS M A E s (lt' x y) Q st
structure TB (k0:kU) (ajj:Array Keyed) (st:SortSt):Prop where
 pm:(arrOf st).Perm ajj
 kd:kindOf st=k0
 fl:kQ st=none
theorem TB.sz {st:SortSt}(h:TB k0 ajj st):(arrOf st).size=ajj.size:=h.pm.size_eq
theorem TB.mem {st:SortSt}(h:TB k0 ajj st) {i:Nat}(e:(arrOf st)[i]?=some p):p∈ajj.toList:=by
 have a:p∈(arrOf st).toList:=by rw[jA];exact jM e
 exact (iW.mp h.pm).mem_iff.mp a
theorem TB.arr {st:SortSt}(h:TB k0 ajj st) (hp:xs.Perm (arrOf st)):TB k0 ajj (setArr st xs):=⟨hp.trans h.pm,h.kd,h.fl⟩
section
variable {M:Model}{A:Around}{E:Value->Shared->Prop}{s:Shared}{κ:KF}{k0:kU}{ajj:Array Keyed}{st:SortSt}
theorem a1c (e:arr[i]?=some p) (h:Q p st):wpS M A E s (elem' arr i) Q st:=by
 rw[elem'_eq,e];exact kt h
theorem a8L (L:LtOk M A E s κ k0 ajj) (B:TB k0 ajj st) (hi:i<ajj.size) (hj:j<ajj.size)
  (h:Q (some (decide (Kk κ (arrOf st) i<Kk κ (arrOf st) j))) st):wpS M A E s (ltAt' i j) Q st:=by
 have b:_[i]?=some ((arrOf st)[i]'(by rw[B.sz];exact hi)):=getElem?_pos ..;have a:(arrOf st)[j]?=some ((arrOf st)[j]'(by rw[B.sz];exact hj)):=getElem?_pos ..;refine ko (kW ?_);refine ko (a1c b (ko (a1c a ?_)));refine L _ _ (B.mem b) (B.mem a) st Q B.kd ?_;rw[a9L b,a9L a]at h;exact h
end
def a2u:Bool->Keyed->Array Keyed->Nat->Nat->Nat->StateT SortSt Sem (Option Nat):=sortPriv% PySem.Builtin.gallop
noncomputable def bey (lft:Bool) (ky:Keyed) (ar:Array Keyed) (bs:Nat) (q:Nat):StateT SortSt Sem (Option Bool):=do
  let z <- elem' ar (bs+q)
  if lft then lt' z ky else return (<- lt' ky z).map (!·)
theorem b1w (lft:Bool) (ky:Keyed) (ar:Array Keyed) (bs n hnt:Nat):a2u lft ky ar bs n hnt=(do
 let mut lst:=0
 let mut oo:=1
 let mut l:=0
 let mut h:=0
 let some rgt <- bey lft ky ar bs hnt | return none
 if rgt then
  let mx:=n - hnt
  for _ in [0:n] do
   if oo>=mx then break
   let some mo <- bey lft ky ar bs (hnt+oo) | return none
   if !mo then break
   lst:=oo
   oo:=2*oo+1
  l:=hnt+lst+1
  h:=hnt+min oo mx
 else
  let mx:=hnt+1
  for _ in [0:n] do
   if oo>=mx then break
   let some fo <- bey lft ky ar bs (hnt - oo) | return none
   if fo then break
   lst:=oo
   oo:=2*oo+1
  l:=hnt+1 - min oo mx
  h:=hnt - lst
 for _ in [0:n] do
  if l>=h then break
  let m:=l+(h - l) / 2
  let some mo <- bey lft ky ar bs m | return none
  if mo then l:=m+1 else h:=m
 return some h):=rfl
noncomputable def bq (lft:Bool) (k x:Int):Bool:=if lft then decide (x<k) else !decide (k<x)
section
variable {M:Model}{A:Around}{E:Value->Shared->Prop}{s:Shared}{κ:KF}{k0:kU}{ajj:Array Keyed}{st:SortSt}
theorem b2Z (L:LtOk M A E s κ k0 ajj) (hk:kindOf st=k0) (hm:ky∈ajj.toList) (ha:∀ p∈ar.toList,p∈ajj.toList) (hq:bs+q<ar.size)
  (h:Q (some (bq lft (κ ky) (Kk κ ar (bs+q)))) st):wpS M A E s (bey lft ky ar bs q) Q st:=by
 have b:ar[bs+q]?=some (ar[bs+q]'hq):=getElem?_pos ..;have a:ar[bs+q]∈ajj.toList:=ha _ (by simp);refine ko (a1c b ?_);rw[a9L b]at h;cases lft with
 | true=>
  exact L _ _ a hm st Q hk h
 | false=>
  exact ko (L _ _ hm a st _ hk (kt h))
theorem a3w (L:LtOk M A E s κ k0 ajj) (hk:kindOf st=k0) (hm:ky∈ajj.toList) (ha:∀ p∈ar.toList,p∈ajj.toList)
  (hn:bs+n<=ar.size) (hh:hnt<n) (mono:∀ i j,i<=j->j<n->Kk κ ar (bs+i)<=Kk κ ar (bs+j))
  (h:∀ h,h<=n->(∀ i,i<h->bq lft (κ ky) (Kk κ ar (bs+i))=true)->(∀ i,h<=i->i<n->bq lft (κ ky) (Kk κ ar (bs+i))=false)->Q (some h) st):wpS M A E s (a2u lft ky ar bs n hnt) Q st:=by
 have t:∀ i j,i<=j->j<n->bq lft (κ ky) (Kk κ ar (bs+j))=true->bq lft (κ ky) (Kk κ ar (bs+i))=true:=λi j C F H=>by
  have:=mono i j C F
  unfold bq at *;cases lft<;>simp at *<;>omega
 have D:∀ i j,i<=j->j<n->bq lft (κ ky) (Kk κ ar (bs+i))=false->bq lft (κ ky) (Kk κ ar (bs+j))=false:=λi j C F H=>by grind
 rw[b1w];refine ko (b2Z L hk hm ha (by omega) ?_);dsimp only;cases e0:bq lft (κ ky) (Kk κ ar (bs+hnt)) with
 | true=>
  rw[if_pos rfl];refine ko (kP (kK (I:=λx c d=>d=st/\∃ a b,c=(none,a,b)/\a<b/\x+1<=b/\hnt+a<n/\bq lft (κ ky) (Kk κ ar (bs+(hnt+a)))=true)
   (Q:=λc d=>d=st/\∃ a b,c=(none,a,b)/\a<b/\hnt+a<n/\bq lft (κ ky) (Kk κ ar (bs+(hnt+a)))=true/\(n - hnt<=b\/(hnt+b<n/\bq lft (κ ky) (Kk κ ar (bs+(hnt+b)))=false))) ?step ?fin ?init) ?post)
  case init=>exact⟨rfl,0,1,rfl,by omega,by omega,by omega,e0⟩
  case fin=>
   rintro c d ⟨rfl,a,b,rfl,m,k,o,f⟩;exact⟨rfl,a,b,rfl,m,o,f,.inl (by omega)⟩
  case step=>
   rintro x c d _ G ⟨rfl,a,b,rfl,m,k,o,f⟩;dsimp only
   by_cases hge:b>=n - hnt
   ·rw[if_pos hge];exact kt ⟨rfl,a,b,rfl,m,o,f,.inl hge⟩
   ·rw[if_neg hge];refine ko (b2Z L hk hm ha (by omega) ?_);cases e:bq lft (κ ky) (Kk κ ar (bs+(hnt+b))) with
    | true=>
     dsimp only;rw[if_neg (by decide)];exact kt ⟨rfl,b,2*b+1,rfl,by omega,by omega,by omega,e⟩
    | false=>
     dsimp only;rw[if_pos (show (!false)=true from rfl)];exact kt ⟨rfl,a,b,rfl,m,o,f,.inr ⟨by omega,e⟩⟩
  case post=>
   rintro c d ⟨y,a,b,rfl,m,o,f,g⟩;have y:=y.symm;subst y;dsimp only;have q:hnt+a+1<=hnt+min b (n - hnt):=by omega
   have w:hnt+min b (n - hnt)<=n:=by omega
   have v:∀ i,i<hnt+a+1->bq lft (κ ky) (Kk κ ar (bs+i))=true:=λi J=>t i _ (by omega) (by omega) f;have u:∀ i,hnt+min b (n - hnt)<=i->i<n->bq lft (κ ky) (Kk κ ar (bs+i))=false:=λi B z=>by grind
   generalize hnt+a+1=l0 at q v ⊢;generalize hnt+min b (n - hnt)=h0 at q w u ⊢;refine ko (kP (kK (I:=λx c d=>d=st/\∃ l r,c=(none,l,r)/\l<=r/\r<=n/\r - l<=n - x/\(∀ i,i<l->bq lft (κ ky) (Kk κ ar (bs+i))=true)/\(∀ i,r<=i->i<n->bq lft (κ ky) (Kk κ ar (bs+i))=false))
    (Q:=λc d=>d=st/\∃ l,c=(none,l,l)/\l<=n/\(∀ i,i<l->bq lft (κ ky) (Kk κ ar (bs+i))=true)/\(∀ i,l<=i->i<n->bq lft (κ ky) (Kk κ ar (bs+i))=false)) ?st2 ?fi2 ?in2) ?po2)
   case in2=>exact⟨rfl,l0,h0,rfl,q,w,by omega,v,u⟩
   case fi2=>
    rintro c d ⟨rfl,l,r,rfl,m,k,o,f,g⟩
    have:l=r:=by omega
    subst this;exact⟨rfl,l,rfl,k,f,g⟩
   case st2=>
    rintro x c d _ G ⟨rfl,l,r,rfl,m,k,o,f,g⟩;dsimp only
    by_cases hge:l>=r
    ·rw[if_pos hge]
     have:l=r:=by omega
     subst this;exact kt ⟨rfl,l,rfl,k,f,g⟩
    ·rw[if_neg hge];refine ko (b2Z L hk hm ha (by omega) ?_);cases e:bq lft (κ ky) (Kk κ ar (bs+(l+(r - l) / 2))) with
     | true=>
      dsimp only;rw[if_pos rfl];exact kt ⟨rfl,_,r,rfl,by omega,k,by omega,λi J=>t i _ (by omega) (by omega) e,g⟩
     | false=>
      dsimp only;rw[if_neg (by decide)];exact kt ⟨rfl,l,_,rfl,by omega,by omega,by omega,f,λi B z=>D _ i B z e⟩
   case po2=>
    rintro c d ⟨rfl,l,rfl,k,f,g⟩;exact kt (h l k f g)
 | false=>
  rw[if_neg (by decide)];refine ko (kP (kK (I:=λx c d=>d=st/\∃ a b,c=(none,a,b)/\a<b/\x+1<=b/\a<=hnt/\bq lft (κ ky) (Kk κ ar (bs+(hnt - a)))=false)
   (Q:=λc d=>d=st/\∃ a b,c=(none,a,b)/\a<b/\a<=hnt/\bq lft (κ ky) (Kk κ ar (bs+(hnt - a)))=false/\(hnt+1<=b\/(b<=hnt/\bq lft (κ ky) (Kk κ ar (bs+(hnt - b)))=true))) ?step ?fin ?init) ?post)
  case init=>exact⟨rfl,0,1,rfl,by omega,by omega,by omega,e0⟩
  case fin=>
   rintro c d ⟨rfl,a,b,rfl,m,k,o,f⟩;exact⟨rfl,a,b,rfl,m,o,f,.inl (by omega)⟩
  case step=>
   rintro x c d _ G ⟨rfl,a,b,rfl,m,k,o,f⟩;dsimp only
   by_cases hge:b>=hnt+1
   ·rw[if_pos hge];exact kt ⟨rfl,a,b,rfl,m,o,f,.inl hge⟩
   ·rw[if_neg hge];refine ko (b2Z L hk hm ha (by omega) ?_);cases e:bq lft (κ ky) (Kk κ ar (bs+(hnt - b))) with
    | true=>
     dsimp only;rw[if_pos rfl];exact kt ⟨rfl,a,b,rfl,m,o,f,.inr ⟨by omega,e⟩⟩
    | false=>
     dsimp only;rw[if_neg (by decide)];exact kt ⟨rfl,b,2*b+1,rfl,by omega,by omega,by omega,e⟩
  case post=>
   rintro c d ⟨y,a,b,rfl,m,o,f,g⟩;have y:=y.symm;subst y;dsimp only;have q:hnt+1 - min b (hnt+1)<=hnt - a:=by omega
   have w:hnt - a<=n:=by omega
   have v:∀ i,i<hnt+1 - min b (hnt+1)->bq lft (κ ky) (Kk κ ar (bs+i))=true:=λi J=>by grind
   have u:=λi B z=>D _ i B z f;generalize hnt+1 - min b (hnt+1)=l0 at q v ⊢;generalize hnt - a=h0 at q w u ⊢;refine ko (kP (kK (I:=λx c d=>d=st/\∃ l r,c=(none,l,r)/\l<=r/\r<=n/\r - l<=n - x/\(∀ i,i<l->bq lft (κ ky) (Kk κ ar (bs+i))=true)/\(∀ i,r<=i->i<n->bq lft (κ ky) (Kk κ ar (bs+i))=false))
    (Q:=λc d=>d=st/\∃ l,c=(none,l,l)/\l<=n/\(∀ i,i<l->bq lft (κ ky) (Kk κ ar (bs+i))=true)/\(∀ i,l<=i->i<n->bq lft (κ ky) (Kk κ ar (bs+i))=false)) ?st2 ?fi2 ?in2) ?po2)
   case in2=>exact⟨rfl,l0,h0,rfl,q,w,by omega,v,u⟩
   case fi2=>
    rintro c d ⟨rfl,l,r,rfl,m,k,o,f,g⟩
    have:l=r:=by omega
    subst this;exact⟨rfl,l,rfl,k,f,g⟩
   case st2=>
    rintro x c d _ G ⟨rfl,l,r,rfl,m,k,o,f,g⟩;dsimp only
    by_cases hge:l>=r
    ·rw[if_pos hge]
     have:l=r:=by omega
     subst this;exact kt ⟨rfl,l,rfl,k,f,g⟩
    ·rw[if_neg hge];refine ko (b2Z L hk hm ha (by omega) ?_);cases e:bq lft (κ ky) (Kk κ ar (bs+(l+(r - l) / 2))) with
     | true=>
      dsimp only;rw[if_pos rfl];exact kt ⟨rfl,_,r,rfl,by omega,k,by omega,λi J=>t i _ (by omega) (by omega) e,g⟩
     | false=>
      dsimp only;rw[if_neg (by decide)];exact kt ⟨rfl,l,_,rfl,by omega,by omega,by omega,f,λi B z=>D _ i B z e⟩
   case po2=>
    rintro c d ⟨rfl,l,rfl,k,f,g⟩;exact kt (h l k f g)
end
def a9M:Nat->StateT SortSt Sem Unit:=sortPriv% PySem.Builtin.setMinGallop
theorem a7Y (g:Nat):a9M g=modify λs=>SortSt.mk' (kindOf s) (arrOf s) (kB s) g (kQ s):=rfl
def a5P:Array Keyed->Array Keyed->StateT SortSt Sem (Array Keyed):=sortPriv% PySem.Builtin.mergeLo
abbrev dnA (a b o:Array Keyed) (i j:Nat):Array Keyed:=o++a.extract i a.size++b.extract j b.size
abbrev dnB (a b o:Array Keyed) (i j:Nat):Array Keyed:=o++b.extract j b.size++a.extract i a.size
theorem a9N (a b:Array Keyed):a5P a b=(do
 rule "list.sort.merge-lo"
 let tot:=a.size+b.size
 let mut o:Array Keyed:=#[<- elem' b 0]
 let mut i:=0
 let mut j:=1
 if j==b.size then return dnA a b o i j
 if i+1==a.size then return dnB a b o i j
 let mut g:=mR (<- get)
 for _ in [0:tot] do
  let mut ac:=0
  let mut bc:=0
  for _ in [0:tot] do
   let some bw <- lt' (<- elem' b j) (<- elem' a i) | return dnA a b o i j
   if bw then
    o:=o.push (<- elem' b j);j:=j+1;bc:=bc+1;ac:=0
    if j==b.size then return dnA a b o i j
    if bc>=g then break
   else
    o:=o.push (<- elem' a i);i:=i+1;ac:=ac+1;bc:=0
    if i+1==a.size then return dnB a b o i j
    if ac>=g then break
  rule "list.sort.gallop"
  g:=g+1
  for _ in [0:tot] do
   if g > 1 then g:=g - 1
   a9M g
   let some k <- a2u false (<- elem' b j) a i (a.size - i) 0 | return dnA a b o i j
   ac:=k
   if k > 0 then
    o:=o++a.extract i (i+k);i:=i+k
    if i+1==a.size then return dnB a b o i j
    if i==a.size then return dnA a b o i j
   o:=o.push (<- elem' b j);j:=j+1
   if j==b.size then return dnA a b o i j
   let some k <- a2u true (<- elem' a i) b j (b.size - j) 0 | return dnA a b o i j
   bc:=k
   if k > 0 then
    o:=o++b.extract j (j+k);j:=j+k
    if j==b.size then return dnA a b o i j
   o:=o.push (<- elem' a i);i:=i+1
   if i+1==a.size then return dnB a b o i j
   if ac<7&&bc<7 then break
  g:=g+1
  a9M g
 (mq "internal:list.sort.merge-bound")):=rfl
section
variable {κ:KF}{A B o:List Keyed}{i j:Nat}{p:Keyed}
abbrev Srt (κ:KF) (l:List Keyed):Prop:=l.Pairwise λx y=>κ x<=κ y
structure MW (κ:KF) (A B o:List Keyed) (i j:Nat):Prop where
 ia:i<=A.length
 jb:j<=B.length
 pm:(o++(A.drop i++B.drop j)).Perm (A++B)
 so:Srt κ o
 ba:∀ x∈o,∀ y∈A.drop i,κ x<=κ y
 bb:∀ x∈o,∀ y∈B.drop j,κ x<=κ y
theorem MW.size (W:MW κ A B o i j):o.length=i+j:=by
 have:=W.pm.length_eq
 have b:=W.ia;have a:=W.jb;simp at this;omega
theorem drop_get {l:List Keyed}(h:l[n]?=some p):l.drop n=p::l.drop (n+1):=by
 obtain⟨a,e⟩:=fj.mp h;rw[iX a,e]
theorem b0x (h:Srt κ l) (hb:∀ x∈l,κ x<=κ p):Srt κ (l++[p]):=by
 refine fE.mpr ⟨h,iY _ _,λx b y a=>?_⟩;rw[fi.mp a];exact hb x b
theorem a14 (h:Srt κ l) (n:Nat):Srt κ (l.drop n):=gn.sublist (jN n l) h
theorem MW.pushA (W:MW κ A B o i j) (sa:Srt κ A) (hp:A[i]?=some p) (hb:∀ y∈B.drop j,κ p<=κ y):MW κ A B (o++[p]) (i+1) j:=by
 have c:=drop_get hp;have d:=(fj.mp hp).1;have e:=c▸a14 sa i;refine⟨d,W.jb,?_,b0x W.so λx b=>W.ba x b p (by simp_all),λx b y a=>?_,λx b y a=>?_⟩
 ·have:=W.pm
  rw[c]at this;simpa using this
 ·rcases fg.mp b with h | h
  ·exact W.ba x h y (by simp_all)
  ·rw[fi.mp h];exact (fG.mp e).1 y a
 ·rcases fg.mp b with h | h
  ·exact W.bb x h y a
  ·rw[fi.mp h];exact hb y a
theorem MW.pushB (W:MW κ A B o i j) (sb:Srt κ B) (hp:B[j]?=some p) (hb:∀ y∈A.drop i,κ p<=κ y):MW κ A B (o++[p]) i (j+1):=by
 have c:=drop_get hp;have d:=(fj.mp hp).1;have e:=c▸a14 sb j;refine⟨W.ia,d,?_,b0x W.so λx b=>W.bb x b p (by simp_all),λx b y a=>?_,λx b y a=>?_⟩
 ·have:=W.pm
  rw[c]at this;refine fO.trans ?_ this;rw[fI];exact fO.append_left o (show (p::(A.drop i++B.drop _)).Perm _ from jO.symm)
 ·rcases fg.mp b with h | h
  ·exact W.ba x h y a
  ·rw[fi.mp h];exact hb y a
 ·rcases fg.mp b with h | h
  ·exact W.bb x h y (by simp_all)
  ·rw[fi.mp h];exact (fG.mp e).1 y a
theorem take_snoc {l:List Keyed}(h:l[n+k]?=some p):(l.drop n).take (k+1)=(l.drop n).take k++[p]:=by
 rw[gG,jg,h];rfl
theorem MW.runA (W:MW κ A B o i j) (sa:Srt κ A):∀ k,i+k<=A.length->(∀ q z,i<=q->q<i+k->A[q]?=some z->∀ y∈B.drop j,κ z<=κ y)->MW κ A B (o++(A.drop i).take k) (i+k) j
 | 0,_,_=>by simpa using W
 | k+1,hk,hz=>by
  have b:=MW.runA W sa k (by omega) λq z a c=>hz q z a (by omega);have e:A[i+k]?=some A[i+k]:=fw (by omega);rw[take_snoc e,<- fI];exact b.pushA sa e (hz _ _ (by omega) (by omega) e)
theorem MW.runB (W:MW κ A B o i j) (sb:Srt κ B):∀ k,j+k<=B.length->(∀ q z,j<=q->q<j+k->B[q]?=some z->∀ y∈A.drop i,κ z<=κ y)->MW κ A B (o++(B.drop j).take k) i (j+k)
 | 0,_,_=>by simpa using W
 | k+1,hk,hz=>by
  have b:=MW.runB W sb k (by omega) λq z a c=>hz q z a (by omega);have e:B[j+k]?=some B[j+k]:=fw (by omega);rw[take_snoc e,<- fI];exact b.pushB sb e (hz _ _ (by omega) (by omega) e)
def Mgd (κ:KF) (A B r:List Keyed):Prop:=r.Perm (A++B)/\Srt κ r
theorem MW.doneA (W:MW κ A B o i j) (sa:Srt κ A) (sb:Srt κ B) (h:i=A.length\/j=B.length):Mgd κ A B (o++A.drop i++B.drop j):=by
 refine⟨by rw[fI];exact W.pm,?_⟩;rw[fI];refine fE.mpr ⟨W.so,fE.mpr ⟨a14 sa i,a14 sb j,λx a y b=>?_⟩,λx a y b=>?_⟩
 ·rcases h with rfl | rfl
  ·simp_all
  ·simp_all
 ·rcases fg.mp b with h | h
  ·exact W.ba x a y h
  ·exact W.bb x a y h
theorem MW.doneB (W:MW κ A B o i j) (sa:Srt κ A) (sb:Srt κ B) (h:i+1=A.length) (hl:∀ z,A[A.length - 1]?=some z->∀ y∈B,κ y<=κ z):Mgd κ A B (o++B.drop j++A.drop i):=by
 refine⟨?_,?_⟩
 ·rw[fI];exact fO.trans (fO.append_left o jP) W.pm
 ·rw[fI];have e:A[i]?=some A[i]:=fw (by omega);have c:A.drop i=[A[i]]:=by rw[drop_get e,iB (by omega)]
  refine fE.mpr ⟨W.so,fE.mpr ⟨a14 sb j,a14 sa i,λx b y a=>?_⟩,λx b y a=>?_⟩
  ·rw[c]at a;rw[fi.mp a];exact hl _ (by rw[show A.length - 1=i by omega];exact e) x (iZ b)
  ·rcases fg.mp a with h | h
   ·exact W.bb x b y h
   ·exact W.ba x b y h
theorem a2N (h:Srt κ l) (hp:l[n]?=some p):∀ y∈l.drop n,κ p<=κ y:=λy a=>by
 have b:=a14 h n;rw[drop_get hp]at b a;rcases ft.mp a with rfl | a
 ·exact fU _
 ·exact (fG.mp b).1 y a
end
abbrev SM:=StateT SortSt Sem
abbrev T1:=Option (Array Keyed)×Array Keyed×Nat×Nat×Nat×Nat
abbrev T2:=Option (Array Keyed)×Array Keyed×Nat×Nat×Nat×Nat×Nat
noncomputable def lo1 (a b:Array Keyed) (g:Nat) (o:Array Keyed) (i j ac bc:Nat):SM (ForInStep T1):=do
 let y <- elem' b j
 let x <- elem' a i
 let r <- lt' y x
 match r with
 | some bw=>
  if bw=true then do
   let y <- elem' b j
   if (j+1==b.size)=true then pure (.done (some (dnA a b (o.push y) i (j+1)),o.push y,i,j+1,0,bc+1))
   else if bc+1>=g then pure (.done (none,o.push y,i,j+1,0,bc+1)) else pure (.yield (none,o.push y,i,j+1,0,bc+1))
  else do
   let x <- elem' a i
   if (i+1+1==a.size)=true then pure (.done (some (dnB a b (o.push x) (i+1) j),o.push x,i+1,j,ac+1,0))
   else if ac+1>=g then pure (.done (none,o.push x,i+1,j,ac+1,0)) else pure (.yield (none,o.push x,i+1,j,ac+1,0))
 | _=>pure (.done (some (dnA a b o i j),o,i,j,ac,bc))
noncomputable def lo5 (a b:Array Keyed) (o:Array Keyed) (i j g ac bc:Nat):SM (ForInStep T2):=do
 let x <- elem' a i
 if (i+1+1==a.size)=true then pure (.done (some (dnB a b (o.push x) (i+1) j),o.push x,i+1,j,g,ac,bc))
 else if (decide (ac<7)&&decide (bc<7))=true then pure (.done (none,o.push x,i+1,j,g,ac,bc)) else pure (.yield (none,o.push x,i+1,j,g,ac,bc))
noncomputable def lo4 (a b:Array Keyed) (o:Array Keyed) (i j g ac bc:Nat):SM (ForInStep T2):=do
 let y <- elem' b j
 if (j+1==b.size)=true then pure (.done (some (dnA a b (o.push y) i (j+1)),o.push y,i,j+1,g,ac,bc))
 else do
  let x <- elem' a i
  let r <- a2u true x b (j+1) (b.size - (j+1)) 0
  match r with
  | some k=>
   if k > 0 then
    if (j+1+k==b.size)=true then pure (.done (some (dnA a b (o.push y++b.extract (j+1) (j+1+k)) i (j+1+k)),o.push y++b.extract (j+1) (j+1+k),i,j+1+k,g,ac,k))
    else lo5 a b (o.push y++b.extract (j+1) (j+1+k)) i (j+1+k) g ac k
   else lo5 a b (o.push y) i (j+1) g ac k
  | _=>pure (.done (some (dnA a b (o.push y) i (j+1)),o.push y,i,j+1,g,ac,bc))
noncomputable def lo3 (a b:Array Keyed) (o:Array Keyed) (i j g ac bc:Nat):SM (ForInStep T2):=do
 a9M g
 let y <- elem' b j
 let r <- a2u false y a i (a.size - i) 0
 match r with
 | some k=>
  if k > 0 then
   if (i+k+1==a.size)=true then pure (.done (some (dnB a b (o++a.extract i (i+k)) (i+k) j),o++a.extract i (i+k),i+k,j,g,k,bc))
   else if (i+k==a.size)=true then pure (.done (some (dnA a b (o++a.extract i (i+k)) (i+k) j),o++a.extract i (i+k),i+k,j,g,k,bc))
   else lo4 a b (o++a.extract i (i+k)) (i+k) j g k bc
  else lo4 a b o i j g k bc
 | _=>pure (.done (some (dnA a b o i j),o,i,j,g,ac,bc))
noncomputable def lo2 (a b:Array Keyed) (o:Array Keyed) (i j g ac bc:Nat):SM (ForInStep T2):=
 if g > 1 then lo3 a b o i j (g - 1) ac bc else lo3 a b o i j g ac bc
theorem bd2 {α β:Type}{x y:SM α}{f g:α->SM β}(h:x=y) (h2:∀ a,f a=g a):x >>= f=y >>= g:=by rw[h,funext h2]
theorem a8M (a b:Array Keyed):a5P a b=(do
  liftM (rule "list.sort.merge-lo")
  let y <- elem' b 0
  if (1==b.size)=true then pure (dnA a b #[y] 0 1)
  else if (0+1==a.size)=true then pure (dnB a b #[y] 0 1)
  else do
   let st <- get
   let c <- forIn [0:a.size+b.size] ((none,#[y],0,1,mR st):Option (Array Keyed)×Array Keyed×Nat×Nat×Nat) λ_ c=>do
    let c1 <- forIn [0:a.size+b.size] ((none,c.2.1,c.2.2.1,c.2.2.2.1,0,0):T1) λ_ c1=>lo1 a b c.2.2.2.2 c1.2.1 c1.2.2.1 c1.2.2.2.1 c1.2.2.2.2.1 c1.2.2.2.2.2
    match c1.1 with
    | some r=>pure (ForInStep.done (some r,c1.2.1,c1.2.2.1,c1.2.2.2.1,c.2.2.2.2))
    | none=>do
     liftM (rule "list.sort.gallop")
     let c2 <- forIn [0:a.size+b.size] ((none,c1.2.1,c1.2.2.1,c1.2.2.2.1,c.2.2.2.2+1,c1.2.2.2.2.1,c1.2.2.2.2.2):T2) λ_ c2=>lo2 a b c2.2.1 c2.2.2.1 c2.2.2.2.1 c2.2.2.2.2.1 c2.2.2.2.2.2.1 c2.2.2.2.2.2.2
     match c2.1 with
     | some r=>pure (ForInStep.done (some r,c2.2.1,c2.2.2.1,c2.2.2.2.1,c2.2.2.2.2.1))
     | none=>do
      a9M (c2.2.2.2.2.1+1)
      pure (ForInStep.yield (none,c2.2.1,c2.2.2.1,c2.2.2.2.1,c2.2.2.2.2.1+1))
   match c.1 with
   | some r=>pure r
   | none=>mq "internal:list.sort.merge-bound"):=by
 rw[a9N];refine bind_congr λ_=>bind_congr λy=>?_;dsimp only
 congr 1
 congr 1
 refine bind_congr λk=>?_;refine bd2 ?_ λc=>?_
 ·congr 1
  funext x c
  obtain⟨r,o,i,j,g⟩:=c;dsimp only;refine bd2 ?_ λe=>?_
  ·congr 1
  ·obtain⟨r,o,i,j,d,f⟩:=e;cases r with
   | some r=>rfl
   | none=>
    refine bind_congr λ_=>?_;refine bd2 ?_ λh=>?_
    ·congr 1
    ·obtain⟨r,o,i,j,g,d,f⟩:=h;cases r<;>rfl
 ·obtain⟨r,o,i,j,g⟩:=c;cases r<;>rfl
structure SG (st st':SortSt):Prop where
 kd:kindOf st'=kindOf st
 ar:arrOf st'=arrOf st
 pe:kB st'=kB st
 fl:kQ st'=kQ st
theorem SG.refl (st:SortSt):SG st st:=⟨rfl,rfl,rfl,rfl⟩
theorem SG.trans (p:SG x y) (q:SG y z):SG x z:=⟨q.kd.trans p.kd,q.ar.trans p.ar,q.pe.trans p.pe,q.fl.trans p.fl⟩
section
variable {κ:KF}{a b o:Array Keyed}{i j:Nat}
theorem a4r:(dnA a b o i j).toList=o.toList++a.toList.drop i++b.toList.drop j:=by
 simp[gI]
theorem a5Q:(dnB a b o i j).toList=o.toList++b.toList.drop j++a.toList.drop i:=by
 simp[gI]
theorem b0y:(o++a.extract i (i+k)).toList=o.toList++(a.toList.drop i).take k:=by
 simp[i3]
theorem a1r (h:i<a.size):a.toList[i]?=some a[i]:=by simp[h]
theorem a1D (h:i<a.size):Kk κ a i=κ a[i]:=a9L (getElem?_pos ..)
theorem a4s (h:Srt κ a.toList) (hn:i+n<=a.size):∀ p q,p<=q->q<n->Kk κ a (i+p)<=Kk κ a (i+q):=λp q b c=>by
 rw[a1D (show i+p<a.size by omega),a1D (show i+q<a.size by omega)]
 by_cases e:p=q
 ·simp_all
 ·have:=ig.mp h (i+p) (i+q) (by simp;omega) (by simp;omega) (by omega)
  simpa using this
end
structure MC (M:Model) (A:Around) (E:Value->Shared->Prop) (s:Shared) (κ:KF) (k0:kU) (ajj a b:Array Keyed):Prop where
 L:LtOk M A E s κ k0 ajj
 ha:∀ p∈a.toList,p∈ajj.toList
 hb:∀ p∈b.toList,p∈ajj.toList
 sa:Srt κ a.toList
 sb:Srt κ b.toList
 h0:0<a.size
 h1:0<b.size
 hf:∀ y∈a.toList,Kk κ b 0<=κ y
 hl:∀ z,a.toList[a.toList.length - 1]?=some z->∀ y∈b.toList,κ y<=κ z
structure Rdy (κ:KF) (a b o:Array Keyed) (i j:Nat):Prop where
 w:MW κ a.toList b.toList o.toList i j
 hi:i+1<a.size
 hj:j<b.size
section
variable {M:Model}{A:Around}{E:Value->Shared->Prop}{s:Shared}{κ:KF}{k0:kU}{ajj a b o:Array Keyed}{st:SortSt}{i j g ac bc:Nat}
theorem a7o {α:Type}{f:Unit->SM α}{Q:α->SortSt->Prop}(h:wpS M A E s (f ()) Q st):wpS M A E s ((liftM (rule w):SM Unit) >>= f) Q st:=
 ko (mS (l7 ⟨rfl,h⟩))
theorem a1S (a:Array Keyed):a.toList.length=a.size:=by simp
theorem c1U (C:MC M A E s κ k0 ajj a b) (hk:kindOf st=k0) (R:Rdy κ a b o i j)
  (dn:∀ r c,Mgd κ a.toList b.toList r.toList->Q (.done (some r,c)) st)
  (br:∀ o' i' j' x y,Rdy κ a b o' i' j'->i'+j'=i+j+1->Q (.done (none,o',i',j',x,y)) st)
  (go:∀ o' i' j' x y,Rdy κ a b o' i' j'->i'+j'=i+j+1->Q (.yield (none,o',i',j',x,y)) st):wpS M A E s (lo1 a b g o i j ac bc) Q st:=by
 have q:=R.hi;have n:=R.hj;have p:b[j]?=some b[j]:=getElem?_pos ..;have m:a[i]?=some a[i]:=getElem?_pos ..;have h:=a1r n;have l:=a1r (a:=a) (i:=i) (by omega);unfold lo1;refine ko (a1c p (ko (a1c m (ko ?_))));refine C.L _ _ (C.hb _ (fA h)) (C.ha _ (fA l)) st _ hk ?_;dsimp only
 by_cases c:κ b[j]<κ a[i]
 ·rw[if_pos (decide_eq_true c)];refine ko (a1c p ?_);have d:=R.w.pushB C.sb h λy k=>fJ (gb c) (a2N C.sa l y k);rw[<- gc]at d
  by_cases e:j+1=b.size
  ·rw[if_pos (by simpa using e)];exact kt (dn _ _ (by rw[a4r];exact d.doneA C.sa C.sb (.inr (by rw[a1S];exact e))))
  ·rw[if_neg (by simpa using e)];have f:Rdy κ a b (o.push b[j]) i (j+1):=⟨d,q,by omega⟩
   split
   ·exact kt (br _ _ _ _ _ f (by omega))
   ·exact kt (go _ _ _ _ _ f (by omega))
 ·rw[if_neg (by simpa using c)];refine ko (a1c m ?_);have d:=R.w.pushA C.sa l λy k=>fJ (i5.mp c) (a2N C.sb h y k);rw[<- gc]at d
  by_cases e:i+1+1=a.size
  ·rw[if_pos (by simpa using e)];exact kt (dn _ _ (by rw[a5Q];exact d.doneB C.sa C.sb (by rw[a1S];exact e) C.hl))
  ·rw[if_neg (by simpa using e)];have f:Rdy κ a b (o.push a[i]) (i+1) j:=⟨d,by omega,n⟩
   split
   ·exact kt (br _ _ _ _ _ f (by omega))
   ·exact kt (go _ _ _ _ _ f (by omega))
structure G2 (st:SortSt) (κ:KF) (a b:Array Keyed) (n:Nat) (Q:ForInStep T2->SortSt->Prop):Prop where
 dn:∀ r c st',SG st st'->Mgd κ a.toList b.toList r.toList->Q (.done (some r,c)) st'
 br:∀ o' i' j' x y z st',SG st st'->Rdy κ a b o' i' j'->n<i'+j'->Q (.done (none,o',i',j',x,y,z)) st'
 go:∀ o' i' j' x y z st',SG st st'->Rdy κ a b o' i' j'->n<i'+j'->Q (.yield (none,o',i',j',x,y,z)) st'
theorem b9N (C:MC M A E s κ k0 ajj a b) (R:Rdy κ a b o i j) (hle:∀ y∈b.toList.drop j,Kk κ a i<=κ y) (H:G2 st κ a b n Q) (hn:n<=i+j):wpS M A E s (lo5 a b o i j g ac bc) Q st:=by
 have l:=R.hi;have k:=R.hj;have h:a[i]?=some a[i]:=getElem?_pos ..;have f:=a1r (a:=a) (i:=i) (by omega);rw[a1D (show i<a.size by omega)]at hle;unfold lo5;refine ko (a1c h ?_);have c:=R.w.pushA C.sa f hle;rw[<- gc]at c
 by_cases e:i+1+1=a.size
 ·rw[if_pos (by simpa using e)];exact kt (H.dn _ _ _ (SG.refl _) (by rw[a5Q];exact c.doneB C.sa C.sb (by rw[a1S];exact e) C.hl))
 ·rw[if_neg (by simpa using e)];have d:Rdy κ a b (o.push a[i]) (i+1) j:=⟨c,by omega,k⟩
  split
  ·exact kt (H.br _ _ _ _ _ _ _ (SG.refl _) d (by omega))
  ·exact kt (H.go _ _ _ _ _ _ _ (SG.refl _) d (by omega))
theorem a31 {l:List Keyed}(h:y∈l.drop n):∃ q,n<=q/\q<l.length/\l[q]?=some y:=by
 obtain⟨m,a⟩:=ii h;rw[jg]at a;exact⟨n+m,by omega,(fj.mp a).1,a⟩
theorem a6g (h:a.toList[q]?=some z):Kk κ a q=κ z:=a9L (by simp_all)
theorem b9O (C:MC M A E s κ k0 ajj a b) (hk:kindOf st=k0) (R:Rdy κ a b o i j) (hle:∀ y∈a.toList.drop i,Kk κ b j<=κ y) (H:G2 st κ a b n Q) (hn:n<=i+j):wpS M A E s (lo4 a b o i j g ac bc) Q st:=by
 have m:=R.hi;have t:=R.hj;have x:b[j]?=some b[j]:=getElem?_pos ..;have D:=a1r t;have F:a[i]?=some a[i]:=getElem?_pos ..;have p:=a1r (a:=a) (i:=i) (by omega);rw[a1D t]at hle;unfold lo4;refine ko (a1c x ?_);have d:=R.w.pushB C.sb D hle;rw[<- gc]at d
 by_cases e:j+1=b.size
 ·rw[if_pos (by simpa using e)];exact kt (H.dn _ _ _ (SG.refl _) (by rw[a4r];exact d.doneA C.sa C.sb (.inr (by rw[a1S];exact e))))
 ·rw[if_neg (by simpa using e)];refine ko (a1c F (ko ?_));refine a3w C.L hk (C.ha _ (fA p)) C.hb (by omega) (by omega) (a4s C.sb (by omega)) λk G v r=>?_;dsimp only;have c:∀ y∈b.toList.drop (j+1+k),Kk κ a i<=κ y:=λy h=>by
   obtain⟨q,B,u,l⟩:=a31 h;rw[a1S]at u
   have:=r (q - (j+1)) (by omega) (by omega)
   rw[show j+1+(q - (j+1))=q by omega,a6g l]at this;simp[bq]at this;rw[a1D (show i<a.size by omega)];omega
  split
  ·have f:=d.runB C.sb k (by rw[a1S];omega) λq z B u l y h=>by
    have:=v (q - (j+1)) (by omega)
    rw[show j+1+(q - (j+1))=q by omega,a6g l]at this;simp[bq]at this;exact fJ (gb this) (a2N C.sa p y h)
   rw[<- b0y]at f
   by_cases e2:j+1+k=b.size
   ·rw[if_pos (by simpa using e2)];exact kt (H.dn _ _ _ (SG.refl _) (by rw[a4r];exact f.doneA C.sa C.sb (.inr (by rw[a1S];exact e2))))
   ·rw[if_neg (by simpa using e2)];exact b9N C ⟨f,m,by omega⟩ c H (by omega)
  ·have:k=0:=by omega
   subst this;exact b9N C ⟨d,m,by omega⟩ c H (by omega)
theorem c1V (C:MC M A E s κ k0 ajj a b) (hk:kindOf st=k0) (R:Rdy κ a b o i j) (H:G2 st κ a b n Q) (hn:n<=i+j):wpS M A E s (lo3 a b o i j g ac bc) Q st:=by
 have I:=R.hi;have h:=R.hj;have G:b[j]?=some b[j]:=getElem?_pos ..;have B:=a1r h;unfold lo3;rw[a7Y];refine ko (kZ ?_);have m:SG st (SortSt.mk' _ (arrOf st) _ g _):=⟨rfl,rfl,rfl,rfl⟩;have e:kindOf (SortSt.mk' _ (arrOf st) (kB st) g (kQ st))=k0:=hk;generalize SortSt.mk' (kindOf st) (arrOf st) (kB st) g (kQ st)=st1 at m e;have l:G2 st1 κ a b n Q:=⟨λr c d g=>H.dn r c d (m.trans g),λ_ _ _ _ _ _ d g=>H.br _ _ _ _ _ _ d (m.trans g),λ_ _ _ _ _ _ d g=>H.go _ _ _ _ _ _ d (m.trans g)⟩;refine ko (a1c G (ko ?_));refine a3w C.L e (C.hb _ (fA B)) C.ha (by omega) (by omega) (a4s C.sa (by omega)) λk J D x=>?_;dsimp only;have f:∀ y∈a.toList.drop (i+k),Kk κ b j<=κ y:=λy t=>by
  obtain⟨q,F,v,u⟩:=a31 t;rw[a1S]at v
  have:=x (q - i) (by omega) (by omega)
  rw[show i+(q - i)=q by omega,a6g u]at this;simp[bq]at this;rw[a1D h];omega
 split
 ·have p:=R.w.runA C.sa k (by rw[a1S];omega) λq z F v u y t=>by
   have:=D (q - i) (by omega)
   rw[show i+(q - i)=q by omega,a6g u]at this;simp[bq]at this;exact fJ this (a2N C.sb B y t)
  rw[<- b0y]at p
  by_cases e1:i+k+1=a.size
  ·rw[if_pos (by simpa using e1)];exact kt (l.dn _ _ _ (SG.refl _) (by rw[a5Q];exact p.doneB C.sa C.sb (by rw[a1S];exact e1) C.hl))
  ·rw[if_neg (by simpa using e1)]
   by_cases e2:i+k=a.size
   ·rw[if_pos (by simpa using e2)];exact kt (l.dn _ _ _ (SG.refl _) (by rw[a4r];exact p.doneA C.sa C.sb (.inl (by rw[a1S];exact e2))))
   ·rw[if_neg (by simpa using e2)];exact b9O C e ⟨p,by omega,h⟩ f l (by omega)
 ·have:k=0:=by omega
  subst this;exact b9O C e ⟨R.w,I,h⟩ f l (by omega)
theorem c1W (C:MC M A E s κ k0 ajj a b) (hk:kindOf st=k0) (R:Rdy κ a b o i j) (H:G2 st κ a b n Q) (hn:n<=i+j):wpS M A E s (lo2 a b o i j g ac bc) Q st:=by
 unfold lo2
 split<;>exact c1V C hk R H hn
theorem b4U (C:MC M A E s κ k0 ajj a b):MW κ a.toList b.toList [b[0]'C.h1] 0 1:=by
 have c:=a1r C.h1;have e:MW κ a.toList b.toList [] 0 0:=⟨fL _,fL _,by simp,.nil,λx h=>by simp at h,λx h=>by simp at h⟩;exact e.pushB C.sb c λy d=>by rw[<- a1D (κ:=κ) C.h1];exact C.hf y (by simp_all)
theorem b20 (C:MC M A E s κ k0 ajj a b) (hk:kindOf st=k0)
  (h:∀ r st',SG st st'->Mgd κ a.toList b.toList r.toList->Q r st'):wpS M A E s (a5P a b) Q st:=by
 have h0:=C.h0;have h1:=C.h1;rw[a8M];refine a7o ?_;refine ko (a1c (getElem?_pos b 0 C.h1) ?_);have w0:=b4U C
 by_cases e1:1=b.size
 ·rw[if_pos (by simpa using e1)];exact kt (h _ _ (SG.refl _) (by rw[a4r];exact w0.doneA C.sa C.sb (.inr (by grind))))
 rw[if_neg (by simpa using e1)]
 by_cases e2:0+1=a.size
 ·rw[if_pos (by simpa using e2)];exact kt (h _ _ (SG.refl _) (by rw[a5Q];exact w0.doneB C.sa C.sb (by rw[a1S];exact e2) C.hl))
 rw[if_neg (by simpa using e2)];refine ko (kW ?_);have R0:Rdy κ a b #[b[0]] 0 1:=⟨w0,by omega,by omega⟩;refine ko (kP (kK (I:=λx c e=>∃ o i j g,c=(none,o,i,j,g)/\SG st e/\Rdy κ a b o i j/\x<i+j)
  (Q:=λc e=>∃ r F,c=(some r,F)/\SG st e/\Mgd κ a.toList b.toList r.toList) ?step ?fin ⟨_,_,_,_,rfl,SG.refl _,R0,by omega⟩) ?post)
 case post=>
  rintro c e ⟨r,F,rfl,H,m⟩;exact kt (h r e H m)
 case fin=>
  rintro c e ⟨o,i,j,g,rfl,H,R,hx⟩
  have:=R.hi
  have:=R.hj
  omega
 case step=>
  rintro x c e _ hx ⟨o,i,j,g,rfl,H,R,hxi⟩;dsimp only;have hk1:=H.kd.trans hk;refine ko (kP (kK (I:=λy c f=>∃ D l k J T,c=(none,D,l,k,J,T)/\f=e/\Rdy κ a b D l k/\i+j+y<=l+k)
   (Q:=λc f=>f=e/\((∃ r F,c=(some r,F)/\Mgd κ a.toList b.toList r.toList)\/∃ D l k J T,c=(none,D,l,k,J,T)/\Rdy κ a b D l k/\i+j<=l+k)) ?st1 ?fi1 ⟨_,_,_,_,_,rfl,rfl,R,by omega⟩) ?po1)
  case fi1=>
   rintro c f ⟨D,l,k,J,T,rfl,rfl,L,hy⟩
   have:=L.hi
   have:=L.hj
   omega
  case st1=>
   rintro y c f _ hy ⟨D,l,k,J,T,rfl,rfl,L,hyi⟩;dsimp only;refine c1U C hk1 L (λr c m=>⟨rfl,.inl ⟨r,c,rfl,m⟩⟩) (λo2 i2 j2 u v X V=>⟨rfl,.inr ⟨_,_,_,_,_,rfl,X,by omega⟩⟩) λo2 i2 j2 u v X V=>⟨_,_,_,_,_,rfl,rfl,X,by omega⟩
  case po1=>
   rintro c f ⟨rfl,⟨r,F,rfl,m⟩ | ⟨D,l,k,J,T,rfl,L,hij⟩⟩
   ·exact kt ⟨r,_,rfl,H,m⟩
   ·dsimp only;refine a7o ?_;refine ko (kP (kK (I:=λy c B=>∃ G q p S z t,c=(none,G,q,p,S,z,t)/\SG st B/\Rdy κ a b G q p/\l+k+y<=q+p)
     (Q:=λc B=>SG st B/\((∃ r F,c=(some r,F)/\Mgd κ a.toList b.toList r.toList)\/∃ G q p S z t,c=(none,G,q,p,S,z,t)/\Rdy κ a b G q p/\l+k<q+p)) ?f ?fi2 ⟨_,_,_,_,_,_,rfl,H,L,by omega⟩) ?po2)
    case fi2=>
     rintro c B ⟨G,q,p,S,z,t,rfl,d,N,hy⟩
     have:=N.hi
     have:=N.hj
     omega
    case f=>
     rintro y c B _ hy ⟨G,q,p,S,z,t,rfl,d,N,hyi⟩;dsimp only;refine c1W C (d.kd.trans hk) N ⟨λr c W U m=>⟨d.trans U,.inl ⟨r,c,rfl,m⟩⟩,λo4 i4 j4 u v w W U Y V=>⟨d.trans U,.inr ⟨_,_,_,_,_,_,rfl,Y,by omega⟩⟩,λo4 i4 j4 u v w W U Y V=>⟨_,_,_,_,_,_,rfl,d.trans U,Y,by omega⟩⟩ (ff _)
    case po2=>
     rintro c B ⟨d,⟨r,F,rfl,m⟩ | ⟨G,q,p,S,z,t,rfl,N,V⟩⟩
     ·exact kt ⟨r,_,rfl,d,m⟩
     ·dsimp only;refine ko (kZ (kt ?_));exact⟨_,_,_,_,rfl,⟨d.kd,d.ar,d.pe,d.fl⟩,N,by omega⟩
end
def a7Z:Array Keyed->Array Keyed->SM (Array Keyed):=sortPriv% PySem.Builtin.mergeHi
abbrev hnA (a b o:Array Keyed) (u v:Nat):Array Keyed:=a.extract 0 u++b.extract 0 v++o.reverse
abbrev hnB (a b o:Array Keyed) (u v:Nat):Array Keyed:=b.extract 0 v++a.extract 0 u++o.reverse
abbrev H1:=Option (Array Keyed)×Nat×Nat×Array Keyed×Nat×Nat
abbrev H2:=Option (Array Keyed)×Nat×Nat×Array Keyed×Nat×Nat×Nat
noncomputable def hi1 (a b:Array Keyed) (g u v:Nat) (o:Array Keyed) (ac bc:Nat):SM (ForInStep H1):=do
 let y <- elem' b (v - 1)
 let x <- elem' a (u - 1)
 let r <- lt' y x
 match r with
 | some aw=>
  if aw=true then do
   let x <- elem' a (u - 1)
   if (u - 1==0)=true then pure (.done (some (hnA a b (o.push x) (u - 1) v),u - 1,v,o.push x,ac+1,0))
   else if ac+1>=g then pure (.done (none,u - 1,v,o.push x,ac+1,0)) else pure (.yield (none,u - 1,v,o.push x,ac+1,0))
  else do
   let y <- elem' b (v - 1)
   if (v - 1==1)=true then pure (.done (some (hnB a b (o.push y) u (v - 1)),u,v - 1,o.push y,0,bc+1))
   else if bc+1>=g then pure (.done (none,u,v - 1,o.push y,0,bc+1)) else pure (.yield (none,u,v - 1,o.push y,0,bc+1))
 | _=>pure (.done (some (hnA a b o u v),u,v,o,ac,bc))
noncomputable def hi5 (a b:Array Keyed) (u v:Nat) (o:Array Keyed) (g ac bc:Nat):SM (ForInStep H2):=do
 let x <- elem' a (u - 1)
 if (u - 1==0)=true then pure (.done (some (hnA a b (o.push x) (u - 1) v),u - 1,v,o.push x,g,ac,bc))
 else if (decide (ac<7)&&decide (bc<7))=true then pure (.done (none,u - 1,v,o.push x,g,ac,bc)) else pure (.yield (none,u - 1,v,o.push x,g,ac,bc))
noncomputable def hi4 (a b:Array Keyed) (u v:Nat) (o:Array Keyed) (g ac bc:Nat):SM (ForInStep H2):=do
 let y <- elem' b (v - 1)
 if (v - 1==1)=true then pure (.done (some (hnB a b (o.push y) u (v - 1)),u,v - 1,o.push y,g,ac,bc))
 else do
  let x <- elem' a (u - 1)
  let r <- a2u true x b 0 (v - 1) (v - 1 - 1)
  match r with
  | some p=>
   if v - 1 - p > 0 then
    if (p==1)=true then pure (.done (some (hnB a b (o.push y++(b.extract p (v - 1)).reverse) u p),u,p,o.push y++(b.extract p (v - 1)).reverse,g,ac,v - 1 - p))
    else if (p==0)=true then pure (.done (some (hnA a b (o.push y++(b.extract p (v - 1)).reverse) u p),u,p,o.push y++(b.extract p (v - 1)).reverse,g,ac,v - 1 - p))
    else hi5 a b u p (o.push y++(b.extract p (v - 1)).reverse) g ac (v - 1 - p)
   else hi5 a b u (v - 1) (o.push y) g ac (v - 1 - p)
  | _=>pure (.done (some (hnA a b (o.push y) u (v - 1)),u,v - 1,o.push y,g,ac,bc))
noncomputable def hi3 (a b:Array Keyed) (u v:Nat) (o:Array Keyed) (g ac bc:Nat):SM (ForInStep H2):=do
 a9M g
 let y <- elem' b (v - 1)
 let r <- a2u false y a 0 u (u - 1)
 match r with
 | some p=>
  if u - p > 0 then
   if (p==0)=true then pure (.done (some (hnA a b (o++(a.extract p u).reverse) p v),p,v,o++(a.extract p u).reverse,g,u - p,bc))
   else hi4 a b p v (o++(a.extract p u).reverse) g (u - p) bc
  else hi4 a b u v o g (u - p) bc
 | _=>pure (.done (some (hnA a b o u v),u,v,o,g,ac,bc))
noncomputable def hi2 (a b:Array Keyed) (u v:Nat) (o:Array Keyed) (g ac bc:Nat):SM (ForInStep H2):=
 if g > 1 then hi3 a b u v o (g - 1) ac bc else hi3 a b u v o g ac bc
theorem a8N (a b:Array Keyed):a7Z a b=(do
  liftM (rule "list.sort.merge-hi")
  let x <- elem' a (a.size - 1)
  if (a.size - 1==0)=true then pure (hnA a b #[x] (a.size - 1) b.size)
  else if (b.size==1)=true then pure (hnB a b #[x] (a.size - 1) b.size)
  else do
   let st <- get
   let c <- forIn [0:a.size+b.size] ((none,a.size - 1,b.size,#[x],mR st):Option (Array Keyed)×Nat×Nat×Array Keyed×Nat) λ_ c=>do
    let c1 <- forIn [0:a.size+b.size] ((none,c.2.1,c.2.2.1,c.2.2.2.1,0,0):H1) λ_ c1=>hi1 a b c.2.2.2.2 c1.2.1 c1.2.2.1 c1.2.2.2.1 c1.2.2.2.2.1 c1.2.2.2.2.2
    match c1.1 with
    | some r=>pure (ForInStep.done (some r,c1.2.1,c1.2.2.1,c1.2.2.2.1,c.2.2.2.2))
    | none=>do
     liftM (rule "list.sort.gallop")
     let c2 <- forIn [0:a.size+b.size] ((none,c1.2.1,c1.2.2.1,c1.2.2.2.1,c.2.2.2.2+1,c1.2.2.2.2.1,c1.2.2.2.2.2):H2) λ_ c2=>hi2 a b c2.2.1 c2.2.2.1 c2.2.2.2.1 c2.2.2.2.2.1 c2.2.2.2.2.2.1 c2.2.2.2.2.2.2
     match c2.1 with
     | some r=>pure (ForInStep.done (some r,c2.2.1,c2.2.2.1,c2.2.2.2.1,c2.2.2.2.2.1))
     | none=>do
      a9M (c2.2.2.2.2.1+1)
      pure (ForInStep.yield (none,c2.2.1,c2.2.2.1,c2.2.2.2.1,c2.2.2.2.2.1+1))
   match c.1 with
   | some r=>pure r
   | none=>mq "internal:list.sort.merge-bound"):=by
 refine bind_congr λ_=>bind_congr λy=>?_;dsimp only
 congr 1
 congr 1
 refine bind_congr λi=>?_;refine bd2 ?_ λc=>?_
 ·congr 1
  funext x c
  obtain⟨r,u,v,o,g⟩:=c;dsimp only;refine bd2 ?_ λd=>?_
  ·congr 1
  ·obtain⟨r,u,v,o,h,f⟩:=d;cases r with
   | some r=>rfl
   | none=>
    refine bind_congr λ_=>?_;refine bd2 ?_ λe=>?_
    ·congr 1
    ·obtain⟨r,u,v,o,g,h,f⟩:=e;cases r<;>rfl
 ·obtain⟨r,u,v,o,g⟩:=c;cases r<;>rfl
section
variable {κ:KF}{A B o:List Keyed}{u v:Nat}{p:Keyed}
structure MH (κ:KF) (A B o:List Keyed) (u v:Nat):Prop where
 ia:u<=A.length
 jb:v<=B.length
 pm:(A.take u++B.take v++o.reverse).Perm (A++B)
 so:Srt κ o.reverse
 ba:∀ x∈o,∀ y∈A.take u,κ y<=κ x
 bb:∀ x∈o,∀ y∈B.take v,κ y<=κ x
theorem a9O {l:List Keyed}(h:l[n]?=some p):l.take (n+1)=l.take n++[p]:=by
 rw[gG,h];rfl
theorem a2O (h:Srt κ l) (n:Nat):Srt κ (l.take n):=gn.sublist (jf n l) h
theorem a3x (h:Srt κ l) (e:l[n]?=some p):∀ y∈l.take (n+1),κ y<=κ p:=λy a=>by
 have b:=a2O h (n+1);rw[a9O e]at b a;rcases fg.mp a with a | a
 ·exact (fE.mp b).2.2 y a p (by simp)
 ·simp_all
theorem MH.pushA (W:MH κ A B o (u+1) v) (sa:Srt κ A) (hp:A[u]?=some p) (hb:∀ y∈B.take v,κ y<=κ p):MH κ A B (o++[p]) u v:=by
 have c:=a9O hp;have d:=(fj.mp hp).1;refine⟨by omega,W.jb,?_,?_,λx b y a=>?_,λx b y a=>?_⟩
 ·have:=W.pm
  rw[c]at this;refine fO.trans ?_ this;rw[gT,g8];simp;refine fO.append_left _ ?_;exact jO
 ·rw[gT,g8,i6];refine fG.mpr ⟨λx b=>?_,W.so⟩;exact W.ba x (by simpa using b) p (by rw[c];simp)
 ·rcases fg.mp b with h | h
  ·exact W.ba x h y (by simp_all)
  ·rw[fi.mp h];exact a3x sa hp y (by simp_all)
 ·rcases fg.mp b with h | h
  ·exact W.bb x h y a
  ·simp_all
theorem MH.pushB (W:MH κ A B o u (v+1)) (sb:Srt κ B) (hp:B[v]?=some p) (hb:∀ y∈A.take u,κ y<=κ p):MH κ A B (o++[p]) u v:=by
 have c:=a9O hp;have d:=(fj.mp hp).1;refine⟨W.ia,by omega,?_,?_,λx b y a=>?_,λx b y a=>?_⟩
 ·have:=W.pm
  rw[c]at this;refine fO.trans ?_ this;rw[gT,g8];simp only[fI];exact fO.refl _
 ·rw[gT,g8,i6];refine fG.mpr ⟨λx b=>?_,W.so⟩;exact W.bb x (by simp_all) p (by simp_all)
 ·rcases fg.mp b with h | h
  ·exact W.ba x h y a
  ·rw[fi.mp h];exact hb y a
 ·rcases fg.mp b with h | h
  ·exact W.bb x h y (by simp_all)
  ·rw[fi.mp h];exact a3x sb hp y (by simp_all)
theorem MH.runA (sa:Srt κ A):∀ (k:Nat) {o:List Keyed},MH κ A B o (u+k) v->(∀ q z,u<=q->q<u+k->A[q]?=some z->∀ y∈B.take v,κ y<=κ z)->MH κ A B (o++((A.drop u).take k).reverse) u v
 | 0,o,W,_=>by simpa using W
 | k+1,o,W,hz=>by
  have a:u+k<A.length:=by have:=W.ia;omega
  have e:=fw a;have b:=MH.pushA W sa e (hz _ _ (by simp) (by simp) e);have d:=MH.runA sa k b λq z c f=>hz q z c (by omega);rw[take_snoc e,gT,g8,<- fI];exact d
theorem MH.runB (sb:Srt κ B):∀ (k:Nat) {o:List Keyed},MH κ A B o u (v+k)->(∀ q z,v<=q->q<v+k->B[q]?=some z->∀ y∈A.take u,κ y<=κ z)->MH κ A B (o++((B.drop v).take k).reverse) u v
 | 0,o,W,_=>by simpa using W
 | k+1,o,W,hz=>by
  have a:v+k<B.length:=by have:=W.jb;omega
  have e:=fw a;have b:=MH.pushB W sb e (hz _ _ (by simp) (by simp) e);have d:=MH.runB sb k b λq z c f=>hz q z c (by omega);rw[take_snoc e,gT,g8,<- fI];exact d
theorem MH.doneA (W:MH κ A B o u v) (sa:Srt κ A) (sb:Srt κ B) (h:u=0\/v=0):Mgd κ A B (A.take u++B.take v++o.reverse):=by
 refine⟨W.pm,?_⟩;refine fE.mpr ⟨fE.mpr ⟨a2O sa u,a2O sb v,λx b y c=>?_⟩,W.so,λx b y c=>?_⟩
 ·rcases h with rfl | rfl
  ·simp_all
  ·simp_all
 ·have a:y∈o:=by simpa using c
  rcases fg.mp b with h | h
  ·exact W.ba y a x h
  ·exact W.bb y a x h
theorem MH.doneB (W:MH κ A B o u 1) (sa:Srt κ A) (sb:Srt κ B) (hf:∀ z,B[0]?=some z->∀ y∈A,κ z<=κ y):Mgd κ A B (B.take 1++A.take u++o.reverse):=by
 refine⟨?_,?_⟩
 ·refine fO.trans ?_ W.pm;exact fO.append_right _ jP
 ·refine fE.mpr ⟨fE.mpr ⟨a2O sb 1,a2O sa u,λx a y c=>?_⟩,W.so,λx a y c=>?_⟩
  ·cases B with
   | nil=>simp at a
   | cons z B=>
    have:x=z:=by simpa using a
    subst this;exact hf x rfl y (gw c)
  ·have b:y∈o:=by simpa using c
   rcases fg.mp a with h | h
   ·exact W.bb y b x h
   ·exact W.ba y b x h
end
section
variable {κ:KF}{a b o:Array Keyed}{u v:Nat}
theorem a4t:(hnA a b o u v).toList=a.toList.take u++b.toList.take v++o.toList.reverse:=by
 simp
theorem a5R:(hnB a b o u v).toList=b.toList.take v++a.toList.take u++o.toList.reverse:=by
 simp
theorem b0z:(o++(a.extract p u).reverse).toList=o.toList++((a.toList.drop p).take (u - p)).reverse:=by
 simp[i3]
end
structure RdH (κ:KF) (a b o:Array Keyed) (u v:Nat):Prop where
 w:MH κ a.toList b.toList o.toList u v
 hu:1<=u
 hv:2<=v
section
variable {M:Model}{A:Around}{E:Value->Shared->Prop}{s:Shared}{κ:KF}{k0:kU}{ajj a b o:Array Keyed}{st:SortSt}{u v g ac bc:Nat}
theorem RdH.ua (R:RdH κ a b o u v):u<=a.size:=by have:=R.w.ia;rwa [a1S]at this
theorem RdH.vb (R:RdH κ a b o u v):v<=b.size:=by have:=R.w.jb;rwa [a1S]at this
theorem MC.first (C:MC M A E s κ k0 ajj a b):∀ z,b.toList[0]?=some z->∀ y∈a.toList,κ z<=κ y:=λz c y d=>by
 have:=C.hf y d
 rwa [a6g c]at this
theorem c1X (C:MC M A E s κ k0 ajj a b) (hk:kindOf st=k0) (R:RdH κ a b o (u+1) (v+1))
  (dn:∀ r c,Mgd κ a.toList b.toList r.toList->Q (.done (some r,c)) st)
  (br:∀ o' u' v' x y,RdH κ a b o' u' v'->u'+v'=u+v+1->Q (.done (none,u',v',o',x,y)) st)
  (go:∀ o' u' v' x y,RdH κ a b o' u' v'->u'+v'=u+v+1->Q (.yield (none,u',v',o',x,y)) st):wpS M A E s (hi1 a b g (u+1) (v+1) o ac bc) Q st:=by
 have q:=R.ua;have t:=R.vb;have m:=R.hu;have p:=R.hv;have l:b[v]?=some b[v]:=getElem?_pos ..;have n:a[u]?=some a[u]:=getElem?_pos ..;have j:=a1r (a:=b) (i:=v) (by omega);have k:=a1r (a:=a) (i:=u) (by omega);unfold hi1;simp only[jh];refine ko (a1c l (ko (a1c n (ko ?_))));refine C.L _ _ (C.hb _ (fA j)) (C.ha _ (fA k)) st _ hk ?_;dsimp only
 by_cases c:κ b[v]<κ a[u]
 ·rw[if_pos (decide_eq_true c)];refine ko (a1c n ?_);have d:=R.w.pushA C.sa k λy h=>fJ (a3x C.sb j y h) (gb c);rw[<- gc]at d
  by_cases e:u=0
  ·rw[if_pos (by simpa using e)];exact kt (dn _ _ (by rw[a4t];exact d.doneA C.sa C.sb (.inl e)))
  ·rw[if_neg (by simpa using e)];have f:RdH κ a b (o.push a[u]) u (v+1):=⟨d,by omega,p⟩
   split
   ·exact kt (br _ _ _ _ _ f (by omega))
   ·exact kt (go _ _ _ _ _ f (by omega))
 ·rw[if_neg (by simpa using c)];refine ko (a1c l ?_);have d:=R.w.pushB C.sb j λy h=>fJ (a3x C.sa k y h) (i5.mp c);rw[<- gc]at d
  by_cases e:v=1
  ·rw[if_pos (by simpa using e)];subst e;exact kt (dn _ _ (by rw[a5R];exact d.doneB C.sa C.sb C.first))
  ·rw[if_neg (by simpa using e)];have f:RdH κ a b (o.push b[v]) (u+1) v:=⟨d,m,by omega⟩
   split
   ·exact kt (br _ _ _ _ _ f (by omega))
   ·exact kt (go _ _ _ _ _ f (by omega))
structure HG (st:SortSt) (κ:KF) (a b:Array Keyed) (n:Nat) (Q:ForInStep H2->SortSt->Prop):Prop where
 dn:∀ r c st',SG st st'->Mgd κ a.toList b.toList r.toList->Q (.done (some r,c)) st'
 br:∀ o' u' v' x y z st',SG st st'->RdH κ a b o' u' v'->u'+v'<n->Q (.done (none,u',v',o',x,y,z)) st'
 go:∀ o' u' v' x y z st',SG st st'->RdH κ a b o' u' v'->u'+v'<n->Q (.yield (none,u',v',o',x,y,z)) st'
theorem b9P (C:MC M A E s κ k0 ajj a b) (R:RdH κ a b o (u+1) v) (hle:∀ y∈b.toList.take v,κ y<=Kk κ a u) (H:HG st κ a b n Q) (hn:u+v<n):wpS M A E s (hi5 a b (u+1) v o g ac bc) Q st:=by
 have k:=R.ua;have f:=R.hv;have j:a[u]?=some a[u]:=getElem?_pos ..;have h:=a1r (a:=a) (i:=u) (by omega);rw[a1D (show u<a.size by omega)]at hle;unfold hi5;simp only[jh];refine ko (a1c j ?_);have c:=R.w.pushA C.sa h hle;rw[<- gc]at c
 by_cases e:u=0
 ·rw[if_pos (by simpa using e)];exact kt (H.dn _ _ _ (SG.refl _) (by rw[a4t];exact c.doneA C.sa C.sb (.inl e)))
 ·rw[if_neg (by simpa using e)];have d:RdH κ a b _ u v:=⟨c,by omega,f⟩
  split
  ·exact kt (H.br _ _ _ _ _ _ _ (SG.refl _) d (by omega))
  ·exact kt (H.go _ _ _ _ _ _ _ (SG.refl _) d (by omega))
theorem a32 {l:List Keyed}(h:y∈l.take n):∃ q,q<n/\l[q]?=some y:=by
 obtain⟨m,a⟩:=ii h;have b:=(fj.mp a).1;rw[ji]at a
 split at a
 ·exact⟨m,by omega,a⟩
 ·grind
theorem b9Q (C:MC M A E s κ k0 ajj a b) (hk:kindOf st=k0) (R:RdH κ a b o (u+1) (v+1)) (hle:∀ y∈a.toList.take (u+1),κ y<=Kk κ b v) (H:HG st κ a b n Q) (hn:u+v<n):wpS M A E s (hi4 a b (u+1) (v+1) o g ac bc) Q st:=by
 have I:=R.ua;have G:=R.vb;have F:=R.hv;have B:b[v]?=some b[v]:=getElem?_pos ..;have x:=a1r (a:=b) (i:=v) (by omega);have t:a[u]?=some a[u]:=getElem?_pos ..;have r:=a1r (a:=a) (i:=u) (by omega);rw[a1D (show v<b.size by omega)]at hle;unfold hi4;simp only[jh];refine ko (a1c B ?_);have d:=R.w.pushB C.sb x hle;rw[<- gc]at d
 by_cases e:v=1
 ·rw[if_pos (by simpa using e)];subst e;exact kt (H.dn _ _ _ (SG.refl _) (by rw[a5R];exact d.doneB C.sa C.sb C.first))
 ·rw[if_neg (by simpa using e)];refine ko (a1c t (ko ?_));refine a3w C.L hk (C.ha _ (fA r)) C.hb (by omega) (by omega) (a4s C.sb (by omega)) λp D j h=>?_;dsimp only;simp only[i7]at j h;have c:∀ y∈b.toList.take p,κ y<=Kk κ a u:=λy k=>by
   obtain⟨q,m,l⟩:=a32 k
   have:=j q m
   rw[a6g l]at this;simp[bq]at this;rw[a1D (show u<a.size by omega)];omega
  split
  ·have f:=MH.runB C.sb (v - p) (by rw[show p+(v - p)=v by omega];exact d) λq z m J l y k=>by
    have:=h q m (by omega)
    rw[a6g l]at this;simp[bq]at this;exact fJ (a3x C.sa r y k) this
   rw[<- b0z]at f
   by_cases e1:p=1
   ·rw[if_pos (by simpa using e1)];subst e1;exact kt (H.dn _ _ _ (SG.refl _) (by rw[a5R];exact f.doneB C.sa C.sb C.first))
   ·rw[if_neg (by simpa using e1)]
    by_cases e2:p=0
    ·rw[if_pos (by simpa using e2)];exact kt (H.dn _ _ _ (SG.refl _) (by rw[a4t];exact f.doneA C.sa C.sb (.inr e2)))
    ·rw[if_neg (by simpa using e2)];exact b9P C ⟨f,by omega,by omega⟩ c H (by omega)
  ·have:p=v:=by omega
   subst this;exact b9P C ⟨d,by omega,by omega⟩ c H (by omega)
theorem c1Y (C:MC M A E s κ k0 ajj a b) (hk:kindOf st=k0) (R:RdH κ a b o (u+1) (v+1)) (H:HG st κ a b n Q) (hn:u+v<n):wpS M A E s (hi3 a b (u+1) (v+1) o g ac bc) Q st:=by
 have S:=R.ua;have N:=R.vb;have F:=R.hv;have I:b[v]?=some b[v]:=getElem?_pos ..;have D:=a1r (a:=b) (i:=v) (by omega);unfold hi3;rw[a7Y];refine ko (kZ ?_);have h:SG st (SortSt.mk' _ _ _ g _):=⟨rfl,rfl,rfl,rfl⟩;have e:kindOf (SortSt.mk' _ (arrOf st) (kB st) g (kQ st))=k0:=hk;generalize SortSt.mk' _ (arrOf st) (kB st) g (kQ st)=st1 at h e;have l:HG st1 κ a b n Q:=⟨λr c d g=>H.dn r c d (h.trans g),λ_ _ _ _ _ _ d g=>H.br _ _ _ _ _ _ d (h.trans g),λ_ _ _ _ _ _ d g=>H.go _ _ _ _ _ _ d (h.trans g)⟩;refine ko (a1c I (ko ?_));refine a3w C.L e (C.hb _ (fA D)) C.ha (by omega) (by omega) (a4s C.sa (by omega)) λp J k j=>?_;dsimp only;simp at k j;have f:∀ y∈a.toList.take p,κ y<=Kk κ b v:=λy m=>by
  obtain⟨q,B,x⟩:=a32 m
  have:=k q B
  rw[a6g x]at this;simp[bq]at this;rw[a1D _];omega
 split
 ·have t:=MH.runA C.sa _ (by rw[show p+(u+1 - p)=u+1 by omega];exact R.w) λq z B T x y m=>by
   have:=j q B (by omega)
   rw[a6g x]at this;simp[bq]at this;exact fJ (a3x C.sb D y m) (gb this)
  rw[<- b0z]at t
  by_cases e1:p=0
  ·rw[if_pos (by simpa using e1)];exact kt (l.dn _ _ _ (SG.refl _) (by rw[a4t];exact t.doneA C.sa C.sb (.inl e1)))
  ·rw[if_neg (by simpa using e1)];obtain⟨G,rfl⟩:∃ G,p=G+1:=⟨p - 1,by omega⟩;exact b9Q C e ⟨t,by omega,F⟩ f l (by omega)
 ·have:p=u+1:=by omega
  subst this;exact b9Q C e R f l (by omega)
theorem c1Z (C:MC M A E s κ k0 ajj a b) (hk:kindOf st=k0) (R:RdH κ a b o (u+1) (v+1)) (H:HG st κ a b n Q) (hn:u+v<n):wpS M A E s (hi2 a b (u+1) (v+1) o g ac bc) Q st:=by
 unfold hi2
 split<;>exact c1Y C hk R H hn
theorem b4V (C:MC M A E s κ k0 ajj a b):MH κ a.toList b.toList [a[a.size - 1]'(by have:=C.h0;omega)] (a.size - 1) b.size:=by
 have f:=C.h0;have c:=a1r (a:=a) (i:=a.size - 1) (by omega);have d:MH κ a.toList b.toList [] (a.size - 1+1) b.size:=⟨by rw[a1S];omega,by rw[a1S];omega,by rw[gI (by rw[a1S];omega),gI (by rw[a1S];omega)];simp,.nil,λx h=>by simp at h,λx h=>by simp at h⟩;exact d.pushA C.sa c λy e=>C.hl _ (by simp) y (gw e)
theorem b21 (C:MC M A E s κ k0 ajj a b) (hk:kindOf st=k0)
  (h:∀ r st',SG st st'->Mgd κ a.toList b.toList r.toList->Q r st'):wpS M A E s (a7Z a b) Q st:=by
 have h0:=C.h0;have h1:=C.h1;rw[a8N];refine a7o ?_;refine ko (a1c (getElem?_pos a (a.size - 1) (by omega)) ?_);have V:=b4V C
 by_cases e1:a.size - 1=0
 ·rw[if_pos (by simpa using e1)];exact kt (h _ _ (SG.refl _) (by rw[a4t];exact V.doneA C.sa C.sb (.inl e1)))
 rw[if_neg (by simpa using e1)]
 by_cases e2:b.size=1
 ·rw[if_pos (by simpa using e2)];refine kt (h _ _ (SG.refl _) ?_);rw[e2]at V;rw[a5R,e2];exact V.doneB C.sa C.sb C.first
 rw[if_neg (by simpa using e2)];refine ko (kW ?_);have R0:RdH κ a b #[a[a.size - 1]] (a.size - 1) b.size:=⟨V,by omega,by omega⟩;refine ko (kP (kK (I:=λx c e=>∃ o u v g,c=(none,u,v,o,g)/\SG st e/\RdH κ a b o u v/\x+(u+v)<a.size+b.size)
  (Q:=λc e=>∃ r G,c=(some r,G)/\SG st e/\Mgd κ a.toList b.toList r.toList) ?step ?fin ⟨_,_,_,_,rfl,SG.refl _,R0,by omega⟩) ?post)
 case post=>
  rintro c e ⟨r,G,rfl,L,m⟩;exact kt (h r e L m)
 case fin=>
  rintro c e ⟨o,u,v,g,rfl,L,R,hx⟩;omega
 case step=>
  rintro x c e _ hx ⟨o,u,v,g,rfl,L,R,hxi⟩;dsimp only;have hk1:kindOf e=k0:=L.kd.trans hk;refine ko (kP (kK (I:=λy c l=>∃ D f i S J,c=(none,f,i,D,S,J)/\l=e/\RdH κ a b D f i/\f+i+y<=u+v)
   (Q:=λc l=>l=e/\((∃ r G,c=(some r,G)/\Mgd κ a.toList b.toList r.toList)\/∃ D f i S J,c=(none,f,i,D,S,J)/\RdH κ a b D f i/\f+i<=u+v)) ?st1 ?fi1 ⟨_,_,_,_,_,rfl,rfl,R,by omega⟩) ?po1)
  case fi1=>
   rintro c l ⟨D,f,i,S,J,rfl,rfl,H,Y⟩;exact⟨rfl,.inr ⟨_,_,_,_,_,rfl,H,by omega⟩⟩
  case st1=>
   rintro y c l _ Y ⟨D,f,i,S,J,rfl,rfl,H,hyi⟩;dsimp only;have hu1:=H.hu;have hv1:=H.hv;obtain⟨f,rfl⟩:∃ z,f=z+1:=⟨f - 1,by omega⟩;obtain⟨i,rfl⟩:∃ z,i=z+1:=⟨i - 1,by omega⟩;refine c1X C hk1 H (λr c m=>⟨rfl,.inl ⟨r,c,rfl,m⟩⟩) (λo2 i2 j2 u v R2 U=>⟨rfl,.inr ⟨_,_,_,_,_,rfl,R2,by omega⟩⟩) λo2 i2 j2 u v R2 U=>⟨_,_,_,_,_,rfl,rfl,R2,by omega⟩
  case po1=>
   rintro c l ⟨rfl,⟨r,G,rfl,m⟩ | ⟨D,f,i,S,J,rfl,H,hij⟩⟩
   ·exact kt ⟨r,_,rfl,L,m⟩
   ·dsimp only;refine a7o ?_;refine ko (kP (kK (I:=λy c p=>∃ B k j N q t,c=(none,k,j,B,N,q,t)/\SG st p/\RdH κ a b B k j/\k+j+y<=f+i)
     (Q:=λc p=>SG st p/\((∃ r G,c=(some r,G)/\Mgd κ a.toList b.toList r.toList)\/∃ B k j N q t,c=(none,k,j,B,N,q,t)/\RdH κ a b B k j/\k+j<f+i)) ?l ?fi2 ⟨_,_,_,_,_,_,rfl,L,H,by omega⟩) ?po2)
    case fi2=>
     rintro c p ⟨B,k,j,N,q,t,rfl,d,F,Y⟩;exact⟨d,.inr ⟨_,_,_,_,_,_,rfl,F,by have:=F.hu;omega⟩⟩
    case l=>
     rintro y c p _ Y ⟨B,k,j,N,q,t,rfl,d,F,hyi⟩;dsimp only;have hu1:=F.hu;have hv1:=F.hv;obtain⟨k,rfl⟩:∃ z,k=z+1:=⟨k - 1,by omega⟩;obtain⟨j,rfl⟩:∃ z,j=z+1:=⟨j - 1,by omega⟩;refine c1Z (n:=k+1+(j+1)) C (d.kd.trans hk) F ⟨λr c W T m=>⟨d.trans T,.inl ⟨r,c,rfl,m⟩⟩,λo4 i4 j4 u v w W T X U=>⟨d.trans T,.inr ⟨_,_,_,_,_,_,rfl,X,by omega⟩⟩,λo4 i4 j4 u v w W T X U=>⟨_,_,_,_,_,_,rfl,d.trans T,X,by omega⟩⟩ (by omega)
    case po2=>
     rintro c p ⟨d,⟨r,G,rfl,m⟩ | ⟨B,k,j,N,q,t,rfl,F,U⟩⟩
     ·exact kt ⟨r,_,rfl,d,m⟩
     ·dsimp only;rw[a7Y];refine ko (kZ (kt ?_));exact⟨_,_,_,_,rfl,⟨d.kd,d.ar,d.pe,d.fl⟩,F,by omega⟩
end
def SR (κ:KF) (xs:Array Keyed) (lo n:Nat):Prop:=∀ i j,i<=j->j<n->Kk κ xs (lo+i)<=Kk κ xs (lo+j)
def NR (κ:KF) (xs:Array Keyed) (lo n:Nat):Prop:=∀ i j,i<=j->j<n->Kk κ xs (lo+j)<=Kk κ xs (lo+i)
structure Ar (st st':SortSt) (lo:Nat):Prop where
 pm:(arrOf st').Perm (arrOf st)
 pre:∀ i,i<lo->(arrOf st')[i]?=(arrOf st)[i]?
 kd:kindOf st'=kindOf st
 pe:kB st'=kB st
 fl:kQ st'=kQ st
section
variable {M:Model}{A:Around}{E:Value->Shared->Prop}{s:Shared}{κ:KF}{k0:kU}{ajj:Array Keyed}{st st':SortSt}{lo:Nat}
theorem Ar.refl (st:SortSt) (lo:Nat):Ar st st lo:=⟨iC.refl _,λ_ _=>rfl,rfl,rfl,rfl⟩
theorem Ar.trans (p:Ar x y lo) (q:Ar y z lo):Ar x z lo:=⟨q.pm.trans p.pm,λi h=>(q.pre i h).trans (p.pre i h),q.kd.trans p.kd,q.pe.trans p.pe,q.fl.trans p.fl⟩
theorem Ar.tb (q:Ar st st' lo) (B:TB k0 ajj st):TB k0 ajj st':=⟨q.pm.trans B.pm,q.kd.trans B.kd,q.fl.trans B.fl⟩
theorem b5Z (hs:src<xs.size) (hd:d<=src) (k:Nat) :
  Kk κ (bubble xs src d) k=if k=src - d then Kk κ xs src else if src - d<k/\k<=src then Kk κ xs (k - 1) else Kk κ xs k:=by
 have q:=getElem?_bubble hs d hd k
 by_cases h1:k=src - d
 ·rw[if_pos h1]at q ⊢;exact a6f q
 ·rw[if_neg h1]at q ⊢
  by_cases h2:src - d<k/\k<=src
  ·rw[if_pos h2]at q ⊢;exact a6f q
  ·rw[if_neg h2]at q ⊢;exact a6f q
theorem Ar.bub (hs:src<(arrOf st).size) (hd:d<=src) (h:lo<=src - d):Ar st (setArr st (bubble (arrOf st) src d)) lo:=
 ⟨bubble_perm _ _ _,λi a=>by
  rw[getElem?_bubble hs d hd,if_neg (by omega),if_neg (by omega)],rfl,rfl,rfl⟩
theorem b22 (hj:j<=xs.size) (k:Nat):Kk κ (mirror xs i j ((j - i) / 2)) k=if i<=k/\k<j then Kk κ xs (i+j - 1 - k) else Kk κ xs k:=by
 have q:=getElem?_mirror_all (i:=i) hj k
 by_cases h1:i<=k/\k<j
 ·rw[if_pos h1]at q ⊢;exact a6f q
 ·rw[if_neg h1]at q ⊢;exact a6f q
theorem a6h (hj:j<=xs.size) (hq:∀ k,i<=k->k<j->Kk κ xs k=Kk κ xs (j - 1)) (k:Nat):Kk κ (mirror xs i j ((j - i) / 2)) k=Kk κ xs k:=by
 rw[b22 hj]
 split
 ·grind
 ·rfl
theorem Ar.mir (hj:j<=(arrOf st).size) (h:lo<=i):Ar st (setArr st (mirror (arrOf st) i j ((j - i) / 2))) lo:=
 ⟨mirror_perm _ _ _ _,λk a=>by
  rw[getElem?_mirror_all hj,if_neg (by omega)],rfl,rfl,rfl⟩
theorem b4W (L:LtOk M A E s κ k0 ajj) (B:TB k0 ajj st) (hn:lo+n<=ajj.size) (hok:ok<=n) (hs:SR κ (arrOf st) lo ok)
  (h:∀ st',Ar st st' lo->SR κ (arrOf st') lo n->Q true st'):wpS M A E s (binarySort' lo n ok) Q st:=by
 rw[binarySort'_eq];refine ko (kP (kK (I:=λk c z=>c=(none,())/\Ar st z lo/\SR κ (arrOf z) lo (min k n)) (Q:=λc z=>c=(none,())/\Ar st z lo/\SR κ (arrOf z) lo n) ?step ?fin ?init) ?post)
 case post=>
  rintro c z ⟨rfl,r1,r2⟩;exact kt (h z r1 r2)
 case init=>
  refine⟨rfl,Ar.refl _ _,λi j hij hj=>?_⟩
  by_cases h1:ok=0
  ·have:i=j:=by omega
   rw[this];exact fU _
  ·exact hs i j hij (by omega)
 case fin=>
  rintro c z ⟨hc,r1,r2⟩;refine⟨hc,r1,?_⟩
  rwa [show min (max (max ok 1) n) n=n by omega]at r2
 case step=>
  rintro k c z hak hkn ⟨rfl,r1,r2⟩;rw[show min k n=k by omega]at r2;have B1:=r1.tb B;refine ko (kP (kK (I:=λx c y=>y=z/\∃ p q,c=(none,p,q)/\p<=q/\q<=k/\q - p<=k - x/\(∀ i,i<p->Kk κ (arrOf z) (lo+i)<=Kk κ (arrOf z) (lo+k))/\(∀ i,q<=i->i<k->Kk κ (arrOf z) (lo+k)<Kk κ (arrOf z) (lo+i)))
   (Q:=λc y=>y=z/\∃ p q,c=(none,p,q)/\p<=k/\(∀ i,i<p->Kk κ (arrOf z) (lo+i)<=Kk κ (arrOf z) (lo+k))/\(∀ i,p<=i->i<k->Kk κ (arrOf z) (lo+k)<Kk κ (arrOf z) (lo+i))) ?istep ?ifin ?iinit) ?ipost)
  case iinit=>exact⟨rfl,0,k,rfl,by omega,by omega,by omega,λi hi=>by omega,λi h1 h2=>by omega⟩
  case ifin=>
   rintro c y ⟨rfl,p,q,rfl,u1,u2,u3,u4,u5⟩
   have:p=q:=by omega
   subst this;exact⟨rfl,p,p,rfl,u2,u4,u5⟩
  case istep=>
   rintro x c y _ hxk ⟨rfl,p,q,rfl,u1,u2,u3,u4,u5⟩;dsimp only
   by_cases hge:p>=q
   ·rw[if_pos hge]
    have:p=q:=by omega
    subst this;exact kt ⟨rfl,p,p,rfl,u2,u4,u5⟩
   ·rw[if_neg hge];refine ko (a8L L B1 (by omega) (by omega) ?_)
    by_cases hless:Kk κ (arrOf y) (lo+k)<Kk κ (arrOf y) (lo+(p+q) / 2)
    ·simp only[hless,decide_true,if_true];refine kt ⟨rfl,p,(p+q) / 2,rfl,by omega,by omega,by omega,u4,λi h1 h2=>?_⟩;exact Int.lt_of_lt_of_le hless (r2 _ _ h1 h2)
    ·simp only[hless,decide_false,iE,if_false];refine kt ⟨rfl,(p+q) / 2+1,q,rfl,by omega,by omega,by omega,λi h1=>?_,u5⟩;exact fJ (r2 i ((p+q) / 2) (by omega) (by omega)) (i5.mp hless)
  case ipost=>
   rintro c y ⟨rfl,p,q,rfl,u2,u4,u5⟩
   show wpS _ _ _ _ (do moveDown' (lo+k) (lo+p);pure (ForInStep.yield (none,()))) _ _
   rw[moveDown'_eq];have hks:lo+k<(arrOf y).size:=by rw[B1.sz];omega
   refine ko (kZ (kt ⟨rfl,r1.trans (Ar.bub hks (by omega) (by omega)),?_⟩));rw[show min (k+1) n=k+1 by omega];intro i j hij hj
   show Kk κ (bubble (arrOf y) (lo+k) (lo+k - (lo+p))) (lo+i)<=Kk κ (bubble (arrOf y) (lo+k) (lo+k - (lo+p))) (lo+j)
   rw[b5Z hks (by omega),b5Z hks (by omega),show lo+k - (lo+k - (lo+p))=lo+p by omega];have ek:∀ t,1<=t->lo+t - 1=lo+(t - 1):=λt ht=>by omega
   repeat' split
   all_goals first
    | (exfalso;omega)
    | exact fU _
    | exact u4 _ (by omega)
    | (rw[ek _ (by omega)];exact u4 _ (by omega))
    | exact gb (u5 _ (by omega) (by omega))
    | (rw[ek _ (by omega)];exact gb (u5 _ (by omega) (by omega)))
    | exact r2 _ _ (by omega) (by omega)
    | (rw[ek j (by omega)];exact r2 _ _ (by omega) (by omega))
    | (rw[ek i (by omega)];exact r2 _ _ (by omega) (by omega))
    | (rw[ek i (by omega),ek j (by omega)];exact r2 _ _ (by omega) (by omega))
end
abbrev U1:=Option (Option Nat)×Nat
abbrev U2:=Option (Option Nat)×Nat×Nat
noncomputable def rise (lo p nr:Nat):SM U1:=forIn [p:nr] ((none,p):U1) λ_ c=>do
 let x <- ltAt' (lo+c.2) (lo+c.2 - 1)
 match x with
 | some sm=>if sm=true then pure (.done (none,c.2)) else pure (.yield (none,c.2+1))
 | _=>pure (.done (some none,c.2))
noncomputable def fin3 (lo n nr:Nat):SM (Option Nat):=do
 lO lo (lo+n)
 let c <- rise lo n nr
 match c.1 with
 | some r=>pure r
 | none=>pure (some c.2)
noncomputable def fall (lo n nr:Nat):SM U2:=forIn [n:nr] ((none,n,0):U2) λ_ c=>do
 let x <- ltAt' (lo+c.2.1) (lo+c.2.1 - 1)
 match x with
 | some sm=>
  if sm=true then
   if c.2.2 > 0 then do
    lO (lo+c.2.1 - (c.2.2+1)) (lo+c.2.1)
    pure (.yield (none,c.2.1+1,0))
   else pure (.yield (none,c.2.1+1,0))
  else do
   let x <- ltAt' (lo+c.2.1 - 1) (lo+c.2.1)
   match x with
   | some lg=>if lg=true then pure (.done (none,c.2.1,c.2.2)) else pure (.yield (none,c.2.1+1,c.2.2+1))
   | _=>pure (.done (some none,c.2.1,c.2.2))
 | _=>pure (.done (some none,c.2.1,c.2.2))
noncomputable def part (lo n nr:Nat):SM (Option Nat):=do
 liftM (rule "list.sort.descending-run")
 let c <- fall lo (n+1) nr
 match c.1 with
 | some r=>pure r
 | none=>
  if c.2.2 > 0 then do
   lO (lo+c.2.1 - (c.2.2+1)) (lo+c.2.1)
   fin3 lo c.2.1 nr
  else fin3 lo c.2.1 nr
theorem a70 (lo nr:Nat):countRun' lo nr=(do
  let c <- rise lo 1 nr
  match c.1 with
  | some r=>pure r
  | none=>
   if (c.2==nr)=true then pure (some c.2)
   else if c.2 > 1 then do
    let x <- ltAt' lo (lo+c.2 - 1)
    match x with
    | some up=>if up=true then pure (some c.2) else do
      lO lo (lo+c.2)
      part lo c.2 nr
    | _=>pure none
   else part lo c.2 nr):=by
 have a:∀ n,(do
   lO lo (lo+n)
   let c <- rise lo n nr
   match c.1 with
   | some r=>pure r
   | none=>pure (some c.2))=fin3 lo n nr:=λn=>rfl
 rw[countRun'_eq];refine bd2 rfl λc=>?_;obtain⟨r,n⟩:=c;have b:∀ n,part lo n nr=part lo n nr:=λn=>rfl;cases r with
 | some r=>rfl
 | none=>
  dsimp only
  split
  ·rfl
  ·split
   ·refine bind_congr λx=>?_;cases x with
    | none=>rfl
    | some up=>
     dsimp only
     split
     ·rfl
     ·refine bind_congr λ_=>bind_congr λ_=>bd2 rfl λc=>?_;obtain⟨r,n,q⟩:=c;cases r with
      | some r=>rfl
      | none=>
       dsimp only
       split
       ·refine bind_congr λ_=>bind_congr λ_=>bd2 rfl λc=>?_;obtain⟨r,n⟩:=c;cases r<;>rfl
       ·refine bind_congr λ_=>bd2 rfl λc=>?_;obtain⟨r,n⟩:=c;cases r<;>rfl
   ·refine bind_congr λ_=>bd2 rfl λc=>?_;obtain⟨r,n,q⟩:=c;cases r with
    | some r=>rfl
    | none=>
     dsimp only
     split
     ·refine bind_congr λ_=>bind_congr λ_=>bd2 rfl λc=>?_;obtain⟨r,n⟩:=c;cases r<;>rfl
     ·refine bind_congr λ_=>bd2 rfl λc=>?_;obtain⟨r,n⟩:=c;cases r<;>rfl
section
variable {M:Model}{A:Around}{E:Value->Shared->Prop}{s:Shared}{κ:KF}{k0:kU}{ajj:Array Keyed}{st:SortSt}{lo nr:Nat}
theorem b4X {α:Type}{f:Unit->SM α}{Q:α->SortSt->Prop}(h:wpS M A E s (f ()) Q (setArr st (mirror (arrOf st) i j ((j - i) / 2)))):wpS M A E s (lO i j >>= f) Q st:=ko (kZ h)
theorem SR.one:SR κ xs lo 1:=by grind [SR]
theorem SR.snoc (h:SR κ xs lo n) (h1:1<=n) (c:Kk κ xs (lo+n - 1)<=Kk κ xs (lo+n)):SR κ xs lo (n+1):=λi j a b=>by
 by_cases hjn:j<n
 ·exact h i j a hjn
 ·have e:j=n:=by omega
  subst e
  by_cases e2:i=j
  ·rw[e2];exact fU _
  ·refine fJ (h i (j - 1) (by omega) (by omega)) ?_;rw[show lo+(j - 1)=lo+j - 1 by omega];exact c
theorem NR.snoc (h:NR κ xs lo n) (h1:1<=n) (c:Kk κ xs (lo+n)<=Kk κ xs (lo+n - 1)):NR κ xs lo (n+1):=λi j a b=>by
 by_cases hjn:j<n
 ·exact h i j a hjn
 ·have e:j=n:=by omega
  subst e
  by_cases e2:i=j
  ·simp_all
  ·refine fJ ?_ (h i (j - 1) (by omega) (by omega));rw[show lo+(j - 1)=lo+j - 1 by omega];exact c
theorem NR.congr (h:NR κ xs lo n) (e:∀ k,Kk κ ys k=Kk κ xs k):NR κ ys lo n:=λi j b a=>by rw[e,e];exact h i j b a
theorem b50 (L:LtOk M A E s κ k0 ajj) (B:TB k0 ajj st) (hn:lo+nr<=ajj.size) (hp:1<=p) (hpn:p<=nr) (hs:SR κ (arrOf st) lo p)
  (h:∀ n,p<=n->n<=nr->SR κ (arrOf st) lo n->(n=nr\/Kk κ (arrOf st) (lo+n)<Kk κ (arrOf st) (lo+n - 1))->Q (none,n) st):wpS M A E s (rise lo p nr) Q st:=by
 refine kK (I:=λx c z=>z=st/\c=(none,x)/\SR κ _ lo x) ?step ?fin ⟨rfl,rfl,hs⟩
 case fin=>
  rintro c z ⟨rfl,rfl,a⟩;rw[show max p nr=nr by omega]at a ⊢;exact h nr hpn (ff _) a (.inl rfl)
 case step=>
  rintro x c z b d ⟨rfl,rfl,a⟩;refine ko (a8L L B (by omega) (by omega) ?_)
  by_cases q:Kk κ (arrOf z) (lo+x)<Kk κ (arrOf z) (lo+x - 1)
  ·simp only[q];exact kt (h x b (by omega) a (.inr q))
  ·simp only[q];exact kt ⟨rfl,rfl,a.snoc (by omega) (i5.mp q)⟩
theorem b51 (L:LtOk M A E s κ k0 ajj) (B:TB k0 ajj st) (hn:lo+nr<=ajj.size) (h1:1<=n) (hnn:n<=nr) (hs:NR κ (arrOf st) lo n)
  (h:∀ m z,Ar st z lo->1<=m->m<=nr->SR κ (arrOf z) lo m->Q (some m) z):wpS M A E s (fin3 lo n nr) Q st:=by
 have a:lo+n<=(arrOf st).size:=by rw[B.sz];omega
 refine b4X ?_;have b:Ar st _ lo:=Ar.mir a (ff _);refine ko (b50 L (b.tb B) hn h1 hnn ?_ λm g d c _=>kt (h m _ b (by omega) d c));intro i j e f;rw[b22 a,b22 a,if_pos (by omega),if_pos (by omega),show lo+_ - 1 - _=lo+(n - 1 - i) by omega,show lo+_ - 1 - _=lo+(n - 1 - j) by omega];exact hs _ _ (by omega) (by omega)
theorem b9R (L:LtOk M A E s κ k0 ajj) (B:TB k0 ajj st) (hn:lo+nr<=ajj.size) (h1:1<=n) (hnn:n<=nr) (hs:NR κ (arrOf st) lo n)
  (h:∀ m e z,Ar st z lo->n<=m->m<=nr->NR κ (arrOf z) lo m->e+1<=m->(∀ i,lo+m - (e+1)<=i->i<lo+m->Kk κ (arrOf z) i=Kk κ (arrOf z) (lo+m - 1))->Q (none,m,e) z):wpS M A E s (fall lo n nr) Q st:=by
 unfold fall;refine kK (I:=λx c z=>∃ e,c=(none,x,e)/\Ar st z lo/\NR κ (arrOf z) lo x/\e+1<=x/\(∀ i,lo+x - (e+1)<=i->i<lo+x->Kk κ (arrOf z) i=Kk κ (arrOf z) (lo+x - 1))) ?step ?fin ⟨0,rfl,Ar.refl _ _,hs,by omega,λi l a=>by congr 1;omega⟩
 case fin=>
  rintro c z ⟨e,rfl,b,a,f,d⟩;rw[show max n nr=nr by omega]at a f d ⊢;exact h nr e z b hnn (ff _) a f d
 case step=>
  rintro x c z p r ⟨e,rfl,b,a,f,d⟩;dsimp only;have k:=b.tb B;have j:lo+x<=(arrOf z).size:=by rw[k.sz];omega
  refine ko (a8L L k (by omega) (by omega) ?_)
  by_cases q:Kk κ (arrOf z) (lo+x)<Kk κ (arrOf z) (lo+x - 1)
  ·simp only[q,decide_true,if_true];have o:=a.snoc (by omega) (gb q)
   by_cases g:e > 0
   ·rw[if_pos g];exact b4X (kt ⟨0,rfl,b.trans (Ar.mir j (by omega)),o.congr (a6h j d),by omega,λi l a=>by congr 1;omega⟩)
   ·rw[if_neg g];exact kt ⟨0,rfl,b,o,by omega,λi l a=>by congr 1;omega⟩
  ·simp only[q,decide_false,if_false];refine ko (a8L L k (by omega) (by omega) ?_)
   by_cases q2:Kk κ (arrOf z) (lo+x - 1)<Kk κ (arrOf z) (lo+x)
   ·simp only[q2,decide_true,if_true];exact kt (h x e z b p (by omega) a f d)
   ·simp only[q2,decide_false,if_false];have g:Kk κ (arrOf z) (lo+x)=Kk κ (arrOf z) (lo+x - 1):=by omega
    refine kt ⟨e+1,rfl,b,a.snoc (by omega) (by omega),by omega,λi l a=>?_⟩;rw[show lo+(x+1) - 1=lo+x by omega]
    by_cases hix:i=lo+x
    ·rw[hix]
    ·grind
theorem b52 (L:LtOk M A E s κ k0 ajj) (B:TB k0 ajj st) (hn:lo+nr<=ajj.size) (hnn:n+1<=nr) (hs:NR κ (arrOf st) lo (n+1))
  (h:∀ m z,Ar st z lo->1<=m->m<=nr->SR κ (arrOf z) lo m->Q (some m) z):wpS M A E s (part lo n nr) Q st:=by
 refine a7o ?_;refine ko (b9R L B hn (by simp) hnn hs λm e z c l i g o j=>?_);dsimp only;have f:=c.tb B;have a:lo+m<=(arrOf z).size:=by rw[f.sz];omega
 by_cases he:e > 0
 ·rw[if_pos he];have d:Ar st (setArr z (mirror (arrOf z) (lo+m - (e+1)) _ _)) lo:=c.trans (Ar.mir a (by omega));exact b4X (b51 L (d.tb B) hn (by omega) i (g.congr (a6h a j)) λk w b=>h k w (d.trans b))
 ·rw[if_neg he];exact b51 L f hn (by omega) i g λk w b=>h k w (c.trans b)
theorem b7e (L:LtOk M A E s κ k0 ajj) (B:TB k0 ajj st) (hn:lo+nr<=ajj.size) (h1:1<=nr)
  (h:∀ m z,Ar st z lo->1<=m->m<=nr->SR κ (arrOf z) lo m->Q (some m) z):wpS M A E s (countRun' lo nr) Q st:=by
 rw[a70];refine ko (b50 L B hn (ff 1) h1 SR.one λn e l b t=>?_);dsimp only
 by_cases hnn:n=nr
 ·rw[if_pos (by simpa using hnn)];exact kt (h n st (Ar.refl _ _) e l b)
 ·rw[if_neg (by simpa using hnn)];have d:=t.resolve_left hnn;have c:lo+n<=(arrOf st).size:=by rw[B.sz];omega
  by_cases hgt:n > 1
  ·rw[if_pos hgt];refine ko (a8L L B (by omega) (by omega) ?_)
   by_cases q:Kk κ (arrOf st) lo<Kk κ (arrOf st) (lo+n - 1)
   ·simp only[q,decide_true,if_true];exact kt (h n st (Ar.refl _ _) e l b)
   ·simp only[q,if_false];have a:∀ k,lo<=k->k<lo+n->Kk κ (arrOf st) k=Kk κ (arrOf st) (lo+n - 1):=λk y x=>by
     have g:=b 0 (k - lo) (by omega) (by omega);have f:=b (k - lo) (n - 1) (by omega) (by omega);rw[show lo+(k - lo)=k by omega]at g f;rw[show lo+(n - 1)=lo+n - 1 by omega]at f;rw[jj]at g;omega
    have o:Ar st _ lo:=Ar.mir c (ff _);have u:NR κ (arrOf st) lo (n+1):=by
     refine NR.snoc (λi j p r=>?_) (by omega) (gb d);rw[a (lo+i) (by omega) (by omega),a (lo+j) (by omega) (by omega)];exact fU _
    exact b4X (b52 L (o.tb B) hn (by omega) (u.congr (a6h c a)) λk w v=>h k w (o.trans v))
  ·rw[if_neg hgt]
   have:n=1:=by omega
   subst this;refine b52 L B hn (by omega) ?_ h;refine NR.snoc (λi j p r=>?_) (by omega) (gb d)
   have:i=j:=by omega
   rw[this];exact fU _
end
theorem a9P (i:Nat):mT i=(do
 let z <- get
 let (some (p,n,w),some (q,m,_)):=((kB z)[i]?,(kB z)[i+1]?) | mq "internal:list.sort.pending"
 set (l5 z (((kB z).setIfInBounds i (p,n+m,w)).eraseIdxIfInBounds (i+1)))
 let some k <- a2u false (<- elem' (arrOf z) q) (arrOf z) p n 0 | return false
 let (p,n):=(p+k,n - k)
 if n==0 then return true
 let some m <- a2u true (<- elem' (arrOf z) (p+n - 1)) (arrOf z) q m (m - 1) | return false
 if m==0 then return true
 let x:=(arrOf z).extract p q
 let y:=(arrOf z).extract q (q+m)
 let mg <- if n<=m then a5P x y else a7Z x y
 modify λz=>setArr z (mg.toList.zipIdx.foldl (λa (v,j)=>a.setIfInBounds (p+j) v) (arrOf z))
 return (kQ (<- get)).isNone):=rfl
theorem b0A (bs:Nat):∀ (l:List Keyed) (k:Nat) (xs:Array Keyed),bs+k+l.length<=xs.size ->
  ((l.zipIdx k).foldl (λa (pj:Keyed×Nat)=>a.setIfInBounds (bs+pj.2) pj.1) xs).toList=xs.toList.take (bs+k)++(l++xs.toList.drop (bs+k+l.length))
 | [],k,xs,_=>by simp
 | x::l,k,xs,h=>by
  rw[fk]at h;rw[List.zipIdx_cons,jE,b0A bs l _ _ (by grind)];have e:(xs.setIfInBounds (bs+k) x).toList=xs.toList.set (bs+k) x:=by simp
  rw[e,show bs+_=bs+k+1 by omega,List.drop_set_of_lt (by omega),fk,show bs+k+1+l.length=bs+k+(l.length+1) by omega]
  have:(xs.toList.set (bs+k) x).take (bs+k+1)=xs.toList.take (bs+k)++[x]:=by
   rw[gG,List.take_set_of_le (ff _),iI (by grind)]
   rfl
  rw[this];simp
section
variable {M:Model}{A:Around}{E:Value->Shared->Prop}{s:Shared}{κ:KF}{k0:kU}{ajj:Array Keyed}{st:SortSt}
theorem c10 (h:Q ⟨⟩ z):wpS M A E s (set z:SM PUnit) Q st:=kA ⟨rfl,h⟩
theorem b53 (e:xs.toList=P++(X++R)) (hi:i<X.length):Kk κ xs (P.length+i)=κ X[i]:=by
 refine a6g ?_;rw[e,iN (by simp),ir (by omega),show P.length+i - P.length=i by omega];exact fw hi
theorem a4u (h:Srt κ X) (hij:i<=j) (hj:j<X.length):κ (X[i]'(by omega))<=κ X[j]:=by
 by_cases e:i=j
 ·subst e;exact fU _
 ·exact ig.mp h i j (by omega) hj (by omega)
theorem b0B {X:List Keyed}(h:x∈X):∃ i,∃ (hi:i<X.length),X[i]=x:=List.mem_iff_getElem.mp h
theorem a8O {X:List Keyed}(h:x∈X.take k):∃ i,∃ (hi:i<X.length),i<k/\X[i]=x:=by
 obtain⟨q,a,d⟩:=a32 h;obtain⟨b,c⟩:=fj.mp d;exact⟨q,b,a,c⟩
theorem b0C {X:List Keyed}(h:x∈X.drop k):∃ i,∃ (hi:i<X.length),k<=i/\X[i]=x:=by
 obtain⟨q,b,e,d⟩:=a31 h;obtain⟨c,a⟩:=fj.mp d;exact⟨q,c,b,a⟩
theorem b23 (L:LtOk M A E s κ k0 ajj) (B:TB k0 ajj st) (e1:(kB st)[i]?=some (sa,na,pw)) (e2:(kB st)[i+1]?=some (sb,nb,pw2))
  (ea:(arrOf st).toList=P++(X++(Y++S))) (hP:P.length=sa) (hX:X.length=na) (hsb:sb=sa+na) (hY:Y.length=nb) (sX:Srt κ X) (sY:Srt κ Y) (h1:0<na) (h2:0<nb)
  (h:∀ st' Z,TB k0 ajj st'->(arrOf st').toList=P++(Z++S)->Z.length=na+nb->Srt κ Z->kB st'=((kB st).setIfInBounds i (sa,na+nb,pw)).eraseIdxIfInBounds (i+1)->Q true st'):wpS M A E s (mT i) Q st:=by
 have hsz:(arrOf st).size=sa+na+nb+S.length:=by
  rw[<- a1S,ea];simp;omega
 have hmem:∀ p∈(arrOf st).toList,p∈ajj.toList:=λp hp=>(iW.mp B.pm).mem_iff.mp hp;have eb:(arrOf st).toList=(P++X)++(Y++S):=by rw[ea,fI]
 have kX:∀ i,(hi:i<X.length)->Kk κ (arrOf st) (sa+i)=κ X[i]:=λi hi=>by rw[<- hP];exact b53 ea hi
 have kY:∀ i,(hi:i<Y.length)->Kk κ (arrOf st) (sb+i)=κ Y[i]:=λi hi=>by
  rw[hsb,<- hP,<- hX,<- fu];exact b53 eb hi
 rw[a9P];refine ko (kW ?_);rw[e1,e2];dsimp only;refine ko (c10 ?_);have B1:TB k0 ajj (l5 st (((kB st).setIfInBounds i (sa,na+nb,pw)).eraseIdxIfInBounds (i+1))):=⟨B.pm,B.kd,B.fl⟩;have hs1:arrOf (l5 st (((kB st).setIfInBounds i (sa,na+nb,pw)).eraseIdxIfInBounds (i+1)))=arrOf st:=rfl;have hp1:kB (l5 st (((kB st).setIfInBounds i (sa,na+nb,pw)).eraseIdxIfInBounds (i+1)))=((kB st).setIfInBounds i (sa,na+nb,pw)).eraseIdxIfInBounds (i+1):=rfl;generalize l5 st (((kB st).setIfInBounds i (sa,na+nb,pw)).eraseIdxIfInBounds (i+1))=st1 at B1 hs1 hp1;have hy0:sb<(arrOf st).size:=by omega
 have ey:(arrOf st)[sb]?=some (arrOf st)[sb]:=getElem?_pos ..;have hky:κ (arrOf st)[sb]=κ Y[0]:=by
  have:=kY 0 (by omega)
  rw[jj,a9L ey]at this;exact this
 have hmy:(arrOf st)[sb]∈ajj.toList:=hmem _ (by simp);refine ko (a1c ey (ko ?_));refine a3w L B1.kd hmy hmem (by omega) (by omega) (λp q hp hq=>by rw[kX p (by omega),kX q (by omega)];exact a4u sX hp (by omega)) λk hkn hlt hge=>?_;dsimp only;have lo:∀ q,(hq:q<X.length)->q<k->κ X[q]<=κ Y[0]:=λq hq hqk=>by
  have:=hlt q hqk
  rw[kX q hq,hky]at this;simpa[bq]using this
 have up:∀ q,(hq:q<X.length)->k<=q->κ Y[0]<κ X[q]:=λq hq hqk=>by
  have:=hge q hqk (by omega)
  rw[kX q hq,hky]at this;simpa[bq]using this
 have whole:(∀ x∈X,∀ y∈Y,κ x<=κ y)->Q true st1:=λhxy=>by
  refine h st1 (X++Y) B1 (by rw[hs1,ea,fI]) (by rw[fu,hX,hY]) ?_ hp1;exact fE.mpr ⟨sX,sY,hxy⟩
 by_cases c1:na - k=0
 ·rw[if_pos (by simpa using c1)];refine kt (whole λx hx y hy=>?_);obtain⟨q,hq,rfl⟩:=b0B hx;obtain⟨r,hr,rfl⟩:=b0B hy;exact fJ (lo q hq (by omega)) (a4u sY (fL _) hr)
 rw[if_neg (by simpa using c1)];have hl:sa+k+(na - k) - 1<(arrOf st).size:=by omega
 have ex:(arrOf st)[sa+k+(na - k) - 1]?=some (arrOf st)[sa+k+(na - k) - 1]:=getElem?_pos ..;have hkx:κ (arrOf st)[sa+k+(na - k) - 1]=κ X[na - 1]:=by
  have:=kX (na - 1) (by omega)
  rw[show sa+(na - 1)=sa+k+(na - k) - 1 by omega,a9L ex]at this;exact this
 have hmx:(arrOf st)[sa+k+(na - k) - 1]∈ajj.toList:=hmem _ (by simp);refine ko (a1c ex (ko ?_));refine a3w L B1.kd hmx hmem (by omega) (by omega) (λp q hp hq=>by rw[kY p (by omega),kY q (by omega)];exact a4u sY hp (by omega)) λm hmn hlt2 hge2=>?_;dsimp only;have lo2:∀ q,(hq:q<Y.length)->q<m->κ Y[q]<κ X[na - 1]:=λq hq hqk=>by
  have:=hlt2 q hqk
  rw[kY q hq,hkx]at this;simpa[bq]using this
 have up2:∀ q,(hq:q<Y.length)->m<=q->κ X[na - 1]<=κ Y[q]:=λq hq hqk=>by
  have:=hge2 q hqk (by omega)
  rw[kY q hq,hkx]at this;simpa[bq]using this
 by_cases c2:m=0
 ·rw[if_pos (by simpa using c2)];refine kt (whole λx hx y hy=>?_);obtain⟨q,hq,rfl⟩:=b0B hx;obtain⟨r,hr,rfl⟩:=b0B hy;exact fJ (a4u sX (by omega) (by omega)) (up2 r hr (by omega))
 rw[if_neg (by simpa using c2)];have lx:((arrOf st).extract (sa+k) sb).toList=X.drop k:=by
  rw[jQ,i3,ea,jk,<- hP,iB (by omega),g7,show P.length+k - P.length=k by omega,jR (by omega),iF (by rw[gj];omega),gI (by rw[gj];omega)]
 have ly:((arrOf st).extract sb (sb+m)).toList=Y.take m:=by
  rw[jQ,i3,eb,jk,iB (by rw[fu];omega),g7,show sb - (P++X).length=0 by rw[fu];omega,List.drop_zero,iF (by omega),show sb+m - sb=m by omega]
 have C:MC M A E s κ k0 ajj ((arrOf st).extract (sa+k) sb) ((arrOf st).extract sb (sb+m)):=by
  refine⟨L,λp hp=>?_,λp hp=>?_,?_,?_,?_,?_,λy hy=>?_,λz hz y hy=>?_⟩
  ·rw[lx]at hp;exact hmem p (by rw[ea];simp[iZ hp])
  ·rw[ly]at hp;exact hmem p (by rw[ea];simp[gw hp])
  ·rw[lx];exact a14 sX k
  ·rw[ly];exact a2O sY m
  ·rw[<- a1S,lx,gj];omega
  ·rw[<- a1S,ly,fC];omega
  ·rw[lx]at hy;obtain⟨q,hq,hk,rfl⟩:=b0C hy;rw[a6g (z:=Y[0]) (by rw[ly,ji,if_pos (by omega)];exact fw _)];exact gb (up q hq hk)
  ·rw[ly]at hy;rw[lx,gj,jg,show k+(X.length - k - 1)=na - 1 by omega,fw (show na - 1<X.length by omega)]at hz;cases hz;obtain⟨q,hq,hk,rfl⟩:=a8O hy;exact gb (lo2 q hq hk)
 have fin:∀ (r:Array Keyed) (st2:SortSt),SG st1 st2->Mgd κ ((arrOf st).extract (sa+k) sb).toList ((arrOf st).extract sb (sb+m)).toList r.toList ->
   wpS M A E s (do
    modify λz=>setArr z (r.toList.zipIdx.foldl (λa (pj:Keyed×Nat)=>a.setIfInBounds (sa+k+pj.2) pj.1) (arrOf z))
    return (kQ (<- get)).isNone) Q st2:=by
  intro r st2 g2 mg;rw[lx,ly]at mg;have hrl:r.toList.length=na - k+m:=by rw[mg.1.length_eq,fu,gj,fC];omega
  refine ko (kZ (ko (kW (kt ?_))));have ha2:arrOf st2=arrOf st:=g2.ar.trans hs1;have ef:=b0A (sa+k) r.toList 0 (arrOf st2) (by rw[ha2];omega);have el:(r.toList.zipIdx.foldl (λa (pj:Keyed×Nat)=>a.setIfInBounds (sa+k+pj.2) pj.1) (arrOf st2)).toList=P++((X.take k++r.toList++Y.drop m)++S):=by
   rw[ef,ha2,jj,hrl];have t1:(arrOf st).toList.take (sa+k)=P++X.take k:=by
    rw[ea,List.take_append,gI (by omega),<- hP,show P.length+k - P.length=k by omega,iF (by omega)]
   have t2:(arrOf st).toList.drop (sa+k+(na - k+m))=Y.drop m++S:=by
    rw[eb,jk,iB (by rw[fu];omega),g7,show sa+k+(na - k+m) - (P++X).length=m by rw[fu];omega,jR (by omega)]
   rw[t1,t2];simp
  generalize hgz:r.toList.zipIdx.foldl (λa (pj:Keyed×Nat)=>a.setIfInBounds (sa+k+pj.2) pj.1) (arrOf st2)=ar at el;have hperm:(X.take k++r.toList++Y.drop m).Perm (X++Y):=by
   have:(X.take k++r.toList++Y.drop m).Perm (X.take k++(X.drop k++Y.take m)++Y.drop m):=(fO.append_left _ mg.1).append_right _
   refine this.trans ?_;have e:X.take k++(X.drop k++Y.take m)++Y.drop m=X++Y:=by
    rw[<- fI,iG,fI,iG]
   rw[e]
  have pm:ar.Perm (arrOf st):=by
   rw[iW,el,ea];refine fO.append_left _ ?_;rw[<- fI (as:=X)];exact hperm.append_right _
  have hfl:kQ (setArr st2 ar)=none:=g2.fl.trans B1.fl;have B2:TB k0 ajj (setArr st2 ar):=⟨pm.trans B.pm,g2.kd.trans B1.kd,hfl⟩;rw[hfl];refine h _ _ B2 el (by rw[hperm.length_eq,fu,hX,hY]) ?_ (g2.pe.trans hp1);have hr:∀ w∈r.toList,w∈X.drop k\/w∈Y.take m:=λw hw=>fg.mp (mg.1.mem_iff.mp hw);refine fE.mpr ⟨fE.mpr ⟨a2O sX k,mg.2,λx hx w hw=>?_⟩,a14 sY m,λx hx y hy=>?_⟩
  ·obtain⟨q,hq,hk,rfl⟩:=a8O hx;rcases hr w hw with hw | hw
   ·obtain⟨p,hp,hk2,rfl⟩:=b0C hw;exact a4u sX (by omega) hp
   ·obtain⟨p,hp,hk2,rfl⟩:=a8O hw;exact fJ (lo q hq hk) (a4u sY (fL _) hp)
  ·obtain⟨p,hp,hk2,rfl⟩:=b0C hy;rcases fg.mp hx with hx | hx
   ·obtain⟨q,hq,hk,rfl⟩:=a8O hx;exact fJ (lo q hq hk) (a4u sY (fL _) hp)
   ·rcases hr x hx with hx | hx
    ·obtain⟨q,hq,hk,rfl⟩:=b0C hx;exact fJ (a4u sX (by omega) (by omega)) (up2 p hp hk2)
    ·obtain⟨q,hq,hk,rfl⟩:=a8O hx;exact a4u sY (by omega) hp
 split
 ·exact ko (b20 C B1.kd λr st2 g2 mg=>fin r st2 g2 mg)
 ·exact ko (b21 C B1.kd λr st2 g2 mg=>fin r st2 g2 mg)
end
noncomputable def pr (p:Nat×Nat×Nat):Nat×Nat:=(p.1,p.2.1)
noncomputable def offs:Nat->List (List Keyed)->List (Nat×Nat)
 | _,[]=>[]
 | o,R::Rs=>(o,R.length)::offs (o+R.length) Rs
theorem a2P:∀ (o:Nat) (U V:List (List Keyed)),offs o (U++V)=offs o U++offs (o+U.flatten.length) V
 | o,[],V=>by simp[offs]
 | o,R::U,V=>by
  rw[ij,offs,offs,a2P,ij,iu,fu,jS]
theorem a2c:∀ (o:Nat) (U:List (List Keyed)),(offs o U).length=U.length
 | _,[]=>rfl
 | o,R::U=>by rw[offs,fk,fk,a2c]
theorem a8P {α:Type}{q p1 p2:α}{pv:List α}:∀ pu:List α,((pu++p1::p2::pv).set pu.length q).eraseIdx (pu.length+1)=pu++q::pv
 | []=>rfl
 | x::pu=>by rw[ij,fk,jT,jl,a8P pu,ij]
theorem a8Q {α β:Type}{f:α->β}:∀ (l:List α) (k:Nat),(l.map f).eraseIdx k=(l.eraseIdx k).map f
 | [],_=>by simp
 | x::l,0=>by simp
 | x::l,k+1=>by rw[fy,jl,jl,fy,a8Q l k]
theorem b0D:∀ {Rs:List (List Keyed)},(∀ R∈Rs,R≠[])->Rs.length<=Rs.flatten.length
 | [],_=>by simp
 | R::Rs,h=>by
  have:=b0D λR a=>h R (.tail _ a)
  have b:=g9.mpr (h R (.head _));rw[iu,fu,fk];omega
def Runs (κ:KF) (st:SortSt) (lo:Nat) (rest:List Keyed):Prop:=∃ Rs:List (List Keyed),(arrOf st).toList=Rs.flatten++rest/\(∀ R∈Rs,Srt κ R/\R≠[])/\Rs.flatten.length=lo/\(kB st).toList.map pr=offs 0 Rs
section
variable {M:Model}{A:Around}{E:Value->Shared->Prop}{s:Shared}{κ:KF}{k0:kU}{ajj:Array Keyed}{st:SortSt}
theorem a33 {i lo:Nat}(L:LtOk M A E s κ k0 ajj) (B:TB k0 ajj st) (R:Runs κ st lo rest) (hi:i+1<(kB st).size)
  (h:∀ st',TB k0 ajj st'->Runs κ st' lo rest->(kB st').size+1=(kB st).size->Q true st'):wpS M A E s (mT i) Q st:=by
 obtain⟨Rs,t,f,r,b⟩:=R;have m:(kB st).size=Rs.length:=by
  have:=congrArg fN b
  rw[fc,a2c]at this;simpa using this
 obtain⟨U,X,Y,V,rfl,D⟩:∃ U X Y V,Rs=U++X::Y::V/\U.length=i:=by
  refine⟨Rs.take i,Rs[i]'(by omega),Rs[i+1]'(by omega),Rs.drop (i+2),?_,by rw[fC];omega⟩;rw[<- iX,<- iX,iG]
 have n:=f X (by simp);have q:=f Y (by simp);rw[a2P]at b;simp only[offs,i7]at b;have k:∀ (j:Nat) (x:Nat×Nat),(offs 0 U++_::_::offs _ V)[j]?=some x->∃ w,(kB st)[j]?=some (x.1,x.2,w):=λj x d=>by
  rw[<- b,fm]at d;rw[<- gU];cases e:(kB st).toList[j]? with
  | none=>rw[e]at d;cases d
  | some p=>
   rw[e]at d;cases d;exact⟨p.2.2,rfl⟩
 have c:(offs 0 U).length=i:=by rw[a2c,D]
 obtain⟨J,G⟩:=k i _ (by rw[iN (by omega),c,Nat.sub_self];rfl);obtain⟨I,y⟩:=k (i+1) (U.flatten.length+X.length,Y.length) (by simp_all);have C:(arrOf st).toList=U.flatten++(X++(Y++(V.flatten++rest))):=by rw[t];simp
 refine b23 L B G y C rfl rfl rfl rfl n.1 q.1 (g9.mpr n.2) (g9.mpr q.2) λl Z H F o v u=>?_;have g:(kB l).toList.map pr=offs 0 (U++Z::V):=by
  rw[u,Array.toList_eraseIdxIfInBounds,Array.toList_setIfInBounds,<- a8Q,List.map_set,b,<- c,a8P,a2P];simp only[offs,i7,pr];rw[o,jS]
 refine h l H ⟨U++Z::V,by rw[F];simp,λR a=>?_,?_,g⟩ ?_
 ·rcases fg.mp a with a | a
  ·exact f R (by simp[a])
  ·rcases ft.mp a with rfl | a
   ·exact⟨v,λz=>by rw[z]at o;have:=g9.mpr n.2;simp at o;omega⟩
   ·exact f R (by simp[a])
 ·rw[<- r];simp;omega
 ·grind
theorem Runs.ar {lo n:Nat}(R:Runs κ st lo rest) (q:Ar st st' lo) (hs:SR κ (arrOf st') lo n) (hn:lo+n<=(arrOf st').size) (h1:1<=n):∃ X rest',Srt κ X/\X.length=n/\Runs κ st' lo (X++rest'):=by
 obtain⟨Rs,g,f,c,e⟩:=R;have b:(arrOf st').toList.take lo=Rs.flatten:=by
  refine jm λi=>?_
  by_cases a:i<lo
  ·rw[ji,if_pos a,gU,q.pre i a,<- gU,g,ir (by omega)]
  ·grind
 refine⟨((arrOf st').toList.drop lo).take n,((arrOf st').toList.drop lo).drop n,?_,by rw[fC,gj,a1S];omega,Rs,?_,f,c,by rw[q.pe];exact e⟩
 ·refine ig.mpr λi j a d k=>?_;rw[fC,gj,a1S]at a d
  have:=hs i j (by omega) (by omega)
  rw[a1D _,a1D _]at this;simpa using this
 ·rw[iG,<- b,iG]
theorem Runs.push {lo n:Nat}(R:Runs κ st lo (X++rest)) (sX:Srt κ X) (hX:X.length=n) (h1:1<=n) (ha:arrOf st'=arrOf st) (hp:(kB st').toList.map pr=(kB st).toList.map pr++[(lo,n)]):Runs κ st' (lo+n) rest:=by
 obtain⟨Rs,e,d,b,c⟩:=R;refine⟨Rs++[X],by rw[ha,e];simp,λR a=>?_,by simp[b,hX],?_⟩
 ·rcases fg.mp a with a | a
  ·exact d R a
  ·rw[fi.mp a];exact⟨sX,λz=>by rw[z]at hX;simp at hX;omega⟩
 ·rw[hp,c,a2P,i7,b];simp[offs,hX]
theorem a7p (L:LtOk M A E s κ k0 ajj) (B:TB k0 ajj st) (hp:kB st=#[])
  (h:∀ st',TB k0 ajj st'->Srt κ (arrOf st').toList->Q () st'):wpS M A E s sortRuns' Q st:=by
 rw[sortRuns'_eq];refine ko (kW ?_);dsimp only;rw[B.sz];generalize minRun' ajj.size ajj.size 0=mr;refine ko (kP (kK (I:=λx c z=>∃ d e,c=(none,d)/\TB k0 ajj z/\Runs κ z d e/\x<=d)
  (Q:=λc z=>∃ d e,c=(none,d)/\TB k0 ajj z/\Runs κ z d e/\ajj.size<=d) ?step ?fin ⟨0,(arrOf st).toList,rfl,B,⟨[],by simp,λR h=>by simp at h,rfl,by rw[hp];rfl⟩,ff _⟩) ?post)
 case fin=>
  rintro c z ⟨d,e,rfl,t,u,hx⟩;exact⟨d,e,rfl,t,u,by omega⟩
 case step=>
  rintro x c z _ hx ⟨d,e,rfl,t,u,hxl⟩;dsimp only
  by_cases c1:d>=ajj.size
  ·rw[if_pos c1];exact kt ⟨d,e,rfl,t,u,c1⟩
  rw[if_neg c1];refine ko (b7e L t (by omega) (by omega) λm z2 Y m1 m2 m3=>?_);dsimp only
  by_cases c2:m<mr
  ·rw[if_pos c2];refine a7o ?_;refine ko (b4W L (Y.tb t) (by omega) (by omega) m3 λS C D=>?_);rw[if_neg (by decide)];have C:=Y.trans C;have v:1<=min (ajj.size - d) mr:=by omega
   have V:d+min (ajj.size - d) mr<=ajj.size:=by omega
   generalize min (ajj.size - d) mr=n at v V D ⊢;have r:=C.tb t;obtain⟨X,f,J,G,R3⟩:=u.ar C D (by rw[r.sz];omega) v;refine ko (kW ?_);cases hb:(kB S).back? with
   | none=>
    dsimp only;refine ko (kZ (kt ?_));exact⟨d+n,f,rfl,⟨r.pm,r.kd,r.fl⟩,R3.push J G v rfl (by show (((kB S).push (d,n,0)).toList).map pr=_;rw[gc,fv];rfl),by omega⟩
   | some p=>
    obtain⟨w,o,w1⟩:=p;dsimp only;generalize power' ajj.size (2*w+o) (2*w+o+o+n) ajj.size=pw;refine ko (kP (kK (I:=λ_ c y=>c=(none,())/\TB k0 ajj y/\Runs κ y d (X++f)) ?w (λ_ _ hh=>hh) ⟨rfl,r,R3⟩) ?p1)
    case w=>
     rintro x c y _ _ ⟨rfl,g,j⟩;refine ko (kW ?_)
     by_cases hgt:(kB y).size > 1
     ·rw[if_pos hgt];have eo:(kB y)[(kB y).size - 2]?=some (kB y)[(kB y).size - 2]:=getElem?_pos ..;rw[eo];dsimp only
      split
      ·exact kt ⟨rfl,g,j⟩
      ·refine ko (a33 L g j (by omega) λy2 N H _=>?_);rw[if_neg (by decide)];exact kt ⟨rfl,N,H⟩
     ·rw[if_neg hgt];exact kt ⟨rfl,g,j⟩
    case p1=>
     rintro c y ⟨rfl,g,j⟩;dsimp only;refine ko (kZ (ko (kZ (kt ?_))));refine⟨d+n,f,rfl,⟨g.pm,g.kd,g.fl⟩,j.push J G v rfl ?_,by omega⟩;have em:∀ (q:Array (Nat×Nat×Nat)) (k:Nat),(q.modify k λ(a,b,_)=>(a,b,pw)).toList.map pr=q.toList.map pr:=λq k=>by
      refine jm λi=>?_;rw[fm,fm,gU,gU,jU]
      split
      ·cases q[i]? with
       | none=>rfl
       | some p=>rfl
      ·rfl
     rw[gc,fv,em]
     rfl
  ·rw[if_neg c2];have V:d+m<=ajj.size:=by omega
   have v:=m1;have D:=m3;have C:=Y;generalize m=n at v V D ⊢;generalize z2=S at C D ⊢;have r:=C.tb t;obtain⟨X,f,J,G,R3⟩:=u.ar C D (by rw[r.sz];omega) v;refine ko (kW ?_);cases hb:(kB S).back? with
   | none=>
    dsimp only;refine ko (kZ (kt ?_));exact⟨d+n,f,rfl,⟨r.pm,r.kd,r.fl⟩,R3.push J G v rfl (by show (((kB S).push (d,n,0)).toList).map pr=_;rw[gc,fv];rfl),by omega⟩
   | some p=>
    obtain⟨w,o,w1⟩:=p;dsimp only;generalize power' ajj.size (2*w+o) (2*w+o+o+n) ajj.size=pw;refine ko (kP (kK (I:=λ_ c y=>c=(none,())/\TB k0 ajj y/\Runs κ y d (X++f)) ?w (λ_ _ hh=>hh) ⟨rfl,r,R3⟩) ?p1)
    case w=>
     rintro x c y _ _ ⟨rfl,g,j⟩;refine ko (kW ?_)
     by_cases hgt:(kB y).size > 1
     ·rw[if_pos hgt];have eo:(kB y)[(kB y).size - 2]?=some (kB y)[(kB y).size - 2]:=getElem?_pos ..;rw[eo];dsimp only
      split
      ·exact kt ⟨rfl,g,j⟩
      ·refine ko (a33 L g j (by omega) λy2 N H _=>?_);rw[if_neg (by decide)];exact kt ⟨rfl,N,H⟩
     ·rw[if_neg hgt];exact kt ⟨rfl,g,j⟩
    case p1=>
     rintro c y ⟨rfl,g,j⟩;dsimp only;refine ko (kZ (ko (kZ (kt ?_))));refine⟨d+n,f,rfl,⟨g.pm,g.kd,g.fl⟩,j.push J G v rfl ?_,by omega⟩;have em:∀ (q:Array (Nat×Nat×Nat)) (k:Nat),(q.modify k λ(a,b,_)=>(a,b,pw)).toList.map pr=q.toList.map pr:=λq k=>by
      refine jm λi=>?_;rw[fm,fm,gU,gU,jU]
      split
      ·cases q[i]? with
       | none=>rfl
       | some p=>rfl
      ·rfl
     rw[gc,fv,em]
     rfl
 case post=>
  rintro c z ⟨d,e,rfl,t,u,hlo⟩;dsimp only;have hsz:∀ y,Runs κ y d e->(kB y).size<=d:=λy ⟨Rs,T,F,e3,U⟩=>by
   have l:=congrArg fN U;rw[fc,a2c]at l;have h2:=b0D λR hR=>(F R hR).2;simp at l;omega
  have W:d=ajj.size:=by
   obtain⟨Rs,T,F,e3,U⟩:=u
   have:=congrArg fN T
   rw[a1S,t.sz,fu]at this;omega
  subst W;refine ko (kP (kK (I:=λx c y=>c=(none,())/\TB k0 ajj y/\Runs κ y ajj.size e/\((kB y).size<=1\/(kB y).size+x<=ajj.size)) (Q:=λc y=>c=(none,())/\TB k0 ajj y/\Runs κ y ajj.size e/\(kB y).size<=1) ?s2 ?f2 ⟨rfl,t,u,.inr (hsz z u)⟩) ?p2)
  case f2=>
   rintro c y ⟨rfl,g,j,hc⟩;exact⟨rfl,g,j,by omega⟩
  case s2=>
   rintro x c y _ hx ⟨rfl,g,j,hc⟩;refine ko (kW ?_)
   by_cases l:(kB y).size<=1
   ·rw[if_pos l];exact kt ⟨rfl,g,j,l⟩
   ·rw[if_neg l];refine ko (a33 L g j ?_ λy2 N H hy2=>?_)
    ·repeat' split
     all_goals omega
    ·rw[if_neg (by decide)];exact kt ⟨rfl,N,H,.inr (by omega)⟩
  case p2=>
   rintro c y ⟨rfl,g,j,hc⟩;obtain⟨Rs,T,F,e3,U⟩:=j;have l:=congrArg fN U;rw[fc,a2c]at l;have h2:=congrArg fN T;rw[a1S,g.sz,fu,e3]at h2;have hr:e=[]:=iV.mp (by omega);refine kt (h y g ?_);rw[T,hr,fK]
   match Rs,F,l with
   | [],_,_=>exact .nil
   | [R],F,_=>simpa using (F R (by simp)).1
   | _::_::_,_,l=>simp at l;omega
end
abbrev kN:KF:=λp=>numOf p.1
theorem b9S (xs:Array Keyed) (i:Nat):K xs i=Kk kN xs i:=rfl
theorem b9T (h:Srt kN xs.toList) (hn:n=xs.size):SortedTo xs n:=λi j a b=>by
 rw[b9S,b9S]
 have:=a4s (i:=0) h (n:=xs.size) (by simp) i j a (by omega)
 simpa using this
section
variable {prog:kz}{w:World}{A:Around}{E:Value->Shared->Prop}{s:Shared}{ajj:Array Keyed}
theorem b7f (h0:IntKeys ajj):LtOk (model prog w) A E s kN oneType' ajj:=λx y c d g Q e h=>by
 obtain⟨n,t,b⟩:=h0 x c;obtain⟨m,u,a⟩:=h0 y d;have f:Q (some (decide (n<m))) g:=by
  have:kN x<kN y↔n<m:=by show numOf x.1<numOf y.1↔n<m;rw[b,a];rfl
  rw[decide_eq_decide.mpr this]at h;exact h
 rw[lt'_eq];refine ko (kW ?_);rw[e,keyLt'_oneType,b,a];exact ko (mS (mj (oneLt_int ⟨rfl,kt f⟩)))
theorem sort_any (ho:s.heap.get? a=some (seqObj "list" vs.toArray n)) (hI:kS vs ns) (hz:vs.length<=1000)
  (h:∀ (out:Array Value) (ms:List Int),kS out.toList ms->ms.Perm ns->ms.Pairwise (·<=·)->P (.done (.ret .none)) { s with heap:=mt s.heap a vs out }):wpAny (model prog w) A (kF.«list.sort» ⟨[.ref a],[]⟩) P E s:=by
 have l:vs.length<=sizeLine:=by rw[kJ];omega
 have o:vs.toArray.size<=sizeLine:=by simpa using l
 have t:=Heap.lt_size ho;rw[list_sort_plain];refine kh (listItems_at ho rfl (kh (lP ho rfl ?_ o (by simp))));obtain⟨u,x⟩:∃ u,(s.heap.update a (Obj.mapSeq λ_=>#[])).get? a=some (seqObj "list" #[] u):=⟨_,get?_update_seq ho λ_=>#[]⟩;refine kh (lQ x rfl (kh (wpAny_newTuple ?_ (by simpa using l))));refine kh (l6 (kM ?_));have k:(((s.heap.update a (Obj.mapSeq λ_=>#[])).push (seqObj "tuple" vs.toArray 0)).push (seqObj "list" #[] 0)).get? a=some (seqObj "list" #[] u):=by
  rw[Heap.get?_push_ne,Heap.get?_push_ne]
  ·exact x
  ·rw[Heap.size_update];exact fz t
  ·rw[size_push',Heap.size_update];exact fz (ie t)
 dsimp only;have g:∀ y:SortSt,(arrOf y).Perm (lc vs)->Srt kN (arrOf y).toList->P (.done (.ret .none)) { s with heap:=mt s.heap a vs ((arrOf y).map (·.2)) }:=λy p q=>by
  obtain⟨D,C,B,z⟩:=sorted_out hI p (b9T q p.size_eq.symm);exact h _ D C B z
 have i:∀ y:SortSt,(arrOf y).Perm (lc vs)->((arrOf y).map (·.2)).size<=ki+1:=λy p=>by
  rw[jV,p.size_eq,pairsOf_size];omega
 by_cases c:vs.toArray.size<2
 ·rw[if_pos c,if_pos c];refine kh (kA ?_);rw[StateT.run_pure];refine kh (kA ?_);dsimp only;have r:(arrOf (SortSt.mk' general' (vs.toArray.zip vs.toArray) #[] 7 none)).Perm (lc vs):=iC.refl _;refine kh (lQ k rfl (kh (lP k rfl ?_ (by simp) (i _ r))));simp only[bne_self_eq_false,iE,if_false];refine kA (g _ r ?_)
  show Srt kN (lc vs).toList
  rw[mv]
  have:vs.length<2:=by simpa using c
  match vs,this with
  | [],_=>exact .nil
  | [v],_=>exact iY _ _
 ·rw[if_neg c,if_neg c];obtain⟨f,d,b,rfl⟩:∃ f d b,vs=f::d::b:=by
   have:¬ vs.length<2:=by simpa using c
   match vs,this with
   | [],q=>exact absurd (by simp) q
   | [_],q=>exact absurd (by simp) q
   | f::d::b,_=>exact⟨f,d,b,rfl⟩
  rw[keyKind_ints hI];refine kh (kA (kh (kG (a7p
   (Q:=λ_ y=>(arrOf y).Perm (lc (f::d::b))/\kQ y=none/\Srt kN (arrOf y).toList) (b7f hI.intKeys) ⟨iC.refl _,rfl,rfl⟩ rfl λy j m=>⟨j.pm,j.fl,m⟩) ?_ λ_ _ e=>e)))
  rintro⟨⟨⟩,y⟩ s' ⟨rfl,j,m,q3⟩;dsimp only;refine kh (lQ k rfl (kh (lP k rfl ?_ (by simp) (i y j))));rw[m];simp only[bne_self_eq_false,iE,if_false];exact kA (g y j q3)
end
section
variable {prog:kz}{w:World}{A:Around}{E:Value->Shared->Prop}{s:Shared}{κ:KF}{k0:kU}
def a34 (h:Heap) (a:Addr) (vs:List Value):Heap:=((h.update a (Obj.mapSeq λ_=>#[])).push (seqObj "tuple" vs.toArray 0)).push (seqObj "list" #[] 0)
theorem b9U (hb:b≠a) (e:h.get? b=some o):(a34 h a vs).get? b=some o:=by
 refine Heap.get?_push_of_some _ (Heap.get?_push_of_some _ ?_);rw[Heap.get?_update_ne _ _ _ _ hb];exact e
theorem b7g (ho:s.heap.get? a=some (seqObj "list" vs.toArray n)) (hz:vs.length<=100000)
  (hK:2<=vs.length->∀ Q:kU->Shared->Prop,Q k0 { s with heap:=a34 s.heap a vs }->wpAny (model prog w) A (keyKind' vs.toArray) Q E { s with heap:=a34 s.heap a vs })
  (hL:2<=vs.length->LtOk (model prog w) A E { s with heap:=a34 s.heap a vs } κ k0 (lc vs))
  (h:∀ ps:List Keyed,ps.Perm (lc vs).toList->Srt κ ps->P (.done (.ret .none)) { s with heap:=mt s.heap a vs (ps.map (·.2)).toArray }):wpAny (model prog w) A (kF.«list.sort» ⟨[.ref a],[]⟩) P E s:=by
 have i:vs.length<=sizeLine:=by rw[kJ];omega
 have o:vs.toArray.size<=sizeLine:=by simpa using i
 have t:=Heap.lt_size ho;rw[list_sort_plain];refine kh (listItems_at ho rfl (kh (lP ho rfl ?_ o (by simp))));obtain⟨u,m⟩:∃ u,(s.heap.update a (Obj.mapSeq λ_=>#[])).get? a=some (seqObj "list" #[] u):=⟨_,get?_update_seq ho λ_=>#[]⟩;refine kh (lQ m rfl (kh (wpAny_newTuple ?_ (by simpa using i))));refine kh (l6 (kM ?_));have g:(((s.heap.update a (Obj.mapSeq λ_=>#[])).push (seqObj "tuple" vs.toArray 0)).push (seqObj "list" #[] 0)).get? a=some (seqObj "list" #[] u):=by
  rw[Heap.get?_push_ne,Heap.get?_push_ne]
  ·exact m
  ·rw[Heap.size_update];exact fz t
  ·rw[size_push',Heap.size_update];exact fz (ie t)
 dsimp only;have f:=λy p q=>by
  have:=h (arrOf y).toList (iW.mp p) q
  rw[<- Array.toList_map,Array.toArray_toList]at this;exact this
 have b:∀ y:SortSt,(arrOf y).Perm (lc vs)->((arrOf y).map (·.2)).size<=ki+1:=λy p=>by
  rw[jV,p.size_eq,pairsOf_size];omega
 by_cases c:vs.toArray.size<2
 ·rw[if_pos c,if_pos c];refine kh (kA ?_);rw[StateT.run_pure];refine kh (kA ?_);dsimp only;have x:(arrOf (SortSt.mk' general' _ #[] 7 none)).Perm (lc vs):=iC.refl _;refine kh (lQ g rfl (kh (lP g rfl ?_ (by simp) (b _ x))));simp only[bne_self_eq_false,iE,if_false];refine kA (f _ x ?_)
  show Srt κ (lc vs).toList
  rw[mv]
  have:vs.length<2:=by simpa using c
  match vs,this with
  | [],_=>exact .nil
  | [v],_=>exact iY _ _
 ·rw[if_neg c,if_neg c];have r:2<=vs.length:=by simpa using c
  refine kh (hK r _ ?_);refine kh (kG (a7p
   (Q:=λ_ y=>(arrOf y).Perm (lc vs)/\kQ y=none/\Srt κ (arrOf y).toList) (hL r) ⟨iC.refl _,rfl,rfl⟩ rfl λy d j=>⟨d.pm,d.fl,j⟩) ?_ λ_ _ e=>e)
  rintro⟨⟨⟩,y⟩ l ⟨rfl,d,j,q3⟩;dsimp only;refine kh (lQ g rfl (kh (lP g rfl ?_ (by simp) (b y d))));rw[j];simp only[bne_self_eq_false,iE,if_false];exact kA (f y d q3)
end
end Tim
namespace Tim
open PySem PyProof.Rows PySem.W
abbrev Pz:=Sum (Option Int) Str
def PtIs:Pz->Value->Prop
 | .inl none,v=>v=.none
 | .inl (some i),v=>∃ t,v=.int i t
 | .inr s,v=>∃ t,v=.str s t
def PtsAre:List Pz->List Value->Prop
 | [],[]=>True
 | x::xs,v::vs=>PtIs x v/\PtsAre xs vs
 | _,_=>False
noncomputable def lt1:Pz->Pz->Bool
 | .inl (some i),.inl (some j)=>decide (i<j)
 | .inr a,.inr b=>decide (a.cps.toList<b.cps.toList)
 | _,_=>false
noncomputable def cmp1:Pz->Pz->Bool
 | .inl (some _),.inl (some _)=>true
 | .inr _,.inr _=>true
 | _,_=>false
noncomputable def ltT:List Pz->List Pz->Bool
 | x::xs,y::ys=>if x=y then ltT xs ys else lt1 x y
 | _,_=>false
noncomputable def cmpT:List Pz->List Pz->Bool
 | x::xs,y::ys=>if x=y then cmpT xs ys else cmp1 x y
 | [],[]=>true
 | _,_=>false
theorem b7h:∀ x:Pz,lt1 x x=false
 | .inl none=>rfl
 | .inl (some i)=>by simp[lt1]
 | .inr a=>by simp[lt1]
theorem b24:∀ {x y z:Pz},lt1 x y=true->lt1 y z=true->lt1 x z=true
 | .inl (some i),.inl (some j),.inl (some k),h1,h2=>by simp[lt1]at *;omega
 | .inr a,.inr b,.inr c,h1,h2=>by
  simp only[lt1,decide_eq_true_eq]at *;exact List.lt_trans h1 h2
 | .inl none,_,_,h1,_=>by simp[lt1]at h1
 | .inl (some _),.inl none,_,h1,_=>by simp[lt1]at h1
 | .inl (some _),.inr _,_,h1,_=>by simp[lt1]at h1
 | .inr _,.inl _,_,h1,_=>by simp[lt1]at h1
 | .inl (some _),.inl (some _),.inl none,_,h2=>by simp[lt1]at h2
 | .inl (some _),.inl (some _),.inr _,_,h2=>by simp[lt1]at h2
 | .inr _,.inr _,.inl _,_,h2=>by simp[lt1]at h2
theorem b25:∀ xs:List Pz,ltT xs xs=false
 | []=>rfl
 | x::xs=>by unfold ltT;rw[if_pos rfl];exact b25 xs
theorem a6i:∀ {xs ys zs:List Pz},ltT xs ys=true->ltT ys zs=true->ltT xs zs=true
 | [],_,_,h1,_=>by simp[ltT]at h1
 | _::_,[],_,h1,_=>by simp[ltT]at h1
 | _::_,_::_,[],_,h2=>by simp[ltT]at h2
 | x::xs,y::ys,z::zs,h1,h2=>by
  unfold ltT at *
  by_cases c1:x=y
  ·subst c1;rw[if_pos rfl]at h1
   by_cases c2:x=z
   ·subst c2;rw[if_pos rfl]at h2 ⊢;exact a6i h1 h2
   ·rw[if_neg c2]at h2 ⊢;exact h2
  ·rw[if_neg c1]at h1
   by_cases c2:y=z
   ·simp_all
   ·rw[if_neg c2]at h2;have a:=b24 h1 h2;rw[if_neg (λe=>by rw[e,b7h]at a;cases a)];exact a
theorem b7i:∀ {x y:Pz},cmp1 x y=true->x≠y->lt1 x y=true\/lt1 y x=true
 | .inl (some i),.inl (some j),_,h=>by
  have:i≠j:=λe=>h (by rw[e])
  simp only[lt1,decide_eq_true_eq];omega
 | .inr a,.inr b,_,h=>by
  simp only[lt1,decide_eq_true_eq]
  by_cases c1:a.cps.toList<b.cps.toList
  ·exact .inl c1
  ·by_cases c2:b.cps.toList<a.cps.toList
   ·exact .inr c2
   ·exact absurd (jW (List.not_lt.mp c2) (List.not_lt.mp c1)) λe=>h (by
     have c:=Array.toList_inj.mp e;cases b;cases c;rfl)
 | .inl none,_,h,_=>by simp[cmp1]at h
 | .inl (some _),.inl none,h,_=>by simp[cmp1]at h
 | .inl (some _),.inr _,h,_=>by simp[cmp1]at h
 | .inr _,.inl _,h,_=>by simp[cmp1]at h
theorem b26:∀ {xs ys:List Pz},cmpT xs ys=true->xs≠ys->ltT xs ys=true\/ltT ys xs=true
 | [],[],_,h=>absurd rfl h
 | [],_::_,h,_=>by simp[cmpT]at h
 | _::_,[],h,_=>by simp[cmpT]at h
 | x::xs,y::ys,h,hn=>by
  unfold cmpT at h;unfold ltT
  by_cases c:x=y
  ·subst c;rw[if_pos rfl]at h;rw[if_pos rfl,if_pos rfl];exact b26 h λe=>hn (by rw[e])
  ·rw[if_neg c]at h;rw[if_neg c,if_neg (Ne.symm c)];exact b7i h c
noncomputable def rk (rows:List (List Pz)) (x:List Pz):Nat:=rows.countP λq=>ltT q x
theorem b54 (h:ltT x y=true):∀ {l:List (List Pz)},x∈l->l.countP (λq=>ltT q x)<l.countP λq=>ltT q y
 | q::l,hm=>by
  have b:l.countP _<=l.countP λq=>ltT q y:=List.countP_mono_left λq _ e=>a6i e h;rw[jX,jX];have a:(if ltT q x=true then 1 else 0)<=(if ltT q y=true then 1 else 0):=by
   by_cases c:ltT q x=true
   ·rw[if_pos c,if_pos (a6i c h)];exact ff _
   ·rw[if_neg c];exact fL _
  rcases ft.mp hm with e | hm
  ·subst e;rw[b25,h];simp;omega
  ·have:=b54 h hm
   omega
theorem b7j (hx:x∈rows) (h:ltT x y=true):rk rows x<rk rows y:=b54 h hx
theorem b9V (hx:x∈rows) (hy:y∈rows) (hc:cmpT x y=true):rk rows x<rk rows y↔ltT x y=true:=by
 refine⟨λh=>?_,b7j hx⟩
 by_cases e:x=y
 ·grind
 ·rcases b26 hc e with q | q
  ·grind
  ·have:=b7j hy q;omega
def RowIn (h:Heap) (v:Value) (xs:List Pz):Prop:=∃ a o its n,v=.ref a/\h.get? a=some o/\o.cls=.type "tuple"/\o.data=.seq its n/\PtsAre xs its.toList
theorem PtIs.uniq:∀ {x y:Pz}{v:Value},PtIs x v->PtIs y v->x=y
 | .inl none,.inl none,_,_,_=>rfl
 | .inl none,.inl (some _),_,h1,⟨_,h2⟩=>by rw[h1]at h2;cases h2
 | .inl none,.inr _,_,h1,⟨_,h2⟩=>by rw[h1]at h2;cases h2
 | .inl (some _),.inl none,_,⟨_,h1⟩,h2=>by rw[h2]at h1;cases h1
 | .inl (some _),.inl (some _),_,⟨_,h1⟩,⟨_,h2⟩=>by rw[h1]at h2;cases h2;rfl
 | .inl (some _),.inr _,_,⟨_,h1⟩,⟨_,h2⟩=>by rw[h1]at h2;cases h2
 | .inr _,.inl none,_,⟨_,h1⟩,h2=>by rw[h2]at h1;cases h1
 | .inr _,.inl (some _),_,⟨_,h1⟩,⟨_,h2⟩=>by rw[h1]at h2;cases h2
 | .inr _,.inr _,_,⟨_,h1⟩,⟨_,h2⟩=>by rw[h1]at h2;cases h2;rfl
theorem PtsAre.uniq:∀ {xs ys:List Pz}{vs:List Value},PtsAre xs vs->PtsAre ys vs->xs=ys
 | [],[],[],_,_=>rfl
 | x::xs,y::ys,v::vs,⟨a,b⟩,⟨c,d⟩=>by rw[a.uniq c,PtsAre.uniq b d]
 | [],_::_,[],_,h=>h.elim
 | [],_,_::_,h,_=>h.elim
 | _::_,_,[],h,_=>h.elim
 | _::_,[],_::_,_,h=>h.elim
theorem RowIn.uniq (r:RowIn h v xs) (q:RowIn h v ys):xs=ys:=by
 obtain⟨a,o,k,n,rfl,j,_,g,d⟩:=r;obtain⟨p,m,f,l,e,b,_,c,i⟩:=q;cases e;rw[j]at b;cases b;rw[g]at c;cases c;exact d.uniq i
open Classical in
noncomputable def b1x (h:Heap) (v:Value):List Pz:=if e:∃ xs,RowIn h v xs then e.choose else []
theorem a2n (r:RowIn h v xs):b1x h v=xs:=by
 unfold b1x;have e:∃ xs,RowIn h v xs:=⟨xs,r⟩;rw[dif_pos e];exact e.choose_spec.uniq r
noncomputable def kT (h:Heap) (rows:List (List Pz)):KF:=λp=>(rk rows (b1x h p.1):Int)
section
variable {prog:kz}{w:World}{A:Around}{E:Value->Shared->Prop}{s:Shared}{ajj:Array Keyed}{b:Bool}{Q:Bool->Shared->Prop}
theorem a9Q (h:Q true s):wpAny (model prog w) A (eqBool .none .none) Q E s:=kh (l7 (kA h))
theorem b9W:∀ {x y:Pz}{p q:Value}{c:Bool},PtIs x p->PtIs y q->cmp1 x y=true->Q (lt1 x y) s->wpAny (model prog w) A (oneLt' c p q) Q E s
 | .inl (some i),.inl (some j),_,_,c,⟨t,rfl⟩,⟨u,rfl⟩,_,h=>by
  cases c with
  | true=>exact oneLt_int h
  | false=>exact kat_one _ _ (PyProof.Rows.lt_int h)
 | .inr a,.inr b,_,_,c,⟨t,rfl⟩,⟨u,rfl⟩,_,h=>by
  cases c with
  | true=>exact oneLt_str h
  | false=>exact kat_one _ _ (PyProof.Rows.lt_str h)
 | .inl none,_,_,_,_,_,_,h,_=>by simp[cmp1]at h
 | .inl (some _),.inl none,_,_,_,_,_,h,_=>by simp[cmp1]at h
 | .inl (some _),.inr _,_,_,_,_,_,h,_=>by simp[cmp1]at h
 | .inr _,.inl _,_,_,_,_,_,h,_=>by simp[cmp1]at h
theorem b9X:∀ {x y:Pz}{p q:Value},PtIs x p->PtIs y q->(x=y\/cmp1 x y=true)->Q (decide (x=y)) s->wpAny (model prog w) A (eqBool p q) Q E s
 | .inl (some i),.inl (some j),_,_,⟨t,rfl⟩,⟨u,rfl⟩,_,h=>wpAny_eqBool_int (by
   have:(i==j)=decide ((Sum.inl (some i):Pz)=.inl (some j)):=by grind
   rw[this];exact h)
 | .inr a,.inr b,_,_,⟨t,rfl⟩,⟨u,rfl⟩,_,h=>wpAny_eqBool_str (by simp_all)
 | .inl none,.inl none,_,_,h1,h2,_,h=>by
  rw[h1,h2];exact a9Q (by simp_all)
 | .inl none,.inl (some _),_,_,_,_,h,_=>by rcases h with h | h<;>simp[cmp1]at h
 | .inl none,.inr _,_,_,_,_,h,_=>by rcases h with h | h<;>simp[cmp1]at h
 | .inl (some _),.inl none,_,_,_,_,h,_=>by rcases h with h | h<;>simp[cmp1]at h
 | .inl (some _),.inr _,_,_,_,_,h,_=>by rcases h with h | h<;>simp[cmp1]at h
 | .inr _,.inl none,_,_,_,_,h,_=>by rcases h with h | h<;>simp[cmp1]at h
 | .inr _,.inl (some _),_,_,_,_,h,_=>by rcases h with h | h<;>simp[cmp1]at h
theorem b55:∀ {xs ys:List Pz}{vs us:List Value}{i:Nat},PtsAre xs vs->PtsAre ys us->cmpT xs ys=true->Q (ltT xs ys) s->KatLex prog w A b false Q (vs.zip us) i s
 | [],[],[],[],_,_,_,_,h=>h
 | x::xs,y::ys,p::vs,q::us,i,⟨a,c⟩,⟨d,e⟩,hc,h=>by
  unfold cmpT at hc;unfold ltT at h
  by_cases exy:x=y
  ·rw[if_pos exy]at hc h;refine kat_cons (b9X a d (.inl exy) ?_);rw[decide_eq_true exy];exact kat_yes (b55 c e hc h)
  ·rw[if_neg exy]at hc h;refine kat_cons (b9X a d (.inr hc) ?_);rw[decide_eq_false exy];exact kat_no (b9W a d hc h)
 | [],_::_,_,_,_,_,_,hc,_=>by simp[cmpT]at hc
 | _::_,[],_,_,_,_,_,hc,_=>by simp[cmpT]at hc
 | [],[],_::_,_,_,h,_,_,_=>h.elim
 | [],[],[],_::_,_,_,h,_,_=>h.elim
 | _::_,_::_,[],_,_,h,_,_,_=>h.elim
 | _::_,_::_,_::_,[],_,_,h,_,_=>h.elim
theorem a9R:∀ {xs:List Pz}{vs:List Value},PtsAre xs vs->vs.length=xs.length
 | [],[],_=>rfl
 | _::_,_::_,⟨_,h⟩=>by rw[fk,fk,a9R h]
 | [],_::_,h=>h.elim
 | _::_,[],h=>h.elim
theorem b7k (h0:∀ p∈ajj.toList,∃ x∈rows,RowIn s.heap p.1 x) (hm:∀ x∈rows,x.length=m) (hc:∀ x∈rows,∀ y∈rows,cmpT x y=true):LtOk (model prog w) A E s (kT s.heap rows) (tuples' b) ajj:=λp q L I u Q J h=>by
 obtain⟨x,d,i⟩:=h0 p L;obtain⟨y,c,g⟩:=h0 q I;have B:Q (some (ltT x y)) u:=by
  have e:decide (kT s.heap rows p<kT s.heap rows q)=ltT x y:=by
   unfold kT;rw[a2n i,a2n g]
   have:=b9V d c (hc x d y c)
   cases e:ltT x y
   ·grind
   ·grind
  rw[e]at h;exact h
 obtain⟨a,o,j,n,D,H,M,C,t⟩:=i;obtain⟨T,S,f,N,G,v,R,F,r⟩:=g;rw[lt'_eq];refine ko (kW ?_);rw[J,D,G];refine ko (mS (mj (kat_lt H C v F ?_)));have k:=a9R t;have l:=a9R r;rw[hm x d]at k;rw[hm y c]at l;rw[g6]at k l;rw[decide_eq_false (by omega)];exact b55 t r (hc x d y c) ⟨rfl,kt B⟩
end
theorem a71 {α:Type}:∀ vs:List α,vs.zip vs=vs.map λv=>(v,v)
 | []=>rfl
 | v::vs=>by rw[List.zip_cons_cons,fy,a71 vs]
def RowsIn (h:Heap):List Value->List (List Pz)->Prop
 | [],[]=>True
 | v::vs,x::xs=>RowIn h v x/\RowsIn h vs xs
 | _,_=>False
theorem RowsIn.len:∀ {vs:List Value}{rows:List (List Pz)},RowsIn h vs rows->vs.length=rows.length
 | [],[],_=>rfl
 | _::_,_::_,⟨_,r⟩=>by rw[fk,fk,RowsIn.len r]
 | [],_::_,r=>r.elim
 | _::_,[],r=>r.elim
theorem RowsIn.mem:∀ {vs:List Value}{rows:List (List Pz)},RowsIn h vs rows->∀ v∈vs,∃ x∈rows,RowIn h v x
 | v::vs,x::xs,⟨r,q⟩,u,hu=>by
  rcases ft.mp hu with rfl | hu
  ·exact⟨x,.head _,r⟩
  ·obtain⟨y,b,a⟩:=q.mem u hu;exact⟨y,.tail _ b,a⟩
 | [],[],_,u,hu=>by simp at hu
 | [],_::_,r,_,_=>r.elim
 | _::_,[],r,_,_=>r.elim
theorem RowsIn.map:∀ {vs:List Value}{rows:List (List Pz)},RowsIn h vs rows->vs.map (b1x h)=rows
 | [],[],_=>rfl
 | v::vs,x::xs,⟨r,q⟩=>by rw[fy,a2n r,q.map]
 | [],_::_,r=>r.elim
 | _::_,[],r=>r.elim
theorem RowIn.mid {vs ws:List Value}(ho:h.get? a=some (seqObj "list" ws.toArray n)) (r:RowIn h v x):RowIn (a34 h a vs) v x:=by
 obtain⟨b,o,d,m,i,c,e,g,f⟩:=r;refine⟨b,o,d,m,i,b9U (λz=>?_) c,e,g,f⟩;rw[z,ho]at c;cases c;simp at e
theorem RowsIn.mid {us ws:List Value}(ho:h.get? a=some (seqObj "list" ws.toArray n)):∀ {vs:List Value}{rows:List (List Pz)},RowsIn h vs rows->RowsIn (a34 h a us) vs rows
 | [],[],_=>trivial
 | _::_,_::_,⟨r,q⟩=>⟨r.mid ho,q.mid ho⟩
 | [],_::_,r=>r.elim
 | _::_,[],r=>r.elim
def a72 (rows:List (List Pz)):Prop:=∀ x∈rows,∃ (s:Str) (r:List Pz),x=.inr s::r
def a5S (rows:List (List Pz)):Prop:=∀ x∈rows,∃ (i:Int) (r:List Pz),x=.inl (some i)::r
theorem RowsIn.kat {T:Pz->Prop}:∀ {vs:List Value}{rows:List (List Pz)},RowsIn h vs rows->(∀ x∈rows,∃ f r,x=f::r/\T f)->∃ fs:List Value,KatTups h vs fs/\fs.length=vs.length/\∀ v∈fs,∃ f,T f/\PtIs f v
 | [],[],_,_=>⟨[],trivial,rfl,λv a=>by simp at a⟩
 | v::vs,x::xs,⟨r,q⟩,hf=>by
  obtain⟨j,k,p,g⟩:=q.kat λy d=>hf y (.tail _ d);obtain⟨y,t,rfl,d⟩:=hf x (.head _);obtain⟨b,o,e,m,rfl,s,l,n,c⟩:=r;cases hi:e.toList with
  | nil=>rw[hi]at c;exact c.elim
  | cons f fr=>
   rw[hi]at c;obtain⟨i,_⟩:=c;refine⟨f::j,KatTups.cons s l n (by rw[<- gU,hi];rfl) k,by rw[fk,fk,p],λv a=>?_⟩;rcases ft.mp a with rfl | a
   ·exact⟨y,d,i⟩
   ·simp_all
 | [],_::_,r,_=>r.elim
 | _::_,[],r,_=>r.elim
section
variable {prog:kz}{w:World}{A:Around}{E:Value->Shared->Prop}{s:Shared}
theorem sort_tups (ho:s.heap.get? a=some (seqObj "list" vs.toArray n)) (hz:vs.length<=100000) (hr:RowsIn s.heap vs rows) (hf:a72 rows\/a5S rows)
  (hm:∀ x∈rows,x.length=m) (hc:∀ x∈rows,∀ y∈rows,cmpT x y=true)
  (h:∀ (out:List Value) (os:List (List Pz)),out.Perm vs->os=out.map (b1x s.heap)->os.Perm rows->os.Pairwise (λx y=>ltT y x=false)->P (.done (.ret .none)) { s with heap:=mt s.heap a vs out.toArray }):wpAny (model prog w) A (kF.«list.sort» ⟨[.ref a],[]⟩) P E s:=by
 have k:RowsIn (a34 s.heap a vs) vs rows:=hr.mid ho;refine b7g (k0:=tuples' true) ho hz (λW Q H=>?_) (λW=>b7k (λp i=>?_) hm hc) λB i Y=>?_
 ·rcases hf with hf | hf
  ·obtain⟨R,o,N,u⟩:=k.kat (T:=λf=>∃ x,f=.inr x) λx C=>let ⟨y,r,e⟩:=hf x C;⟨_,r,e,y,rfl⟩
   refine kat_kind (T:=.type "str") o (by omega) (λv d=>?_) (by rfl) H;obtain⟨_,⟨x,rfl⟩,t,rfl⟩:=u v d;exact .now
  ·obtain⟨R,o,N,u⟩:=k.kat (T:=λf=>∃ x,f=.inl (some x)) λx C=>let ⟨y,r,e⟩:=hf x C;⟨_,r,e,y,rfl⟩
   refine kat_kind (T:=.type "int") o (by omega) (λv d=>?_) (by rfl) H;obtain⟨_,⟨x,rfl⟩,t,rfl⟩:=u v d;exact .now
 ·rw[mv,a71]at i;obtain⟨v,d,rfl⟩:=fq.mp i;exact k.mem v d
 ·rw[mv,a71]at i;have G:(B.map (·.2)).Perm vs:=by
   have:=i.map (·.2)
   rw[gJ,show (_∘λv:Value=>(v,v))=id from rfl,i8]at this;exact this
  have j:∀ p∈B,p.1=p.2/\p.2∈vs:=λp l=>by
   obtain⟨v,d,rfl⟩:=fq.mp (i.mem_iff.mp l);exact⟨rfl,d⟩
  have V:((B.map (·.2)).map (b1x s.heap)).Perm rows:=by
   rw[<- hr.map];exact G.map _
  refine h _ _ G rfl V ?_;rw[gX,gX];refine gn.imp_of_mem (λ{p q} l D F=>?_) Y;obtain⟨U,S⟩:=j p l;obtain⟨M,X⟩:=j q D;obtain⟨x,x1,J⟩:=hr.mem _ S;obtain⟨y,L,I⟩:=hr.mem _ X;rw[a2n J,a2n I];unfold kT at F;rw[U,M,a2n (J.mid ho),a2n (I.mid ho)]at F;cases e:ltT y x with
  | false=>rfl
  | true=>have:=b7j L e;omega
end
end Tim
namespace SetW
open PySem
def Up (xs:Array Nat):Prop:=xs.toList.Pairwise (·<·)
structure TOk (led:Bool) (t:lr):Prop where
 up:Up t.place
 dm:t.dummies=#[]
 ld:t.led=led
end SetW
namespace SetW
open PySem PyProof.Rows
noncomputable def byT (w:World):Bool:=w.params.followText "set-order"
inductive KsAre {prog:kz}{w:World}{K:Type}[DecidableEq K] (kd:KeyKind prog w K):List Value->List K->Prop
 | nil:KsAre kd [] []
 | cons {v:Value} {k:K} {vs:List Value} {ks:List K} (h:kd.is k v=true) (t:KsAre kd vs ks):KsAre kd (v::vs) (k::ks)
structure SO {prog:kz}{w:World}{K:Type}[DecidableEq K] (kd:KeyKind prog w K) (h:Heap) (a:Addr) (es:Array (Int×Value)) (ep:Nat) (t:lr) (ms:List K):Prop where
 at_:∃ o,h.get? a=some o/\o.ExactSet/\o.data=.set es ep t
 el:ElemsOf kd es.toList
 nums:KsAre kd (es.toList.map (·.2)) ms
 sc:es.size<scanBound
 fit:t.fits es.size=true
 ok:TOk (!byT w) t
def SI {prog:kz}{w:World}{K:Type}[DecidableEq K] (kd:KeyKind prog w K) (h:Heap) (a:Addr) (ms:List K):Prop:=∃ es ep t,SO kd h a es ep t ms
section
variable {prog:kz}{w:World}{K:Type}[DecidableEq K] {kd:KeyKind prog w K}
theorem b9Y (h:KsAre kd vs ns):vs.length=ns.length:=by
 induction h with
 | nil=>rfl
 | cons _ _ ih=>rw[fk,fk,ih]
theorem b9Z (h:KsAre kd vs ns):(∃ v∈vs,kd.is k v=true)↔k∈ns:=by
 induction h with
 | nil=>simp
 | @cons v n vs ns h1 _ ih=>
  rw[ft,<- ih]
  constructor
  ·rintro⟨u,a,b⟩;rcases ft.mp a with rfl | a
   ·exact .inl (kd.inj _ _ _ b h1)
   ·exact .inr ⟨u,a,b⟩
  ·rintro (rfl | ⟨u,a,b⟩)
   ·exact⟨v,.head _,h1⟩
   ·exact⟨u,.tail _ a,b⟩
end
section
variable {prog:kz}{w:World}{A:Around}{E:Value->Shared->Prop}{s:Shared}{a:Addr}{es:Array (Int×Value)}{ep:Nat}{t:lr}{K:Type}[DecidableEq K] {kd:KeyKind prog w K}{ms:List K}{k:K}{v:Value}
theorem SO.mem (S:SO kd s.heap a es ep t ms):(∃ e∈es.toList,kd.is k e.2=true)↔k∈ms:=by
 rw[<- b9Z S.nums]
 constructor
 ·rintro⟨e,c,b⟩;exact⟨e.2,fP c,b⟩
 ·rintro⟨u,d,b⟩;obtain⟨e,c,rfl⟩:=fq.mp d;exact⟨e,c,b⟩
theorem SO.stored {h:Heap}(ho:h.get? a=some o) (hx:o.ExactSet) (hd:o.data=.set es ep t) (hel:ElemsOf kd es'.toList) (hi:KsAre kd (es'.toList.map (·.2)) ms') (hs:es'.size<scanBound) (hf:t'.fits es'.size=true) (hk:TOk (!byT w) t') :
  (h.update a (Obj.putSet es' t')).get? a=some { o with data:=.set es' (ep+1) t' }/\SO kd (h.update a (Obj.putSet es' t')) a es' (ep+1) t' ms':=by
 have b:(h.update a (Obj.putSet es' t')).get? a=some { o with data:=.set es' (ep+1) t' }:=by
  have q:=Heap.get?_update_self (Obj.putSet es' t') ho (by rw[putSet_of es' t' hd];rfl);rw[putSet_of es' t' hd]at q;exact q
 exact⟨b,⟨⟨_,b,hx,rfl⟩,hel,hi,hs,hf,hk⟩⟩
theorem TOk.plain (h:TOk led t):TOk led ({ t with plain:=b }:lr):=⟨h.up,h.dm,h.ld⟩
end
theorem SI.at {K:Type}[DecidableEq K] {kd:KeyKind prog w K}{ms:List K}(S:SI kd h a ms) (k:∀ o,h.get? a=some o->h'.get? a=some o):SI kd h' a ms:=by
 obtain⟨l,i,t,⟨o,g,x,d⟩,f,j,e,c,b⟩:=S;exact⟨l,i,t,⟨o,k o g,x,d⟩,f,j,e,c,b⟩
def Met {K:Type}(val:Nat->K) (i:Nat) (ms:List K):Prop:=ms.Nodup/\ms.length<=i/\∀ x,x∈ms↔∃ j,j<i/\val j=x
theorem Met.step {K:Type}[DecidableEq K] {val:Nat->K}{ms ms':List K}(h:Met val i ms) (p:ms'.Perm (if val i∈ms then ms else ms++[val i])):Met val (i+1) ms':=by
 obtain⟨d,k,b⟩:=h;have a:∀ x,(∃ j,j<i+1/\val j=x)↔(∃ j,j<i/\val j=x)\/x=val i:=λx=>by grind
 by_cases c:val i∈ms
 ·rw[if_pos c]at p;refine⟨p.nodup_iff.mpr d,by rw[p.length_eq];omega,λx=>?_⟩;rw[p.mem_iff,a,b];exact⟨.inl,λz=>z.elim id λe=>(b x).mp (e▸c)⟩
 ·rw[if_neg c]at p;refine⟨p.nodup_iff.mpr ?_,by rw[p.length_eq];simp;exact k,λx=>?_⟩
  ·rw[gY];exact⟨d,by simp,λx g y f=>by rw[fi.mp f];rintro rfl;exact c g⟩
  ·rw[p.mem_iff,a,fg,b,fi]
section
variable {prog:kz}{w:World}{A:Around}{R:Result->Shared->Prop}{I:Addr}{fp wr:List Addr}{G:Array lR->Array lR->Prop}{n:Nat}{P:Nat->Value->Prop}{St:Nat->Shared->Prop}{K:Type}[DecidableEq K] {kd:KeyKind prog w K}
end
section
variable {prog:kz}{w:World}{A:Around}{E:Value->Shared->Prop}{s:Shared}{K:Type}[DecidableEq K] {kd:KeyKind prog w K}
abbrev b4Y (w:World):Obj:={ cls:=.type "set",dict:=none,data:=.set #[] 0 (.fresh 0 0 (!byT w)) }
theorem SI.fresh (g:h.get? a=some (b4Y w)):SI kd h a []:=
 ⟨#[],0,.fresh 0 0 _,⟨_,g,⟨rfl,rfl,rfl⟩,rfl⟩,λe b=>by simp at b,.nil,by decide,rfl,⟨.nil,rfl,rfl⟩⟩
end
def SetIt (h:Heap) (it a:Addr) (first:Value) (i n ep:Nat):Prop:=∃ o,h.get? it=some o/\o.cls=.type "set_iterator"/\o.data=.fields #[first,.int i 0,.ref a,.int n 0,.int ep 0]
theorem SetIt.ty {s:Shared}(x:SetIt s.heap it a f i n ep):s.TypeIs (.ref it) "set_iterator":=let ⟨o,g,c,_⟩:=x;⟨o,g,c⟩
theorem SetIt.at (x:SetIt h it a f i n ep) (e:∀ o,h.get? it=some o->h'.get? it=some o):SetIt h' it a f i n ep:=let ⟨o,g,r⟩:=x;⟨o,e _ g,r⟩
section
variable {prog:kz}{w:World}{A:Around}{E:Value->Shared->Prop}{s:Shared}{it a:Addr}{f:Value}{i n ep:Nat}{o:Obj}{es:Array (Int×Value)}{t:lr}
end
section
variable {prog:kz}{w:World}{A:Around}{E:Value->Shared->Prop}{s:Shared}{it a:Addr}{f:Value}{i n ep k:Nat}{o:Obj}{es:Array (Int×Value)}{t:lr}{K:Type}[DecidableEq K] {kd:KeyKind prog w K}{ms:List K}
end
theorem SO.at {K:Type}[DecidableEq K] {kd:KeyKind prog w K}{ms:List K}(S:SO kd h a es ep t ms) (k:∀ o,h.get? a=some o->h'.get? a=some o):SO kd h' a es ep t ms:=by
 obtain⟨⟨o,g,x,d⟩,i,f,e,b,c⟩:=S;exact⟨⟨o,k o g,x,d⟩,i,f,e,b,c⟩
section
variable {prog:kz}{w:World}{A:Around}{E:Value->Shared->Prop}{s:Shared}{it a T:Addr}{f:Value}{i n ep k:Nat}{o:Obj}{es:Array (Int×Value)}{t:lr}{K:Type}[DecidableEq K] {kd:KeyKind prog w K}{ms:List K}{ps:List Nat}
end
section
variable {prog:kz}{w:World}{A:Around}{E:Value->Shared->Prop}{s:Shared}{it a T:Addr}{f:Value}{i n ep k:Nat}{o:Obj}{es:Array (Int×Value)}{t:lr}{K:Type}[DecidableEq K] {kd:KeyKind prog w K}{ms:List K}{ps:List Nat}
def PlacesAt (h:Heap) (T:Addr) (ps:List Nat):Prop:=∃ o c,h.get? T=some o/\o.data=.seq (ps.map λ(i:Nat)=>rawInt i).toArray c
theorem PlacesAt.at (x:PlacesAt h T ps) (k:∀ o,h.get? T=some o->h'.get? T=some o):PlacesAt h' T ps:=let ⟨o,c,g,d⟩:=x;⟨o,c,k _ g,d⟩
end
section
variable {prog:kz}{w:World}{A:Around}{E:Value->Shared->Prop}{s:Shared}{it a T:Addr}{f:Value}{i n ep k:Nat}{o:Obj}{es:Array (Int×Value)}{t:lr}{K:Type}[DecidableEq K] {kd:KeyKind prog w K}{ms:List K}{ps:List Nat}
theorem SO.ty (S:SO kd s.heap a es ep t ms):s.TypeIs (.ref a) "set":=let ⟨o,g,x,_⟩:=S.at_;⟨o,g,x.1⟩
theorem SO.len (S:SO kd s.heap a es ep t ms):es.size=ms.length:=by
 have q:=b9Y S.nums;simpa using q
end
section
variable {prog:kz}{w:World}{A:Around}{E:Value->Shared->Prop}{s:Shared}{a:Addr}{K:Type}[DecidableEq K] {kd:KeyKind prog w K}{ms:List K}
end
end SetW
namespace L2
open PySem PySem.Spec PyProof.Rows
theorem a73:∀ {vs:List Value}{ns:List Int},kS vs ns->vs.length=ns.length
 | _,_,.nil=>rfl
 | _,_,.cons n t h=>by rw[fk,fk,a73 h]
theorem a8R:∀ {vs:List Value}{ns:List Int},kS vs ns->Vals (ns.map V.int) vs
 | _,_,.nil=>.nil
 | _,_,.cons n t h=>.cons ⟨t,rfl⟩ (a8R h)
theorem b27:∀ {vs:List Value}{ns:List Int},vs.length=ns.length->(∀ (i:Nat) v,vs[i]?=some v->∃ n t,ns[i]?=some n/\v=.int n t)->kS vs ns
 | [],[],_,_=>.nil
 | [],_::_,h,_=>by simp at h
 | _::_,[],h,_=>by simp at h
 | v::vs,n::ns,h,q=>by
  obtain⟨m,t,a,b⟩:=q 0 v rfl;simp at a;subst a b;exact .cons _ t (b27 (by simpa using h) λi v e=>by simpa using q (i+1) v (by simpa using e))
section
variable {P:kz}{w:World}{A:Around}{E:Value->Shared->Prop}{s:Shared}
theorem b28 (hmx:ns.length<=1000)
  (hcol:∀ R:List Value->Shared->Prop,(∀ (g:Heap) (tk:Nat) (d:Drawn) (vs:List Value) (ks:List Int),(∀ b o,s.heap.get? b=some o->g.get? b=some o)->kS vs ks->ks.Perm ns->R vs { s with heap:=g,drawn:=d,toks:=tk })->wpAny (model P w) A.in1 (collect (.ref r)) R E s)
  (h:∀ (g g':Heap) (tk:Nat) (d:Drawn) (out:List Value) (n:Nat) (ms:List Int),(∀ b o,s.heap.get? b=some o->g.get? b=some o)->(∀ b o,g.get? b=some o->g'.get? b=some o)->g'.get? g.objs.size=some { cls:=.type "list",data:=.seq out.toArray n } ->
   kS out ms->ms.Perm ns->ms.Pairwise (·<=·)->Q (.ref g.objs.size) { s with heap:=g',drawn:=d,toks:=tk }):wpAny (model P w) A (call (.builtin "sorted") [.ref r]) Q E s:=by
 refine Calls.call_function_entry mU mV mW (mX _) ?_;refine kh (kA (kh (hcol _ λg t d f ks p l k=>?_)));have hl:=(a73 l).trans k.length_eq;have v:f.length<=sizeLine:=by rw[kJ];omega
 refine kh (l6 ?_ v);have j:(g.push _).get? g.objs.size=some (seqObj "list" f.toArray 0):=Heap.get?_push_size _ rfl;refine kh (kM (me mY ⟨_,j,rfl⟩ mZ (Tim.sort_any j l (by omega) λout u y x q=>⟨_,rfl,?_⟩) (nc _)));have c:=ng (out:=out) j;obtain⟨n,c⟩:=c;refine kA ⟨_,rfl,h g _ t d out.toList n u p (λb o e=>?_) (by omega) y (x.trans k) q⟩;have i:=Heap.lt_size e;rw[ni (fz i) (by rw[Heap.size_push];exact ie i)];exact Heap.get?_push_of_some _ e
end
section
variable {X:Cx}
theorem Inv.drew (I:Inv X pins σ H s) (d:Drawn):Inv X pins σ H { s with drawn:=d }:=
 I.step (ch:=[]) (λb a=>nomatch a) (λb o _ _ _ e _=>e) (λb o _ _ _ e _=>⟨o.slots,e⟩) (λ_ _ _ _ n=>n) (λb o _ e=>⟨o,e⟩) (λ_ _ e=>e) (λ_ _ _ e=>e) (λb f e=>⟨#[],by rw[e];simp⟩) (λm c=>c) I.hok I.bare
def b7l (K:Fg):List V->Hp->VK->Prop:=λxs H Q=>∃ (p:Addr) (ns:List Int),xs=[.ref p]/\(SqL K H p (ns.map V.int)\/∃ kvs:List (Key×V),H p=some (.dK kvs)/\kvs.map (·.1)=ns.map λi=>(Sum.inl (some i):Key))/\ns.length<=1000 /\
 ∀ (t:Addr) (ms:List Int),H t=none->ms.Perm ns->ms.Pairwise (·<=·)->Q (.ref t) (upd H t (.lst (ms.map V.int)))
theorem a9S (hc:X.calm=true):CallR X (.builtin "sorted") (b7l X.K):=by
 intro F s σ H xs us Q I r h;obtain⟨p,ns,rfl,C,G,q⟩:=h;obtain⟨u,rfl,rx⟩:=a3V r;cases rx;have hh:=I.ok.hd hc;refine b28 G (λR T=>?_) λg g' l d ab n L k1 k2 e a1 S a3=>?_
 ·rcases C with C | ⟨kvs,hd,hk⟩
  ·obtain⟨M,rv,pl,_⟩:=I.list C;have U:=b1p rv;refine collect_list pl.isList ?_ (by rw[a73 U,kJ];omega);refine T _ s.toks s.drawn M _ (λb o e=>?_) U (fO.refl _);have ac:=Heap.lt_size e;rw[Heap.get?_update_ne _ _ _ _ (fz ac)];exact Heap.get?_push_of_some _ e
  ·obtain⟨z,lo,E,B,dd⟩:=b1r I.hok hd;obtain⟨ep,ad⟩:=dd.dictAt;have Y:E.length=ns.length:=by rw[<- B.length,<- fc,hk,fc]
   refine PySem.W.kdu_collect (PySem.W.kdl_dict lo) hh ad (by rw[Y,kJ];omega) λg l aa kp c=>?_;refine T g l s.drawn aa.toList ns kp (b27 (by rw[g6,c.1,Y]) λi v e=>?_) (fO.refl _);obtain⟨k,x,e1,e2⟩:=c.2 i v (by simp_all);have y:E.map (·.1)=ns.map λi=>(Sum.inl (some i):Key):=by rw[<- B.keys];exact hk
   have j:(ns.map λi=>(Sum.inl (some i):Key))[i]?=some k:=by rw[<- y,fm,e1];rfl
   rw[fm]at j;cases hn:ns[i]? with
   | none=>rw[hn]at j;cases j
   | some n=>
    rw[hn]at j;cases j;have D:Value.isInt n v=true:=e2;cases v with
    | int m t=>exact⟨n,t,rfl,by simp[Value.isInt]at D;rw[D]⟩
    | _=>simp[Value.isInt]at D
 ·have J:Inv X F σ H { s with heap:=g,drawn:=d,toks:=l }:=(I.drew d).kept k1;exact⟨.ref g.objs.size,_,J.laid k2 (ff _) (show ObjOk X.prog X.w _ g' _ (.lst (L.map V.int)) from ⟨by rw[fc,S.length_eq,kJ];omega,ab,n,a8R a1,e⟩),rfl,q _ L (J.hok.fresh (ff _)) S a3⟩
end
structure Zs where
 it:Addr
 tp:Bool
 l:Addr
def Zs.At (z:Zs) (k:Nat) (h:Heap):Prop:=if z.tp=true then h.IsTupleIter z.it z.l k else h.IsListIter z.it z.l k
def Zs.Has (z:Zs) (h:Heap) (xs:Array Value):Prop:=if z.tp=true then h.IsTuple z.l xs else h.IsList z.l xs
theorem Zs.At.keep {z:Zs}(a:z.At k h) (q:∀ o,h.get? z.it=some o->h'.get? z.it=some o):z.At k h':=by
 unfold Zs.At at a ⊢
 split
 ·next e=>rw[if_pos e]at a;exact a.at q
 ·next e=>rw[if_neg e]at a;exact a.at q
theorem Zs.Has.keep {z:Zs}(a:z.Has h xs) (q:∀ o,h.get? z.l=some o->h'.get? z.l=some o):z.Has h' xs:=by
 unfold Zs.Has at a ⊢
 split
 ·next e=>rw[if_pos e]at a;exact let ⟨o,ho,r⟩:=a;⟨o,q o ho,r⟩
 ·next e=>rw[if_neg e]at a;exact let ⟨o,ho,r⟩:=a;⟨o,q o ho,r⟩
theorem Zs.At.obj {z:Zs}(a:z.At k h):∃ o,h.get? z.it=some o/\∀ v,o.data≠.cell v:=by
 unfold Zs.At at a
 split at a<;>(obtain⟨o,e,_,d⟩:=a;exact⟨o,e,λv q=>by rw[d]at q;cases q⟩)
section
variable {P:kz}{w:World}{A:Around}{E:Value->Shared->Prop}{s:Shared}
end
section
variable {P:kz}{w:World}{A:Around}{E:Value->Shared->Prop}{s:Shared}
end
section
variable {X:Cx}{pins:List (Addr×Obj)}{σ:St}{H:Hp}{s:Shared}{h':Heap}
end
def SrcV (K:Fg) (H:Hp) (y:Zs) (xs:List V):Prop:=if y.tp=true then SqT K H y.l xs else SqL K H y.l xs
theorem SrcV.has (I:Inv X pins σ H s) (h:SrcV X.K H y xs):∃ its:List Value,Vals xs its/\y.Has s.heap its.toArray:=by
 unfold SrcV at h;unfold Zs.Has
 split at h
 ·next e=>obtain⟨a,r,p,_⟩:=I.tuple h;exact⟨a,r,by rw[if_pos e];exact p⟩
 ·next e=>obtain⟨a,r,p,_⟩:=I.list h;exact⟨a,r,by rw[if_neg e];exact p.isList⟩
theorem SrcV.inj (I:Inv X pins σ H s) (h:SrcV X.K H y xs) (h':SrcV X.K H y xs'):xs=xs':=by
 unfold SrcV at h h'
 split at h
 ·next e=>rw[if_pos e]at h';exact I.tuple_inj h h'
 ·next e=>rw[if_neg e]at h';exact I.list_inj h h'
def SrcP (K:Fg) (H:Hp) (p:Bool×Addr) (xs:List V):Prop:=if p.1=true then SqT K H p.2 xs else SqL K H p.2 xs
theorem Turn.imp {P:kz}{w:World}{K:Fg}{tg:Expr}{J J':It}{fp:List Addr}{it:Addr}{tn:Nat->Heap->Prop}(t:Turn P w K tg J fp it tn) (g:∀ i H,J'.go i H->J.go i H) (y:∀ i H x H',J'.go i H->J.yld i H x H'->J'.yld i H x H') (s:∀ i H,J'.stop i H->J.stop i H):Turn P w K tg J' fp it tn where
 mem:=t.mem
 obj:=t.obj
 keep:=t.keep
 item:=λX h1 h2 h3 h4 i pins s σ H E I hf st hg=>kG (t.item X h1 h2 h3 h4 i pins s σ H E I hf st (g i H hg)) (λr s1 ⟨u,e,q⟩=>⟨u,e,kG q (λ_ s2 ⟨x,H',a,b,c,d,e⟩=>⟨x,H',a,b,y i H x H' hg c,d,e⟩) λ_ _ z=>z⟩) λ_ _ z=>z
 done:=λX h1 h2 h3 h4 i pins s' σ H E I hf st hg=>t.done X h1 h2 h3 h4 i pins s' σ H E I hf st (s i H hg)
 self:=t.self
noncomputable def Itv (K:Fg) (a:Addr) (n:Nat):It:=
 ⟨λi H=>i<n/\∃ xs,SqL K H a xs/\xs.length=n,λi H x H'=>H'=H/\∀ xs,SqL K H a xs->xs[n - 1 - i]?=some x,λi _=>i=n⟩
theorem b4Z {P:kz}{w:World}{K:Fg}{tg:Expr}(a it:Addr) (n:Nat):Turn P w K tg (Itv K a n) [it] it (λi h=>i<=n/\h.IsRevIter it a ((n:Int) - 1 - (i:Nat))) where
 mem:=by simp
 obj:=λi h st b hb=>by
  have e:b=it:=by simpa using hb
  subst e;obtain⟨o,e,c,d⟩:=st.2;exact⟨o,e,λv z=>by rw[d]at z;cases z⟩
 keep:=λi h h' st k=>⟨st.1,st.2.at λo e=>k it (by simp) o e⟩
 item:=by
  intro X hP hw hK hc i pins s σ H E I hf st hg;subst hP hw hK;obtain⟨hi,xs,hq,hx⟩:=hg;obtain⟨its,rv,p,hz⟩:=I.list hq;have hx':=fw (show n - 1 - i<xs.length by omega);obtain⟨u,hu,ru⟩:=rv.get hx';obtain⟨f0,f1,f2,f3,f4,f5⟩:=hf it (by simp);have st':=st.2;have e1:(n:Int) - 1 - (i:Nat)=((n - 1 - i:Nat):Int):=by omega
  rw[e1]at st';refine wpAny_pyNext_rev_item st' p.isList (x:=u) (by simpa using hu) λh' s2 sb=>?_;have I1:Inv X pins σ H { s with heap:=h' }:=I.turned (t':=s.toks) (λb o hb e=>(sb.2 b hb).trans e) f0 f1 f3 f4 f5;obtain⟨o,e,c,d⟩:=id s2;refine⟨u,rfl,b1h (s:={ s with heap:=h' }) e c d (by decide) ⟨xs[n - 1 - i],H,I1,ru,⟨rfl,λys hy=>by rw[I.list_inj hy hq];exact hx'⟩,⟨by omega,?_⟩,λb hb=>(hf b hb).1⟩⟩;have e2:(n:Int) - 1 - ((i+1:Nat):Int)=((n - 1 - i:Nat):Int) - 1:=by omega
  rw[e2];exact s2
 done:=by
  intro X hP hw hK hc i pins s σ H E I hf st hg;subst hP hw hK;obtain⟨f0,f1,f2,f3,f4,f5⟩:=hf it (by simp);have hi:i=n:=hg;have st':=st.2;have e1:(n:Int) - 1 - (i:Nat)=-1:=by omega
  rw[e1]at st';exact wpAny_pyNext_rev_end (I.ok.hd hc) st' λh' eb=>⟨rfl,I.turned (t':=s.toks) (λb o hb e=>eb b o hb e) f0 f1 f3 f4 f5⟩
 self:=λ_ _ _ _ _ st h=>wpAny_pyIter_revIter st.2 h
def c11 (K:Fg) (ta:TA):TI:=fun σ H R=>ta σ H λvs H1=>∃ a xs,vs=[.ref a]/\SqL K H1 a xs/\R (Itv K a xs.length) H1
theorem b90 (hg:Gl X "reversed") (hm:X.mg "reversed"=none) (ha:PA X [e] ta)
  (he:kj [e] X.env=(false,eval e X.env)::kj [] X.env:=by rfl):PI X tg (.Call (.Name "reversed" p) [e] [] pos) (c11 X.K ta):=by
 intro i s σ H R I h;refine Call_ (a7c I hg hm boot_reversed (PyProof.Rows.callWith_type1 (thn (ha pos i s σ H _ I h) λy c ⟨A,v,f,k,l⟩=>?_) he rfl));obtain⟨a,d,rfl,n,q⟩:=l;obtain⟨u,rfl,r⟩:=a3V k;cases r;obtain⟨j,m,w,z⟩:=f.list n;have x:j.toArray.size=d.length:=by rw[fR,m.length]
 refine call_reversed_list w.isList ?_;rw[x];have g:(c.heap.push (revObj a ((d.length) - 1))).IsRevIter c.heap.objs.size a ((d.length) - 1 - 0):=⟨_,Heap.get?_push_size _ rfl,rfl,by simp[revObj]⟩;refine wpAny_pyIter_revIter g ?_;refine⟨c.heap.objs.size,[c.heap.objs.size],_,_,v,rfl,f.kept λb o e=>Heap.get?_push_of_some _ e,b4Z a _ d.length,⟨fL _,g⟩,λb t=>?_,q⟩;have e:b=c.heap.objs.size:=by simp_all
 subst e;exact f.fpOk (ff _) (f.hok.fresh (ff _))
section
variable {X:Cx}
end
end L2
namespace L3
open PySem PySem.Spec PyProof.Rows L2
section
variable {X:Cx}
noncomputable def putZ (kvs:List (Key×Z)) (k:Key) (v:Z):List (Key×Z):=
 if (kvs.any λkv=>decide (kv.1=k))=true then kvs.map (λkv=>if kv.1=k then (kv.1,v) else kv) else kvs++[(k,v)]
theorem b29 {α β:Type}:∀ {kvs:List (Key×α)}{us:List (Key×β)},us.map (·.1)=kvs.map (·.1)->(us.any λkv=>decide (kv.1=k))=kvs.any λkv=>decide (kv.1=k)
 | [],[],_=>rfl
 | [],_::_,h=>by simp at h
 | _::_,[],h=>by simp at h
 | p::ps,q::qs,h=>by
  rw[fy,fy]at h;injection h with h1 h2
  rw[iy,iy,b29 h2,h1]
theorem a74 {K:Fg}(rv:Rep K H w v) (hk:us.map (·.1)=kvs.map (·.1)) (hr:Reps K H (kvs.map (·.2)) (us.map (·.2))) :
  (putK us k v).map (·.1)=(putZ kvs k w).map (·.1)/\Reps K H ((putZ kvs k w).map (·.2)) ((putK us k v).map (·.2)):=by
 unfold putK putZ;rw[b29 hk]
 split
 ·have l:∀ {d:List _}{f:List _},f.map (·.1)=d.map (·.1)->Reps K H (d.map (·.2)) (f.map (·.2))->((f.map λc=>if c.1=k then (c.1,v) else c).map (·.1)=(d.map λc=>if c.1=k then (c.1,w) else c).map (·.1)/\Reps K H ((d.map λc=>if c.1=k then (c.1,w) else c).map (·.2)) ((f.map λc=>if c.1=k then (c.1,v) else c).map (·.2))):=by
   intro d
   induction d with
   | nil=>intro f g h;cases f with
    | nil=>exact⟨rfl,.nil⟩
    | cons _ _=>simp at g
   | cons p ps ih=>
    intro f g h;cases f with
    | nil=>simp at g
    | cons q qs=>
     rw[fy,fy]at g h;injection g with h3 h4
     obtain⟨a,b,e,j,m⟩:=h;injection e with e1 e2
     subst e1 e2;have i:=ih h4 m;simp only[fy]
     by_cases e:p.1=k
     ·rw[if_pos e,if_pos (h3.trans e)];exact⟨by rw[i.1,h3],.cons rv i.2⟩
     ·rw[if_neg e,if_neg (λz=>e (h3.symm.trans z))];exact⟨by rw[i.1,h3],.cons j i.2⟩
  exact l hk hr
 ·rw[fv,fv,hk,fv,fv];exact⟨rfl,hr.append (.cons rv .nil)⟩
noncomputable def keyZ:Z->Option Key
 | .non=>some (.inl none)
 | .int i=>some (.inl (some i))
 | .str x=>some (.inr x)
 | _=>none
def b91:Z3:=λo i v G R=>match o with
 | .ref p=>∃ kvs k,G p=some (.dK kvs)/\keyZ i=some k/\kvs.length<ki/\R (put G p (.dK (putZ kvs k v)))
 | _=>False
theorem a4v {K:Fg}(h:keyZ i=some k) (r:Rep K H i v):v=kV k:=by
 cases i with
 | non=>rw[a01]at r;cases h;exact r
 | int j=>rw[a0y]at r;cases h;exact r
 | str j=>rw[a0K]at r;cases h;exact r
 | _=>cases h
theorem b40 (hu:X.A.units+66<cLine):PSet X (λo i v H Q=>∃ a H',o=.ref a/\DPut H a i v H'/\Q H'):=by
 intro e s σ H o i v j l u Q I d f b h;obtain⟨a,H',rfl,g,q⟩:=h;cases (d);exact b2t (by omega) I g f b λk c=>⟨H',c,q⟩
theorem b3a {α β:Type}{kvs:List (Key×α)}{us:List (Key×β)}(h:us.map (·.1)=kvs.map (·.1)):us.length=kvs.length:=by
 rw[<- fc,h,fc]
theorem b56 (hu:X.A.units+66<cLine):SetQ X b91:=b5Q (b40 hu) λo i v H Q r=>r.un λa b w G R g q f d h u=>by
 cases a with
 | ref p=>
  obtain⟨j,k,e,n,t,h⟩:=h;obtain⟨x,c,m,s⟩:=d _ _ e;have l:=a74 (k:=k) f m s;refine⟨p,_,g,?_,u _ _ h (d.set (.dK c) ⟨_,a0w,l.1,l.2.mono (.dK c)⟩) (.dK c)⟩;rw[a4v n q];exact DPut.k c (by rw[b3a m];exact t)
 | _=>exact fh h
theorem b3b (e:G p=some (.dK kvs)) (a:keyZ i=some k) (z:kvs.length<ki) (h:Rg (put G p (.dK (putZ kvs k w)))):b91 (.ref p) i w G Rg:=⟨kvs,k,e,a,z,h⟩
def b3c:List Z->Hq->K3->Prop:=λxs G R=>match xs with
 | [.ref p]=>∃ ns:List Int,(G p=some (.lst (ns.map Z.int))\/∃ kvs,G p=some (.dK kvs)/\kvs.map (·.1)=ns.map λi=>Sum.inl (some i))/\ns.length<=1000/\∀ (t:Addr) (ms:List Int),G t=none->ms.Perm ns->ms.Pairwise (·<=·)->R (.ref t) (put G t (.lst (ms.map Z.int)))
 | _=>False
theorem b_sorted (hc:X.calm=true):a2y X (.builtin "sorted") b3c:=a1f (a9S hc) λw H Q n=>n.un λm G R o b h q=>by
 match m,h with
 | [.ref p],h=>
  obtain⟨v,rfl,r⟩:=o.one;obtain⟨l,a,e,h⟩:=h;refine⟨p,l,by rw[r],?_,e,λt g c i j=>q _ _ _ _ (h t g (b.out c) i j) (by rw[a0B]) (b.set (.new c) (a1R (a3k _) (.new c))) (.new c)⟩;rcases a with a | ⟨kvs,a,hk⟩
  ·obtain⟨u,d,f⟩:=b _ _ a
   have:=a8D f
   subst this;exact .inl (SqL.of d)
  ·obtain⟨k,d,s,_⟩:=b _ _ a;exact .inr ⟨k,d,s.trans hk⟩
theorem b3d (e:G p=some (.dK kvs)) (k:kvs.map (·.1)=ns.map λi=>Sum.inl (some i)) (z:ns.length<=1000) (h:∀ (t:Addr) (ms:List Int),G t=none->ms.Perm ns->ms.Pairwise (·<=·)->R (.ref t) (put G t (.lst (ms.map Z.int)))):b3c [.ref p] G R:=⟨ns,.inr ⟨kvs,e,k⟩,z,h⟩
variable {tg:Expr}{t:A3}
def iRev (t:A3):I3:=fun σ G R=>t σ G λws G1=>∃ a xs,ws=[.ref a]/\G1 a=some (.lst xs)/\R xs.reverse (λG=>G a=some (.lst xs)) G1
theorem b3e {K:Fg}:a7V K ws.reverse (λG=>G a=some (.lst ws)) (Itv K a ws.length) H0:=λi G H g t l m=>by
 obtain⟨f,e,d⟩:=g a _ l;rw[jY]at m ⊢;refine⟨λh=>h,λw c=>?_⟩;have b:i<ws.length:=by
  have:=(fj.mp c).1
  rwa [jY]at this
 rw[List.getElem?_reverse b]at c;obtain⟨v,j,k⟩:=d.get c;refine⟨⟨b,f,SqL.of e,d.length.symm⟩,?_⟩;rintro x n ⟨rfl,y⟩
 have:=y f (SqL.of e)
 rw[j]at this;cases this;exact⟨k,g,.refl _ _⟩
theorem a9T (hg:Gl X "reversed") (hm:X.mg "reversed"=none) (ha:QA X [e] t)
  (he:kj [e] X.env=(false,eval e X.env)::kj [] X.env:=by rfl):QI X tg (.Call (.Name "reversed" p) [e] [] pos) (iRev t):=a9F (b90 hg hm ha.p he) fun τ H R2 i=>i.un fun σ G R k hg h o=>by
 refine⟨σ,G,_,k,hg,h,λws G1 vs H1 ⟨a,xs,e,f,l⟩ g b j=>?_⟩;subst e;obtain⟨v,rfl,r⟩:=g.one;subst r;obtain⟨m,n,d⟩:=b a _ f;exact⟨a,m,rfl,SqL.of n,by rw[<- d.length];exact o _ _ _ _ _ l b3e b j⟩
theorem SrcP.uniq {K:Fg}(h:SrcP K H p xs) (g:(if p.1=true then H p.2=some (.tup ys) else H p.2=some (.lst ys))):SrcP K H p ys:=by
 unfold SrcP
 split
 ·next e=>rw[if_pos e]at g;exact SqT.of g
 ·next e=>rw[if_neg e]at g;exact SqL.of g
theorem b92 (h:t σ G λws G1=>∃ a xs,ws=[.ref a]/\G1 a=some (.lst xs)/\Ri xs.reverse (λG=>G a=some (.lst xs)) G1):iRev t σ G Ri:=h
end
noncomputable def putQ (f:Str) (y:Z):List (Str×Z)->List (Str×Z)
 | []=>[(f,y)]
 | (g,x)::r=>if g=f then (g,y)::r else (g,x)::putQ f y r
section
variable {K:Fg}{H:Hp}
theorem a2Q:∀ {fs:List (Str×Z)}{gs:List (Str×V)},gs.map (·.1)=fs.map (·.1)->Reps K H (fs.map (·.2)) (gs.map (·.2))->(fs.lookup f=none->gs.lookup f=none)/\∀ z,fs.lookup f=some z->∃ v,gs.lookup f=some v/\Rep K H z v
 | [],[],_,_=>⟨λ_=>rfl,λ_ h=>by cases h⟩
 | [],_::_,h,_=>by simp at h
 | _::_,[],h,_=>by simp at h
 | (k,x)::fs,(k',v)::gs,h,r=>by
  simp at h;obtain⟨rfl,h⟩:=h;obtain⟨i,g,e,d,b⟩:=r;obtain⟨rfl,rfl⟩:=gO.inj e;have a:=a2Q (f:=f) h b;rw[gq,gq];cases c:f==k' with
  | true=>
   refine⟨λe=>?_,λz e=>?_⟩
   ·cases e
   ·simp_all
  | false=>exact a
theorem a9U (ry:Rep K H y u):∀ {fs:List (Str×Z)}{gs:List (Str×V)},gs.map (·.1)=fs.map (·.1)->Reps K H (fs.map (·.2)) (gs.map (·.2))->(putF f u gs).map (·.1)=(putQ f y fs).map (·.1)/\Reps K H ((putQ f y fs).map (·.2)) ((putF f u gs).map (·.2))
 | [],[],_,_=>⟨rfl,by show Reps K H [y] [u];rw[a0X];exact⟨u,[],rfl,ry,by rw[a0v]⟩⟩
 | [],_::_,h,_=>by simp at h
 | _::_,[],h,_=>by simp at h
 | (k,x)::fs,(k',v)::gs,h,r=>by
  simp at h;obtain⟨rfl,h⟩:=h;obtain⟨i,g,e,d,b⟩:=r;obtain⟨rfl,rfl⟩:=gO.inj e;have a:=a9U (f:=f) ry h b;unfold putQ putF
  by_cases c:k'=f
  ·rw[if_pos c,if_pos c];exact⟨by simp[h],by show Reps K H (y::fs.map _) _;rw[a0X];exact⟨u,_,rfl,ry,b⟩⟩
  ·rw[if_neg c,if_neg c];exact⟨by simp[a.1],by show Reps K H (x::(putQ f y fs).map _) _;rw[a0X];exact⟨v,_,rfl,d,a.2⟩⟩
end
section
variable {X:Cx}{C f:Addr}{fd:kx}{ps:List Str}{sp:P3}{k:Nat}{a m x:Str}{p pos pos' tpos apos:Pos}{e o value:Expr}{es:List Expr}{te to:E3}{t:A3}
def uFld (C:Addr) (te:E3) (a:Str):E3:=fun σ G R=>te σ G λx G1=>∃ q dx fs v,x=.ref q/\G1 q=some (.ins C dx fs)/\fs.lookup a=some v/\R v G1
theorem a4w (hc:Cls X.K C) (hn:NoAttr X.K C a) (he:QE X e te) (hb:lS e a X.env (eval e X.env)=eval e X.env:=by rfl):QE X (.Attribute e a pos) (uFld C te a):=⟨a1C (b8K he.p hb) fun τ H Q x=>x.un fun σ G R s t h k=>
 ⟨σ,G,_,s,t,h,λw D v B ⟨q,r,E,z,i,A,j,d⟩ c b l=>by
  subst i;obtain⟨u,m,g,y⟩:=b _ _ A;obtain⟨o,f,n⟩:=(a2Q g y).2 _ j;exact⟨q,C,r,u,o,c,m,hc,hn,f,k _ _ _ _ d n b l⟩⟩⟩
def b3f (C:Addr) (to te:E3) (a:Str):X3:=λnx _ _ _ σ G=>te σ G λy G1=>to σ G1 λx G2=>∃ q dx fs,x=.ref q/\G2 q=some (.ins C dx fs)/\fs.length<1000/\nx σ (put G2 q (.ins C dx (putQ a y fs)))
theorem b93 (hc:Cls X.K C) (hn:NoAttr X.K C a) (ho:QE X o to) (hv:QE X value te) (hs:lh value (some (.Attribute o a pos')) pos.line X.env=pure false:=by rfl):QS X (.Assign [.Attribute o a pos'] value pos) (b3f C to te a):=⟨a4o (b8L ho.p hv.p hs) λD τ H J=>J.un fun σ G nx rt bk ct hs x h F u2 u3 u4=>
 ⟨σ,G,_,hs,x,h,λy A u H1 E t r e=>⟨σ,A,_,hs.mono e,r,E,λw G2 v i ⟨q,j,fs,z,ea,hl,B⟩ k d g=>by
  subst z;obtain⟨n,l,m,I⟩:=d _ _ ea;have b:TK X.K i (L2.upd i q (.ins C j (putF a u n))):=.ins l;have s:=a9U (f:=a) (t.mono g) m I;exact⟨q,C,j,n,k,l,hc,hn,by have:=congrArg fN m;simp at this;omega,F _ _ _ _ B (hs.mono ((e.trans g).trans b)) (d.set b ⟨_,a0w,s.1,s.2.mono b⟩) ((e.trans g).trans b)⟩⟩⟩⟩
def b3g (C:Addr) (to te:E3) (r:R3) (a:Str):X3:=λnx _ _ _ σ G=>to σ G λx G1=>∃ q dx fs v,x=.ref q/\G1 q=some (.ins C dx fs)/\fs.lookup a=some v/\te σ G1 λy G2=>r v y G2 λz G3=>∃ dx' fs',G3 q=some (.ins C dx' fs')/\fs'.length<1000/\nx σ (put G3 q (.ins C dx' (putQ a z fs')))
theorem b41 (hc:Cls X.K C) (hn:NoAttr X.K C a) (ho:QE X o to) (hv:QE X value te) (hop:OpQ X (lw op) r):QS X (.AugAssign (.Attribute o a tpos) op value pos) (b3g C to te r a):=⟨a4o (b2g ho.p hv.p hop) λD τ H hx=>hx.un fun σ G nx rt bk ct j Q h u1 u2 u3 u4=>
 ⟨σ,G,_,j,Q,h,λw R v H1 ⟨q,I,fs,z,ew,J,S,hq⟩ l e s=>by
  subst ew;obtain⟨Y,e1,e2,M⟩:=e _ _ J;obtain⟨v',L,r'⟩:=(a2Q e2 M).2 _ S;refine⟨q,C,I,Y,v',l,e1,hc,hn,L,σ,R,_,j.mono s,e,hq,λy T u H2 U V t F=>⟨z,y,T,_,r'.mono F,V,t,U,λz2 G3 v3 n ⟨g,fs',x,hl,B⟩ N b W=>?_⟩⟩;obtain⟨c,d,i,m⟩:=b _ _ x;have k:TK X.K n (L2.upd n q (.ins C g (putF a v3 c))):=.ins d;have A:=a9U (f:=a) N i m;have E:=((s.trans F).trans W).trans k;exact⟨g,c,d,by have:=congrArg fN i;simp at this;omega,u1 _ _ _ _ B (j.mono E) (b.set k ⟨_,a0w,A.1,A.2.mono k⟩) E⟩⟩⟩
noncomputable def b42 (C:Addr) (m:Str) (sp:P3) (to:E3) (t:A3):E3:=fun σ G R=>to σ G λx G1=>∃ q dx fs,x=.ref q/\G1 q=some (.ins C dx fs)/\fs.lookup m=none/\t σ G1 λws G2=>sp (.ref q::ws) G2 R
theorem b43 (h:low X.K (b42 C m sp to t) τ H Q) (h1:o'=low X.K to) (h2:t'=lowA X.K t):b4m C m (lowP X.K sp) [] E o' t' τ H Q:=by
 subst h1 h2;obtain⟨σ,G,R,f,s,h,D⟩:=h;refine⟨σ,G,_,f,s,h,λw B v H1 ⟨q,r,fs,y,n,A,x⟩ b a e=>?_⟩;subst y;obtain⟨u,g,z,p⟩:=a _ _ n;refine⟨q,r,u,b,g,(a2Q z p).1 A,σ,B,_,f.mono e,a,x,λj o k H2 h2 i c l=>?_⟩;exact⟨.ref q::j,o,R,by rw[fK,a0X];exact⟨v,k,rfl,by rw[a0B];exact b,i⟩,c,h2,D.mono (e.trans l)⟩
theorem a8S (ho:QE X o to) (c:Cls X.K C) (hm:Meth X.K C m f) (F:FnOk X.prog X.w X.K X.mg X.base CX0 k f fd ps (lowP X.K sp)) (hr:Room k X.A) (hb:Binds X.K fd ps []) (ha:QA X (e::es) t)
  (hst:kj (e::es) X.env=(false,eval e X.env)::kj es X.env:=by rfl) (hpl:(backTo pos (kj es X.env)).any (·.1)=false:=by rfl)
  (ht:eval (.Call (.Attribute o m apos) (e::es) [] pos) X.env=(do
   let ov <- eval o X.env
   kR apos.atName
   let (f,first) <- kL [ov] (ll ov m pl)
   lB pos f first (backTo pos (kj (e::es) X.env)) (lp pos (lq [] X.env))):=by rfl):QE X (.Call (.Attribute o m apos) (e::es) [] pos) (b42 C m sp to t):=
 ⟨a1C (b2j ho.p c hm F hr hb .nil b4v ha.p hst hpl ht) λ_ _ _ h=>b43 h rfl rfl⟩
theorem a75 (ho:QE X o to) (c:Cls X.K C) (hm:Meth X.K C m f) (F:FnOk X.prog X.w X.K X.mg X.base CX0 k f fd ps (lowP X.K sp)) (hr:Room k X.A) (hb:Binds X.K fd ps [])
  (ht:eval (.Call (.Attribute o m apos) [] [] pos) X.env=(do
   let ov <- eval o X.env
   kR apos.atName
   let (f,first) <- kL [ov] (ll ov m pl)
   lB pos f first (backTo pos (kj [] X.env)) (lp pos (lq [] X.env))):=by rfl):QE X (.Call (.Attribute o m apos) [] [] pos) (b42 C m sp to uNil):=
 ⟨a1C (b4n ho.p c hm F hr hb .nil b4v ht) fun τ H Q z=>z.un fun σ G R r u h j=>by
  refine⟨σ,G,_,r,u,h,λw s v D ⟨q,e,E,i,x,y,l⟩ b a n=>?_⟩;subst i;obtain⟨t,d,B,g⟩:=a _ _ x;exact⟨q,e,t,b,d,(a2Q B g).1 y,[.ref q],s,R,by rw[fK,a0X];exact⟨v,[],rfl,by rw[a0B];exact b,by rw[a0v]⟩,a,l,j.mono n⟩⟩
def b94 (C:Addr) (sp:P3) (t:A3):E3:=fun σ G R=>t σ G λws G1=>∀ q dx,G1 q=none->sp (.ref q::ws) (put G1 q (.ins C dx [])) λv G2=>v=.non/\R (.ref q) G2
theorem made (h1:∀ q dx,G1 q=none->sp (.ref q::ws) (put G1 q (.ins C dx [])) λv G2=>v=.non/\R (.ref q) G2) (rs:Reps X.K H1 ws vs) (hg1:RH X.K G1 H1) (up:UpV X.K H1 R Q) (q dx:Addr) (n1:H1 q=none) (n2:H1 dx=none) (ne:dx≠q) :
  lowP X.K sp (.ref q::(vs++[])) (L2.upd (L2.upd H1 dx (.own q)) q (.ins C dx [])) (λv H2=>v=.non/\Q (.ref q) H2) E:=by
 have a:L2.upd H1 dx (.own q) q=none:=by rw[a0x (Ne.symm ne)];exact n1
 have d:TK X.K H1 (L2.upd _ q (.ins C dx [])):=(TK.new n2).trans (TK.new a);refine⟨.ref q::ws,put G1 q (.ins C dx []),_,?_,?_,h1 q dx (hg1.out n1),?_⟩
 ·rw[fK,a0X];exact⟨_,vs,rfl,by rw[a0B],rs.mono d⟩
 ·exact (hg1.hid n2).set (TK.new a) ⟨[],a0w,rfl,by rw[fD,a0v];rfl⟩
 ·rintro w h v i ⟨f,g⟩ b c e;subst f;exact⟨b,up _ _ _ _ g (by rw[a0B]) c (d.trans e)⟩
theorem b7m (M:Mk X.K C f) (F:FnOk X.prog X.w X.K X.mg X.base CX0 k f fd ps (lowP X.K sp)) (hr:Room (k+1) X.A) (hg:Gl X x) (hm:X.mg x=some (.ref C)) (hb:Binds X.K fd ps [])
  (hdb:(x==("__debug__":Str))=false:=by decide):QE X (.Call (.Name x p) [] [] pos) (b94 C sp uNil):=
 ⟨a1C (b4p M F hr hg hm hb .nil b4v hdb) fun τ H Q ⟨σ,G,R,hs,hg,h,g⟩ q c d e b=>made h (by rw[a0v]) hg g q c d e b⟩
variable {σ:S3}{G:Hq}{R:K3}{nx bk ct:C3}{rt:K3}{q dx:Addr}{fs:List (Str×Z)}{v:Z}{Ra:List Z->Hq->Prop}
theorem b95 (h:te σ G λx G1=>∃ q dx fs v,x=.ref q/\G1 q=some (.ins C dx fs)/\fs.lookup a=some v/\R v G1):uFld C te a σ G R:=h
theorem b96 (h:te σ G λy G1=>to σ G1 λx G2=>∃ q dx fs,x=.ref q/\G2 q=some (.ins C dx fs)/\fs.length<1000/\nx σ (put G2 q (.ins C dx (putQ a y fs)))):b3f C to te a nx rt bk ct σ G:=h
theorem b7n (h:to σ G λx G1=>∃ q dx fs,x=.ref q/\G1 q=some (.ins C dx fs)/\fs.lookup m=none/\t σ G1 λws G2=>sp (.ref q::ws) G2 R):b42 C m sp to t σ G R:=h
theorem b7o (h:t σ G λws G1=>∀ q dx,G1 q=none->sp (.ref q::ws) (put G1 q (.ins C dx [])) λv G2=>v=.non/\R (.ref q) G2):b94 C sp t σ G R:=h
theorem b97 (h:to σ G λx G1=>∃ q dx fs v,x=.ref q/\G1 q=some (.ins C dx fs)/\fs.lookup a=some v/\te σ G1 λy G2=>r v y G2 λz G3=>∃ dx' fs',G3 q=some (.ins C dx' fs')/\fs'.length<1000/\nx σ (put G3 q (.ins C dx' (putQ a z fs')))):b3g C to te r a nx rt bk ct σ G:=h
end
end L3
namespace L2
open PySem PySem.Spec PyProof.Rows
section
variable {X:Cx}{pins:List (Addr×Obj)}{σ:St}{H:Hp}{s:Shared}{a:Addr}{kvs:List (Key×V)}{k:Key}{d:V}{u r:Value}{A:Around}{E:Value->Shared->Prop}
theorem b98 (I:Inv X pins σ H s) (e:H a=some (.dK kvs)) (ry:RelV (kV k) u) (rd:RelV d r) (hz:kvs.length<ki)
  (h1:∀ v w' s',valV kvs k=some v->Inv X pins σ H s'->RelV v w'->Q w' s') (h2:valV kvs k=none->∀ s',Inv X pins σ (upd H a (.dK (putK kvs k d))) s'->Q r s') :
  wpAny (model X.prog X.w) A (call (.builtin "dict.setdefault") [.ref a,u,r]) Q E s:=by
 obtain⟨z,f,n,b,h⟩:=b1r I.hok e;have l:(putK kvs k d).length<=sizeLine:=by have:=a18 kvs k d;omega
 refine mP PySem.F.slot_dict_setdefault h.typeIs PySem.F.entry_dict_setdefault (PySem.F.args_dict_setdefault_3 _ _ _) (kt_meets_setdefault _ a (a9B ry) f r) ⟨n,h,by rw[<- b.length];exact z,λm i=>?_,λx p c o=>?_⟩
 ·cases hv:valV kvs k with
  | none=>
   have:=(b.val k).isSome_eq
   rw[hv,i]at this;cases this
  | some v=>
   have g:=b.val k;rw[hv,i]at g;exact h1 v m _ hv (I.tok _) g
 ·have j:valV kvs k=none:=by
   have:=(b.val k).isSome_eq
   rw[x]at this;cases hv:valV kvs k with
   | none=>rfl
   | some v=>rw[hv]at this;cases this
  have t:∃ q,p.get? a=some q:=let ⟨q,_,_,hq,_⟩:=c;⟨q,hq⟩
  exact h2 j _ (a7O I (by rw[e];exact True.intro) o t (b2s l f (b.put k rd) c))
end
section
variable {X:Cx}
theorem b7p (hu:X.A.units+66<cLine):MtR X "dict.get" (λx vs H Q=>∃ a y d o,x=.ref a/\vs=[y,d]/\DGet H a y o/\Q (o.getD d) H):=by
 intro f s σ H x m v t Q I c k ⟨a,y,d,o,h,e,g,q⟩;subst h e;cases c;obtain⟨u,r,rfl,j,l⟩:=a9z k;exact b8Y (by omega) I g j l λn p i b=>⟨_,H,i,b,q⟩
theorem b7q:MtR X "dict.setdefault" (λx vs H Q=>∃ a kvs k d,x=.ref a/\vs=[kV k,d]/\H a=some (.dK kvs)/\kvs.length<ki/\(∀ v,valV kvs k=some v->Q v H)/\(valV kvs k=none->Q d (upd H a (.dK (putK kvs k d))))):=by
 intro m s σ H x z v B Q I i p ⟨a,y,k,d,n,j,e,q,g,t⟩;subst n j;cases i;obtain⟨u,r,rfl,o,f⟩:=a9z p;exact b98 I e o f q (λv A w l b c=>⟨v,H,b,c,g v l⟩) λh w b=>⟨d,_,b,f,t h⟩
theorem b7r:IxR X (λx y H Q=>∃ a kvs k v,x=.ref a/\y=kV k/\H a=some (.dK kvs)/\valV kvs k=some v/\Q v H):=by
 intro h i b s σ H x y v u Q I n B ⟨a,D,k,w,p,m,e,l,q⟩ t;subst p m;cases n;obtain⟨z,E,j,g,c⟩:=b1r I.hok e;obtain⟨d,A,f⟩:=RelO.some_of (by rw[<- l];exact g.val k);exact mN c.typeIs PySem.F.slot_dict_getitem.lookup (wpAny_getItem_of (a9B B) c.mapOf A ⟨rfl,w,H,I.tok _,f,q⟩) t
theorem b3h (hu:X.A.units+66<cLine):OpR X (kC .NotIn) (λx y H Q=>∃ a o,y=.ref a/\DGet H a x o/\Q (.bl (!o.isSome)) H):=by
 intro d s σ H x y u v Q I c f ⟨a,o,b,g,q⟩;subst b;cases f;exact b6U (by omega) I g c λh e=>⟨.bl _,H,e,rfl,q⟩
end
end L2
namespace L3
open PySem PySem.Spec PyProof.Rows L2
noncomputable def valZ (kvs:List (Key×Z)) (k:Key):Option Z:=(kvs.find? λkv=>decide (kv.1=k)).map (·.2)
theorem a2R {K:Fg}:∀ {kvs:List (Key×Z)}{us:List (Key×V)},us.map (·.1)=kvs.map (·.1)->Reps K H (kvs.map (·.2)) (us.map (·.2))->(valZ kvs k=none->valV us k=none)/\∀ z,valZ kvs k=some z->∃ v,valV us k=some v/\Rep K H z v
 | [],[],_,_=>⟨λ_=>rfl,λ_ h=>by cases h⟩
 | [],_::_,h,_=>by simp at h
 | _::_,[],h,_=>by simp at h
 | (c,x)::fs,(c',v)::gs,h,r=>by
  simp at h;obtain⟨rfl,h⟩:=h;obtain⟨g,f,e,d,a⟩:=r;obtain⟨rfl,rfl⟩:=gO.inj e;have b:=a2R (k:=k) h a;unfold valZ valV;rw[gM,gM];cases q:decide (c'=k) with
  | true=>
   refine⟨λe=>?_,λz e=>?_⟩
   ·cases e
   ·cases e;exact⟨v,rfl,d⟩
  | false=>exact b
section
variable {X:Cx}
def b7s:Z->List Z->Hq->K3->Prop:=λx xs G R=>match x,xs with
 | .ref p,[y,d]=>∃ kvs k,(G p=some (.dK kvs)\/G p=some (.dF kvs))/\keyZ y=some k/\R ((valZ kvs k).getD d) G
 | _,_=>False
theorem b3i (hu:X.A.units+66<cLine):MtQ X "dict.get" b7s:=b2E (b7p hu) λx E H Q m=>m.un λw B G R j s i h l=>by
 match w,B,h with
 | .ref p,[y,d],h=>
  obtain⟨v,q,rfl,t,o⟩:=s.two;obtain⟨g,k,e,D,h⟩:=h;obtain⟨a,f,c,b⟩:∃ a,Rd H p (.dK a)/\a.map _=g.map _/\Reps X.K H _ (a.map _):=by
   rcases e with e | e
   ·obtain⟨a,f,c,b⟩:=i _ _ e;exact⟨a,.inl f,c,b⟩
   ·obtain⟨C,a,f,c,b⟩:=i _ _ e;exact⟨a,.inr ⟨C,f⟩,c,b⟩
  refine⟨p,v,q,valV a k,j,rfl,by rw[a4v D t];exact .inl ⟨a,k,f,rfl,rfl⟩,?_⟩;cases hz:valZ g k with
  | none=>
   rw[hz]at h;rw[(a2R c b).1 hz];exact l _ _ _ _ h o i (.refl _ _)
  | some z=>
   rw[hz]at h;obtain⟨u,r,n⟩:=(a2R c b).2 z hz;rw[r];exact l _ _ _ _ h n i (.refl _ _)
def b99:Z->List Z->Hq->K3->Prop:=λx xs G R=>match x,xs with
 | .ref p,[y,d]=>∃ kvs k,G p=some (.dK kvs)/\keyZ y=some k/\kvs.length<ki/\(∀ z,valZ kvs k=some z->R z G)/\(valZ kvs k=none->R d (put G p (.dK (putZ kvs k d))))
 | _,_=>False
theorem a8T:MtQ X "dict.setdefault" b99:=b2E b7q λx M H Q C=>C.un λw t G R i F l h r=>by
 match w,t,h with
 | .ref p,[y,d],h=>
  obtain⟨v,E,rfl,B,q⟩:=F.two;obtain⟨b,k,e,L,A,s,J⟩:=h;obtain⟨D,c,f,g⟩:=l _ _ e;refine⟨p,D,k,E,i,by rw[a4v L B],c,by rw[b3a f];exact A,λu a=>?_,λa=>?_⟩
  ·cases hq:valZ b k with
   | none=>rw[(a2R f g).1 hq]at a;cases a
   | some z=>
    obtain⟨I,j,m⟩:=(a2R f g).2 z hq;rw[j]at a;cases a;exact r _ _ _ _ (s z hq) m l (.refl _ _)
  ·cases hq:valZ b k with
   | some z=>
    obtain⟨I,j,m⟩:=(a2R f g).2 z hq;rw[j]at a;cases a
   | none=>
    have n:=a74 (k:=k) q f g;exact r _ _ _ _ (J hq) (q.mono (.dK c)) (l.set (.dK c) ⟨_,a0w,n.1,n.2.mono (.dK c)⟩) (.dK c)
def zDIx:R3:=λx y G R=>match x with
 | .ref p=>∃ kvs k z,G p=some (.dK kvs)/\keyZ y=some k/\valZ kvs k=some z/\R z G
 | _=>False
theorem c12:IxQ X zDIx:=b88 b7r λx y H Q f=>f.un λa b G R d q c h j=>by
 cases a with
 | ref p=>
  obtain⟨u,k,z,e,t,i,h⟩:=h;obtain⟨n,r,m,l⟩:=c _ _ e;obtain⟨s,o,g⟩:=(a2R m l).2 z i;exact⟨p,n,k,s,d,a4v t q,r,o,j _ _ _ _ h g c (.refl _ _)⟩
 | _=>exact fh h
theorem c0a (e:G p=some (.dK kvs)) (a:keyZ y=some k) (h:R ((valZ kvs k).getD d) G):b7s (.ref p) [y,d] G R:=⟨kvs,k,.inl e,a,h⟩
theorem b3j (e:G p=some (.dK kvs)\/G p=some (.dF kvs)) (a:keyZ y=some k) (h:R ((valZ kvs k).getD d) G):b7s (.ref p) [y,d] G R:=⟨kvs,k,e,a,h⟩
theorem c0b (e:G p=some (.dK kvs)) (a:keyZ y=some k) (z:kvs.length<ki) (h1:∀ z,valZ kvs k=some z->R z G) (h2:valZ kvs k=none->R d (put G p (.dK (putZ kvs k d)))):b99 (.ref p) [y,d] G R:=⟨kvs,k,e,a,z,h1,h2⟩
theorem c13 (e:G p=some (.dK kvs)) (a:keyZ y=some k) (v:valZ kvs k=some w) (h:R w G):zDIx (.ref p) y G R:=⟨kvs,k,w,e,a,v,h⟩
theorem c0c {P:Prop}(e:G p=some (.dK kvs)) (h:P):tyZ "dict" (.ref p) G/\P:=⟨.inr ⟨rfl,kvs,.inl e⟩,h⟩
theorem c0d {P:Prop}(e:G p=some (.dK kvs)\/G p=some (.dF kvs)) (h:P):tyZ "dict" (.ref p) G/\P:=⟨.inr ⟨rfl,kvs,e⟩,h⟩
end
def a6j:List (E3×E3)->S3->Hq->(List (Z×Z)->Hq->Prop)->Prop
 | [],_,G,R=>R [] G
 | (tk,tv)::r,σ,G,R=>tk σ G λx G1=>tv σ G1 λy G2=>a6j r σ G2 λps G3=>R ((x,y)::ps) G3
noncomputable def keysOf:List (Z×Z)->Option (List (Key×Z))
 | []=>some []
 | (x,y)::r=>match keyZ x,keysOf r with
  | some k,some kvs=>some ((k,y)::kvs)
  | _,_=>none
def a8U (kvs more:List (Key×Z)):List (Key×Z):=more.foldl (λacc kv=>putZ acc kv.1 kv.2) kvs
def PReps (K:Fg) (H:Hp):List (Z×Z)->List (V×V)->Prop:=Paired λp q=>Rep K H p.1 q.1/\Rep K H p.2 q.2
theorem PReps.mono {K:Fg}(t:TK K H H'):∀ {ps:List (Z×Z)}{vs:List (V×V)},PReps K H ps vs->PReps K H' ps vs
 | _,_,.nil=>.nil
 | _,_,.cons r s=>.cons ⟨r.1.mono t,r.2.mono t⟩ (PReps.mono t s)
section
variable {X:Cx}
theorem a8V:∀ (trs:List (E3×E3)) {σ:S3}{τ:L2.St}{G:Hq}{H:Hp}{R:List (Z×Z)->Hq->Prop}{Q:List (V×V)->Hp->Prop},RSt X.K H σ τ->RH X.K G H->a6j trs σ G R ->
  (∀ ps G' vs H',R ps G'->PReps X.K H' ps vs->RH X.K G' H'->TK X.K H H'->Q vs H')->b0q (trs.map λt=>(low X.K t.1,low X.K t.2)) τ H Q
 | [],σ,τ,G,H,R,Q,hs,hg,h,up=>up [] G [] H h .nil hg (.refl _ _)
 | _::r,σ,τ,G,H,R,Q,hs,hg,h,up=>by
  refine⟨σ,G,_,hs,hg,h,λx n q p m l d c=>⟨σ,n,_,hs.mono c,d,m,λy s w u j i e a=>?_⟩⟩;refine a8V r (hs.mono (c.trans a)) e j λA v o z k g f b=>?_;exact up _ _ _ _ k (.cons ⟨l.mono (a.trans b),i.mono b⟩ g) f ((c.trans a).trans b)
def QPs (X:Cx) (pos:Pos) (keys:List (Option Expr)) (values:List Expr) (trs:List (E3×E3)):Prop:=PPs X pos keys values (trs.map λt=>(low X.K t.1,low X.K t.2))
theorem b7t:QPs X pos [] [] []:=b6V
theorem b0E (hk:QE X k tk) (hv:QE X v tv) (hr:QPs X pos ks vs trs):QPs X pos (some k::ks) (v::vs) ((tk,tv)::trs):=b4x hk.p hv.p hr
theorem b0F {K:Fg}:∀ {ps:List (Z×Z)}{vs:List (V×V)}{kvs:List (Key×Z)},PReps K H ps vs->keysOf ps=some kvs->∃ us:List (Key×V),vs=us.map (λkv=>(kV kv.1,kv.2))/\us.map (·.1)=kvs.map (·.1)/\Reps K H (kvs.map (·.2)) (us.map (·.2))/\us.length=kvs.length
 | [],_,kvs,.nil,h=>by cases h;exact⟨[],rfl,rfl,by rw[fD,a0v];rfl,rfl⟩
 | (x,y)::ps,_,kvs,.cons (b:=b) r s,h=>by
  unfold keysOf at h;cases e1:keyZ x with
  | none=>rw[e1]at h;cases h
  | some k=>
   cases e2:keysOf ps with
   | none=>rw[e1,e2]at h;cases h
   | some kr=>
    rw[e1,e2]at h;cases h;obtain⟨d,c,e,i,j⟩:=b0F s e2;obtain⟨g,a⟩:=b;have f:g=kV k:=a4v e1 r.1;refine⟨(k,a)::d,by rw[fy,<- c,f],by rw[fy,fy,e],?_,by rw[fk,fk,j]⟩;exact⟨a,_,rfl,r.2,i⟩
theorem a8W {K:Fg}:∀ {more:List (Key×Z)}{us:List (Key×V)}{kvs:List (Key×Z)}{vs:List (Key×V)},us.map (·.1)=more.map (·.1)->Reps K H (more.map (·.2)) (us.map (·.2))->vs.map (·.1)=kvs.map (·.1)->Reps K H (kvs.map (·.2)) (vs.map (·.2)) ->
  (a5u vs us).map (·.1)=(a8U kvs more).map (·.1)/\Reps K H ((a8U kvs more).map (·.2)) ((a5u vs us).map (·.2))
 | [],[],kvs,vs,_,_,h3,h4=>⟨h3,h4⟩
 | [],_::_,_,_,h,_,_,_=>by simp at h
 | _::_,[],_,_,h,_,_,_=>by simp at h
 | (k,x)::more,(k',v)::us,kvs,vs,a,h2,h3,h4=>by
  simp at a;obtain⟨rfl,a⟩:=a;obtain⟨f,d,e,b,c⟩:=h2;obtain⟨rfl,rfl⟩:=gO.inj e;have p:=a74 (k:=k') b h3 h4;exact a8W (more:=more) (us:=us) a c p.1 p.2
def c0e (trs:List (E3×E3)):E3:=fun σ G R=>∀ p,G p=none->a6j trs σ (put G p (.dK [])) λps G2=>G2 p=some (.dK [])/\∃ kvs,keysOf ps=some kvs/\kvs.length<=15/\R (.ref p) (put G2 p (.dK (a8U [] kvs)))
theorem c0f (h:QPs X pos keys values trs) (hall:keys.all (·.isSome)=true:=by rfl) (hl:keys.length=values.length:=by rfl) (h0:keys≠[]:=by simp) (h15:keys.length<=15:=by decide):QE X (.Dict keys values pos) (c0e trs):=
 ⟨a1C (b6W h hall hl h0 h15) fun τ H Q ⟨σ,G,R,t,j,h,q⟩ p a=>by
  have l:RH X.K (put G p (.dK [])) _:=j.set (.new a) ⟨[],a0w,rfl,by rw[fD,a0v];rfl⟩;refine a8V trs (t.mono (.new a)) l (h p (j.out a)) λps G2 vs g ⟨e,kvs,y,u,r⟩ x c s=>?_;obtain⟨b,k,n,r0⟩:=c _ _ e;have o:b=[]:=by simp_all
  subst o;obtain⟨f,A,w,v,z⟩:=b0F x y;have m:=a8W (vs:=[]) w v rfl (by omega);have d:TK X.K g (L2.upd g p (.dK (a5u [] f))):=.dK k;exact⟨k,f,A,by rw[z];exact u,q _ _ _ _ r (by rw[a0B]) (c.set d ⟨_,a0w,m.1,m.2.mono d⟩) (((TK.new a).trans s).trans d)⟩⟩
theorem c0g (h:∀ p,G p=none->a6j trs σ (put G p (.dK [])) λps G2=>G2 p=some (.dK [])/\∃ kvs,keysOf ps=some kvs/\kvs.length<=15/\R (.ref p) (put G2 p (.dK (a8U [] kvs)))):c0e trs σ G R:=h
theorem c0h (h:R [] G):a6j [] σ G R:=h
theorem b7u (h:tk σ G λx G1=>tv σ G1 λy G2=>a6j r σ G2 λps G3=>R ((x,y)::ps) G3):a6j ((tk,tv)::r) σ G R:=h
theorem b0G {K:Fg}(r:Reps K H ws vs):∀ k:Nat,Reps K H (fB k ws).flatten (fB k vs).flatten
 | 0=>by rw[List.replicate_zero,List.flatten_nil,a0v];rfl
 | k+1=>by rw[iO,iu,iO,iu];exact r.append (b0G r k)
def zRep:R3:=λx y G R=>match x,y with
 | .ref l,.int k=>∃ ws,G l=some (.lst ws)/\0<=k/\k<1000/\ws.length*k.toNat<=ki/\∀ p,G p=none->R (.ref p) (put G p (.lst (fB k.toNat ws).flatten))
 | _,_=>False
theorem c14:OpQ X (kI .Mult) zRep:=a57 b8U λx y H Q q=>q.un λa b G R m g c h r=>by
 match a,b,h with
 | .ref l,.int k,h=>
  obtain⟨t,e,u,s,o,h⟩:=h;obtain⟨f,n,i⟩:=c _ _ e;refine⟨l,k,f,m,g,n,by omega,by omega,by rw[<- i.length];exact o,λp j=>?_⟩;have d:TK X.K H (L2.upd H p (.lst (fB k.toNat f).flatten)):=.new j;exact r _ _ _ _ (h p (c.out j)) (by rw[a0B]) (c.set d ⟨_,a0w,(b0G i _).mono d⟩) d
theorem c15 (e:G l=some (.lst ws)) (h0:0<=k) (h1:k<1000) (hz:ws.length*k.toNat<=ki) (h:∀ p,G p=none->R (.ref p) (put G p (.lst (fB k.toNat ws).flatten))):zRep (.ref l) (.int k) G R:=⟨ws,e,h0,h1,hz,h⟩
end
end L3
namespace L3
theorem ln0 {α:Type}{C:List α->Prop}(h:C []):∀ us:List α,us.length=0->C us
 | [],_=>h
theorem lnS {α:Type}{C:List α->Prop}(h:∀ a,∀ us:List α,us.length=n->C (a::us)):∀ us:List α,us.length=n+1->C us
 | a::us,e=>h a us (Nat.succ.inj e)
end L3
namespace L2
open PySem PySem.Spec PyProof.Rows
section
variable {X:Cx}
end
end L2
namespace L3
open PySem PySem.Spec PyProof.Rows L2
section
variable {X:Cx}{e:Expr}{es:List Expr}{t:A3}{x y:Str}{p p2 pos pos2:Pos}
end
section
variable {X:Cx}
end
end L3
namespace L2
open PySem PySem.Spec PyProof.Rows
section
variable {X:Cx}
theorem b1y:CallR X (.type "str") (λxs H Q=>(∃ i:Int,xs=[.int i]/\i.natAbs.log2<1920/\Q (.str (Str.ofString (toString i))) H)\/∃ x,xs=[.str x]/\Q (.str x) H):=by
 intro b s σ H c d Q I r h;rcases h with ⟨i,rfl,hi,q⟩ | ⟨x,rfl,q⟩
 ·obtain⟨u,rfl,a⟩:=a3V r;obtain⟨t,rfl⟩:=a;exact PySem.P.str_of_int hi ⟨.str _,H,I.tok _,⟨_,rfl⟩,q⟩
 ·obtain⟨u,rfl,a⟩:=a3V r;obtain⟨t,rfl⟩:=a;exact PySem.P.str_of_str ⟨.str _,H,I,⟨_,rfl⟩,q⟩
theorem b1z:CallR X (.type "int") (λxs H Q=>∃ (x:Str) (n:Int),xs=[.str x]/\intText? x=some n/\x.length<=640/\Q (.int n) H):=by
 intro d s σ H e f Q I r h;obtain⟨x,n,rfl,b,a,q⟩:=h;obtain⟨u,rfl,c⟩:=a3V r;obtain⟨t,rfl⟩:=c;exact PySem.W.KIN.call_text b a ⟨.int n,H,I.tok _,⟨_,rfl⟩,q⟩
def KD (X:Cx) (a:Addr) (kvs:List (Key×V)):Prop:=kvs.length<=ki/\(a==k6)=false/\∃ vs,KV kvs vs/\∀ h:Heap,X.K.In h->h.DictOf (a0O X.prog X.w) a vs
end
end L2
namespace L3
open PySem PySem.Spec PyProof.Rows L2
section
variable {X:Cx}
theorem a3I (h:PE X e (tC (.ref a))):QE X e (uC (.ref a)):=a9C h λ_=>by rw[a0B]
theorem a1M (hg:Gl X x) (hm:X.mg x=some (.ref a)) (hd:(x==("__debug__":Str))=false:=by decide):PE X (.Name x pos) (tC (.ref a)):=b11 hg hm rfl hd
def zStr:List Z->Hq->K3->Prop:=λxs G R=>match xs with
 | [.int i]=>i.natAbs.log2<1920/\R (.str (Str.ofString (toString i))) G
 | [.str x]=>R (.str x) G
 | _=>False
theorem b_str:a2y X (.type "str") zStr:=a1f b1y λf H Q d=>d.un λe G R a b h c=>by
 match e,h with
 | [.int i],h=>
  obtain⟨v,rfl,r⟩:=a.one;exact .inl ⟨i,by rw[r],h.1,c _ _ _ _ h.2 (by rw[a0K]) b (.refl _ _)⟩
 | [.str x],h=>
  obtain⟨v,rfl,r⟩:=a.one;exact .inr ⟨x,by rw[r],c _ _ _ _ h (by rw[a0K]) b (.refl _ _)⟩
def c16:List Z->Hq->K3->Prop:=λxs G R=>match xs with
 | [.str x]=>∃ n,intText? x=some n/\x.length<=640/\R (.int n) G
 | _=>False
theorem b_int:a2y X (.type "int") c16:=a1f b1z λi H Q f=>f.un λc G R e b h a=>by
 match c,h with
 | [.str x],h=>
  obtain⟨v,rfl,r⟩:=e.one;obtain⟨n,g,d,h⟩:=h;exact⟨x,n,by rw[r],g,d,a _ _ _ _ h (by rw[a0y]) b (.refl _ _)⟩
def c0i:List Z->Hq->K3->Prop:=λxs G R=>match xs with
 | [.ref p]=>∃ ws,G p=some (.lst ws)/\R (.tup ws) G
 | _=>False
theorem b_tuple:a2y X (.type "tuple") c0i:=a1f a7K λl H Q f=>f.un λk G R j b h g=>by
 match k,h with
 | [.ref p],h=>
  obtain⟨v,rfl,r⟩:=j.one;obtain⟨m,e,h⟩:=h;obtain⟨d,i,c⟩:=b _ _ e;exact⟨p,d,by rw[r],.inl ⟨SqL.of i,λt a=>g _ _ _ _ h (by rw[a19];exact⟨t,d,rfl,a0w,c.mono (.new a)⟩) (b.hid a) (.new a)⟩⟩
noncomputable def zV:Z->V
 | .str x=>.str x
 | .ref a=>.ref a
 | .int i=>.int i
 | _=>.non
def c0j:Z->Bool
 | .str _=>true
 | .ref _=>true
 | .int _=>true
 | _=>false
def KDZ (X:Cx) (a:Addr) (kvs:List (Key×Z)):Prop:=(∀ kv∈kvs,c0j kv.2=true)/\KD X a (kvs.map λkv=>(kv.1,zV kv.2))
def KTup (K:Fg) (a:Addr) (ss:List Str):Prop:=∃ (o:Obj) (its:Array Value) (n:Nat),K.lookup a=some o/\o.cls=.type "tuple"/\o.data=.seq its n/\its.size<=ki/\Vals (ss.map V.str) its.toList
theorem KTup.sq {K:Fg}(h:KTup K a ss):SqT K H a (ss.map V.str):=.inr h
variable {t:A3}
end
def KDk (w:World) (K:Fg) (a:Addr) (kvs:List (Key×Z)):Prop:=(∀ kv∈kvs,c0j kv.2=true)/\kvs.length<=ki/\(a==k6)=false/\∃ vs:List (Key×Value),KV (kvs.map λkv=>(kv.1,zV kv.2)) vs/\∀ (P:kz) (h:Heap),K.In h->h.DictOf (a0O P w) a vs
theorem KDk.at (h:KDk X.w X.K a kvs):KDZ X a kvs:=⟨h.1,by rw[fc];exact h.2.1,h.2.2.1,let ⟨vs,r,q⟩:=h.2.2.2;⟨vs,r,q X.prog⟩⟩
end L3
namespace L2
open PySem PySem.W
theorem b57 (ea:hasDictIn K D=true) (eb:findIn K (.ref D) "__getattribute__"=some (some (.builtin "BaseException.__getattribute__"))) (ec:findIn K (.ref D) "__getattr__"=some none) (ed:findIn K (.ref D) "__class__"=some (some (.builtin "object.__class__")))
  (ee:specialIn K (.builtin "object.__class__") "__get__"=some (some (.builtin "getset_descriptor.__get__"))) (ef:takesIn K (.builtin "object.__class__")=some true) (eg:mroIn K D (.type "object")=some true) (eh:mroIn K D (.type "BaseException")=some true):ExK K D:=
 ⟨by obtain⟨b,a,_⟩:=any_some ea;rw[a];rfl,eb,ec,ed,ee,ef,eg,eh⟩
theorem b58 (xb:subIn K (.ref D) (.type "BaseException")=some true) (xt:typeIn K (.ref D)=some (.type "type")) (xs:subIn K (.ref C) (.ref D)=some true) (xh:hasDictIn K D=true):exmOne K (.ref C) (.ref D)=some true:=by
 obtain⟨b,a,_⟩:=any_some xh;unfold exmOne;rw[if_pos (by simp_all)]
 show (if _=true then subIn K _ _ else none)=some true
 rw[if_pos (by simp_all)];exact xs
end L2
namespace L2
open PySem PySem.Spec PyProof.Rows
section
variable {X:Cx}{e:Addr}{oe:Obj}{C:Addr}
def rIsX (K:Fg) (C e:Addr):List V->Hp->VK->Prop:=λxs H Q=>∃ y b,xs=[.ref e,y]/\((∃ D,y=.ref D/\PySem.W.kitOne K (.ref C) (.ref D)=some b)\/(∃ T,y=.ty T/\PySem.W.kitOne K (.ref C) (.type T)=some b) \/
 ∃ (p:Addr) (ds:List Addr),y=.ref p/\SqT K H p (ds.map V.ref)/\PySem.W.kitAny K (.ref C) (ds.map Value.ref)=some b)/\Q (.bl b) H
theorem b3k:∀ {ds:List Addr}{us:List Value},Vals (ds.map V.ref) us->us=ds.map Value.ref
 | [],us,r=>by rw[fD]at r;cases r;rfl
 | T::Ts,us,r=>by
  cases r with
  | cons r1 r2=>rw[b3k r2,r1];rfl
theorem b44 (hc:oe.cls=.ref C) (hd:oe.dict=none) (hn:PySem.W.notCls oe=true) (k:ExK X.K C):CallR (X.hnd e oe) (.builtin "isinstance") (rIsX X.K C e):=by
 intro m s σ H B E Q I r h;obtain⟨y,b,rfl,t,q⟩:=h;obtain⟨u,d,rfl,v,c⟩:=a9z r;cases (v);have J:PySem.W.InstAt s.heap e oe C none:=⟨(I.pin _ (.head _)).1,hc,hn,by rw[hd];exact True.intro⟩;rcases t with ⟨D,rfl,e1⟩ | ⟨T,rfl,e1⟩ | ⟨p,ds,rfl,hq,e1⟩
 ·cases (c);exact PySem.W.kia_one (a7U k) I.kIn J e1 (λz=>nomatch z) λa=>⟨.bl b,H,I.tok a,rfl,q⟩
 ·cases (c);exact PySem.W.kia_one (a7U k) I.kIn J e1 (λz=>nomatch z) λa=>⟨.bl b,H,I.tok a,rfl,q⟩
 ·cases (c);obtain⟨w,i,o,_⟩:=I.tuple hq;have l:=b3k i;subst l;obtain⟨⟨F,A,x,G⟩,j,g,n,f⟩:=o;cases g;cases f;exact PySem.W.kia_tup (a7U k) I.kIn J j e1 (λz=>nomatch z) λa=>⟨.bl b,H,I.tok a,rfl,q⟩
end
end L2
namespace L3
open PySem PySem.Spec PyProof.Rows L2
abbrev PX3:=List Z->Hq->K3->(Addr->Hq->Prop)->Prop
def UpX (K:Fg) (H:Hp) (EE:Addr->Hq->Prop) (E:XK):Prop:=∀ C G H',EE C G->RH K G H'->TK K H H'->E (.ref C) none H'
def a2S (K:Fg) (sp:PX3):Sp:=λvs H Q E=>∃ ws G R EE,Reps K H ws vs/\RH K G H/\sp ws G R EE/\UpV K H R Q/\UpX K H EE E
theorem c0k {K:Fg}(t:TKs H H'):TK K H H':=⟨t.tup,λa b h=>by
 rcases h with ⟨o,h⟩ | h
 ·exact .inl ⟨o,t.frz _ _ _ h⟩
 ·exact .inr h,t.frz⟩
def UpN (K:Fg) (EE:Addr->Hq->Prop) (E:XK):Prop:=∀ C G H',EE C G->RH K G H'->E (.ref C) none H'
theorem UpX.since {K:Fg}(h:UpX K H EE E):UpN K EE (since H E):=λC G a q r t=>h C G a q r (c0k t)
abbrev EE0:Addr->Hq->Prop:=λ_ _=>False
theorem up0 {K:Fg}:UpN K EE0 E0:=λ_ _ _ z _=>z.elim
theorem a0S:a28 (CXx X.prog X.w) X E0:=by simp[a28,CXx]
section
variable {X:Cx}{E:XK}{EE:Addr->Hq->Prop}{e e0:Expr}{es:List Expr}{x n:Str}{p pos np cpos hpos tpos:Pos}{t:A3}{te:E3}{k:Nat}{f C D:Addr}{fd:kx}{ps:List Str}{sp:PX3}
def b59 (sp:PX3) (EE:Addr->Hq->Prop) (t:A3):E3:=fun σ G R=>t σ G λws G1=>sp ws G1 R EE
theorem a35 (hp:a28 (CXx X.prog X.w) X E) (hU:UpN X.K EE E) (F:FnOk X.prog X.w X.K X.mg X.base (CXx X.prog X.w) k f fd ps (a2S X.K sp)) (hr:Room k X.A) (hg:Gl X x) (hm:X.mg x=some (.ref f)) (hk:PySem.W.keepIn X.K (.ref f)=true) (hb:Binds X.K fd ps []) (ha:QA X (e::es) t)
  (hdb:(x==("__debug__":Str))=false:=by decide) (he:kj (e::es) X.env=(false,eval e X.env)::kj es X.env:=by rfl) (hpl:(backTo pos (kj es X.env)).any (·.1)=false:=by rfl) :
  QE X (.Call (.Name x p) (e::es) [] pos) (b59 sp EE t):=⟨a1C (b2i F hr hg hm hk hb .nil hp ha.p hdb he hpl) fun τ H Q l=>l.un fun σ G R i hg h n=>⟨σ,G,_,i,hg,h,λo g vs H1 c d b j=>⟨o,g,R,EE,by rw[fK];exact d,b,c,n.mono j,λC G m z r _=>hU C G m z r⟩⟩⟩
def b6a (EE:Addr->Hq->Prop) (C:Addr) (te:E3):X3:=λ_ _ _ _ σ G=>te σ G λ_ G1=>EE C G1
theorem a76 (O:Outs X E) (hU:UpX X.K X.H₀ EE E) (hc:X.calm=true) (hg:Gl X x) (hm:X.mg x=some (.ref C)) (hq:PySem.W.excIn X.K C veM "ValueError.__new__"=true) (he:QE X e0 te)
  (hs:kj [e0] X.env=(false,eval e0 X.env)::kj [] X.env:=by rfl) (hp:(backTo cpos (kj [] X.env)).any (·.1)=false:=by rfl) (hd:(x==("__debug__":Str))=false:=by decide) :
  QS X (.Raise (some (.Call (.Name x np) [e0] [] cpos)) none pos) (b6a EE C te):=⟨a4o (b4I O hc hg hm hq he.p hs hp hd) λD τ H d=>d.un fun σ G nx rt bk ct hs hg h u1 u2 u3 u4=>⟨σ,G,_,hs,hg,h,λw G1 v H1 e rv a t1=>λt=>hU _ _ _ e a (c0k t)⟩⟩
theorem RSt.unset {K:Fg}:∀ {σ:S3}{τ:L2.St},RSt K H σ τ->∀ i:Nat,RSt K H (σ.set i none) (τ.set i none)
 | _,_,.nil,_=>by rw[List.set_nil,List.set_nil];exact .nil
 | _,_,.cons r h,0=>.cons (λ_ z=>nomatch z) h
 | _,_,.cons r h,i+1=>.cons r (RSt.unset h i)
variable {o:Expr}{m:Str}{apos:Pos}{to:E3}{PC:Addr->Prop}
def b6b (C:Addr) (m:Str) (sp:PX3) (EE:Addr->Hq->Prop) (to:E3) (t:A3):E3:=fun σ G R=>to σ G λx G1=>∃ q dx fs,x=.ref q/\G1 q=some (.ins C dx fs)/\fs.lookup m=none/\t σ G1 λws G2=>sp (.ref q::ws) G2 R EE
theorem a1h (hp:a28 (CXx X.prog X.w) X E) (hU:UpN X.K EE E) (ho:QE X o to) (c:Cls X.K C) (hm:Meth X.K C m f) (F:FnOk X.prog X.w X.K X.mg X.base (CXx X.prog X.w) k f fd ps (a2S X.K sp)) (hr:Room k X.A) (hb:Binds X.K fd ps []) (ha:QA X (e::es) t)
  (hst:kj (e::es) X.env=(false,eval e X.env)::kj es X.env:=by rfl) (hpl:(backTo pos (kj es X.env)).any (·.1)=false:=by rfl)
  (ht:eval (.Call (.Attribute o m apos) (e::es) [] pos) X.env=(do
   let ov <- eval o X.env
   kR apos.atName
   let (f,first) <- kL [ov] (ll ov m pl)
   lB pos f first (backTo pos (kj (e::es) X.env)) (lp pos (lq [] X.env))):=by rfl):QE X (.Call (.Attribute o m apos) (e::es) [] pos) (b6b C m sp EE to t):=
 ⟨a1C (b2j ho.p c hm F hr hb .nil hp ha.p hst hpl ht) fun τ H Q D=>D.un fun σ G R i T h M=>by
  refine⟨σ,G,_,i,T,h,λw u v H1 ⟨q,j,fs,L,V,B,n⟩ b a g=>?_⟩;subst L;obtain⟨S,I,N,l⟩:=a _ _ V;refine⟨q,j,S,b,I,(a2Q N l).1 B,σ,u,_,i.mono g,a,n,λx J Y H2 W U d s=>?_⟩;exact⟨.ref q::x,J,R,EE,by rw[fK,a0X];exact⟨v,Y,rfl,by rw[a0B];exact b,U⟩,d,W,M.mono (g.trans s),λC G y z r _=>hU C G y z r⟩⟩
def c0l (PC:Addr->Prop) (i:Nat) (C:Addr) (m:Str) (sp:PX3) (to:E3) (t:A3) (th:Addr->Addr->X3):X3:=λnx rt bk ct σ G=>to σ G λx G1=>∃ q dx fs,x=.ref q/\G1 q=some (.ins C dx fs)/\fs.lookup m=none/\t σ G1 λws G2=>
 sp (.ref q::ws) G2 (λ_ G3=>nx σ G3) λC' G3=>PC C'/\∀ e,th C' e (fun σ' G'=>nx (σ'.set i none) G') rt (fun σ' G'=>bk (σ'.set i none) G') (fun σ' G'=>ct (σ'.set i none) G') (σ.set i (some (.ref e))) G3
theorem c0m (PC:Addr->Prop) (hst:X.stack=X.env::X.outer) (hex:X.ex=[]) (hfm:X.env.frame=some X.env.locals)
  (ho:QE X.nox o to) (c:Cls X.K C) (hmt:Meth X.K C m f) (F:FnOk X.prog X.w X.K X.mg X.base (CXx X.prog X.w) k f fd ps (a2S X.K sp)) (hr:Room k X.A) (hb:Binds X.K fd ps []) (ha:QA X.nox (e::es) t)
  (hg:Gl X x) (hm:X.mg x=some (.ref D)) (hD:∀ C,PC C->PySem.W.exmOne X.K (.ref C) (.ref D)=some true) (hN:X.N.Nodup) (hi:X.N[i]?=some n) (hl:X.env.scope.names.lookup n=some .local)
  (hh:∀ C e oe,PC C->oe.cls=.ref C->oe.dict=none->PySem.W.notCls oe=true->QSs (X.hnd e oe) (b₀::suite) (th C e))
  (he:kj (e::es) X.env=(false,eval e X.env)::kj es X.env:=by rfl) (hpl:(backTo cp (kj es X.env)).any (·.1)=false:=by rfl)
  (ht:eval (.Call (.Attribute o m apos) (e::es) [] cp) X.env=(do
   let ov <- eval o X.env
   kR apos.atName
   let (f,first) <- kL [ov] (ll ov m pl)
   lB cp f first (backTo cp (kj (e::es) X.env)) (lp cp (lq [] X.env))):=by rfl)
  (hs:lh (.Call (.Attribute o m apos) (e::es) [] cp) none pos.line X.env=pure false:=by rfl) (hd:(x==("__debug__":Str))=false:=by decide) :
  QS X (.Try [.Expr (.Call (.Attribute o m apos) (e::es) [] cp) pos] [.ExceptHandler (some (.Name x np)) (some n) (b₀::suite) hpos] [] [] tpos) (c0l PC i C m sp to t th):=
 ⟨a4o (b85 (th:=λC e=>lowS X.K (th C e)) hst hex hfm (b6Y ho.p c hmt F hr hb ha.p he hpl ht) hg hm hD hN hi hl (λC e oe z h1 g r=>(hh C e oe z h1 g r).p) hs hd) λD τ H hx=>hx.un fun σ G nx rt bk ct hs hg h u1 u2 u3 u4=>by
  refine⟨λc _ H'=>∃ l G',c=.ref l/\(PC l/\∀ e,th l e (fun σ' G'=>nx (σ'.set i none) G') rt (fun σ' G'=>bk (σ'.set i none) G') (fun σ' G'=>ct (σ'.set i none) G') (σ.set i (some (.ref e))) G')/\RH X.K G' H'/\TK X.K H H',?_,?_⟩
  ·refine⟨σ,G,_,hs,hg,h,λw G1 v H1 ⟨q,dx,fs,ew,ea,el,hq⟩ rv hg1 y=>?_⟩;subst ew;rw[a0B]at rv;obtain⟨gs,e1,e2,e3⟩:=hg1 _ _ ea;refine⟨q,dx,gs,rv,e1,(a2Q e2 e3).1 el,σ,G1,_,hs.mono y,hg1,hq,λws B vs H2 g rs a d=>?_⟩;exact⟨.ref q::ws,B,_,_,by rw[fK,a0X];exact⟨v,vs,rfl,by rw[a0B];exact rv,rs⟩,a,g,λw G3 v H3 r _ hg3 u=>u1 _ _ _ _ r (hs.mono ((y.trans d).trans u)) hg3 ((y.trans d).trans u),λl G3 H3 r r3 u=>⟨l,G3,rfl,r,r3,(y.trans d).trans u⟩⟩
  ·rintro c H' ⟨l,G',rfl,⟨hC',hth⟩,hg',t'⟩;refine⟨l,rfl,hC',λe _=>⟨σ.set i (some (.ref e)),G',_,_,_,_,(hs.mono t').set (by rw[a0B]) i,hg',hth e,?_,u2.mono t',?_,?_⟩⟩
   ·exact fun σ2 B τ2 H2 g j a d=>u1 _ _ _ _ g (RSt.unset j i) a (t'.trans d)
   ·exact fun σ2 B τ2 H2 g j a d=>u3 _ _ _ _ g (RSt.unset j i) a (t'.trans d)
   ·exact fun σ2 B τ2 H2 g j a d=>u4 _ _ _ _ g (RSt.unset j i) a (t'.trans d)⟩
def zIsX (K:Fg) (C e:Addr):List Z->Hq->K3->Prop:=λxs G R=>∃ y b,xs=[.ref e,y]/\((∃ D,y=.ref D/\PySem.W.kitOne K (.ref C) (.ref D)=some b)\/(∃ T,y=.ty T/\PySem.W.kitOne K (.ref C) (.type T)=some b) \/
 ∃ ds:List Addr,y=.tup (ds.map Z.ref)/\PySem.W.kitAny K (.ref C) (ds.map Value.ref)=some b)/\R (.bl b) G
theorem a8X {K:Fg}:∀ {bs:List Addr}{vs:List V},Reps K H (bs.map Z.ref) vs->vs=bs.map V.ref
 | [],vs,h=>by rw[fD,a0v]at h;subst h;rfl
 | n::ns,vs,h=>by
  obtain⟨v,r,rfl,a,b⟩:=h;rw[a,a8X b];rfl
theorem b45 {e:Addr}(hc:oe.cls=.ref C) (hd:oe.dict=none) (hn:PySem.W.notCls oe=true) (k:ExK X.K C):a2y (X.hnd e oe) (.builtin "isinstance") (zIsX X.K C e):=a1f (b44 hc hd hn k) λs H Q j=>j.un λn G R d i h m=>by
 obtain⟨y,b,rfl,f,q⟩:=h;obtain⟨v,g,rfl,r,a⟩:=d.two;subst r;refine⟨g,b,rfl,?_,m _ _ _ _ q (by rw[a0Q]) i (.refl _ _)⟩;rcases f with ⟨D,rfl,e1⟩ | ⟨T,rfl,e1⟩ | ⟨ds,rfl,e1⟩
 exact .inl ⟨D,a,e1⟩;exact .inr (.inl ⟨T,a,e1⟩)
 ·rw[a19]at a;obtain⟨p,o,rfl,l,c⟩:=a
  have:=a8X c
  subst this;exact .inr (.inr ⟨p,ds,rfl,SqT.of l,e1⟩)
end
section
variable {X:Cx}{EW:XK}{N':List Str}{sc:Scope}{cap:List (Option Nat)}{tg iter elt:Expr}{ifs:List Expr}{wi:I3}{pt:Pt}{tt:T3}{te:E3}{pos:Pos}
end
section
variable {P:kz}{w:World}{K:Fg}{mg:Str->Option Value}{base:Heap}
theorem fn3x {st:Stmt}(F:Fun K x qual st f fd) (S:FnScope N ps (a0h st)) (len:∀ ws G R EE,sp ws G R EE->ws.length=ps.length)
  (hbody:∀ (cdv:Value) (A:Around) (outer:List Env) (s:Shared) (H:Hp) (E:XK) (ws:List Z) (G:Hq) (R:K3) (EE:Addr->Hq->Prop),Room k (A.deeper (envOfC qual (a0h st) s.heap.objs.size f cdv))->sp ws G R EE->UpX K H EE E ->
   ∃ t,QSs (cxOf (CXx P w) P w K mg base N qual (a0h st) f cdv A outer s H E) (a2s st) t/\t (λ_ G'=>R .non G') R (λ_ _=>False) (λ_ _=>False) (a5v N ws) G):FnOk P w K mg base (CXx P w) (k+1) f fd ps (a2S K sp):=by
 obtain⟨I,T,U,C,M,V,m,L,z,rfl,n,g⟩:=F.ex;refine b8P n g S (λo H Q E ⟨b,G,R,e,c,j,h,d,l⟩=>by rw[<- c.length];exact len _ _ _ _ h) ?_;rintro A a s H o Q E r ⟨b,G,R,e,c,j,h,d,l⟩;obtain⟨t,v,q⟩:=hbody m A a s H E b G R e r h l;exact⟨_,v.p,a5v N b,G,_,R,_,_,.start c,j,q,fun σ' J τ' D u B i y=>d _ _ _ _ u (by rw[a01]) i y,d,λ_ _ _ _ h _ _ _=>h.elim,λ_ _ _ _ h _ _ _=>h.elim⟩
end
mutual
def DZ (G:Hq):PyData->Z->Prop
 | .none,x=>x=.non
 | .bool b,x=>x=.bl b
 | .int i,x=>x=.int i
 | .str s,x=>x=.str s
 | .list ds,x=>∃ p ws,x=.ref p/\G p=some (.lst ws)/\DZs G ds ws
 | .tuple ds,x=>∃ ws,x=.tup ws/\DZs G ds ws
 | .dict _,_=>False
def DZs (G:Hq):List PyData->List Z->Prop
 | [],ws=>ws=[]
 | d::ds,ws=>∃ w r,ws=w::r/\DZ G d w/\DZs G ds r
end
mutual
theorem DZ.dv {K:Fg}{G:Hq}{H:Hp}(hg:RH K G H):∀ {d:PyData}{w:Z}{v:V},DZ G d w->Rep K H w v->DV H d v
 | .none,w,v,q,r=>by unfold DZ at q;subst q;rw[a01]at r;unfold DV;exact r
 | .bool b,w,v,q,r=>by unfold DZ at q;subst q;rw[a0Q]at r;unfold DV;exact r
 | .int i,w,v,q,r=>by unfold DZ at q;subst q;rw[a0y]at r;unfold DV;exact r
 | .str s,w,v,q,r=>by unfold DZ at q;subst q;rw[a0K]at r;unfold DV;exact r
 | .list ds,w,v,q,r=>by
  unfold DZ at q;obtain⟨p,ws,e,hp,q⟩:=q;subst e;rw[a0B]at r;obtain⟨vs,e',rs⟩:=hg _ _ hp;unfold DV;exact⟨p,vs,r,e',DZs.dv hg q rs⟩
 | .tuple ds,w,v,q,r=>by
  unfold DZ at q;obtain⟨ws,e,q⟩:=q;subst e;rw[a19]at r;obtain⟨p,vs,e1,e2,rs⟩:=r;unfold DV;exact⟨p,vs,e1,e2,DZs.dv hg q rs⟩
 | .dict _,w,v,q,r=>by unfold DZ at q;exact q.elim
theorem DZs.dv {K:Fg}{G:Hq}{H:Hp}(hg:RH K G H):∀ {ds:List PyData}{ws:List Z}{vs:List V},DZs G ds ws->Reps K H ws vs->DVs H ds vs
 | [],ws,vs,q,r=>by unfold DZs at q;subst q;rw[a0v]at r;unfold DVs;exact r
 | d::ds,ws,vs,q,r=>by
  unfold DZs at q;obtain⟨w,ws',e,q1,q2⟩:=q;subst e;rw[a0X]at r;obtain⟨v,vs',e,r1,r2⟩:=r;unfold DVs;exact⟨v,vs',e,DZ.dv hg q1 r1,DZs.dv hg q2 r2⟩
end
mutual
theorem DZ.sm {G G':Hq}(s:Sm G G'):∀ {d:PyData}{w:Z},DZ G d w->DZ G' d w
 | .none,w,q=>by unfold DZ at q ⊢;exact q
 | .bool b,w,q=>by unfold DZ at q ⊢;exact q
 | .int i,w,q=>by unfold DZ at q ⊢;exact q
 | .str _,w,q=>by unfold DZ at q ⊢;exact q
 | .list ds,w,q=>by
  unfold DZ at q ⊢;obtain⟨p,ws,e,hp,q⟩:=q;exact⟨p,ws,e,s _ _ hp,DZs.sm s q⟩
 | .tuple ds,w,q=>by
  unfold DZ at q ⊢;obtain⟨ws,e,q⟩:=q;exact⟨ws,e,DZs.sm s q⟩
 | .dict _,w,q=>by unfold DZ at q;exact q.elim
theorem DZs.sm {G G':Hq}(s:Sm G G'):∀ {ds:List PyData}{ws:List Z},DZs G ds ws->DZs G' ds ws
 | [],ws,q=>by unfold DZs at q ⊢;exact q
 | d::ds,ws,q=>by
  unfold DZs at q ⊢;obtain⟨w,r,e,q1,q2⟩:=q;exact⟨w,r,e,DZ.sm s q1,DZs.sm s q2⟩
end
theorem b3l (e:G p=some (.lst ws)) (h:DZs G ds ws):DZ G (.list ds) (.ref p):=by unfold DZ;exact⟨p,ws,rfl,e,h⟩
theorem b1A:DZ G (.bool b) (.bl b):=by unfold DZ;rfl
theorem b3m:DZs G [] []:=by unfold DZs;rfl
theorem a3y (h:DZ G d w) (hs:DZs G ds ws):DZs G (d::ds) (w::ws):=by unfold DZs;exact⟨w,ws,rfl,h,hs⟩
def zEqN (f:Bool->Bool):R3:=λx y G R=>∃ d e,DZ G d x/\DZ G e y/\SeqAt.shaped d=true/\SeqAt.shaped e=true/\R (.bl (f (PyData.eqv d e))) G
section
variable {X:Cx}
theorem b7v {K:Fg}(h:low2 K (zEqN f) x y H Q):∃ d e,DV H d x/\DV H e y/\SeqAt.shaped d=true/\SeqAt.shaped e=true/\Q (.bl (f (PyData.eqv d e))) H:=by
 obtain⟨a,b,G,R,n,k,c,⟨d,e,l,i,j,m,h⟩,g⟩:=h;exact⟨d,e,l.dv c n,i.dv c k,j,m,g _ _ _ _ h (by rw[a0Q]) c (.refl _ _)⟩
theorem c17 (hu:X.A.units+66<cLine):OpQ X (kC .Eq) (zEqN id):=a57 (b5N hu) λx y H Q h=>b7v h
end
theorem c18 (h1:DZ G d x) (h2:DZ G e y) (s1:SeqAt.shaped d=true) (s2:SeqAt.shaped e=true) (h:R (.bl (f (PyData.eqv d e))) G):zEqN f x y G R:=⟨d,e,h1,h2,s1,s2,h⟩
noncomputable def c0n:List Z->Hq->K3->Prop:=λxs G R=>match xs with
 | [.bl b]=>R (.int (if b then 1 else 0)) G
 | _=>False
end L3
namespace L2
open PySem PySem.Spec PyProof.Rows
theorem b3n:CallR X (.type "int") (λxs H Q=>∃ b:Bool,xs=[.bl b]/\Q (.int (if b then 1 else 0)) H):=by
 intro c s σ H e d Q I r h;obtain⟨b,rfl,q⟩:=h;obtain⟨u,rfl,a⟩:=a3V r;cases (a);exact PySem.call_int_bool ⟨.int _,H,I.tok _,⟨_,rfl⟩,q⟩
end L2
namespace L3
open PySem PySem.Spec PyProof.Rows L2
theorem c0o:a2y X (.type "int") c0n:=a1f b3n λg H Q d=>d.un λc G R a f h e=>by
 match c,h with
 | [.bl b],h=>
  obtain⟨v,rfl,r⟩:=a.one;exact⟨b,by rw[r],e _ _ _ _ h (by rw[a0y]) f (.refl _ _)⟩
theorem c0p (h:R (.int (if b then 1 else 0)) G):c0n [.bl b] G R:=h
section
variable {X:Cx}{E:XK}{e:Expr}{es:List Expr}{x n:Str}{p pos np hpos tpos:Pos}{t:A3}{k:Nat}{f D:Addr}{fd:kx}{ps:List Str}{sp:PX3}
end
end L3
namespace L2
open PySem PySem.Spec PyProof.Rows
noncomputable def ItD (o:Obj) (a:Addr) (kvs:List (Key×V)):It:=
 ⟨λi H=>H a=some (.frz o (.dK kvs))/\i<kvs.length,λi H x H'=>H'=H/\∃ p,kvs[i]?=some p/\x=kV p.1,λi H=>H a=some (.frz o (.dK kvs))/\kvs.length<=i⟩
theorem c19 (h:(a0O P w).is k u=true):RelV (kV k) u:=by
 rcases a0J h with ⟨i,t,rfl,rfl⟩ | ⟨x,t,rfl,rfl⟩ | ⟨rfl,rfl⟩
 ·exact⟨t,rfl⟩
 ·exact⟨t,rfl⟩
 ·rfl
theorem b0H:∀ {kvs:List (Key×V)}{vs:List (Key×Value)},KV kvs vs->vs.length=kvs.length
 | [],vs,h=>by cases h;rfl
 | p::kvs,vs,h=>by
  cases h with
  | cons h1 h2=>rw[fk,fk,b0H h2]
theorem b6c:∀ {kvs:List (Key×V)}{vs:List (Key×Value)}{i:Nat}{p:Key×V},KV kvs vs->kvs[i]?=some p->∃ q,vs[i]?=some q/\p.1=q.1
 | [],vs,i,p,h,e=>by simp at e
 | p0::kvs,vs,i,p,h,e=>by
  cases h with
  | cons h1 h2=>
   cases i with
   | zero=>cases e;exact⟨_,rfl,h1.1⟩
   | succ i=>exact b6c (i:=i) h2 (by simpa using e)
theorem b3o {P:kz}{w:World}{K:Fg}{tg:Expr}(a it:Addr) {o:Obj}(kvs:List (Key×V)) {es:Array mI}{ep:Nat}(hd:o.data=.dict es ep):Turn P w K tg (ItD o a kvs) [it] it (λi h=>h.IsKeyIter it a i kvs.length ep) where
 mem:=by simp
 obj:=λi h st b hb=>by
  have e:b=it:=by simpa using hb
  subst e;obtain⟨o,e,c,d⟩:=st;exact⟨o,e,λv z=>by rw[d]at z;cases z⟩
 keep:=λi h h' st k=>st.at λo e=>k it (by simp) o e
 item:=by
  intro X hP hw hK hc i pins s σ H E I hf st hg;subst hP hw hK;obtain⟨ha,hi⟩:=hg;obtain⟨g,hz,hsm,vs,kv,dof⟩:=(show ObjOk X.prog X.w H s.heap a (.frz o (.dK kvs)) from I.hok a _ ha);obtain⟨f0,f1,f2,f3,f4,f5⟩:=hf it (by simp);have hl:=b0H kv;have dat:s.heap.DictAt (a0O X.prog X.w) a vs ep:=by
   obtain⟨o',es',ep',h1,h2,h3,h4⟩:=dof;rw[g]at h1;cases h1;rw[hd]at h3;cases h3;exact⟨o,es,g,h2,hd,h4⟩
  obtain⟨p,hp⟩:∃ p,kvs[i]?=some p:=⟨kvs[i],fw hi⟩;obtain⟨⟨k,v⟩,hq,e1⟩:=b6c kv hp;refine wpAny_pyNext_dict_item (by rw[hl];exact st) dat hq λkey h' hk st' sb=>?_;have I1:Inv X pins σ H { s with heap:=h' }:=I.turned (t':=s.toks) (λb o hb e=>(sb.2 b hb).trans e) f0 f1 f3 f4 f5;rw[hl]at st';obtain⟨oi,e,c,d⟩:=id st';exact⟨key,rfl,b1h (s:={ s with heap:=h' }) e c d (by decide) ⟨kV p.1,H,I1,by rw[e1];exact c19 hk,⟨rfl,p,hp,rfl⟩,st',λb hb=>(hf b hb).1⟩⟩
 done:=by
  intro X hP hw hK hc i pins s σ H E I hf st hg;subst hP hw hK;obtain⟨ha,hi⟩:=hg;obtain⟨g,hz,hsm,vs,kv,dof⟩:=(show ObjOk X.prog X.w H s.heap a (.frz o (.dK kvs)) from I.hok a _ ha);obtain⟨f0,f1,f2,f3,f4,f5⟩:=hf it (by simp);have hl:=b0H kv;have dat:s.heap.DictAt (a0O X.prog X.w) a vs ep:=by
   obtain⟨o',es',ep',h1,h2,h3,h4⟩:=dof;rw[g]at h1;cases h1;rw[hd]at h3;cases h3;exact⟨o,es,g,h2,hd,h4⟩
  exact wpAny_pyNext_dict_end (I.ok.hd hc) (by rw[hl];exact st) dat (List.getElem?_eq_none (by omega)) λh' eb=>⟨rfl,I.turned (t':=s.toks) (λb o hb e=>eb b o hb e) f0 f1 f3 f4 f5⟩
 self:=λ_ _ _ _ _ st h=>wpAny_pyIter_keyiter st h
section
variable {X:Cx}{pins:List (Addr×Obj)}{σ:St}{H:Hp}{s:Shared}{a:Addr}{kvs:List (Key×V)}{tg:Expr}
theorem Inv.freeze (I:Inv X pins σ H s) (e:H a=some (.dK kvs)):∃ o,Inv X pins σ (upd H a (.frz o (.dK kvs))) s:=by
 obtain⟨p,k,t,x,h⟩:=(I.hok a _ e);have i:=h;obtain⟨o,C,B,g,r⟩:=i;refine⟨o,?_⟩;have l:∀ b,H b=none->b≠a:=λb q z=>by rw[z,e]at q;cases q
 have j:∀ b d,H b=some (.tup d)->b≠a:=λb d q z=>by rw[z,e]at q;cases q
 have A:∀ b o u,H b=some (.frz o u)->b≠a:=λb o u q z=>by rw[z,e]at q;cases q
 have y:∀ b f,H b=some (.tbl f)->b≠a:=λb f q z=>by rw[z,e]at q;cases q
 have m:∀ b c,H b=some (.own c)->b≠a:=λb c q z=>by rw[z,e]at q;cases q
 refine I.un ⟨λb o q _ _ _=>q,λb o q _ _ _=>⟨o.slots,q⟩,λb o q n _=>by rw[a0x (l b n)];exact n,λb o q _=>⟨o,q⟩,λb d q=>by rw[a0x (j b d q)];exact q,λb o u q=>by rw[a0x (A b o u q)];exact q,λb f q=>⟨#[],by rw[a0x (y b f q),Array.append_empty];exact q⟩⟩ λb u q=>?_
 by_cases hb:b=a
 ·subst hb;rw[a0w]at q;cases q;exact⟨g,p,k,t,x,h⟩
 ·rw[a0x hb]at q;exact (I.hok b u q).stay (λc v _ r=>r) (λc r=>by rw[a0x (m c b r)];exact r) λc d r=>by rw[a0x (j c d r)];exact r
def iDct (tl:TE):TI:=fun σ H R=>tl σ H λx H1=>∃ a kvs,x=.ref a/\((H1 a=some (.dK kvs)/\∀ o,R (ItD o a kvs) (upd H1 a (.frz o (.dK kvs))))\/∃ o,H1 a=some (.frz o (.dK kvs))/\R (ItD o a kvs) H1)
theorem b7w (hl:PE X l tl):PI X tg l (iDct tl):=by
 intro c s σ H R I h;refine thn (hl c s σ H _ I h) λv d ⟨x,B,r,C,E⟩=>?_;obtain⟨a,f,e,q⟩:=E;subst e;cases C;have k:∀ o i,Inv X c σ i d->i a=some (.frz o (.dK f))->R _ i->wpAny _ X.A _ (PIE X c σ tg R) X.xe d:=λo i j m q=>by
  obtain⟨g,M,t,L,D,y⟩:=(j.hok a _ m);obtain⟨N,n⟩:=y.dictAt;have p:=n;obtain⟨J,G,u,_,F,_⟩:=p;rw[g]at u;cases u;refine wpAny_pyIter_dict t n ?_;refine⟨d.heap.objs.size,[d.heap.objs.size],_,_,i,rfl,j.kept λb o e=>Heap.get?_push_of_some _ e,b3o a _ f F,⟨_,Heap.get?_push_size _ rfl,rfl,by rw[b0H D];rfl⟩,λb z=>?_,q⟩;have e:b=d.heap.objs.size:=by grind
  subst e;exact j.fpOk (ff _) (j.hok.fresh (ff _))
 rcases q with ⟨m,q⟩ | ⟨o,m,q⟩
 ·obtain⟨o,j⟩:=r.freeze m;exact k o _ j a0w (q o)
 ·exact k o B r m q
end
end L2
namespace L3
open PySem PySem.Spec PyProof.Rows L2
noncomputable def keyW:Key->Z
 | .inl (some i)=>.int i
 | .inl none=>.non
 | .inr s=>.str s
theorem b46 {K:Fg}:∀ k:Key,Rep K H (keyW k) (kV k)
 | .inl (some i)=>by show Rep K H (.int i) (.int i);rw[a0y]
 | .inl none=>by show Rep K H .non .non;rw[a01]
 | .inr s=>by show Rep K H (.str s) (.str s);rw[a0K]
def wkD (x:Z) (G:Hq) (R:List Z->(Hq->Prop)->Hq->Prop):Prop:=match x with
 | .ref a=>∃ kvs,(G a=some (.dK kvs)\/G a=some (.dF kvs))/\R (kvs.map λp=>keyW p.1) (λ_=>True) (put G a (.dF kvs))
 | _=>False
def iD (tl:E3):I3:=fun σ G R=>tl σ G λx G1=>wkD x G1 R
theorem a7q {K:Fg}{kvs:List (Key×Z)}(e:H0 a=some (.frz o (.dK us))) (hn:us.map (·.1)=kvs.map (·.1)):a7V K (kvs.map λp=>keyW p.1) (λ_=>True) (ItD o a us) H0:=λi G H g t n j=>by
 have d:=t.frd _ _ _ e;have l:us.length=kvs.length:=by have:=congrArg fN hn;simpa using this
 rw[fc]at j;refine⟨λh=>⟨d,by rw[fc]at h;omega⟩,λw b=>?_⟩;rw[fm]at b;cases hk:kvs[i]? with
 | none=>rw[hk]at b;cases b
 | some p=>
  rw[hk]at b;cases b;have k:=(fj.mp hk).1;refine⟨⟨d,by omega⟩,?_⟩;rintro x m ⟨rfl,q,f,rfl⟩
  have:q.1=p.1:=by
   have c:(us.map (·.1))[i]?=some q.1:=by rw[fm,f];rfl
   rw[hn,fm,hk]at c;exact (fQ.inj c).symm
  rw[this];exact⟨b46 _,g,.refl _ _⟩
section
variable {X:Cx}{tg l:Expr}{tl:E3}
theorem b7x (hl:QE X l tl):QI X tg l (iD tl):=a9F (b7w hl.p) fun τ H B u=>u.un fun σ G R z A h t=>by
 refine⟨σ,G,_,z,A,h,λw r v q d k c s=>?_⟩;cases w with
 | ref a=>
  obtain⟨j,e,d⟩:=d;rcases e with e | e
  ·obtain⟨g,f,i,n⟩:=c _ _ e;refine⟨a,g,k,.inl ⟨f,λo=>?_⟩⟩;have m:TK X.K q (L2.upd q a (.frz o (.dK g))):=.dK f;exact t _ _ _ _ _ d (a7q a0w i) (c.set m ⟨o,g,a0w,i,n.mono m⟩) (s.trans m)
  ·have x:=e;obtain⟨o,g,f,i,n⟩:=c _ _ e;refine⟨a,g,k,.inr ⟨o,f,?_⟩⟩;have y:put r a (.dF j)=r:=by
    funext b
    unfold put
    split
    ·simp_all
    ·rfl
   rw[y]at d;exact t _ _ _ _ _ d (a7q f i) c s
 | _=>exact fh d
theorem i_iD (h:tl σ G λx G1=>wkD x G1 R):iD tl σ G R:=h
theorem c2a (e:G p=some (.dK kvs)\/G p=some (.dF kvs)) (h:R (kvs.map λp=>keyW p.1) (λ_=>True) (put G p (.dF kvs))):wkD (.ref p) G R:=⟨kvs,e,h⟩
end
end L3
namespace L2
open PySem PySem.Spec PyProof.Rows
theorem b3p:∀ {ss:List Str}{us:List Value},Vals (ss.map V.str) us->lN us ss
 | [],us,r=>by rw[fD]at r;cases r;exact .nil
 | s::ss,us,r=>by
  cases r with
  | cons r1 r2=>obtain⟨t,rfl⟩:=r1;exact .cons s t (b3p r2)
theorem a6k:∀ {vs:List Value}{ss:List Str},lN vs ss->Vals (ss.map V.str) vs
 | _,_,.nil=>.nil
 | _,_,.cons s t h=>.cons ⟨t,rfl⟩ (a6k h)
def b47 (K:Fg):List V->Hp->VK->Prop:=λxs H Q=>∃ (p:Addr) (ss:List Str),xs=[.ref p]/\SqL K H p (ss.map V.str)/\ss.length<64 /\
 ∀ (t:Addr) (ts:List Str),H t=none->ts.Perm ss->lE ts=true->Q (.ref t) (upd H t (.lst (ts.map V.str)))
theorem a8Y:CallR X (.builtin "sorted") (b47 X.K):=by
 intro k s σ H y z Q I r h;obtain⟨p,x,rfl,g,t,q⟩:=h;obtain⟨u,rfl,i⟩:=a3V r;cases i;obtain⟨c,n,m,_⟩:=I.list g;have f:=b3p n;have v:=f.length;refine sorted_strs m.isList f (by omega) λa b o d l=>?_;obtain⟨e,j⟩:=sortedAll_at s.heap c a;exact⟨.ref _,_,I.laid (λ_ _=>sortedAll_old) (ip _) (show ObjOk X.prog X.w _ _ _ (.lst _) from ⟨by rw[fc,d.length_eq,kJ];omega,a.toList,e,a6k o,by simpa using j⟩),rfl,q _ b (I.hok.fresh (ip _)) d l⟩
end L2
namespace L3
open PySem PySem.Spec PyProof.Rows L2
theorem a5a {K:Fg}:∀ ss:List Str,Reps K H (ss.map Z.str) (ss.map V.str)
 | []=>by rw[fD,fD,a0v]
 | s::ss=>by
  exact⟨_,_,rfl,by rw[a0K],a5a ss⟩
theorem a7r {K:Fg}:∀ {ss:List Str}{vs:List V},Reps K H (ss.map Z.str) vs->vs=ss.map V.str
 | [],vs,h=>by rw[fD,a0v]at h;subst h;rfl
 | s::ss,vs,h=>by
  obtain⟨v,r,rfl,a,b⟩:=h;rw[a,a7r b];rfl
def b0I:List Z->Hq->K3->Prop:=λxs G R=>match xs with
 | [.ref p]=>∃ ss:List Str,G p=some (.lst (ss.map Z.str))/\ss.length<64/\∀ (t:Addr) (ts:List Str),G t=none->ts.Perm ss->lE ts=true->R (.ref t) (put G t (.lst (ts.map Z.str)))
 | _=>False
theorem a8Z:a2y X (.builtin "sorted") b0I:=a1f a8Y λu H Q n=>n.un λg G R j b h q=>by
 match g,h with
 | [.ref p],h=>
  obtain⟨v,rfl,r⟩:=j.one;obtain⟨i,e,d,h⟩:=h;obtain⟨s,k,l⟩:=b _ _ e
  have:=a7r l
  subst this;exact⟨p,i,by rw[r],SqL.of k,d,λt a c f m=>q _ _ _ _ (h t a (b.out c) f m) (by rw[a0B]) (b.set (.new c) ⟨_,a0w,a5a a⟩) (.new c)⟩
theorem a80 (e:G p=some (.lst (ss.map Z.str))) (z:ss.length<64) (h:∀ (t:Addr) (ts:List Str),G t=none->ts.Perm ss->lE ts=true->R (.ref t) (put G t (.lst (ts.map Z.str)))):b0I [.ref p] G R:=⟨ss,e,z,h⟩
end L3
namespace L2
open PySem PySem.Spec PyProof.Rows
structure Cl where
 x:Str
 np:Pos
 b₀:Stmt
 suite:List Stmt
 hp:Pos
noncomputable def Cl.h (n:Str) (c:Cl):ExceptHandler:=.ExceptHandler (some (.Name c.x c.np)) (some n) (c.b₀::c.suite) c.hp
inductive Picks (X:Cx) (C:Addr) (th:Addr->TS):List Cl->Prop
 | here {c:Cl} {cs:List Cl} {D:Addr} (hg:Gl X c.x) (hm:X.mg c.x=some (.ref D)) (hd:(c.x==("__debug__":Str))=false) (hD:PySem.W.exmOne X.K (.ref C) (.ref D)=some true)
   (hh:∀ e oe,oe.cls=.ref C->oe.dict=none->PySem.W.notCls oe=true->PSs (X.hnd e oe) (c.b₀::c.suite) (th e)):Picks X C th (c::cs)
 | next {c:Cl} {cs:List Cl} {D:Addr} (hg:Gl X c.x) (hm:X.mg c.x=some (.ref D)) (hd:(c.x==("__debug__":Str))=false) (hD:PySem.W.exmOne X.K (.ref C) (.ref D)=some false) (hp:Picks X C th cs):Picks X C th (c::cs)
section
variable {X:Cx}{n:Str}{pos tpos:Pos}{ce:Expr}
end
end L2
namespace L3
open PySem PySem.Spec PyProof.Rows L2
inductive Alt (X:Cx) (cs:List Cl):List (Addr×(Addr->X3))->Prop
 | nil:Alt X cs []
 | cons {C:Addr} {th:Addr->X3} {l:List (Addr×(Addr->X3))} (h:Picks X C (λe=>lowS X.K (th e)) cs) (hs:Alt X cs l):Alt X cs ((C,th)::l)
theorem Alt.get:∀ {l:List (Addr×(Addr->X3))},Alt X cs l->∀ p∈l,Picks X p.1 (λe=>lowS X.K (p.2 e)) cs
 | _,.nil,p,h=>by simp at h
 | _,.cons h hs,p,hp=>by
  rcases ft.mp hp with rfl | hp
  ·omega
  ·exact hs.get p hp
section
variable {X:Cx}{e:Expr}{es:List Expr}{n:Str}{p pos tpos:Pos}{t:A3}{k:Nat}{f:Addr}{fd:kx}{ps:List Str}{sp:PX3}
end
end L3
namespace L2
open PySem PySem.W
end L2
namespace L2
open PySem PySem.Spec PyProof.Rows
theorem Inv.melt (I:Inv X pins σ H s) (e:H a=some (.frz o (.dK kvs))) (n:∀ o u,X.H₀ a≠some (.frz o u)):Inv X pins σ (upd H a (.dK kvs)) s:=by
 obtain⟨g,E,j,A,B,t⟩:=(I.hok a _ e);have i:∀ b,H b=none->b≠a:=λb q z=>by rw[z,e]at q;cases q
 have k:∀ b d,H b=some (.tup d)->b≠a:=λb d q z=>by rw[z,e]at q;cases q
 have D:∀ b f,H b=some (.tbl f)->b≠a:=λb f q z=>by rw[z,e]at q;cases q
 have L:∀ b c,H b=some (.own c)->b≠a:=λb c q z=>by rw[z,e]at q;cases q
 refine⟨I.ok,I.os,I.bare,⟨I.base.keep,I.base.slot,λb o F C y=>?_,I.base.there,λb d q=>?_,λb o u q=>?_,λb f q=>?_⟩,I.loc,I.cell,?_,λx c q=>?_,λp M=>?_,λb u q=>?_,I.len⟩
 ·have h:=I.base.free b o F C y;rw[a0x (i b h)];exact h
 ·have h:=I.base.tups b d q;rw[a0x (k b d h)];exact h
 ·rw[a0x (λz=>n o u (by simp_all))];exact I.base.frzs b o u q
 ·obtain⟨m,h⟩:=I.base.tbls b f q;exact⟨m,by rw[a0x (D b _ h)];exact h⟩
 ·rw[a0x (i _ I.free)];exact I.free
 ·have h:=I.freeC x c q;rw[a0x (i _ h)];exact h
 ·obtain⟨G,l,J⟩:=I.pin p M;exact⟨G,by rw[a0x (i _ l)];exact l,J⟩
 ·by_cases hb:b=a
  ·subst hb;rw[a0w]at q;cases q;exact⟨E,j,A,B,t⟩
  ·rw[a0x hb]at q;exact (I.hok b u q).stay (λc v _ r=>r) (λc r=>by rw[a0x (L c b r)];exact r) λc d r=>by rw[a0x (k c d r)];exact r
end L2
namespace L3
open PySem PySem.Spec PyProof.Rows L2
section
variable {X:Cx}{K:Fg}{H H1:Hp}{a:Addr}{us us1:List (Key×V)}{o:Obj}{e:Expr}{t:E3}{G:Hq}{kvs:List (Key×Z)}
theorem a6l (h:H1 a=some (.frz o (.dK us1))):TW K H1 (upd H1 a (.dK us1)):=
 ⟨λc b q=>by rw[a0x (λz=>by rw[z,h]at q;cases q)];exact q,λc b q=>by
  rcases q with ⟨o',q⟩ | q
  ·exact .inl ⟨o',by rw[a0x (λz=>by rw[z,h]at q;cases q)];exact q⟩
  ·exact .inr q⟩
theorem b7y (h0:H a=some (.dK us)) (t:TK K H H1) (h:H1 a=some (.frz o (.dK us1))):TK K H (upd H1 a (.dK us1)):=
 ⟨λc b q=>(a6l (K:=K) h).tup c b (t.tup c b q),λc b q=>(a6l (K:=K) h).frz c b (t.frz c b q),λc d u q=>by
  rw[a0x (λz=>by rw[z,h0]at q;cases q)];exact t.frd c d u q⟩
theorem c2b (t:TW K H H1) (e:H1 b=H b) (h:ROb K H b o'):ROb K H1 b o':=by
 cases o' with
 | lst ws=>obtain⟨a,q,r⟩:=h;exact⟨a,e.trans q,r.monoW t⟩
 | dK kvs=>obtain⟨a,q,n,r⟩:=h;exact⟨a,e.trans q,n,r.monoW t⟩
 | ins C dx fs=>obtain⟨a,q,n,r⟩:=h;exact⟨a,e.trans q,n,r.monoW t⟩
 | dF kvs=>obtain⟨c,a,q,n,r⟩:=h;exact⟨c,a,e.trans q,n,r.monoW t⟩
 | dT ks=>obtain⟨a,q,n⟩:=h;exact⟨a,e.trans q,n⟩
theorem b7z (g:RH K G H1) (e1:G a=some (.dF kvs)):∃ o us1,H1 a=some (.frz o (.dK us1))/\RH K (put G a (.dK kvs)) (upd H1 a (.dK us1)):=by
 obtain⟨o,c,h,d,f⟩:=g _ _ e1;refine⟨o,c,h,λb e q=>?_⟩
 by_cases hb:b=a
 ·subst hb;rw[a0d]at q;cases q;exact⟨c,a0w,d,f.monoW (a6l h)⟩
 ·rw[a0E hb]at q;exact c2b (a6l h) (a0x hb) (g b e q)
def uUnf (t:E3):E3:=fun σ G R=>∃ a kvs,G a=some (.dK kvs)/\t σ G λv G'=>G' a=some (.dF kvs)/\R v (put G' a (.dK kvs))
theorem c2c (h:QE X e t):QE X e (uUnf t):=⟨λf s τ H Q I z=>by
 obtain⟨σ,G,R,y,j,⟨a,d,x,A⟩,C⟩:=z;obtain⟨F,k,L,J⟩:=j _ _ x;refine thn (h.p f s τ H (λv c=>∃ w b,Rep X.K c w v/\RH X.K b c/\TK X.K H c/\b a=some _/\R w _) I ⟨σ,G,_,y,j,A,λw b v c q r g t=>⟨w,b,r,g,t,q.1,q.2⟩⟩) λu E ⟨v,c,l,m,w,b,r,g,t,n,q⟩=>?_;obtain⟨o,D,i,B⟩:=b7z g n;exact⟨v,_,l.melt i (λo u z=>by have:=I.base.frzs a o u z;rw[k]at this;cases this),m,C w _ v _ q (r.monoW (a6l i)) B (b7y k t i)⟩⟩
theorem c2d (e:G a=some (.dK kvs)) (h:t σ G λv G'=>G' a=some (.dF kvs)/\R v (put G' a (.dK kvs))):uUnf t σ G R:=⟨a,kvs,e,h⟩
end
end L3
namespace DictP
open PySem PyProof.Rows
theorem a3z:entryFor table "dict.update.loop"=some kF.«dict.update.loop»:=entryFor_of_tree (by kernel_rfl)
theorem a1E:plainId "dict.update.loop"=true:=by decide +kernel
theorem b7A:typeLookup (.type "list") "keys"=pure none:=am_miss_of_fast (by decide +kernel)
section
variable {prog:kz}{w:World}{A:Around}{E:Value->Shared->Prop}{s:Shared}{a:Addr}{xs:Array Value}{k:Nat}{sl:Array (Option Value)}
theorem b3q (hx:s.heap.get? a=some { cls:=.type "list",dict:=none,data:=.seq xs k,slots:=sl }) (hA:A.handled=none)
  (h:∀ h' tk,(∀ b ob,s.heap.get? b=some ob->h'.get? b=some ob)->Q none { s with heap:=h',toks:=tk }):wpAny (model prog w) A (getAttr? (.ref a) "keys") Q E s:=by
 obtain⟨hp,g,d,tk,os⟩:=s;have hT:∀ tk',(⟨hp,g,d,tk',os⟩:Shared).TypeIs (.ref a) "list":=λ_=>⟨_,hx,rfl⟩;have f1:=sub_AttributeError;have f3:=F.slot_list_getattribute.lookup;have f4:=F.slot_list_getattribute.bind (.ref a);have f5:=am_list_getattr_none;unfold getAttr? getAttrBy? getAttrBy
 repeat (any_goals (first | assumption | exact hT _ | ((with_reducible show wpAny _ _ (call (Value.builtin "list.__getattribute__") _ _) _ _ _);refine lY F.slot_list_getattribute (hT _) am_entry_list_getattribute (F.args_list_getattribute_2 _ _) (meets_getattribute_miss_list a xs k sl "keys" _ b7A (by decide +kernel)) ⟨hx,hA,λh' tk' e hx'=>?_⟩) | wp_step))
 obtain⟨t',u',he⟩:=hx'.there
 show wpAny _ _ (getattributeRaised _ _ _ _ _ _ _) _ _ _
 unfold getattributeRaised
 repeat (any_goals (first | assumption | wp_step))
 exact h _ _ hx'.keeps
theorem a7s (g:s.heap.get? t=some o) (hc:o.cls=.type "tuple") (hd:o.data=.seq #[x,y] n) (h:Q [x,y] s):wpAny (model prog w) A (kF.Dict.pairItems (.ref t)) Q E s:=by
 obtain⟨c,a,b,e⟩:=o;simp only at hc hd;subst hc hd
 repeat (any_goals (first | assumption | wp_step))
end
section
variable {prog:kz}{w:World}{A:Around}{R:Result->Shared->Prop}{I:Addr}{fp wr:List Addr}{G:Array lR->Array lR->Prop}{n:Nat}{P:Nat->Value->Prop}{St:Nat->Shared->Prop}{K:Type}[DecidableEq K] {knd:KeyKind prog w K}
def c0q (knd:KeyKind prog w K) (h:Heap) (v:Value) (r:K×Value):Prop:=∃ t o key m,v=.ref t/\h.get? t=some o/\o.cls=.type "tuple"/\o.data=.seq #[key,r.2] m/\knd.is r.1 key=true
theorem loop (W:WalksS prog w A.in1 I fp wr G n P St) (d:Addr) (hdf:d∉fp) (rows:List (K×Value)) (hn:n=rows.length) (hz:rows.length<=ki) :
  ∀ (k i:Nat) (s:Shared),n - i=k->i<=n->St i s->(∀ j v,P j v->∃ r,rows[j]?=some r/\c0q knd s.heap v r/\v≠.ref d)->(∀ j v,P j v->∀ b,v=.ref b->b∉wr)->s.heap.DictOf knd d (merged [] (rows.take i)) ->
   (∀ s',Moved (d::wr) G s s'->s'.heap.DictOf knd d (merged [] rows)->R (.ok (.ret .none)) s') ->
   li (model prog w) A (.builtin "dict.update.loop" ⟨[.ref d,.ref I,rawInt i,.none],[]⟩) R s:=by
 have x:d∉wr:=λh=>hdf (W.sub _ h);have up:∀ b∈wr,b∈d::wr:=λb p=>fY _ p;intro k
 induction k with
 | zero=>
  intro i s hk hi q N l u M;have V:i=n:=by omega
  subst V;refine mw a3z ?_;rw[Around.under_plainId a1E _];refine kh (W.done s _ _ q λa f=>?_)
  show wpAny _ A.in1 _ _ _ a
  refine kh (kA (kA (M a (f.mono up) ?_)));rw[gI (by omega)]at u;obtain⟨o,J,S,L,c⟩:=u;exact⟨o,J,S,f.heap d _ x L,c⟩
 | succ k ih=>
  intro i s hk hi q N l u M;have U:i<n:=by omega
  refine mw a3z ?_;rw[Around.under_plainId a1E _];refine kh (W.item i s _ _ U q λv a C H f=>?_);obtain⟨r,hr,⟨t,o,y,m,rfl,g,hc,hd,D⟩,hne⟩:=N i v C;have g':=f.heap t _ (l i _ C t rfl) g;have X:a.heap.DictOf knd d (merged [] (rows.take i)):=by
   obtain⟨o,J,S,L,c⟩:=u;exact⟨o,J,S,f.heap d _ x L,c⟩
  refine kh (kM ?_);refine kh (wpAny_tryCatch (a7s g' hc hd ?_));refine kM ?_;have hl:(merged [] (rows.take i)).length<=sizeLine:=by
   have:=merged_length_le [] (rows.take i)
   rw[fC]at this;simp at this;omega
  refine wpAny_dictSet_pairs D X (λh' B hsb=>?_) hl;rw[<- merged_take_succ _ _ _ _ hr]at B;have Q:∀ b o,b≠d->a.heap.get? b=some o->h'.get? b=some o:=λb o nb e=>by rw[hsb.2 b nb];exact e
  refine kA ⟨nj a1E _,?_⟩
  have:=ih (i+1) { a with heap:=h',toks:=a.toks+1 } (by omega) (by omega) (W.frame _ a _ _ H (ip _) λb p o e=>Q b o (λz=>hdf (z▸p)) e) (λj v hv=>?_) l B λT E F=>?_
  ·exact this
  ·obtain⟨r,h1,⟨t,o,y,m,rfl,h2,h3⟩,Y⟩:=N j v hv;exact⟨r,h1,⟨t,o,y,m,rfl,Q t o (λz=>Y (by rw[z])) (f.heap t _ (l j _ hv t rfl) h2),h3⟩,Y⟩
  ·refine M T (Moved.trans W.gtrans ((f.mono up).then_heap (ip _) λb o p e=>Q b o (λz=>p (by rw[z];exact gi)) e) E) F
end
end DictP
namespace L2
open PySem PySem.Spec PyProof.Rows
section
variable {X:Cx}
end
section
variable {P:kz}{w:World}{A:Around}{E:Value->Shared->Prop}{s:Shared}
theorem b1B (h64:ss.length<64)
  (hcol:∀ R:List Value->Shared->Prop,(∀ (g:Heap) (tk:Nat) (d:Drawn) (vs:List Value) (ks:List Str),(∀ b o,s.heap.get? b=some o->g.get? b=some o)->lN vs ks->ks.Perm ss->R vs { s with heap:=g,drawn:=d,toks:=tk })->wpAny (model P w) A.in1 (collect (.ref r)) R E s)
  (h:∀ (g g':Heap) (tk:Nat) (d:Drawn) (out:List Value) (n:Nat) (ts:List Str),(∀ b o,s.heap.get? b=some o->g.get? b=some o)->(∀ b o,g.get? b=some o->g'.get? b=some o)->g'.get? g.objs.size=some { cls:=.type "list",data:=.seq out.toArray n } ->
   lN out ts->ts.Perm ss->lE ts=true->Q (.ref g.objs.size) { s with heap:=g',drawn:=d,toks:=tk }):wpAny (model P w) A (call (.builtin "sorted") [.ref r]) Q E s:=by
 refine Calls.call_function_entry mU mV mW (mX _) ?_;refine kh (kA (kh (hcol _ λg t d f D x c l=>?_)));have F:=c.length.trans l.length_eq;have z:f.length<=sizeLine:=by rw[kJ];omega
 refine kh (l6 ?_ z);have k:(g.push _).get? g.objs.size=some (seqObj "list" f.toArray 0):=Heap.get?_push_size _ rfl;refine kh (kM (me mY ⟨_,k,rfl⟩ mZ (list_sort_treeK strKind_oneLt k c.keysOf (λH G B e=>keyKind_strs (by rw[<- e];exact c)) (by omega) λi p v=>⟨_,rfl,?_⟩) (nc _)));obtain⟨y,u,C,q⟩:=sorted_out_str c p v;have a:=ng (out:=(arrOf i).map (·.2)) k;obtain⟨n,a⟩:=a;refine kA ⟨_,rfl,h g _ t d ((arrOf i).map (·.2)).toList n y x (λb o e=>?_) (by omega) u (C.trans l) q⟩;have j:=Heap.lt_size e;rw[ni (fz j) (by rw[Heap.size_push];exact ie j)];exact Heap.get?_push_of_some _ e
theorem b7B (hl:vs.length=ss.length) (h:∀ (i:Nat) (v:Value),vs[i]?=some v->∃ (x:Str) (t:Tok),ss[i]?=some x/\v=Value.str x t):lN vs ss:=by
 induction vs generalizing ss with
 | nil=>cases ss with
  | nil=>exact .nil
  | cons _ _=>simp at hl
 | cons v vs ih=>cases ss with
  | nil=>simp at hl
  | cons x ss=>
   obtain⟨y,t,a,rfl⟩:=h 0 v rfl;cases a;exact .cons x t (ih (by simpa using hl) λi v e=>by simpa using h (i+1) v (by simpa using e))
end
section
variable {X:Cx}
def b48 (K:Fg):List V->Hp->VK->Prop:=λxs H Q=>∃ (p:Addr) (kvs:List (Key×V)) (ss:List Str),xs=[.ref p]/\H p=some (.dK kvs)/\kvs.map (·.1)=ss.map (λs=>(Sum.inr s:Key))/\ss.length<64 /\
 ∀ (t:Addr) (ts:List Str),H t=none->ts.Perm ss->lE ts=true->Q (.ref t) (upd H t (.lst (ts.map V.str)))
theorem a81 (hc:X.calm=true):CallR X (.builtin "sorted") (b48 X.K):=by
 intro y s σ H xs us Q I r h;obtain⟨p,kvs,ss,rfl,hd,L,F,q⟩:=h;obtain⟨u,rfl,rx⟩:=a3V r;cases rx;have hh:=I.ok.hd hc;refine b1B F (λR U=>?_) λg g' j d E n M k1 k2 e T N a3=>?_
 ·obtain⟨z,lo,B,m,dd⟩:=b1r I.hok hd;obtain⟨ep,C⟩:=dd.dictAt;have D:B.length=ss.length:=by rw[<- m.length,<- fc,L,fc]
  refine PySem.W.kdu_collect (PySem.W.kdl_dict lo) hh C (by rw[D,kJ];omega) λg j S Y b=>?_;refine U g j s.drawn S.toList ss Y (b7B (by rw[g6,b.1,D]) λi v e=>?_) (.refl _);obtain⟨k,x,e1,e2⟩:=b.2 i v (by simp_all);have l:B.map (·.1)=ss.map λs=>(Sum.inr s):=by rw[<- m.keys];exact L
  have c:(ss.map λs=>(Sum.inr s))[i]?=some k:=by rw[<- l,fm,e1];rfl
  rw[fm]at c;cases hn:ss[i]? with
  | none=>rw[hn]at c;cases c
  | some n=>
   rw[hn]at c;cases c;obtain⟨t,e4⟩:=Value.isStrOf_shape e2;exact⟨n,t,rfl,e4⟩
 ·have G:Inv X y σ H { s with heap:=g,drawn:=d,toks:=j }:=(I.drew d).kept k1;exact⟨.ref g.objs.size,_,G.laid k2 (ff _) (show ObjOk X.prog X.w _ g' _ (.lst _) from ⟨by rw[fc,N.length_eq,kJ];omega,E,n,a6k T,e⟩),rfl,q _ M (G.hok.fresh (ff _)) N a3⟩
end
end L2
namespace L3
open PySem PySem.Spec PyProof.Rows L2
section
variable {X:Cx}{K:Fg}{H:Hp}
theorem b49 (h:Rep K H (keyW k) v):v=kV k:=by
 match k,h with
 | .inl (some i),h=>rw[show keyW _=.int i from rfl,a0y]at h;exact h
 | .inl none,h=>rw[show keyW _=.non from rfl,a01]at h;exact h
 | .inr x,h=>rw[show keyW _=.str x from rfl,a0K]at h;exact h
def b0J:List Z->Hq->K3->Prop:=λxs G R=>match xs with
 | [.ref p]=>∃ (kvs:List (Key×Z)) (ss:List Str),G p=some (.dK kvs)/\kvs.map (·.1)=ss.map (λs=>(Sum.inr s:Key))/\ss.length<64/\∀ (t:Addr) (ts:List Str),G t=none->ts.Perm ss->lE ts=true->R (.ref t) (put G t (.lst (ts.map Z.str)))
 | _=>False
theorem b3r (hc:X.calm=true):a2y X (.builtin "sorted") b0J:=a1f (a81 hc) λy H Q l=>l.un λg G R f b h u=>by
 match g,h with
 | [.ref p],h=>
  obtain⟨v,rfl,r⟩:=f.one;obtain⟨w,i,e,m,d,h⟩:=h;obtain⟨q,s,j,x⟩:=b _ _ e;exact⟨p,q,i,by rw[r],s,by rw[j];exact m,d,λt c a n k=>u _ _ _ _ (h t c (b.out a) n k) (by rw[a0B]) (b.set (.new a) ⟨_,a0w,a5a c⟩) (.new a)⟩
theorem b1C (e:G p=some (.dK kvs)) (k:kvs.map (·.1)=ss.map (λs=>(Sum.inr s:Key))) (z:ss.length<64) (h:∀ (t:Addr) (ts:List Str),G t=none->ts.Perm ss->lE ts=true->R (.ref t) (put G t (.lst (ts.map Z.str)))):b0J [.ref p] G R:=⟨kvs,ss,e,k,z,h⟩
theorem Reps.dropLast:∀ {ws:List Z}{vs:List V},Reps K H ws vs->Reps K H ws.dropLast vs.dropLast
 | [],vs,h=>by rw[a0v]at h;subst h;exact .nil
 | [w],vs,h=>by
  obtain⟨v,rfl,_⟩:=h.one;exact .nil
 | w::w'::ws,vs,h=>by
  obtain⟨v,r,rfl,c,b⟩:=h;have a:=b;obtain⟨e,d,rfl,_,_⟩:=a;exact .cons c (Reps.dropLast b)
end
end L3
namespace L2
open PySem PySem.Spec PyProof.Rows Tim
noncomputable def ptV:Pz->V
 | .inl none=>.non
 | .inl (some i)=>.int i
 | .inr s=>.str s
theorem c2e:∀ {x:Pz}{u:Value},RelV (ptV x) u->PtIs x u
 | .inl none,_,h=>h
 | .inl (some _),_,h=>h
 | .inr _,_,h=>h
theorem a9V:∀ {xs:List Pz}{us:List Value},Vals (xs.map ptV) us->PtsAre xs us
 | [],us,r=>by rw[fD]at r;cases r;trivial
 | x::xs,us,r=>by
  cases r with
  | cons r1 r2=>exact⟨c2e r1,a9V r2⟩
theorem b0K:∀ {bs:List Addr}{us:List Value},Vals (bs.map V.ref) us->us=bs.map Value.ref
 | [],us,r=>by rw[fD]at r;cases r;rfl
 | b::bs,us,r=>by
  cases r with
  | cons r1 r2=>rw[b0K r2,r1];rfl
theorem a7t:∀ bs:List Addr,Vals (bs.map V.ref) (bs.map Value.ref)
 | []=>.nil
 | b::bs=>.cons rfl (a7t bs)
theorem b1D:∀ {bs:List Addr}{out:List Value},out.Perm (bs.map Value.ref)->∃ cs:List Addr,out=cs.map Value.ref:=λ{g a} h=>by
 have:∀ v∈a,∃ b,v=Value.ref b:=λv f=>by
  obtain⟨b,_,e⟩:=fq.mp (h.mem_iff.mp f);exact⟨b,e.symm⟩
 clear h
 induction a with
 | nil=>exact⟨[],rfl⟩
 | cons v a ih=>
  obtain⟨b,rfl⟩:=this v (.head _);obtain⟨d,rfl⟩:=ih λu c=>this u (.tail _ c);exact⟨b::d,rfl⟩
def a7u (H:Hp) (bs:List Addr) (rows:List (List Pz)):Prop:=bs.length=rows.length/\∀ (i:Nat) (b:Addr) (x:List Pz),bs[i]?=some b->rows[i]?=some x->H b=some (.tup (x.map ptV))
theorem a82 (I:Inv X pins σ H s):∀ {bs:List Addr}{rows:List (List Pz)},a7u H bs rows->RowsIn s.heap (bs.map Value.ref) rows
 | [],[],_=>trivial
 | [],_::_,h=>by have:=h.1;simp at this
 | _::_,[],h=>by have:=h.1;simp at this
 | b::bs,x::rows,h=>by
  refine⟨?_,a82 I ⟨by have:=h.1;simpa using this,λi c y e d=>h.2 (i+1) c y (by simp_all) (by simp_all)⟩⟩;obtain⟨_,j,r,o,g,a,n,f⟩:=(I.hok b _ (h.2 0 b x rfl rfl));exact⟨b,o,_,n,rfl,g,a,f,by simpa using a9V r⟩
def b5a (K:Fg):List V->Hp->VK->Prop:=λxs H Q=>∃ (p:Addr) (bs:List Addr) (rows:List (List Pz)) (m:Nat),xs=[.ref p]/\SqL K H p (bs.map V.ref)/\a7u H bs rows/\bs.length<=100000/\(a72 rows\/a5S rows)/\(∀ x∈rows,x.length=m)/\(∀ x∈rows,∀ y∈rows,cmpT x y=true) /\
 ∀ (t:Addr) (cs:List Addr) (os:List (List Pz)),H t=none->a7u H cs os->os.Perm rows->os.Pairwise (λx y=>ltT y x=false)->Q (.ref t) (upd H t (.lst (cs.map V.ref)))
theorem a83:CallR X (.builtin "sorted") (b5a X.K):=by
 intro t s σ H xs us Q I r h;obtain⟨p,a,k,m,rfl,hq,C,hbl,hf,hm,hc,q⟩:=h;obtain⟨u,rfl,rx⟩:=a3V r;cases rx;obtain⟨N,rv,pl,_⟩:=I.list hq
 have:=b0K rv
 subst this;have R:(a.map Value.ref).length<=sizeLine:=by rw[fc,kJ];omega
 refine Calls.call_function_entry mU mV mW (mX _) ?_;unfold kF.«sorted»;refine kh (kA (kh (collect_list pl.isList ?_ R)));have G:∀ b o,s.heap.get? b=some o->((s.heap.push (seqObj "list" #[] 0)).update s.heap.objs.size (Obj.mapSeq (·++(a.map Value.ref).toArray))).get? b=some o:=λb o e=>by
  have d:=Heap.lt_size e;rw[Heap.get?_update_ne _ _ _ _ (fz d)];exact Heap.get?_push_of_some _ e
 generalize (s.heap.push (seqObj "list" #[] 0)).update s.heap.objs.size (Obj.mapSeq (·++(a.map Value.ref).toArray))=g at G ⊢;have z:=I.kept (t':=s.toks) G;refine kh (l6 ?_ R);have D:(g.push _).get? g.objs.size=some (seqObj "list" (a.map Value.ref).toArray 0):=Heap.get?_push_size _ rfl;have U:Inv X t σ H { s with heap:=g.push (seqObj "list" (a.map Value.ref).toArray 0) }:=z.kept (t':=s.toks) λb o e=>Heap.get?_push_of_some _ e;refine kh (kM (me mY ⟨_,D,rfl⟩ mZ (Tim.sort_tups D (by rw[fc];omega) (a82 U C) hf hm hc λout S A F a3 a4=>⟨_,rfl,?_⟩) (nc _)));have l:=ng (out:=out.toArray) D;obtain⟨n,l⟩:=l;obtain⟨f,rfl⟩:=b1D A;have hcl:f.length=a.length:=by have:=A.length_eq;simpa using this
 have tc:a7u H f S:=by
  refine⟨by rw[F,fc,fc],λi c x T M=>?_⟩;rw[F,fm,fm,T]at M;cases M;have B:=A.mem_iff.mp (fP (fA T));obtain⟨c',E,e⟩:=fq.mp B;cases e;obtain⟨j,L⟩:=ii E;obtain⟨y,hy⟩:∃ y,k[j]?=some y:=⟨k[j]'(by have:=(fj.mp L).1;rw[<- C.1];exact this),by simp⟩;have J:=C.2 j c y L hy;obtain⟨_,N,r,o,Y,W,n,h3⟩:=(U.hok c _ J)
  have:RowIn (g.push (seqObj "list" (a.map Value.ref).toArray 0)) (.ref c) y:=⟨c,o,_,n,rfl,Y,W,h3,by simpa using a9V r⟩
  show H c=some _
  rw[a2n this];exact J
 refine kA ⟨_,rfl,?_⟩;exact⟨.ref g.objs.size,_,z.laid (t':=s.toks) (λb o e=>by
  have d:=Heap.lt_size e;rw[ni (fz d) (by rw[Heap.size_push];exact ie d)];exact Heap.get?_push_of_some _ e) (ff _) (show ObjOk X.prog X.w _ _ _ (.lst (f.map V.ref)) from ⟨by rw[fc,kJ];omega,f.map Value.ref,n,a7t f,by simpa using l⟩),rfl,q _ f S (z.hok.fresh (ff _)) tc a3 a4⟩
end L2
namespace L3
open PySem PySem.Spec PyProof.Rows L2 Tim
noncomputable def ptZ:Pz->Z
 | .inl none=>.non
 | .inl (some i)=>.int i
 | .inr s=>.str s
noncomputable def tupZ (x:List Pz):Z:=.tup (x.map ptZ)
theorem rep_pt {K:Fg}:∀ {x:Pz}{v:V},Rep K H (ptZ x) v↔v=ptV x
 | .inl none,v=>by unfold ptZ ptV;rw[a01]
 | .inl (some _),v=>by unfold ptZ ptV;rw[a0y]
 | .inr _,v=>by unfold ptZ ptV;rw[a0K]
theorem reps_pts {K:Fg}:∀ {xs:List Pz}{vs:List V},Reps K H (xs.map ptZ) vs↔vs=xs.map ptV
 | [],vs=>by rw[fD,a0v,fD]
 | x::xs,vs=>by
  rw[fy,a0X,fy]
  constructor
  ·rintro⟨v,r,rfl,a,b⟩;rw[rep_pt.mp a,reps_pts.mp b]
  ·rintro rfl;exact⟨_,_,rfl,rep_pt.mpr rfl,reps_pts.mpr rfl⟩
theorem a84 {K:Fg}:∀ {rows:List (List Pz)}{vs:List V},Reps K H (rows.map tupZ) vs->∃ bs:List Addr,vs=bs.map V.ref/\a7u H bs rows
 | [],vs,h=>by
  subst h;exact⟨[],rfl,rfl,λi b x e=>by simp at e⟩
 | x::rows,vs,h=>by
  obtain⟨v,r,rfl,c,m⟩:=h;obtain⟨a,n,rfl,e,k⟩:=c;rw[reps_pts.mp k]at e;obtain⟨l,rfl,j,g⟩:=a84 m;refine⟨a::l,rfl,by rw[fk,fk,j],λi b y d f=>?_⟩;cases i with
  | zero=>cases d;cases f;exact e
  | succ i=>exact g i b y (by simp_all) (by simp_all)
theorem a85 {K:Fg}:∀ {bs:List Addr}{rows:List (List Pz)},a7u H bs rows->Reps K H (rows.map tupZ) (bs.map V.ref)
 | [],[],_=>by rw[fD,fD,a0v]
 | [],_::_,h=>by have:=h.1;simp at this
 | _::_,[],h=>by have:=h.1;simp at this
 | b::bs,x::rows,h=>by
  refine⟨_,_,rfl,?_,a85 ⟨by have:=h.1;simpa using this,λi c y d a=>h.2 (i+1) c y (by simp_all) (by simp_all)⟩⟩;exact⟨b,_,rfl,h.2 0 b x rfl rfl,reps_pts.mpr rfl⟩
def b0L:List Z->Hq->K3->Prop:=λxs G R=>match xs with
 | [.ref p]=>∃ (rows:List (List Pz)) (m:Nat),G p=some (.lst (rows.map tupZ))/\rows.length<=100000/\(a72 rows\/a5S rows)/\(∀ x∈rows,x.length=m)/\(∀ x∈rows,∀ y∈rows,cmpT x y=true)/\∀ (t:Addr) (os:List (List Pz)),G t=none->os.Perm rows->os.Pairwise (λx y=>ltT y x=false)->R (.ref t) (put G t (.lst (os.map tupZ)))
 | _=>False
theorem b3s:a2y X (.builtin "sorted") b0L:=a1f a83 λL H Q y=>y.un λn G R B d h J=>by
 match n,h with
 | [.ref p],h=>
  obtain⟨v,rfl,r⟩:=B.one;obtain⟨c,m,e,w,k,I,s,h⟩:=h;obtain⟨M,u,D⟩:=d _ _ e;obtain⟨A,rfl,g⟩:=a84 D;exact⟨p,A,c,m,by rw[r],SqL.of u,g,by rw[g.1];exact w,k,I,s,λt N f a j l E=>J _ _ _ _ (h t f (d.out a) l E) (by rw[a0B]) (d.set (.new a) ⟨_,a0w,a85 ⟨j.1,λi b x C F=>by
   have q:=j.2 i b x C F;rw[a0x (λz=>by rw[z,a]at q;cases q)];exact q⟩⟩) (.new a)⟩
theorem b3t (e:G p=some (.lst (rows.map tupZ))) (z:rows.length<=100000) (hf:a5S rows) (hm:∀ x∈rows,x.length=m) (hc:∀ x∈rows,∀ y∈rows,cmpT x y=true) (h:∀ (t:Addr) (os:List (List Pz)),G t=none->os.Perm rows->os.Pairwise (λx y=>ltT y x=false)->R (.ref t) (put G t (.lst (os.map tupZ)))):b0L [.ref p] G R:=⟨rows,m,e,z,.inr hf,hm,hc,h⟩
end L3
namespace L2
open PySem PySem.Spec PyProof.Rows
end L2
namespace L3
open PySem PySem.Spec PyProof.Rows L2
end L3
namespace L2
open PySem PySem.Spec PyProof.Rows
section
variable {X:Cx}
end
end L2
namespace L3
open PySem PySem.Spec PyProof.Rows L2
section
variable {X:Cx}{e:Expr}{es:List Expr}{t:A3}{x y:Str}{p p2 pos pos2:Pos}
end
end L3
namespace DictP
open PySem PyProof.Rows
section
variable {prog:kz}{w:World}{K:Type}[DecidableEq K] {knd:KeyKind prog w K}
theorem a77 (x:(kO knd).is h k a) (q:∀ o,h.get? a=some o->h'.get? a=some o):(kO knd).is h' k a:=by
 obtain⟨o,b,n,e,r⟩:=x;exact⟨o,b,n,q o e,r⟩
noncomputable def mergedH (acc rows:List (List K×Addr×Value)):List (List K×Addr×Value):=rows.foldl (λacc r=>lj acc r.1 r.2.1 r.2.2) acc
theorem b1E {k:List K}(h:x∈lj xs k a v):x.2.1=a\/∃ y∈xs,x.2.1=y.2.1:=by
 unfold lj at h
 split at h
 ·obtain⟨y,b,rfl⟩:=fq.mp h;refine .inr ⟨y,b,?_⟩;unfold putAt
  split<;>rfl
 ·rcases fg.mp h with h | h
  ·exact .inr ⟨x,h,rfl⟩
  ·rw[fi.mp h];exact .inl rfl
theorem b1F {k:List K}:(lj xs k a v).length<=xs.length+1:=by
 unfold lj
 split<;>simp
theorem a6m:∀ {rows acc:List (List K×Addr×Value)}{x:List K×Addr×Value},x∈mergedH acc rows->(∃ y∈rows,x.2.1=y.2.1)\/∃ y∈acc,x.2.1=y.2.1
 | [],acc,x,h=>.inr ⟨x,h,rfl⟩
 | r::rows,acc,x,h=>by
  rcases a6m (rows:=rows) h with ⟨y,hy,e⟩ | ⟨y,hy,e⟩
  ·exact .inl ⟨y,.tail _ hy,e⟩
  ·rcases b1E hy with e2 | ⟨z,hz,e2⟩
   ·exact .inl ⟨r,.head _,e.trans e2⟩
   ·exact .inr ⟨z,hz,e.trans e2⟩
theorem a6n:∀ {rows acc:List (List K×Addr×Value)},(mergedH acc rows).length<=acc.length+rows.length
 | [],_=>ff _
 | r::rows,acc=>by
  have c:=a6n (rows:=rows) (acc:=lj acc r.1 r.2.1 r.2.2);have b:=b1F (xs:=acc) (k:=r.1) (a:=r.2.1) (v:=r.2.2)
  show (mergedH (lj acc r.1 r.2.1 r.2.2) rows).length<=_
  rw[fk];omega
theorem a86 {rows:List (List K×Addr×Value)}(h:rows[i]?=some r):mergedH [] (rows.take (i+1))=lj (mergedH [] (rows.take i)) r.1 r.2.1 r.2.2:=by
 unfold mergedH;rw[gG,h,jZ]
 rfl
theorem a9W {h h':Heap}(D:h.DictOfH (kO knd) d xs) (hd:∀ o,h.get? d=some o->h'.get? d=some o) (q:∀ x∈xs,∀ o,h.get? x.2.1=some o->h'.get? x.2.1=some o):h'.DictOfH (kO knd) d xs:=by
 obtain⟨o,e,j,b,g,f,i,k,c⟩:=D;exact⟨o,e,j,hd o b,g,f,i,λx a=>a77 (k x a) (q x a),c⟩
def PairT (knd:KeyKind prog w K) (h:Heap) (v:Value) (r:List K×Addr×Value):Prop:=∃ t o m,v=.ref t/\h.get? t=some o/\o.cls=.type "tuple"/\o.data=.seq #[.ref r.2.1,r.2.2] m/\(kO knd).is h r.1 r.2.1
end
section
variable {prog:kz}{w:World}{A:Around}{R:Result->Shared->Prop}{I:Addr}{fp wr:List Addr}{G:Array lR->Array lR->Prop}{n:Nat}{P:Nat->Value->Prop}{St:Nat->Shared->Prop}{K:Type}[DecidableEq K] {knd:KeyKind prog w K}
theorem c2f (W:WalksS prog w A.in1 I fp wr G n P St) (d:Addr) (hdf:d∉fp) (rows:List (List K×Addr×Value)) (hn:n=rows.length) (hz:rows.length<=ki) (hu:A.units+1<cLine) (hrw:∀ r∈rows,r.2.1≠d/\r.2.1∉wr) :
  ∀ (k i:Nat) (s:Shared),n - i=k->i<=n->St i s->(∀ j v,P j v->∃ r,rows[j]?=some r/\PairT knd s.heap v r/\v≠.ref d)->(∀ j v,P j v->∀ b,v=.ref b->b∉wr)->s.heap.DictOfH (kO knd) d (mergedH [] (rows.take i)) ->
   (∀ s',Moved (d::wr) G s s'->s'.heap.DictOfH (kO knd) d (mergedH [] rows)->R (.ok (.ret .none)) s') ->
   li (model prog w) A (.builtin "dict.update.loop" ⟨[.ref d,.ref I,rawInt i,.none],[]⟩) R s:=by
 have D:d∉wr:=λh=>hdf (W.sub _ h);have V:∀ b∈wr,b∈d::wr:=λb p=>fY _ p;have F:∀ i x,x∈mergedH [] (rows.take i)->x.2.1≠d/\x.2.1∉wr:=λi x l=>by
  rcases a6m l with ⟨y,hy,e⟩ | ⟨y,hy,_⟩
  ·rw[e];exact hrw y (gw hy)
  ·simp at hy
 intro k
 induction k with
 | zero=>
  intro i s hk hi u J f T S;have hin:i=n:=by omega
  subst hin;refine mw a3z ?_;rw[Around.under_plainId a1E _];refine kh (W.done s _ _ u λc a=>?_)
  show wpAny _ A.in1 _ _ _ c
  refine kh (kA (kA (S c (a.mono V) ?_)));have X:=a9W T (a.heap d · D) λx l o e=>a.heap _ o (F _ x l).2 e;rw[gI (by omega)]at X;exact X
 | succ k ih=>
  intro i s hk hi u J f T S;have hlt:i<n:=by omega
  refine mw a3z ?_;rw[Around.under_plainId a1E _];refine kh (W.item i s _ _ hlt u λv c H L a=>?_);obtain⟨r,hr,⟨t,o,m,rfl,g,hc,hd,N⟩,hne⟩:=J i v H;have g':=a.heap t _ (f i _ H t rfl) g;have C:=a77 N λo e=>a.heap _ o (hrw r (fA hr)).2 e;have hD':=a9W T (a.heap d · D) λx l o e=>a.heap _ o (F _ x l).2 e;refine kh (kM ?_);refine kh (wpAny_tryCatch (a7s g' hc hd ?_));refine kM ?_;have hl:(mergedH [] (rows.take i)).length<=sizeLine:=by
   have:=a6n (acc:=[]) (rows:=rows.take i)
   rw[fC]at this;simp at this;omega
  refine wpAny_dictSet_heap (mf hu) C hD' (λh' E U=>?_) hl;rw[<- a86 hr]at E;have B:∀ b o,b≠d->c.heap.get? b=some o->h'.get? b=some o:=λb o nb e=>by rw[U.2 b nb];exact e
  refine kA ⟨nj a1E _,?_⟩
  have:=ih (i+1) { c with heap:=h',toks:=c.toks+(kO knd).draws r.1 } (by omega) (by omega) (W.frame _ c _ _ L (j3 _ _) λb p o e=>B b o (λz=>hdf (z▸p)) e) (λj v hv=>?_) f E λs'' M Q=>?_
  ·exact this
  ·obtain⟨r,h1,⟨t,o,m,rfl,h2,h3,h4,h5⟩,Y⟩:=J j v hv;refine⟨r,h1,⟨t,o,m,rfl,B t o (λz=>Y (by rw[z])) (a.heap t _ (f j _ hv t rfl) h2),h3,h4,?_⟩,Y⟩;have q:=hrw r (fA h1);exact a77 h5 λo e=>B _ o q.1 (a.heap _ o q.2 e)
  ·refine S s'' (Moved.trans W.gtrans ((a.mono V).then_heap (j3 _ _) λb o p e=>B b o (λz=>p (by rw[z];exact gi)) e) M) Q
theorem call_pairsT (hh:A.handled=none) (hu:A.units+5<cLine)
  (hl:s.heap.get? l=some { cls:=.type "list",dict:=none,data:=.seq items c,slots:=sl }) (hi:∀ (j:Nat) v,items[j]?=some v->∃ r,rows[j]?=some r/\PairT knd s.heap v r) (hn:items.size=rows.length) (hz:rows.length<=ki)
  (h:∀ (h':Heap) (tk:Nat),h'.DictOfH (kO knd) s.heap.objs.size (mergedH [] rows)->(∀ b o,s.heap.get? b=some o->h'.get? b=some o)->Q (.ref s.heap.objs.size) { s with heap:=h',toks:=tk }) :
  wpAny (model prog w) A (call (.type "dict") [.ref l]) Q E s:=by
 refine callType_codes (Q₁:=λC M=>C=.ref s.heap.objs.size/\M={ s with heap:=s.heap.push { cls:=.type "dict",data:=.dict #[] } }) F.kt_called_dict (F.kt_typeCall_dict_1 _) F.entry_dict_init (kt_code_dict_new _ ⟨rfl,rfl⟩) ?_;rintro C M ⟨rfl,rfl⟩;have a:(s.heap.push { cls:=.type "dict",data:=.dict #[] }).DictOfH (kO knd) s.heap.objs.size []:=Heap.DictOfH.new s.heap;have i:(s.heap.push { cls:=.type "dict",data:=.dict #[] }).get? l=some { cls:=.type "list",dict:=none,data:=.seq items c,slots:=sl }:=Heap.get?_push_of_some _ hl;have Y:Shared.TypeIs { s with heap:=s.heap.push { cls:=.type "dict",data:=.dict #[] } } (.ref l) "list":=⟨_,i,rfl⟩;refine⟨a.typeIs,F.args_dict_init_2 _ _,?_⟩;unfold kF.«dict.__init__»;refine kh ?_;unfold kF.Dict.selfAndRest;refine kh (wpAny_notOrdered_dict a.typeIs ?_)
 show wpAny _ _ _ _ _ _
 refine kA ?_
 show wpAny _ _ (kF.Dict.updateFrom "dict.__init__" s.heap.objs.size (.ref l) [] .none) _ _ _
 unfold kF.Dict.updateFrom;refine kh (wpAny_typeOf Y ?_);rw[if_pos (by decide)];refine kh (b3q i (by simp[hh]) λf t1 p=>?_);have gd:=p _ _ (Heap.get?_push_size _ rfl);have k:=λb o e=>p b o (Heap.get?_push_of_some _ e);have L:f.IsList l items:=⟨_,p l _ i,rfl,c,rfl⟩;refine kh (l7 (kh (mH L ?_)));refine kA ⟨nj a1E _,?_⟩;have G:=Heap.lt_size hl;have g:=Heap.lt_size gd;have h3:A.in1.in1.handled=none:=by simp[hh]
 have nI:=fz (iz G g);have nf:s.heap.objs.size∉[f.objs.size,l]:=by
  simp;exact⟨fz g,iJ G⟩
 have pt:∀ (j:Nat) v,items[j]?=some v->∀ b,v=.ref b->b<s.heap.objs.size:=λj v e b D=>by
  obtain⟨r,_,t,o,m,n,d,_⟩:=hi j v e;rw[D]at n;cases n;exact Heap.lt_size d
 have H:∀ r∈rows,r.2.1<s.heap.objs.size:=λr q=>by
  obtain⟨j,J⟩:=ii q;have hji:=(fj.mp J).1;obtain⟨r',n,t,o,m,_,_,_,_,o',_,_,d,_⟩:=hi j (items[j]'(by omega)) (by simp);rw[J]at n;cases n;exact Heap.lt_size d
 refine c2f (knd:=knd) ((Walks.list h3 _ l nI items).toS) s.heap.objs.size nf rows hn hz (show A.units+1+1<cLine by omega) (λr q=>⟨fz (H r q),λz=>?_⟩) (items.size - 0) 0 _ (by omega) (fL _)
  ⟨⟨_,Heap.get?_push_size _ rfl,rfl,rfl⟩,L.push _⟩ (λj v e=>?_) (λj v e b D B=>?_) ?_ λs' y X=>?_
 ·have:=H r q
  rw[fi.mp z]at this;exact absurd (iz this g) (fM _)
 ·obtain⟨r,R,t,o,m,rfl,d,V,e4,S⟩:=hi j v e;refine⟨r,R,⟨t,o,m,rfl,Heap.get?_push_of_some _ (k _ _ d),V,e4,a77 S λo e=>Heap.get?_push_of_some _ (k _ _ e)⟩,λz=>?_⟩;injection z with z
  exact absurd (Heap.lt_size d) (by rw[z];exact fM _)
 ·have:=pt j v e b D
  rw[fi.mp B]at this;exact absurd (iz this g) (fM _)
 ·rw[List.take_zero]
  show Heap.DictOfH (kO knd) _ _ []
  exact a9W a (λo e=>Heap.get?_push_of_some _ (p _ _ e)) λx W=>by simp at W
 ·obtain⟨h',U,T,N,I⟩:=s';have eg:U=s.gens:=y.gens;have ed:T=s.drawn:=y.drawn;have eo:I=s.os:=y.os;subst eg ed eo;refine⟨rfl,h h' N X λb o e=>y.heap b o (λB=>?_) (Heap.get?_push_of_some _ (k b o e))⟩;have u:=Heap.lt_size e;simp at B;rcases B with z | z
  ·rw[z]at u;exact fM _ u
  ·rw[z]at u;exact fM _ (iz u g)
end
end DictP
namespace L2
open PySem PySem.Spec PyProof.Rows
section
variable {X:Cx}
def a87 (rows:List (Addr×Addr×List Key×V)) (acc:List (List Key×V)):List (List Key×V):=rows.foldl (λacc r=>putK acc r.2.2.1 r.2.2.2) acc
def c0r (X:Cx):List V->Hp->VK->Prop:=λxs H Q=>∃ (p:Addr) (rows:List (Addr×Addr×List Key×V)),xs=[.ref p]/\SqL X.K H p (rows.map λr=>V.ref r.1)/\(∀ r∈rows,H r.1=some (.tup [.ref r.2.1,r.2.2.2])/\H r.2.1=some (.tup (r.2.2.1.map kV)))/\rows.length<=1000 /\
 ∀ t,H t=none->Q (.ref t) (upd H t (.dT (a87 rows [])))
theorem a88 (ok:HOk P w H h):∀ {rows:List (Addr×Addr×List Key×V)},(∀ r∈rows,H r.1=some (.tup [.ref r.2.1,r.2.2.2])/\H r.2.1=some (.tup (r.2.2.1.map kV)))->∃ vs:List (List Key×Addr×Value),vs.length=rows.length /\
  (∀ (j:Nat) r,rows[j]?=some r->∃ q,vs[j]?=some q/\DictP.PairT (a0O P w) h (.ref r.1) q)/\∀ acc bcc,KT H acc bcc->KT H (a87 rows acc) (DictP.mergedH bcc vs)
 | [],_=>⟨[],rfl,λj r e=>by simp at e,λ_ _ k=>k⟩
 | r::rows,hr=>by
  obtain⟨l,m,t,s⟩:=a88 ok λr c=>hr r (.tail _ c);obtain⟨b,a⟩:=hr r (.head _);obtain⟨_,z,g,o,f,p,n,x⟩:=(ok _ _ b);obtain⟨d,u,rfl,v,i⟩:=Vals.two g;cases (v);refine⟨(r.2.2.1,r.2.1,u)::l,by rw[fk,fk,m],λj q e=>?_,λA y k=>s _ _ (k.put r.2.2.1 a i)⟩;cases j with
  | zero=>
   cases e;exact⟨_,rfl,r.1,o,n,rfl,f,p,x,a8B ok a⟩
  | succ j=>exact t j q (by simpa using e)
theorem a89:∀ (rows:List (Addr×Addr×List Key×V)) (acc:List (List Key×V)),(a87 rows acc).length<=acc.length+rows.length
 | [],_=>ff _
 | r::rows,acc=>by
  have:=a89 rows (putK acc r.2.2.1 r.2.2.2)
  have:=a18 acc r.2.2.1 r.2.2.2
  show (a87 rows (putK acc r.2.2.1 r.2.2.2)).length<=_
  rw[fk];omega
theorem b1G (hc:X.calm=true) (hu:X.A.units+66<cLine):CallR X (.type "dict") (c0r X):=by
 intro k s σ H xs us Q I r h;obtain⟨p,rows,rfl,T,ht,hz,q⟩:=h;obtain⟨u,rfl,rx⟩:=a3V r;cases rx;obtain⟨f,m,⟨o,n,R,D,t,J⟩,_⟩:=I.list T;obtain⟨c,dd,dt,sl⟩:=o;simp only at D t J;subst D t J;obtain⟨B,E,h2,U⟩:=a88 I.hok ht;have hl:f.length=rows.length:=by have:=m.length;rw[fc]at this;omega
 have d:B.length<=sizeLine:=by rw[E,kJ];omega
 refine DictP.call_pairsT (knd:=a0O X.prog X.w) (I.ok.hd hc) (by omega) R (λj v e=>?_) (by rw[E,fR];exact hl) d λg G hD kp=>?_
 ·have C:f[j]?=some v:=by simpa using e
  obtain⟨r,z⟩:∃ r,rows[j]?=some r:=⟨rows[j]'(by grind),fw _⟩;obtain⟨q,y,pa⟩:=h2 j r z;obtain⟨u,F,V⟩:=m.get (by rw[fm,z];rfl);rw[C]at F;cases F;rw[V];exact⟨q,y,pa⟩
 ·have k0:=U [] [] .nil;have l:=I.hok.fresh (ff s.heap.objs.size);have N:=(a7P (P:=X.prog) (w:=X.w) (H:=λ_=>none) s.heap I.big).2.1;have S:=a89 rows [];obtain⟨ob,es,ep,M,g2,g3,L,_,Y⟩:=hD;have W:=
   I.laid (t':=G) kp (ff _) (show ObjOk X.prog X.w _ g _ (.dT (a87 rows [])) from ⟨by rw[kJ];simp at S;omega,N,_,k0.keeps λb ys e=>by rw[a0x (a17 e l)];exact e,ob,es,ep,M,g2,g3,L,Y⟩)
  exact⟨.ref s.heap.objs.size,_,W,rfl,q _ l⟩
end
end L2
namespace L3
open PySem PySem.Spec PyProof.Rows L2
section
variable {X:Cx}{K:Fg}{H:Hp}
theorem a9a:∀ {k:List Key}{vs:List V},Reps K H (k.map keyW) vs->vs=k.map kV
 | [],vs,h=>by rw[fD,a0v]at h;exact h
 | k::ks,vs,h=>by
  obtain⟨v,r,rfl,b,a⟩:=h;rw[b49 b,a9a a];rfl
theorem b0M {k:List Key}(h:Rep K H (.tup (k.map keyW)) v):∃ b,v=.ref b/\H b=some (.tup (k.map kV)):=by
 obtain⟨a,e,rfl,d,c⟩:=h;exact⟨a,rfl,by rw[d,a9a c]⟩
noncomputable def prT (r:List Key×Z):Z:=.tup [.tup (r.1.map keyW),r.2]
theorem b5b {k j:List Key}:j∈(putK kvs k v).map (·.1)↔j=k\/j∈kvs.map (·.1):=by
 unfold putK
 split
 ·next hc=>
  obtain⟨p,b,c⟩:=hZ.mp hc;have e:(kvs.map λa=>if a.1=k then (a.1,v) else a).map (·.1)=kvs.map (·.1):=by
   rw[gJ];refine gZ λx _=>?_
   show (if x.1=k then _ else x).1=x.1
   split<;>rfl
  rw[e];refine⟨.inr,λh=>h.elim (λz=>?_) id⟩;rw[z,<- of_decide_eq_true c];exact fP b
 ·rw[fv,fg]
  constructor
  ·rintro (h | h)
   ·exact .inr h
   ·exact .inl (by simp_all)
  ·rintro (h | h)
   ·exact .inr (by simp[h])
   ·exact .inl h
theorem b0N:∀ {rows:List (List Key×Z)}{vs:List V},Reps K H (rows.map prT) vs->∃ rs:List (Addr×Addr×List Key×V),vs=rs.map (λr=>V.ref r.1)/\(∀ r∈rs,H r.1=some (.tup [.ref r.2.1,r.2.2.2])/\H r.2.1=some (.tup (r.2.2.1.map kV)))/\rs.length=rows.length /\
  ∀ bcc j,j∈(a87 rs bcc).map (·.1)↔j∈rows.map (·.1)\/j∈bcc.map (·.1)
 | [],vs,h=>by
  exact⟨[],h,λr f=>by simp at f,rfl,λc j=>by simp[a87]⟩
 | r::rows,vs,h=>by
  obtain⟨v,w,rfl,e,k⟩:=h;obtain⟨i,rfl,n,m,p⟩:=b0N k;obtain⟨a,t,rfl,l,f⟩:=e;obtain⟨x,g,rfl,s,u⟩:=f.two;obtain⟨b,rfl,o⟩:=b0M s;refine⟨(a,b,r.1,g)::i,rfl,λq d=>?_,by rw[fk,fk,m],λc j=>?_⟩
  ·rcases ft.mp d with rfl | d
   ·simp_all
   ·exact n q d
  ·show j∈(a87 i _).map _↔_
   rw[p,b5b,fy,ft]
   constructor
   ·rintro (h | h | h)
    ·exact .inl (.inr h)
    ·exact .inl (.inl h)
    ·exact .inr h
   ·rintro ((h | h) | h)
    ·exact .inr (.inl h)
    ·exact .inl h
    ·exact .inr (.inr h)
def b6d:List Z->Hq->K3->Prop:=λxs G R=>match xs with
 | [.ref p]=>∃ rows:List (List Key×Z),G p=some (.lst (rows.map prT))/\rows.length<=1000/\∀ t ks,G t=none->(∀ j,j∈ks↔j∈rows.map (·.1))->R (.ref t) (put G t (.dT ks))
 | _=>False
theorem b3u (hc:X.calm=true) (hu:X.A.units+66<cLine):a2y X (.type "dict") b6d:=a1f (b1G hc hu) λq H Q i=>i.un λf G R c a h n=>by
 match f,h with
 | [.ref p],h=>
  obtain⟨v,rfl,r⟩:=c.one;obtain⟨g,e,u,h⟩:=h;obtain⟨s,l,k⟩:=a _ _ e;obtain⟨c,rfl,d,w,m⟩:=b0N k;exact⟨p,c,by rw[r],SqL.of l,d,by omega,λt b=>n _ _ _ _ (h t _ (a.out b) λj=>by rw[m [] j];simp) (by rw[a0B]) (a.set (.new b) ⟨_,a0w,rfl⟩) (.new b)⟩
theorem b3v {rows:List (List Key×Z)}(e:G p=some (.lst (rows.map prT))) (z:rows.length<=1000) (h:∀ t ks,G t=none->(∀ j,j∈ks↔j∈rows.map (·.1))->R (.ref t) (put G t (.dT ks))):b6d [.ref p] G R:=⟨rows,e,z,h⟩
noncomputable def hasK (ks:List (List Key)) (k:List Key):Bool:=ks.any λj=>decide (j=k)
theorem b5c:hasK ks k=true↔k∈ks:=by simp[hasK]
def zTIn (f:Bool->Bool):R3:=λx y G R=>match y with
 | .ref p=>∃ ks k,G p=some (.dT ks)/\x=.tup (k.map keyW)/\R (.bl (f (hasK ks k))) G
 | _=>False
theorem b3w:(valV kvs k).isSome=hasK (kvs.map (·.1)) k:=by
 rw[<- a7N];unfold hasK;rw[List.any_map]
 rfl
theorem b0O (hu:X.A.units+66<cLine):OpQ X (kC .NotIn) (zTIn not):=a57 (b3h hu) λx y H Q g=>g.un λa b G R n f d h i=>by
 cases b with
 | ref p=>
  obtain⟨o,k,e,rfl,h⟩:=h;obtain⟨l,j,rfl⟩:=d _ _ e;obtain⟨c,rfl,m⟩:=b0M n;exact⟨p,valV l k,f,DGet.t j m,i _ _ _ _ h (by rw[a0Q,b3w]) d (.refl _ _)⟩
 | _=>exact fh h
theorem c0s (e:G p=some (.dT ks)) (ex:x=.tup (k.map keyW)) (h:R (.bl (f (hasK ks k))) G):zTIn f x (.ref p) G R:=⟨ks,k,e,ex,h⟩
end
def uAny {ι:Type}(u:ι->E3):E3:=fun σ G R=>∃ b,u b σ G R
theorem b3x {ι:Type}{u:ι->E3}(h:∀ b,QE X e (u b)):QE X e (uAny u):=⟨λa s τ H Q I ⟨σ,G,R,c,d,⟨b,f⟩,g⟩=>(h b).p a s τ H Q I ⟨σ,G,R,c,d,f,g⟩⟩
theorem b3y {ι:Type}{u:ι->E3}(b:ι) (h:u b σ G R):uAny u σ G R:=⟨b,h⟩
end L3
namespace L2
open PySem PySem.Spec PyProof.Rows
structure OwnK (K:Fg) (C:Addr):Prop where
 cl:Cls K C
 ha:PySem.W.findIn K (.ref C) "__class__"=some (some (.builtin "object.__class__"))
 hn:PySem.W.specialIn K (.builtin "object.__class__") "__get__"=some (some (.builtin "getset_descriptor.__get__"))
 ht:PySem.W.takesIn K (.builtin "object.__class__")=some true
 hm:PySem.W.mroIn K C (.type "object")=some true
def rIsI (K:Fg) (C D:Addr) (b:Bool):List V->Hp->VK->Prop:=λxs H Q=>∃ p dx fs,xs=[.ref p,.ref D]/\H p=some (.ins C dx fs)/\Q (.bl b) H
theorem b5d (o:OwnK X.K C) (k:PySem.W.kitOne X.K (.ref C) (.ref D)=some b):CallR X (.builtin "isinstance") (rIsI X.K C D b):=by
 intro d s σ H l j Q I r h;obtain⟨p,m,i,rfl,e,q⟩:=h;obtain⟨u,a,rfl,g,f⟩:=a9z r;cases (f);exact a8q I g (.ins e o.cl o.ha o.hn o.ht o.hm) k λc=>⟨.bl b,H,I.tok c,rfl,q⟩
end L2
namespace L3
open PySem PySem.Spec PyProof.Rows L2
def zIsI (C D:Addr) (b:Bool):List Z->Hq->K3->Prop:=λxs G R=>∃ p dx fs,xs=[.ref p,.ref D]/\G p=some (.ins C dx fs)/\R (.bl b) G
theorem c2g (o:OwnK X.K C) (k:PySem.W.kitOne X.K (.ref C) (.ref D)=some b):a2y X (.builtin "isinstance") (zIsI C D b):=a1f (b5d o k) λs H Q i=>i.un λq G R f c h j=>by
 obtain⟨p,l,n,rfl,e,h⟩:=h;obtain⟨v,r,rfl,a,d⟩:=f.two;obtain⟨m,g,_⟩:=c _ _ e;exact⟨p,l,m,by rw[a,d],g,j _ _ _ _ h (by rw[a0Q]) c (.refl _ _)⟩
theorem c2h (e:G p=some (.ins C dx fs)) (h:R (.bl b) G):zIsI C D b [.ref p,.ref D] G R:=⟨p,dx,fs,rfl,e,h⟩
end L3
set_option maxHeartbeats 4000000
namespace L3
set_option genInjectivity false in
inductive Ex4 {α0 α1 α2 α3:Type}(p:α0->α1->α2->α3->Prop):Prop
 | mk (a0:α0) (a1:α1) (a2:α2) (a3:α3) (h:p a0 a1 a2 a3):Ex4 p
set_option genInjectivity false in
inductive Ex5 {α0 α1 α2 α3 α4:Type}(p:α0->α1->α2->α3->α4->Prop):Prop
 | mk (a0:α0) (a1:α1) (a2:α2) (a3:α3) (a4:α4) (h:p a0 a1 a2 a3 a4):Ex5 p
set_option genInjectivity false in
inductive Ex6 {α0 α1 α2 α3 α4 α5:Type}(p:α0->α1->α2->α3->α4->α5->Prop):Prop
 | mk (a0:α0) (a1:α1) (a2:α2) (a3:α3) (a4:α4) (a5:α5) (h:p a0 a1 a2 a3 a4 a5):Ex6 p
set_option genInjectivity false in
inductive Ex7 {α0 α1 α2 α3 α4 α5 α6:Type}(p:α0->α1->α2->α3->α4->α5->α6->Prop):Prop
 | mk (a0:α0) (a1:α1) (a2:α2) (a3:α3) (a4:α4) (a5:α5) (a6:α6) (h:p a0 a1 a2 a3 a4 a5 a6):Ex7 p
set_option genInjectivity false in
inductive Ex8 {α0 α1 α2 α3 α4 α5 α6 α7:Type}(p:α0->α1->α2->α3->α4->α5->α6->α7->Prop):Prop
 | mk (a0:α0) (a1:α1) (a2:α2) (a3:α3) (a4:α4) (a5:α5) (a6:α6) (a7:α7) (h:p a0 a1 a2 a3 a4 a5 a6 a7):Ex8 p
set_option genInjectivity false in
inductive Ex9 {α0 α1 α2 α3 α4 α5 α6 α7 α8:Type}(p:α0->α1->α2->α3->α4->α5->α6->α7->α8->Prop):Prop
 | mk (a0:α0) (a1:α1) (a2:α2) (a3:α3) (a4:α4) (a5:α5) (a6:α6) (a7:α7) (a8:α8) (h:p a0 a1 a2 a3 a4 a5 a6 a7 a8):Ex9 p
end L3
namespace Lw
open PySem L2 L3
noncomputable def top (i:Nat):Stmt:=PySem.Challenge.pw_twotimes_k22_whole_tiled_by_tellings.main.body.getD i (.Pass ⟨0,0,0,0⟩)
abbrev a2T:Stmt:=top 14
abbrev a2U:Stmt:=top 15
abbrev a2v:Stmt:=top 16
abbrev a2d:Stmt:=top 17
abbrev a2w:Stmt:=top 19
abbrev a1T:Stmt:=top 20
abbrev a1F:Stmt:=top 21
abbrev a1s:Stmt:=top 22
abbrev a36:Stmt:=top 29
abbrev a2V:Stmt:=top 28
abbrev a3n:Stmt:=top 24
abbrev a2o:Stmt:=top 26
abbrev a1d:Stmt:=top 30
abbrev a2W:Stmt:=top 27
abbrev a5b:Stmt:=top 25
abbrev a1G:Stmt:=top 32
abbrev a2e:Stmt:=top 33
abbrev a5c:Stmt:=top 37
abbrev a2f:Stmt:=top 38
abbrev a0V:Stmt:=top 36
abbrev a2X:Stmt:=top 39
abbrev a6o:Stmt:=top 42
abbrev b7C:Stmt:=top 43
abbrev a9X:Stmt:=top 44
abbrev a6p:Stmt:=top 45
abbrev a6q:Stmt:=top 46
abbrev a9Y:Stmt:=top 47
abbrev a6r:Stmt:=top 48
abbrev a9Z:Stmt:=top 49
abbrev a6s:Stmt:=top 50
abbrev a1e:Stmt:=a1B (top 34) 7
abbrev a07:Stmt:=a1B (top 34) 9
abbrev a08:Stmt:=a1B (top 40) 2
abbrev a2g:Stmt:=a1B (top 34) 5
abbrev a1t:Stmt:=a1B (top 34) 6
abbrev b7D:Stmt:=top 51
abbrev a1U:Stmt:=a1B (top 34) 4
abbrev a78:Stmt:=top 52
abbrev a5d:Stmt:=top 53
abbrev a2Y:Stmt:=top 54
abbrev b7E:Stmt:=top 55
abbrev a1H:Stmt:=a1B (top 34) 8
abbrev a1I:Stmt:=a1B (top 40) 1
abbrev a3o:Stmt:=a1B (top 34) 1
abbrev a6t:Stmt:=top 56
abbrev a1V:Stmt:=a1B (top 34) 0
abbrev a2Z:Stmt:=a1B (top 40) 0
abbrev a20:Stmt:=a1B (top 34) 3
abbrev a1W:Stmt:=a1B (top 34) 2
abbrev a79:Stmt:=top 57
theorem a0Y (hr:Room k A):A.units+66<cLine:=by have:=hr.un;omega
local macro_rules | `(tactic| walk_at "sc")=>`(tactic| exact⟨rfl,rfl,rfl,by decide +kernel,rfl,by decide +kernel,by decide +kernel⟩)
theorem a9b:FnScope ["thing"] ["thing"] (a0h a2T):=by walk_at "sc"
theorem a6T:FnScope ["thing"] ["thing"] (a0h a2U):=by walk_at "sc"
theorem a6u:FnScope ["begin","end"] ["begin","end"] (a0h a2v):=by walk_at "sc"
theorem a5D:FnScope ["end","other"] ["end","other"] (a0h a2d):=by walk_at "sc"
theorem a6v:FnScope ["thing"] ["thing"] (a0h a2w):=by walk_at "sc"
theorem a5e:FnScope ["thing"] ["thing"] (a0h a1T):=by walk_at "sc"
theorem a4x:FnScope ["begin","end"] ["begin","end"] (a0h a1F):=by walk_at "sc"
theorem a37:FnScope ["knowing","last"] ["knowing","last"] (a0h a1s):=by walk_at "sc"
theorem a9c:FnScope ["stretch","moment"] ["stretch","moment"] (a0h a36):=by walk_at "sc"
theorem sc_p_worths_in:FnScope ["line","moments","worths","at","moment"] ["line","moments"] (a0h a2V):=by walk_at "sc"
theorem a8a:FnScope ["line","moment"] ["line","moment"] (a0h a3n):=by walk_at "sc"
theorem a8b:FnScope ["line","moment"] ["line","moment"] (a0h a2o):=by walk_at "sc"
theorem sc_p_with_alike_joined:FnScope ["pieces","told","piece"] ["pieces"] (a0h a1d):=by walk_at "sc"
theorem a9d:FnScope ["line","moment"] ["line","moment"] (a0h a2W):=by walk_at "sc"
theorem sc_p_put_on:FnScope ["line","begin","end","worth","pieces"] ["line","begin","end","worth"] (a0h a5b):=by walk_at "sc"
theorem sc_p_check_telling:FnScope ["telling","name"] ["telling"] (a0h a1G):=by walk_at "sc"
theorem sc_p_line_behind:FnScope ["line","telling","worth"] ["line","telling"] (a0h a2e):=by walk_at "sc"
theorem a90:FnScope ["tile"] ["tile"] (a0h a5c):=by walk_at "sc"
theorem a5E:FnScope ["tile"] ["tile"] (a0h a2f):=by walk_at "sc"
theorem sc_p_tiled_on:FnScope ["tiles","key","line","knowing","wanted","standing","begun","ended"] ["tiles","key","line","knowing"] (a0h a0V):=by walk_at "sc"
theorem a6U:FnScope ["tile","knowing"] ["tile","knowing"] (a0h a2X):=by walk_at "sc"
theorem b1H:FnScope ["script","k"] ["script","k"] (a0h a6o):=by walk_at "sc"
theorem sc_mix:FnScope ["cell","k","one"] ["cell","k"] (a0h b7C):=by walk_at "sc"
theorem sc_parts:FnScope ["cell","way","bounds","found","k"] ["cell","way","bounds"] (a0h a9X):=by walk_at "sc"
theorem sc_names:FnScope ["cell","way","many","letters","xs","stem","at","found"] ["cell","way","many"] (a0h a6p):=by walk_at "sc"
theorem sc_telling:FnScope ["cell","way","keys","worths","xs","begin","end"] ["cell","way","keys","worths"] (a0h a6q):=by walk_at "sc"
theorem sc_worth:FnScope ["tellings","key","moment","knowing","found","telling"] ["tellings","key","moment","knowing"] (a0h a9Y):=by walk_at "sc"
theorem sc_moments:FnScope ["tellings","found","telling","bound","moment"] ["tellings"] (a0h a6r):=by walk_at "sc"
theorem sc_shown:FnScope ["line","moment","begin","end","worth"] ["line","moment"] (a0h a9Z):=by walk_at "sc"
theorem sc_is_line:FnScope ["line","k"] ["line"] (a0h a6s):=by walk_at "sc"
theorem a3g:FnScope ["self","knowing"] ["self","knowing"] (a0h a1e):=by walk_at "sc"
theorem sc_Sheet_known_line:FnScope ["self","key","knowing","since","line"] ["self","key","knowing"] (a0h a07):=by walk_at "sc"
theorem a38:FnScope ["self","key","knowing"] ["self","key","knowing"] (a0h a08):=by walk_at "sc"
theorem a5F:FnScope ["self","key","knowing"] ["self","key","knowing"] (a0h a2g):=by walk_at "sc"
theorem a5G:FnScope ["self","knowing"] ["self","knowing"] (a0h a1t):=by walk_at "sc"
theorem sc_own:FnScope ["sheet","key","knowing","line","names"] ["sheet","key","knowing"] (a0h b7D):=by walk_at "sc"
theorem a5f:FnScope ["self","key","moment","knowing"] ["self","key","moment","knowing"] (a0h a1U):=by walk_at "sc"
theorem sc_asked:FnScope ["sheet","tellings","keys","cell","held","moments","key","moment","knowing","due","line"] ["sheet","tellings","keys","cell","held"] (a0h a78):=by walk_at "sc"
theorem sc_bad_name:FnScope ["cell","name","at","sign","long"] ["cell","name"] (a0h a5d):=by walk_at "sc"
theorem sc_bad_stretch:FnScope ["cell","begin","far","some"] ["cell","begin"] (a0h a2Y):=by walk_at "sc"
theorem sc_bad:FnScope ["cell","telling","way","found","at"] ["cell","telling"] (a0h b7E):=by walk_at "sc"
theorem a4y:FnScope ["self","key","line"] ["self","key","line"] (a0h a1H):=by walk_at "sc"
theorem a4z:FnScope ["self","key","line"] ["self","key","line"] (a0h a1I):=by walk_at "sc"
theorem sc_Sheet_tell:FnScope ["self","telling","key","line"] ["self","telling"] (a0h a3o):=by walk_at "sc"
theorem sc_refused:FnScope ["sheet","telling","named","kinds","other","e"] ["sheet","telling","named"] (a0h a6t):=by walk_at "sc"
theorem a5g:FnScope ["self"] ["self"] (a0h a1V):=by walk_at "sc"
theorem sc_Tiled_tiles:FnScope ["self","told","name","key","worth","begin","end","since","until"] ["self"] (a0h a2Z):=by walk_at "sc"
theorem a6V:FnScope ["self"] ["self"] (a0h a20):=by walk_at "sc"
theorem a5h:FnScope ["self"] ["self"] (a0h a1W):=by walk_at "sc"
theorem sc_law:FnScope ["script","way","many","keys","worths","sheet","tellings","held","cell","telling","bad","named","ahead","key","moment","knowing","due","line","kept"] ["script"] (a0h a79):=by walk_at "sc"
theorem c2i:fV (α:=Str) ["sign"]:=by decide +kernel
theorem b1I:fV (α:=Str) ["begin","end","worth","moment"]:=by decide +kernel
theorem c2j:fV (α:=Str) ["run"]:=by decide +kernel
theorem c2k:fV (α:=Str) ["tile"]:=by decide +kernel
theorem c2l:fV (α:=Str) ["run","standing"]:=by decide +kernel
theorem c2m:fV (α:=Str) ["tile","wanted","knowing"]:=by decide +kernel
theorem b7F:fV (α:=Str) ["begin","end","worth","key","knowing"]:=by decide +kernel
theorem c2n:fV (α:=Str) ["k","letters","xs"]:=by decide +kernel
theorem c2o:fV (α:=Str) ["k","stem","letters","at","xs"]:=by decide +kernel
theorem b7G:fV (α:=Str) ["begin","end","worth"]:=by decide +kernel
theorem c0t:fV (α:=Str) ["tile","knowing"]:=by decide +kernel
theorem c0u:fV (α:=Str) ["key","knowing","self"]:=by decide +kernel
theorem c0v:fV (α:=Str) ["one","knowing","sheet"]:=by decide +kernel
set_option genInjectivity false in
structure Ad where
 f0:Addr
 d0:kx
 f1:Addr
 d1:kx
 f2:Addr
 d2:kx
 f3:Addr
 d3:kx
 f4:Addr
 d4:kx
 f5:Addr
 d5:kx
 f6:Addr
 d6:kx
 f7:Addr
 d7:kx
 f8:Addr
 d8:kx
 f9:Addr
 d9:kx
 f10:Addr
 d10:kx
 f11:Addr
 d11:kx
 f12:Addr
 d12:kx
 f13:Addr
 d13:kx
 f14:Addr
 d14:kx
 f15:Addr
 d15:kx
 f16:Addr
 d16:kx
 f17:Addr
 d17:kx
 f18:Addr
 d18:kx
 f19:Addr
 d19:kx
 f20:Addr
 d20:kx
 f21:Addr
 d21:kx
 f22:Addr
 d22:kx
 f23:Addr
 d23:kx
 f24:Addr
 d24:kx
 f25:Addr
 d25:kx
 f26:Addr
 d26:kx
 f27:Addr
 d27:kx
 f28:Addr
 d28:kx
 f29:Addr
 d29:kx
 f30:Addr
 d30:kx
 f31:Addr
 d31:kx
 f32:Addr
 d32:kx
 f33:Addr
 d33:kx
 f34:Addr
 d34:kx
 f35:Addr
 d35:kx
 f36:Addr
 d36:kx
 f37:Addr
 d37:kx
 f38:Addr
 d38:kx
 f39:Addr
 d39:kx
 f40:Addr
 d40:kx
 f41:Addr
 d41:kx
 f42:Addr
 d42:kx
 f43:Addr
 d43:kx
 f44:Addr
 d44:kx
 f45:Addr
 d45:kx
 f46:Addr
 d46:kx
 f47:Addr
 d47:kx
 f48:Addr
 d48:kx
 f49:Addr
 d49:kx
 c_Sheet:Addr
 c_Tiled:Addr
 x_NoName:Addr
 x_NoStretch:Addr
 x_NoKnowing:Addr
 x_TimesError:Addr
 x_Broken:Addr
 x_Forgotten:Addr
 x_NoFit:Addr
 x_NoLog:Addr
 x_NoRow:Addr
 x_NoSheet:Addr
structure Fns (K:Fg) (a:Ad):Prop where
 n0:Fun K "is_name" "is_name" a2T a.f0 a.d0
 n1:Fun K "is_moment" "is_moment" a2U a.f1 a.d1
 n2:Fun K "is_stretch" "is_stretch" a2v a.f2 a.d2
 n3:Fun K "earlier_end" "earlier_end" a2d a.f3 a.d3
 n4:Fun K "check_name" "check_name" a2w a.f4 a.d4
 n5:Fun K "check_moment" "check_moment" a1T a.f5 a.d5
 n6:Fun K "check_stretch" "check_stretch" a1F a.f6 a.d6
 n7:Fun K "check_in_reach" "check_in_reach" a1s a.f7 a.d7
 n8:Fun K "is_over" "is_over" a36 a.f8 a.d8
 n9:Fun K "worths_in" "worths_in" a2V a.f9 a.d9
 n10:Fun K "worth_in" "worth_in" a3n a.f10 a.d10
 n11:Fun K "ahead_of" "ahead_of" a2o a.f11 a.d11
 n12:Fun K "with_alike_joined" "with_alike_joined" a1d a.f12 a.d12
 n13:Fun K "from_on" "from_on" a2W a.f13 a.d13
 n14:Fun K "put_on" "put_on" a5b a.f14 a.d14
 n15:Fun K "check_telling" "check_telling" a1G a.f15 a.d15
 n16:Fun K "line_behind" "line_behind" a2e a.f16 a.d16
 n17:Fun K "run_of" "run_of" a5c a.f17 a.d17
 n18:Fun K "is_standing" "is_standing" a2f a.f18 a.d18
 n19:Fun K "tiled_on" "tiled_on" a0V a.f19 a.d19
 n20:Fun K "stands_at" "stands_at" a2X a.f20 a.d20
 n21:Fun K "_law_cell_at" "_law_cell_at" a6o a.f21 a.d21
 n22:Fun K "_law_mix" "_law_mix" b7C a.f22 a.d22
 n23:Fun K "_law_parts" "_law_parts" a9X a.f23 a.d23
 n24:Fun K "_law_names" "_law_names" a6p a.f24 a.d24
 n25:Fun K "_law_telling" "_law_telling" a6q a.f25 a.d25
 n26:Fun K "_law_worth" "_law_worth" a9Y a.f26 a.d26
 n27:Fun K "_law_moments" "_law_moments" a6r a.f27 a.d27
 n28:Fun K "_law_shown" "_law_shown" a9Z a.f28 a.d28
 n29:Fun K "_law_is_line" "_law_is_line" a6s a.f29 a.d29
 n30:Fun K "check_knowing" "Sheet.check_knowing" a1e a.f30 a.d30
 n31:Fun K "known_line" "Sheet.known_line" a07 a.f31 a.d31
 n32:Fun K "known_line" "Tiled.known_line" a08 a.f32 a.d32
 n33:Fun K "line_at" "Sheet.line_at" a2g a.f33 a.d33
 n34:Fun K "keys_at" "Sheet.keys_at" a1t a.f34 a.d34
 n35:Fun K "_law_own" "_law_own" b7D a.f35 a.d35
 n36:Fun K "worth_at" "Sheet.worth_at" a1U a.f36 a.d36
 n37:Fun K "_law_asked" "_law_asked" a78 a.f37 a.d37
 n38:Fun K "_law_bad_name" "_law_bad_name" a5d a.f38 a.d38
 n39:Fun K "_law_bad_stretch" "_law_bad_stretch" a2Y a.f39 a.d39
 n40:Fun K "_law_bad" "_law_bad" b7E a.f40 a.d40
 n41:Fun K "keep_line" "Sheet.keep_line" a1H a.f41 a.d41
 n42:Fun K "keep_line" "Tiled.keep_line" a1I a.f42 a.d42
 n43:Fun K "tell" "Sheet.tell" a3o a.f43 a.d43
 n44:Fun K "_law_refused" "_law_refused" a6t a.f44 a.d44
 n45:Fun K "__init__" "Sheet.__init__" a1V a.f45 a.d45
 n46:Fun K "tiles" "Tiled.tiles" a2Z a.f46 a.d46
 n47:Fun K "first" "Sheet.first" a20 a.f47 a.d47
 n48:Fun K "knowings" "Sheet.knowings" a1W a.f48 a.d48
 n49:Fun K "law" "law" a79 a.f49 a.d49
theorem a9e {K:Fg}{a:Ad}(F:Fns K a):Binds K a.d0 ["thing"] []:=F.n0.binds λ_ _ _ _ _ _=>lnS λ_=>ln0 rfl
theorem a2x {K:Fg}{a:Ad}(F:Fns K a):Binds K a.d1 ["thing"] []:=F.n1.binds λ_ _ _ _ _ _=>lnS λ_=>ln0 rfl
theorem a6w {K:Fg}{a:Ad}(F:Fns K a):Binds K a.d2 ["begin","end"] []:=F.n2.binds λ_ _ _ _ _ _=>lnS λ_=>lnS λ_=>ln0 rfl
theorem a5H {K:Fg}{a:Ad}(F:Fns K a):Binds K a.d3 ["end","other"] []:=F.n3.binds λ_ _ _ _ _ _=>lnS λ_=>lnS λ_=>ln0 rfl
theorem a2h {K:Fg}{a:Ad}(F:Fns K a):Binds K a.d4 ["thing"] []:=F.n4.binds λ_ _ _ _ _ _=>lnS λ_=>ln0 rfl
theorem a5i {K:Fg}{a:Ad}(F:Fns K a):Binds K a.d5 ["thing"] []:=F.n5.binds λ_ _ _ _ _ _=>lnS λ_=>ln0 rfl
theorem a4A {K:Fg}{a:Ad}(F:Fns K a):Binds K a.d6 ["begin","end"] []:=F.n6.binds λ_ _ _ _ _ _=>lnS λ_=>lnS λ_=>ln0 rfl
theorem a39 {K:Fg}{a:Ad}(F:Fns K a):Binds K a.d7 ["knowing","last"] []:=F.n7.binds λ_ _ _ _ _ _=>lnS λ_=>lnS λ_=>ln0 rfl
theorem a9f {K:Fg}{a:Ad}(F:Fns K a):Binds K a.d8 ["stretch","moment"] []:=F.n8.binds λ_ _ _ _ _ _=>lnS λ_=>lnS λ_=>ln0 rfl
theorem a6W {K:Fg}{a:Ad}(F:Fns K a):Binds K a.d9 ["line","moments"] []:=F.n9.binds λ_ _ _ _ _ _=>lnS λ_=>lnS λ_=>ln0 rfl
theorem a8c {K:Fg}{a:Ad}(F:Fns K a):Binds K a.d10 ["line","moment"] []:=F.n10.binds λ_ _ _ _ _ _=>lnS λ_=>lnS λ_=>ln0 rfl
theorem a8d {K:Fg}{a:Ad}(F:Fns K a):Binds K a.d11 ["line","moment"] []:=F.n11.binds λ_ _ _ _ _ _=>lnS λ_=>lnS λ_=>ln0 rfl
theorem a3h {K:Fg}{a:Ad}(F:Fns K a):Binds K a.d12 ["pieces"] []:=F.n12.binds λ_ _ _ _ _ _=>lnS λ_=>ln0 rfl
theorem a9g {K:Fg}{a:Ad}(F:Fns K a):Binds K a.d13 ["line","moment"] []:=F.n13.binds λ_ _ _ _ _ _=>lnS λ_=>lnS λ_=>ln0 rfl
theorem a91 {K:Fg}{a:Ad}(F:Fns K a):Binds K a.d14 ["line","begin","end","worth"] []:=F.n14.binds λ_ _ _ _ _ _=>lnS λ_=>lnS λ_=>lnS λ_=>lnS λ_=>ln0 rfl
theorem a4B {K:Fg}{a:Ad}(F:Fns K a):Binds K a.d15 ["telling"] []:=F.n15.binds λ_ _ _ _ _ _=>lnS λ_=>ln0 rfl
theorem a5I {K:Fg}{a:Ad}(F:Fns K a):Binds K a.d16 ["line","telling"] []:=F.n16.binds λ_ _ _ _ _ _=>lnS λ_=>lnS λ_=>ln0 rfl
theorem a4a {K:Fg}{a:Ad}(F:Fns K a):Binds K a.d17 ["tile"] []:=F.n17.binds λ_ _ _ _ _ _=>lnS λ_=>ln0 rfl
theorem a1X {K:Fg}{a:Ad}(F:Fns K a):Binds K a.d18 ["tile"] []:=F.n18.binds λ_ _ _ _ _ _=>lnS λ_=>ln0 rfl
theorem a8e {K:Fg}{a:Ad}(F:Fns K a):Binds K a.d19 ["tiles","key","line","knowing"] []:=F.n19.binds λ_ _ _ _ _ _=>lnS λ_=>lnS λ_=>lnS λ_=>lnS λ_=>ln0 rfl
theorem a6X {K:Fg}{a:Ad}(F:Fns K a):Binds K a.d20 ["tile","knowing"] []:=F.n20.binds λ_ _ _ _ _ _=>lnS λ_=>lnS λ_=>ln0 rfl
theorem a3A {K:Fg}{a:Ad}(F:Fns K a):Binds K a.d21 ["script","k"] []:=F.n21.binds λ_ _ _ _ _ _=>lnS λ_=>lnS λ_=>ln0 rfl
theorem a2p {K:Fg}{a:Ad}(F:Fns K a):Binds K a.d22 ["cell","k"] []:=F.n22.binds λ_ _ _ _ _ _=>lnS λ_=>lnS λ_=>ln0 rfl
theorem b0P {K:Fg}{a:Ad}(F:Fns K a):Binds K a.d23 ["cell","way","bounds"] []:=F.n23.binds λ_ _ _ _ _ _=>lnS λ_=>lnS λ_=>lnS λ_=>ln0 rfl
theorem b0Q {K:Fg}{a:Ad}(F:Fns K a):Binds K a.d24 ["cell","way","many"] []:=F.n24.binds λ_ _ _ _ _ _=>lnS λ_=>lnS λ_=>lnS λ_=>ln0 rfl
theorem b1J {K:Fg}{a:Ad}(F:Fns K a):Binds K a.d25 ["cell","way","keys","worths"] []:=F.n25.binds λ_ _ _ _ _ _=>lnS λ_=>lnS λ_=>lnS λ_=>lnS λ_=>ln0 rfl
theorem b5e {K:Fg}{a:Ad}(F:Fns K a):Binds K a.d26 ["tellings","key","moment","knowing"] []:=F.n26.binds λ_ _ _ _ _ _=>lnS λ_=>lnS λ_=>lnS λ_=>lnS λ_=>ln0 rfl
theorem b1K {K:Fg}{a:Ad}(F:Fns K a):Binds K a.d27 ["tellings"] []:=F.n27.binds λ_ _ _ _ _ _=>lnS λ_=>ln0 rfl
theorem b5f {K:Fg}{a:Ad}(F:Fns K a):Binds K a.d28 ["line","moment"] []:=F.n28.binds λ_ _ _ _ _ _=>lnS λ_=>lnS λ_=>ln0 rfl
theorem b1L {K:Fg}{a:Ad}(F:Fns K a):Binds K a.d29 ["line"] []:=F.n29.binds λ_ _ _ _ _ _=>lnS λ_=>ln0 rfl
theorem a02 {K:Fg}{a:Ad}(F:Fns K a):Binds K a.d30 ["self","knowing"] []:=F.n30.binds λ_ _ _ _ _ _=>lnS λ_=>lnS λ_=>ln0 rfl
theorem a4b {K:Fg}{a:Ad}(F:Fns K a):Binds K a.d31 ["self","key","knowing"] []:=F.n31.binds λ_ _ _ _ _ _=>lnS λ_=>lnS λ_=>lnS λ_=>ln0 rfl
theorem a4c {K:Fg}{a:Ad}(F:Fns K a):Binds K a.d32 ["self","key","knowing"] []:=F.n32.binds λ_ _ _ _ _ _=>lnS λ_=>lnS λ_=>lnS λ_=>ln0 rfl
theorem a0Z {K:Fg}{a:Ad}(F:Fns K a):Binds K a.d33 ["self","key","knowing"] []:=F.n33.binds λ_ _ _ _ _ _=>lnS λ_=>lnS λ_=>lnS λ_=>ln0 rfl
theorem a00 {K:Fg}{a:Ad}(F:Fns K a):Binds K a.d34 ["self","knowing"] []:=F.n34.binds λ_ _ _ _ _ _=>lnS λ_=>lnS λ_=>ln0 rfl
theorem b6e {K:Fg}{a:Ad}(F:Fns K a):Binds K a.d35 ["sheet","key","knowing"] []:=F.n35.binds λ_ _ _ _ _ _=>lnS λ_=>lnS λ_=>lnS λ_=>ln0 rfl
theorem a2A {K:Fg}{a:Ad}(F:Fns K a):Binds K a.d36 ["self","key","moment","knowing"] []:=F.n36.binds λ_ _ _ _ _ _=>lnS λ_=>lnS λ_=>lnS λ_=>lnS λ_=>ln0 rfl
theorem b0R {K:Fg}{a:Ad}(F:Fns K a):Binds K a.d37 ["sheet","tellings","keys","cell","held"] []:=F.n37.binds λ_ _ _ _ _ _=>lnS λ_=>lnS λ_=>lnS λ_=>lnS λ_=>lnS λ_=>ln0 rfl
theorem a92 {K:Fg}{a:Ad}(F:Fns K a):Binds K a.d38 ["cell","name"] []:=F.n38.binds λ_ _ _ _ _ _=>lnS λ_=>lnS λ_=>ln0 rfl
theorem a6Y {K:Fg}{a:Ad}(F:Fns K a):Binds K a.d39 ["cell","begin"] []:=F.n39.binds λ_ _ _ _ _ _=>lnS λ_=>lnS λ_=>ln0 rfl
theorem c0w {K:Fg}{a:Ad}(F:Fns K a):Binds K a.d40 ["cell","telling"] []:=F.n40.binds λ_ _ _ _ _ _=>lnS λ_=>lnS λ_=>ln0 rfl
theorem a4C {K:Fg}{a:Ad}(F:Fns K a):Binds K a.d41 ["self","key","line"] []:=F.n41.binds λ_ _ _ _ _ _=>lnS λ_=>lnS λ_=>lnS λ_=>ln0 rfl
theorem a4D {K:Fg}{a:Ad}(F:Fns K a):Binds K a.d42 ["self","key","line"] []:=F.n42.binds λ_ _ _ _ _ _=>lnS λ_=>lnS λ_=>lnS λ_=>ln0 rfl
theorem a4E {K:Fg}{a:Ad}(F:Fns K a):Binds K a.d43 ["self","telling"] []:=F.n43.binds λ_ _ _ _ _ _=>lnS λ_=>lnS λ_=>ln0 rfl
theorem b1M {K:Fg}{a:Ad}(F:Fns K a):Binds K a.d44 ["sheet","telling","named"] []:=F.n44.binds λ_ _ _ _ _ _=>lnS λ_=>lnS λ_=>lnS λ_=>ln0 rfl
theorem a5j {K:Fg}{a:Ad}(F:Fns K a):Binds K a.d45 ["self"] []:=F.n45.binds λ_ _ _ _ _ _=>lnS λ_=>ln0 rfl
theorem a3J {K:Fg}{a:Ad}(F:Fns K a):Binds K a.d46 ["self"] []:=F.n46.binds λ_ _ _ _ _ _=>lnS λ_=>ln0 rfl
theorem a6Z {K:Fg}{a:Ad}(F:Fns K a):Binds K a.d47 ["self"] []:=F.n47.binds λ_ _ _ _ _ _=>lnS λ_=>ln0 rfl
theorem a5k {K:Fg}{a:Ad}(F:Fns K a):Binds K a.d48 ["self"] []:=F.n48.binds λ_ _ _ _ _ _=>lnS λ_=>ln0 rfl
def FE (K:Fg) (x q:Str) (st:Stmt) (f:Addr):Prop:=∃ d,Fun K x q st f d
theorem fe_mk {K:Fg}{x qual:Str}{st:Stmt}{f:Addr}{oc:Value}{od an:Option Addr}{osl:Array (Option Value)}{kV doc pm cdv ct:Value}(l:K.lookup f=some ⟨oc,od,.func (PySem.W.fnOf x qual (a3W st) (a2s st) (a0h st) .none kV doc pm an cdv ct),osl⟩) (c:PySem.W.codeIn K cdv qual=true) (k:PySem.W.keepIn K (.ref f)=true):FE K x qual st f:=⟨_,b5K l c k⟩
structure Txt (K:Fg) (mg:Str->Option Value) (a:Ad):Prop where
 m0:mg "is_name"=some (.ref a.f0)
 m1:mg "is_moment"=some (.ref a.f1)
 m2:mg "is_stretch"=some (.ref a.f2)
 m3:mg "earlier_end"=some (.ref a.f3)
 m4:mg "check_name"=some (.ref a.f4)
 m5:mg "check_moment"=some (.ref a.f5)
 m6:mg "check_stretch"=some (.ref a.f6)
 m7:mg "check_in_reach"=some (.ref a.f7)
 m8:mg "is_over"=some (.ref a.f8)
 m9:mg "worths_in"=some (.ref a.f9)
 m10:mg "worth_in"=some (.ref a.f10)
 m11:mg "ahead_of"=some (.ref a.f11)
 m12:mg "with_alike_joined"=some (.ref a.f12)
 m13:mg "from_on"=some (.ref a.f13)
 m14:mg "put_on"=some (.ref a.f14)
 m15:mg "check_telling"=some (.ref a.f15)
 m16:mg "line_behind"=some (.ref a.f16)
 m17:mg "run_of"=some (.ref a.f17)
 m18:mg "is_standing"=some (.ref a.f18)
 m19:mg "tiled_on"=some (.ref a.f19)
 m20:mg "stands_at"=some (.ref a.f20)
 m21:mg "_law_cell_at"=some (.ref a.f21)
 m22:mg "_law_mix"=some (.ref a.f22)
 m23:mg "_law_parts"=some (.ref a.f23)
 m24:mg "_law_names"=some (.ref a.f24)
 m25:mg "_law_telling"=some (.ref a.f25)
 m26:mg "_law_worth"=some (.ref a.f26)
 m27:mg "_law_moments"=some (.ref a.f27)
 m28:mg "_law_shown"=some (.ref a.f28)
 m29:mg "_law_is_line"=some (.ref a.f29)
 mt30:Meth K a.c_Sheet "check_knowing" a.f30
 mtT_Sheet_check_knowing:Meth K a.c_Tiled "check_knowing" a.f30
 mt31:Meth K a.c_Sheet "known_line" a.f31
 mt32:Meth K a.c_Tiled "known_line" a.f32
 mt33:Meth K a.c_Sheet "line_at" a.f33
 mtT_Sheet_line_at:Meth K a.c_Tiled "line_at" a.f33
 mt34:Meth K a.c_Sheet "keys_at" a.f34
 mtT_Sheet_keys_at:Meth K a.c_Tiled "keys_at" a.f34
 m35:mg "_law_own"=some (.ref a.f35)
 mt36:Meth K a.c_Sheet "worth_at" a.f36
 mtT_Sheet_worth_at:Meth K a.c_Tiled "worth_at" a.f36
 m37:mg "_law_asked"=some (.ref a.f37)
 m38:mg "_law_bad_name"=some (.ref a.f38)
 m39:mg "_law_bad_stretch"=some (.ref a.f39)
 m40:mg "_law_bad"=some (.ref a.f40)
 mt41:Meth K a.c_Sheet "keep_line" a.f41
 mt42:Meth K a.c_Tiled "keep_line" a.f42
 mt43:Meth K a.c_Sheet "tell" a.f43
 mtT_Sheet_tell:Meth K a.c_Tiled "tell" a.f43
 m44:mg "_law_refused"=some (.ref a.f44)
 mt45:Meth K a.c_Sheet "__init__" a.f45
 mtT_Sheet___init__:Meth K a.c_Tiled "__init__" a.f45
 mt46:Meth K a.c_Tiled "tiles" a.f46
 mt47:Meth K a.c_Sheet "first" a.f47
 mtT_Sheet_first:Meth K a.c_Tiled "first" a.f47
 mt48:Meth K a.c_Sheet "knowings" a.f48
 mtT_Sheet_knowings:Meth K a.c_Tiled "knowings" a.f48
 m49:mg "law"=some (.ref a.f49)
 b_all:mg "all"=none
 b_isinstance:mg "isinstance"=none
 b_str:mg "str"=none
 b_len:mg "len"=none
 b_bool:mg "bool"=none
 b_int:mg "int"=none
 b_min:mg "min"=none
 b_max:mg "max"=none
 b_dict:mg "dict"=none
 b_range:mg "range"=none
 b_sorted:mg "sorted"=none
 b_list:mg "list"=none
 b_reversed:mg "reversed"=none
 b_tuple:mg "tuple"=none
 b_ValueError:mg "ValueError"=none
 cl_Sheet:Cls K a.c_Sheet
 mg_Sheet:mg "Sheet"=some (.ref a.c_Sheet)
 mk_Sheet:Mk K a.c_Sheet a.f45
 cl_Tiled:Cls K a.c_Tiled
 mg_Tiled:mg "Tiled"=some (.ref a.c_Tiled)
 mk_Tiled:Mk K a.c_Tiled a.f45
 na_last:NoAttr K a.c_Sheet "last"
 naT_last:NoAttr K a.c_Tiled "last"
 na_kept:NoAttr K a.c_Sheet "kept"
 naT_kept:NoAttr K a.c_Tiled "kept"
 ow_Tiled:OwnK K a.c_Tiled
 ki_Tiled_Sheet:PySem.W.kitOne K (.ref a.c_Tiled) (.ref a.c_Sheet)=some true
 x_NoName:mg "NoName"=some (.ref a.x_NoName)
 x_NoStretch:mg "NoStretch"=some (.ref a.x_NoStretch)
 x_NoKnowing:mg "NoKnowing"=some (.ref a.x_NoKnowing)
 x_TimesError:mg "TimesError"=some (.ref a.x_TimesError)
 x_Broken:mg "Broken"=some (.ref a.x_Broken)
 x_Forgotten:mg "Forgotten"=some (.ref a.x_Forgotten)
 x_NoFit:mg "NoFit"=some (.ref a.x_NoFit)
 x_NoLog:mg "NoLog"=some (.ref a.x_NoLog)
 x_NoRow:mg "NoRow"=some (.ref a.x_NoRow)
 x_NoSheet:mg "NoSheet"=some (.ref a.x_NoSheet)
 xi_NoName:PySem.W.excIn K a.x_NoName veM "ValueError.__new__"=true
 xi_NoStretch:PySem.W.excIn K a.x_NoStretch veM "ValueError.__new__"=true
 xi_NoKnowing:PySem.W.excIn K a.x_NoKnowing veM "ValueError.__new__"=true
 xm_NoName_TimesError:PySem.W.exmOne K (.ref a.x_NoName) (.ref a.x_TimesError)=some true
 xm_NoStretch_TimesError:PySem.W.exmOne K (.ref a.x_NoStretch) (.ref a.x_TimesError)=some true
 xk_NoName:ExK K a.x_NoName
 xk_NoStretch:ExK K a.x_NoStretch
 kt_NoName_NoStretch:PySem.W.kitOne K (.ref a.x_NoName) (.ref a.x_NoStretch)=some false
 kt_NoName_ValueError:PySem.W.kitOne K (.ref a.x_NoName) (.type "ValueError")=some true
 kt_NoStretch_NoName:PySem.W.kitOne K (.ref a.x_NoStretch) (.ref a.x_NoName)=some false
 kt_NoStretch_ValueError:PySem.W.kitOne K (.ref a.x_NoStretch) (.type "ValueError")=some true
 ka_NoName_0:PySem.W.kitAny K (.ref a.x_NoName) [.ref a.x_Broken,.ref a.x_Forgotten,.ref a.x_NoFit,.ref a.x_NoKnowing,.ref a.x_NoLog,.ref a.x_NoRow,.ref a.x_NoSheet]=some false
 ka_NoStretch_1:PySem.W.kitAny K (.ref a.x_NoStretch) [.ref a.x_Broken,.ref a.x_Forgotten,.ref a.x_NoFit,.ref a.x_NoKnowing,.ref a.x_NoLog,.ref a.x_NoRow,.ref a.x_NoSheet]=some false
 c_LONGEST_NAME:∃ t,mg "LONGEST_NAME"=some (.int 8 t)
 c_LAST_MOMENT:∃ t,mg "LAST_MOMENT"=some (.int 1000000000000 t)
noncomputable def Ad.cK (a:Ad) (b:Bool):Addr:=cond b a.c_Tiled a.c_Sheet
theorem clK {K:Fg}{mg:Str->Option Value}{a:Ad}(T:Txt K mg a) (b:Bool):Cls K (a.cK b):=by
 cases b
 ·exact T.cl_Sheet
 ·exact T.cl_Tiled
theorem a3B {K:Fg}{mg:Str->Option Value}{a:Ad}(T:Txt K mg a) (b:Bool):NoAttr K (a.cK b) "last":=by
 cases b
 ·exact T.na_last
 ·exact T.naT_last
theorem b0S {K:Fg}{mg:Str->Option Value}{a:Ad}(T:Txt K mg a) (b:Bool):NoAttr K (a.cK b) "kept":=by
 cases b
 ·exact T.na_kept
 ·exact T.naT_kept
theorem a0W {K:Fg}{mg:Str->Option Value}{a:Ad}(T:Txt K mg a) (b:Bool):Meth K (a.cK b) "check_knowing" a.f30:=by
 cases b
 ·exact T.mt30
 ·exact T.mtT_Sheet_check_knowing
theorem a0T {K:Fg}{mg:Str->Option Value}{a:Ad}(T:Txt K mg a) (b:Bool):Meth K (a.cK b) "line_at" a.f33:=by
 cases b
 ·exact T.mt33
 ·exact T.mtT_Sheet_line_at
theorem a0U {K:Fg}{mg:Str->Option Value}{a:Ad}(T:Txt K mg a) (b:Bool):Meth K (a.cK b) "keys_at" a.f34:=by
 cases b
 ·exact T.mt34
 ·exact T.mtT_Sheet_keys_at
theorem a2q {K:Fg}{mg:Str->Option Value}{a:Ad}(T:Txt K mg a) (b:Bool):Meth K (a.cK b) "worth_at" a.f36:=by
 cases b
 ·exact T.mt36
 ·exact T.mtT_Sheet_worth_at
theorem a3K {K:Fg}{mg:Str->Option Value}{a:Ad}(T:Txt K mg a) (b:Bool):Meth K (a.cK b) "tell" a.f43:=by
 cases b
 ·exact T.mt43
 ·exact T.mtT_Sheet_tell
theorem a6x {K:Fg}{mg:Str->Option Value}{a:Ad}(T:Txt K mg a) (b:Bool):Meth K (a.cK b) "first" a.f47:=by
 cases b
 ·exact T.mt47
 ·exact T.mtT_Sheet_first
theorem a4F {K:Fg}{mg:Str->Option Value}{a:Ad}(T:Txt K mg a) (b:Bool):Meth K (a.cK b) "knowings" a.f48:=by
 cases b
 ·exact T.mt48
 ·exact T.mtT_Sheet_knowings
theorem b0T (hg:Gl X x) (hm:∃ t,X.mg x=some (.int i t)) (hd:(x==("__debug__":Str))=false:=by decide):PE X (.Name x pos) (tC (.int i)):=by
 obtain⟨t,h⟩:=hm;exact b11 hg h ⟨t,rfl⟩ hd
def a9h:P3:=λws G R=>∃ a ns,ws=[.scr a ns]/\ns.length<=63/\∀ G',R (.bl true) G'
theorem b3z {K:Fg}{H:Hp}{E:XK}(a:Addr) (ns:List Int) (hl:ns.length<=63) (f:Fz K H a (ns.map V.int)):lowP K a9h [.ref a] H (λv _=>v=.bl true) E:=
 ⟨[.scr a ns],λ_=>none,λw _=>w=.bl true,.cons (by rw[a43];exact⟨rfl,f⟩) .nil,λ_ _ e=>(nomatch e),⟨a,ns,rfl,hl,λ_=>rfl⟩,λw G v H' e r _ _=>by subst e;rw[a0Q]at r;exact r⟩
theorem lenK (h:Nat.ble n 1000=true):n<=sizeLine:=g0 (a0u (jH h))
theorem a1P (h:n<=1000):n<=sizeLine:=g0 (a0u h)
def c0x (x w:Int):Prop:=w=0\/(w=1/\0<=x/\x<536870909)
abbrev RowO (x w:Int):O:=.lst [.int x,.int w]
def RowAt (G:Hq) (r:Addr):Prop:=∃ x w,G r=some (RowO x w)/\c0x x w
local macro_rules | `(tactic| walk_at "sd")=>`(tactic| first | assumption | (exact a1P (by first | decide | omega | (simp;done) | (simp;omega))) | (exact a0u (by first | decide | omega | (simp;done) | (simp;omega))) | decide | omega)
local macro_rules | `(tactic| walk_at "hp")=>`(tactic| first | assumption | exact a0d | (refine a0l ?_ (by assumption);walk_at "hp") | (refine Sm.get (by assumption) ?_;walk_at "hp"))
local macro_rules | `(tactic| walk_at "go1")=>`(tactic| with_reducible (first
 | refine c1D ?_ | refine c1v (by with_unfolding_all rfl) ?_ | refine i_c ?_ | refine i_op ?_ | refine i_un ?_ | refine b9w ?_ | refine b7b ?_ | refine c1w ?_ | refine i_or ?_ | refine c1x ?_ | refine b9x ?_ | refine c1y ?_ | refine b9y ?_ | refine i_if ?_
 | refine c1z ?_ | refine i_truI ?_ | refine i_truB ?_ | refine i_sl ?_ | refine b4R ?_ | refine b9z ?_ | refine c1A ?_ | refine b9A ?_ | refine c1B ?_ | refine c1C ?_ | refine i_cb ?_ | refine i_uss ?_ | refine i_bm0 ?_ | refine i_bm ?_ | refine b9B ?_
 | refine b9C ?_ | refine b9D ?_ | refine c1E ?_ | refine i_retN ?_ | refine c1F ?_ | refine c1G ?_ | refine c1H ?_ | refine c1I (by with_unfolding_all rfl) ?_ | refine i_break ?_ | refine i_cont ?_ | refine b9M ?_ | refine c1P ?_ | refine i_iL ?_ | refine i_iT ?_ | refine i_iS ?_ | refine c1Q ?_ | refine c1R ?_ | refine i_wkC ?_ | refine c1S ?_ | refine c1T ?_ | refine i_tt ?_
 | refine b9E ?_ | refine i_I0 ?_ | refine c1J ?_ | refine i_CI ?_ | refine i_CS ?_ | refine b7c ?_ | refine i_isB ?_ | refine b9F ?_ | refine i_eqB ?_ | refine b9G ?_ | refine c1K ?_ | refine i_inS ?_ | refine b9J ?_ | refine i_nm ?_ | refine a4q (by with_unfolding_all rfl) ?_ | refine i_lenT ?_ | refine b9K ?_ | refine i_mm ?_ | refine c1O ?_
 | refine ifT ?_ | refine ifF ?_ | refine ifNN ?_ | refine ifNI ?_ | refine ifNS ?_ | refine ifNU ?_ | refine ifMN ?_ | refine ifMI ?_ | refine ifMS ?_ | refine ifMU ?_ | refine a4q at0 ?_ | refine a4q at1 ?_ | refine a4q at2 ?_ | refine i_find ?_ | refine b92 ?_ | refine i_iR3 ?_ | refine i_iZip ?_ | refine b95 ?_ | refine b7n ?_ | refine b7o ?_ | refine b96 ?_ | refine b97 ?_ | refine c0g ?_ | refine b7u ?_ | refine c0h ?_ | refine⟨_,rfl,?_⟩))
local macro_rules | `(tactic| walk_at "go")=>`(tactic| repeat walk_at "go1")
local macro_rules | `(tactic| symm)=>`(tactic| walk_at "go")
def a7v:P3:=λws G R=>∃ p ns k,ws=[.scr p ns,.int k]/\0<=k/\∀ i,R (.int i) G
theorem a93 (h:a7v ws G R):ws.length=2:=by obtain⟨_,_,_,rfl,_⟩:=h;rfl
variable {P:kz}{w:World}{K:Fg}{mg:Str->Option Value}{base:Heap}{a:Ad}
theorem b1N (F:Fns K a) (T:Txt K mg a):FnOk P w K mg base CX0 1 a.f21 a.d21 ["script","k"] (lowP K a7v):=by
 refine fn3 F.n21 b1H (λd G R h=>(by exact a93 h)) (λl A b s H E d G R f h=>?_);refine⟨_,(a0k (z_if (a0r o_lt (a0c (pv 1)) (a0t b_len rfl T.b_len PySem.boot_len (a0b (a0c (pv 0)) a0f a0a)) (a0p _))
  (a0n (a0D (q_ix x_ix (a0c (pv 0)) (a0c (pv 1)) (λ_ _=>rfl))))
  a1a)
  (a0n (a0D a0g))),?_⟩
 obtain⟨p,e,k,rfl,g,q⟩:=h;symm;refine ifD (λc=>?_) λ_=>?_
 ·obtain⟨j,rfl⟩:=ge g;have i:j<e.length:=by omega
  symm;exact c1L (a1A (fw i)) (q _)
 ·symm;exact q _
theorem m9 (x:Int):0<=x % 536870909/\x % 536870909<536870909:=⟨fW _ (by decide),gg _ (by decide)⟩
theorem RowAt.new (h:RowAt G r) (n:G p=none):RowAt (put G p o) r:=by
 obtain⟨x,w,e,k⟩:=h;exact⟨x,w,a0l e n,k⟩
theorem RowAt.at {G:Hq}{r:Addr}{x w:Int}(k:c0x x w):RowAt (put G r (RowO x w)) r:=⟨x,w,a0d,k⟩
structure Rw where
 b:Int
 e:Option Int
 w:List Z
@[reducible] noncomputable def oz:Option Int->Z
 | none=>.non
 | some i=>.int i
theorem c0y (h:oz x=oz y):x=y:=by
 cases x<;>cases y<;>first | rfl | cases h<;>rfl
noncomputable def Rw.z (r:Rw):Z:=.tup (.int r.b::oz r.e::r.w)
theorem Rw.z_inj {r s:Rw}(h:r.z=s.z):r=s:=by
 obtain⟨b,e,w⟩:=r;simp only[Rw.z,Z.tup.injEq,gO.injEq,Z.int.injEq]at h;obtain⟨rfl,a,rfl⟩:=h;rw[c0y a]
noncomputable def bef (t:Int):Option Int->Bool
 | none=>true
 | some e=>decide (t<e)
noncomputable def Rw.has (r:Rw) (t:Int):Bool:=decide (r.b<=t)&&bef t r.e
def Rw.good (r:Rw):Prop:=bef r.b r.e=true
noncomputable def val (l:List Rw) (t:Int):Option (List Z):=(l.find? (·.has t)).map (·.w)
theorem a21:val [] t=none:=rfl
theorem a0L:val (r::l) t=if r.has t=true then some r.w else val l t:=by
 unfold val;rw[gM];cases h:r.has t<;>simp
theorem a1J:val (l++m) t=(val l t).or (val m t):=by
 unfold val;rw[j5];cases h:l.find? _<;>simp
def Lt (r s:Rw):Prop:=∃ e,r.e=some e/\e<=s.b
def Lt2 (r s:Rw):Prop:=∃ e,r.e=some e/\e<=s.b/\(e=s.b->r.w≠s.w)
def Rise (l:List Rw):Prop:=(∀ r∈l,r.good)/\l.Pairwise Lt
def Can (l:List Rw):Prop:=(∀ r∈l,r.good)/\l.Pairwise Lt2
theorem Lt2.lt {r s:Rw}(h:Lt2 r s):Lt r s:=let ⟨e,a,b,_⟩:=h;⟨e,a,b⟩
theorem Can.rise (h:Can l):Rise l:=⟨h.1,h.2.imp Lt2.lt⟩
theorem Can.nil:Can []:=⟨λ_ h=>by simp at h,.nil⟩
theorem Rise.nil:Rise []:=Can.nil.rise
theorem Can.tail (h:Can (r::l)):Can l:=⟨λs a=>h.1 s (.tail _ a),(fG.mp h.2).2⟩
theorem Rise.tail (h:Rise (r::l)):Rise l:=⟨λs a=>h.1 s (.tail _ a),(fG.mp h.2).2⟩
theorem b1O {r:Rw}(h:r.good):r.has r.b=true:=by
 unfold Rw.has;rw[h];simp
theorem Lt.has (h:Lt r s) (a:r.has t=true):s.has t=false:=by
 obtain⟨e,c,d⟩:=h;unfold Rw.has at a ⊢;rw[c]at a;simp only[bef,gr,decide_eq_true_eq]at a
 have:decide (s.b<=t)=false:=decide_eq_false (by omega)
 rw[this,jo]
theorem Lt.b (g:r.good) (h:Lt r s):r.b<s.b:=by
 obtain⟨e,a,c⟩:=h
 have:bef r.b r.e=true:=g
 rw[a]at this;simp only[bef,decide_eq_true_eq]at this;omega
theorem a5T (h:∀ r∈l,r.has t=false):val l t=none:=by simp_all[val]
theorem b5g {l:List Rw}{t:Int}{w:List Z}(h:val l t=some w):∃ r∈l,r.has t=true/\r.w=w:=by
 induction l with
 | nil=>cases h
 | cons r l ih=>
  rw[a0L]at h
  split at h
  ·next e=>cases h;exact⟨r,.head _,e,rfl⟩
  ·obtain⟨s,h1,h2⟩:=ih h;exact⟨s,.tail _ h1,h2⟩
theorem b3A {r:Rw}(h:t<r.b):r.has t=false:=by
 unfold Rw.has;rw[decide_eq_false (by omega),jo]
theorem c0z (h:Can (r::l)) (h':Can (s::m)) (q:∀ t,val (r::l) t=val (s::m) t):¬ r.b<s.b:=λc=>by
 have d:=q r.b;rw[a0L,b1O (h.1 r (.head _)),if_pos rfl,a5T]at d
 ·grind
 ·intro x a;refine b3A ?_;rcases ft.mp a with rfl | a
  ·omega
  ·have:=(((fG.mp h'.2).1 x a).lt).b (h'.1 s (.head _))
   omega
theorem b7H (h:Can (r::l)) (hb:r.b=s.b) (hw:r.w=s.w) (q:∀ t,val (r::l) t=val (s::m) t) (he:r.e=some e):bef e s.e=false:=by
 cases hc:bef e s.e with
 | false=>rfl
 | true=>
  exfalso;have g:bef r.b r.e=true:=h.1 r (.head _)
  rw[he]at g;simp only[bef,decide_eq_true_eq]at g;have c:=q e;have i:s.has e=true:=by unfold Rw.has;rw[hc,decide_eq_true (show s.b<=e by omega)];rfl
  have k:r.has e=false:=by unfold Rw.has;rw[he];simp[bef]
  rw[a0L,a0L,i,k,if_pos rfl,if_neg (by simp)]at c;obtain⟨x,n,a,d⟩:=b5g c;obtain⟨u,f,p,j⟩:=(fG.mp h.2).1 x n;rw[he]at f;cases f;have o:x.b<=e:=by unfold Rw.has at a;simp at a;exact a.1
  exact j (by omega) (by simp_all)
theorem b6f:∀ {l m:List Rw},Can l->Can m->(∀ t,val l t=val m t)->l=m
 | [],[],_,_,_=>rfl
 | [],s::m,_,h',q=>by
  have:=q s.b
  rw[a21,a0L,b1O (h'.1 s (.head _)),if_pos rfl]at this;cases this
 | r::l,[],h,_,q=>by
  have:=q r.b
  rw[a21,a0L,b1O (h.1 r (.head _)),if_pos rfl]at this;cases this
 | r::l,s::m,h,h',q=>by
  have a:r.b=s.b:=by
   have f:=c0z h h' q;have g:=c0z h' h λt=>(q t).symm;omega
  have c:r.w=s.w:=by
   have f:=q r.b;have g:s.has r.b=true:=by rw[a];exact b1O (h'.1 s (.head _))
   rw[a0L,a0L,b1O (h.1 r (.head _)),g,if_pos rfl,if_pos rfl]at f;exact fQ.inj f
  have i:r.e=s.e:=by
   cases e1:r.e with
   | none=>
    cases e2:s.e with
    | none=>rfl
    | some e=>
     have:=b7H h' a.symm c.symm (λt=>(q t).symm) e2
     rw[e1]at this;cases this
   | some e=>
    have:=b7H h a c q e1
    cases e2:s.e with
    | none=>rw[e2]at this;cases this
    | some e'=>
     have k:=b7H h' a.symm c.symm (λt=>(q t).symm) e2;rw[e1]at k;rw[e2]at this;simp only[bef,decide_eq_false_iff_not]at this k
     congr 1
     omega
  have j:r=s:=by
   obtain⟨_,_,_⟩:=r;simp only at a c i;rw[a,c,i]
  subst j
  congr 1
  refine b6f h.tail h'.tail λt=>?_;cases ht:r.has t with
  | true=>
   rw[a5T λx d=>((fG.mp h.2).1 x d).lt.has ht,a5T λx d=>((fG.mp h'.2).1 x d).lt.has ht]
  | false=>
   have:=q t
   rw[a0L,a0L,ht,if_neg (by simp),if_neg (by simp)]at this;exact this
noncomputable def jn (told:List Rw) (p:Rw):List Rw:=match told.getLast? with
 | some l=>if l.e=some p.b/\l.w=p.w then told.dropLast++[⟨l.b,p.e,p.w⟩] else told++[p]
 | none=>told++[p]
noncomputable def join (ps:List Rw):List Rw:=ps.foldl jn []
theorem a4G {α:Type}{l:List α}{x:α}(h:l.getLast?=some x):l=l.dropLast++[x]:=by
 obtain⟨a,rfl⟩:=List.getLast?_eq_some_iff.mp h;simp
theorem c2p (h:Can told) (g:p.good) (hlt:∀ r∈told,Lt r p):Can (jn told p)/\(∀ t,val (jn told p) t=(val told t).or (val [p] t))/\(∀ x,(∀ r∈told,Lt r x)->Lt p x->∀ r∈jn told p,Lt r x)/\(jn told p).length<=told.length+1/\∀ r∈jn told p,r.w=p.w\/∃ r'∈told,r.w=r'.w:=by
 unfold jn;cases hl:told.getLast? with
 | none=>
  have:told=[]:=j6.mp hl
  subst this;exact⟨⟨λr a=>by simp at a;rw[a];exact g,by simp⟩,λt=>by simp[a21],λx _ f r a=>by simp at a;rw[a];exact f,by simp,λr a=>by simp at a;rw[a];exact .inl rfl⟩
 | some l=>
  have d:=a4G hl;generalize told.dropLast=init at d;subst d;have i:l∈init++[l]:=by simp
  have k:=fE.mp h.2;dsimp only
  split
  ·next hc=>
   obtain⟨n,o⟩:=hc;have D:l.b<p.b:=by
    have:bef l.b l.e=true:=h.1 l i
    rw[n]at this;simpa[bef]using this
   have v:(⟨l.b,p.e,p.w⟩:Rw).good:=by
    show bef l.b p.e=true
    have:bef p.b p.e=true:=g
    cases hpe:p.e with
    | none=>rfl
    | some e=>
     rw[hpe]at this;simp only[bef,decide_eq_true_eq]at this ⊢;omega
   refine⟨⟨λr a=>?_,?_⟩,λt=>?_,λx m f r a=>?_,by simp,λr a=>?_⟩
   ·rcases fg.mp a with a | a
    ·exact h.1 r (by simp[a])
    ·rw[fi.mp a];exact v
   ·refine fE.mpr ⟨k.1,by simp,λr a s d=>?_⟩;rw[fi.mp d];obtain⟨e,c,j,A⟩:=k.2.2 r a l (by simp);exact⟨e,c,j,λz=>by rw[<- o];exact A z⟩
   ·rw[a1J,a1J];cases val init t with
    | some w=>rfl
    | none=>
     have y:(⟨l.b,p.e,p.w⟩:Rw).has t=(l.has t||p.has t):=by
      unfold Rw.has;rw[n]
      have:bef p.b p.e=true:=g
      cases hpe:p.e with
      | none=>
       simp only[bef,i9]
       by_cases c1:l.b<=t<;>by_cases c2:t<p.b<;>by_cases c3:p.b<=t<;>simp[c1,c2,c3]<;>omega
      | some e=>
       rw[hpe]at this;simp only[bef,decide_eq_true_eq]at this ⊢
       by_cases c1:l.b<=t<;>by_cases c2:t<p.b<;>by_cases c3:p.b<=t<;>by_cases c4:t<e<;>simp[c1,c2,c3,c4]<;>omega
     simp only[a0L,a21,y,o,Option.none_or];cases l.has t<;>cases p.has t<;>simp
   ·rcases fg.mp a with a | a
    ·exact m r (by simp[a])
    ·rw[fi.mp a];obtain⟨e,c,j⟩:=f;exact⟨e,c,j⟩
   ·rcases fg.mp a with a | a
    ·exact .inr ⟨r,by simp[a],rfl⟩
    ·rw[fi.mp a];exact .inl rfl
  ·next hc=>
   refine⟨⟨λr a=>?_,?_⟩,λt=>a1J,λx m f r a=>?_,by simp,λr a=>?_⟩
   ·rcases fg.mp a with a | a
    ·exact h.1 r a
    ·rw[fi.mp a];exact g
   ·refine fE.mpr ⟨h.2,by simp,λr a s d=>?_⟩;rw[fi.mp d];obtain⟨e,c,j⟩:=hlt r a;refine⟨e,c,j,λz u=>?_⟩;rcases fg.mp a with hr' | hr'
    ·obtain⟨C,q,B,_⟩:=k.2.2 r hr' l (by simp);rw[c]at q;cases q
     have:=(hlt l i).b (h.1 l i)
     omega
    ·simp_all
   ·rcases fg.mp a with a | a
    ·exact m r a
    ·rw[fi.mp a];exact f
   ·rcases fg.mp a with a | a
    ·exact .inr ⟨r,a,rfl⟩
    ·rw[fi.mp a];exact .inl rfl
theorem b3B:∀ (ps told:List Rw),Can told->Rise ps->(∀ r∈told,∀ p∈ps,Lt r p)->Can (ps.foldl jn told)/\(∀ t,val (ps.foldl jn told) t=(val told t).or (val ps t))/\(ps.foldl jn told).length<=told.length+ps.length/\∀ r∈ps.foldl jn told,∃ r'∈told++ps,r.w=r'.w
 | [],told,h,_,_=>⟨h,λt=>by simp[a21],by simp,λr f=>⟨r,by simpa using f,rfl⟩⟩
 | p::ps,told,h,f,hlt=>by
  have l:=fG.mp f.2;have a:=c2p h (f.1 p (.head _)) λr q=>hlt r q p (.head _);have b:=b3B ps _ a.1 f.tail λr q x j=>a.2.2.1 x (λg k=>hlt g k x (.tail _ j)) (l.1 x j) r q;refine⟨b.1,λt=>?_,?_,λr i=>?_⟩
  ·show val (ps.foldl jn _) t=_
   rw[b.2.1 t,a.2.1 t,show p::ps=[p]++ps from rfl,a1J,Option.or_assoc]
  ·grind
  ·obtain⟨g,c,d⟩:=b.2.2.2 r i;rcases fg.mp c with c | c
   ·rcases a.2.2.2.2 g c with e | ⟨r2,e1,e2⟩
    ·exact⟨p,by simp,d.trans e⟩
    ·grind
   ·exact⟨g,by simp[c],d⟩
theorem b7I (h:Rise ps):Can (join ps)/\(∀ t,val (join ps) t=val ps t)/\(join ps).length<=ps.length/\∀ r∈join ps,∃ r'∈ps,r.w=r'.w:=by
 have:=b3B ps [] .nil h λr a=>by simp at a
 unfold join;exact⟨this.1,λt=>by rw[this.2.1 t];rfl,by simpa using this.2.2.1,by simpa using this.2.2.2⟩
noncomputable def emin:Option Int->Option Int->Option Int
 | none,o=>o
 | some e,none=>some e
 | some e,some o=>some (if o<e then o else e)
def a3L (m:Option Int) (r:Rw):Option Rw:=if bef r.b m=true then some ⟨r.b,emin r.e m,r.w⟩ else none
noncomputable def ahead (m:Option Int) (l:List Rw):List Rw:=l.filterMap (a3L m)
def a8f (m:Int) (r:Rw):Option Rw:=if bef m r.e=true then some ⟨if m > r.b then m else r.b,r.e,r.w⟩ else none
noncomputable def fromOn (m:Int) (l:List Rw):List Rw:=l.filterMap (a8f m)
theorem b3C (h1:∀ r r',f r=some r'->r'.has t=(r.has t&&c)/\r'.w=r.w) (h2:∀ r,f r=none->(r.has t&&c)=false):∀ l:List Rw,val (l.filterMap f) t=if c=true then val l t else none
 | []=>by simp[a21]
 | r::l=>by
  have a:=b3C h1 h2 l;rw[gy];cases hf:f r with
  | none=>
   have:=h2 r hf
   rw[a,a0L];cases c with
   | true=>rw[i9]at this;rw[this];rfl
   | false=>rfl
  | some r'=>
   obtain⟨d,b⟩:=h1 r r' hf;rw[a0L,a,d,b,a0L];cases c<;>cases r.has t<;>rfl
theorem b0U:bef t (emin x y)=(bef t x&&bef t y):=by
 cases x with
 | none=>cases y<;>simp[bef,emin]
 | some a=>
  cases y with
  | none=>simp[bef,emin]
  | some b=>
   simp only[bef,emin];rw[<- Bool.decide_and];apply a1b;rw[eq_iff_iff]
   split<;>omega
theorem a9i (m:Option Int) (l:List Rw) (t:Int):val (ahead m l) t=if bef t m=true then val l t else none:=by
 refine b3C (λr a h=>?_) (λr h=>?_) l
 ·unfold a3L at h
  split at h
  ·cases h;refine⟨?_,rfl⟩;unfold Rw.has;simp only[b0U,Bool.and_assoc]
  ·cases h
 ·unfold a3L at h
  split at h
  ·cases h
  ·next hc=>
   unfold Rw.has;cases m with
   | none=>exact absurd rfl hc
   | some m=>
    simp only[bef,decide_eq_true_eq]at hc ⊢
    by_cases c1:r.b<=t
    ·rw[decide_eq_false (show ¬ t<m by omega),gL]
    ·rw[decide_eq_false c1];rfl
theorem b5h (m:Int) (l:List Rw) (t:Int):val (fromOn m l) t=if m<=t then val l t else none:=by
 have:(if m<=t then val l t else none)=if decide (m<=t)=true then val l t else none:=by simp
 rw[this];refine b3C (λr a h=>?_) (λr h=>?_) l
 ·unfold a8f at h
  split at h
  ·cases h;unfold Rw.has
   have:decide ((if m > r.b then m else r.b)<=t)=(decide (r.b<=t)&&decide (m<=t)):=by grind
   rw[this];cases decide (r.b<=t)<;>cases decide (m<=t)<;>simp
  ·cases h
 ·unfold a8f at h
  split at h
  ·cases h
  ·next hc=>
   unfold Rw.has;cases he:r.e with
   | none=>rw[he]at hc;exact absurd rfl hc
   | some e=>
    rw[he]at hc;simp only[bef]at hc ⊢
    by_cases c1:m<=t
    ·grind
    ·simp_all
theorem a4H (h:x∈ahead m l):∃ r∈l,bef r.b m=true/\x=⟨r.b,emin r.e m,r.w⟩:=by
 obtain⟨r,d,a⟩:=h9.mp h;unfold a3L at a
 split at a
 ·next c=>cases a;exact⟨r,d,c,rfl⟩
 ·cases a
theorem a5U (h:x∈fromOn m l):∃ r∈l,bef m r.e=true/\x=⟨if m > r.b then m else r.b,r.e,r.w⟩:=by
 obtain⟨r,d,a⟩:=h9.mp h;unfold a8f at a
 split at a
 ·next c=>cases a;exact⟨r,d,c,rfl⟩
 ·cases a
theorem b7J (hf:∀ r s r' s',R r s->f r=some r'->f s=some s'->R r' s'):∀ {l:List Rw},l.Pairwise R->(l.filterMap f).Pairwise R
 | [],_=>by simp
 | r::l,h=>by
  have b:=fG.mp h;have c:=b7J hf b.2;rw[gy];cases e:f r with
  | none=>exact c
  | some r'=>
   refine fG.mpr ⟨λs i=>?_,c⟩;obtain⟨a,d,g⟩:=h9.mp i;exact hf r a r' s (b.1 a d) e g
theorem b7K {x:Int}{m:Option Int}:∃ e,emin (some x) m=some e/\e<=x:=by
 cases m with
 | none=>exact⟨x,rfl,fU _⟩
 | some o=>
  refine⟨_,rfl,?_⟩
  split<;>omega
theorem b1P (m:Option Int) (h:Rise l):Rise (ahead m l):=by
 refine⟨λx j=>?_,b7J (λr s t p d a c=>?_) h.2⟩
 ·obtain⟨r,k,i,rfl⟩:=a4H j
  show bef r.b _=true
  rw[b0U,i,i9];exact h.1 r k
 ·unfold a3L at a c
  split at a
  ·split at c
   ·cases a;cases c;obtain⟨e,g,o⟩:=d;obtain⟨f,n,q⟩:=@b7K e m;exact⟨f,by rw[<- n,<- g],by show f<=s.b;omega⟩
   ·grind
  ·grind
theorem b3D (m:Int) (h:Rise l):Rise (fromOn m l):=by
 refine⟨λx j=>?_,b7J (λr s n k d a c=>?_) h.2⟩
 ·obtain⟨r,f,g,rfl⟩:=a5U j
  split
  ·exact g
  ·exact h.1 r f
 ·unfold a8f at a c
  split at a
  ·split at c
   ·cases a;cases c;obtain⟨e,i,o⟩:=d;exact⟨e,i,by show e<=(if m > s.b then m else s.b);split<;>omega⟩
   ·grind
  ·grind
theorem a9j (m:Option Int) (l:List Rw):(ahead m l).length<=l.length:=iA _ _
theorem b5i (m:Int) (l:List Rw):(fromOn m l).length<=l.length:=iA _ _
theorem b0V (hbe:b<=e):∀ {l:List Rw},Rise l->(ahead (some b) l).length+(fromOn e l).length<=l.length+1
 | [],_=>by simp[ahead,fromOn]
 | r::l,h=>by
  have i:=b0V hbe h.tail;have d:=(fG.mp h.2).1;have c:(ahead (some b) (r::l)).length=(if bef r.b (some b)=true then 1 else 0)+(ahead (some b) l).length:=by
   unfold ahead;unfold a3L
   split
   ·grind
   ·grind
  have a:(fromOn e (r::l)).length=(if bef e r.e=true then 1 else 0)+(fromOn e l).length:=by
   unfold fromOn;unfold a8f
   split
   ·grind
   ·grind
  rw[c,a,fk]
  by_cases c1:bef r.b (some b)=true
  ·by_cases c2:bef e r.e=true
   ·have:ahead (some b) l=[]:=by
     unfold ahead;rw[List.filterMap_eq_nil_iff];intro s g;unfold a3L;obtain⟨j,f,k⟩:=d s g;rw[f]at c2;simp only[bef,decide_eq_true_eq]at c1 c2 ⊢;rw[if_neg (by omega)]
    have:=b5i e l
    simp_all;omega
   ·grind
  ·rw[if_neg c1];split<;>omega
def a3a (l:List Rw) (b:Int) (e:Option Int) (w:Option (List Z)):List Rw:=
 ahead (some b) l++(match w with | some w=>[⟨b,e,w⟩] | none=>[])++(match e with | some e=>fromOn e l | none=>[])
theorem a9k {l:List Rw}{b:Int}{e:Option Int}{w:Option (List Z)}(h:Rise l) (g:bef b e=true):Rise (a3a l b e w)/\(∀ t,val (a3a l b e w) t=if (decide (b<=t)&&bef t e)=true then w else val l t)/\(a3a l b e w).length<=l.length+2:=by
 have hA:=b1P (some b) h;have eA:∀ r∈ahead (some b) l,∃ x,r.e=some x/\x<=b:=λr hr=>by
  obtain⟨r0,_,_,rfl⟩:=a4H hr
  show ∃ x,emin r0.e (some b)=some x/\x<=b
  cases r0.e with
  | none=>exact⟨b,rfl,fU _⟩
  | some x=>refine⟨_,rfl,?_⟩;split<;>omega
 have hM:Rise (match w with | some w=>[(⟨b,e,w⟩:Rw)] | none=>[]):=by
  cases w with
  | none=>exact .nil
  | some w=>exact⟨λr hr=>by rw[fi.mp hr];exact g,by simp⟩
 have mM:∀ r∈(match w with | some w=>[(⟨b,e,w⟩:Rw)] | none=>[]),r.b=b/\r.e=e:=λr hr=>by
  cases w with
  | none=>simp at hr
  | some w=>rw[fi.mp hr];exact⟨rfl,rfl⟩
 have vM:∀ t,val (match w with | some w=>[(⟨b,e,w⟩:Rw)] | none=>[]) t=if (decide (b<=t)&&bef t e)=true then w else none:=λt=>by
  cases w with
  | none=>simp[a21]
  | some w=>rw[a0L,a21];rfl
 have app:∀ {A B:List Rw},Rise A->Rise B->(∀ r∈A,∀ s∈B,Lt r s)->Rise (A++B):=λha hb hab=>⟨λr hr=>(fg.mp hr).elim (ha.1 r) (hb.1 r),fE.mpr ⟨ha.2,hb.2,hab⟩⟩;unfold a3a;cases e with
 | none=>
  dsimp only;rw[fK];refine⟨app hA hM λr hr s hs=>?_,λt=>?_,?_⟩
  ·obtain⟨x,a1,a2⟩:=eA r hr;exact⟨x,a1,by rw[(mM s hs).1];exact a2⟩
  ·rw[a1J,a9i,vM];simp only[bef,i9,decide_eq_true_eq]
   by_cases c:b<=t
   ·rw[if_neg (by omega),if_pos c,if_pos c];rfl
   ·rw[if_pos (by omega),if_neg c,if_neg c];simp
  ·rw[fu]
   have:=a9j (some b) l
   cases w<;>simp<;>omega
 | some e=>
  have hbe:b<e:=by simpa[bef]using g
  have hF:=b3D e h;have bF:∀ s∈fromOn e l,e<=s.b:=λs hs=>by
   obtain⟨r0,_,_,rfl⟩:=a5U hs
   show e<=(if e > r0.b then e else r0.b)
   split<;>omega
  dsimp only;refine⟨app (app hA hM λr hr s hs=>?_) hF λr hr s hs=>?_,λt=>?_,?_⟩
  ·obtain⟨x,a1,a2⟩:=eA r hr;exact⟨x,a1,by rw[(mM s hs).1];exact a2⟩
  ·have hs':=bF s hs;rcases fg.mp hr with hr | hr
   ·obtain⟨x,a1,a2⟩:=eA r hr;exact⟨x,a1,by omega⟩
   ·exact⟨e,(mM r hr).2,hs'⟩
  ·rw[a1J,a1J,a9i,vM,b5h];simp only[bef,gr,decide_eq_true_eq]
   by_cases c1:b<=t
   ·by_cases c2:t<e
    ·rw[if_neg (by omega),if_pos ⟨c1,c2⟩,if_neg (by omega),if_pos ⟨c1,c2⟩];simp
    ·rw[if_neg (by omega),if_neg (by omega),if_pos (by omega),if_neg (by omega)];rfl
   ·rw[if_pos (by omega),if_neg (by omega),if_neg (by omega),if_neg (by omega)];simp
  ·rw[fu,fu]
   have:=b0V (b:=b) (e:=e) (by omega) h
   cases w<;>simp<;>omega
noncomputable def a1z (puts:List Rw) (t:Int):Z:=match puts.reverse.find? (·.has t) with
 | some r=>r.w.headD .non
 | none=>.non
noncomputable def optW (z:Z):Option (List Z):=if z=.non then none else some [z]
theorem a6y (puts:List Rw) (p:Rw) (t:Int):a1z (puts++[p]) t=if p.has t=true then p.w.headD .non else a1z puts t:=by
 unfold a1z;rw[gT,ib,List.reverse_nil,g7,i6,gM];cases p.has t<;>rfl
def a9l (l:List Rw) (b:Int) (e:Option Int) (w:Option (List Z)):List Rw:=join (a3a l b e w)
theorem b5j {l:List Rw}{b:Int}{e:Option Int}{w:Option (List Z)}(h:Rise l) (g:bef b e=true):Can (a9l l b e w)/\(∀ t,val (a9l l b e w) t=if (decide (b<=t)&&bef t e)=true then w else val l t)/\(a9l l b e w).length<=l.length+2:=by
 have a:=a9k (w:=w) h g;have j:=b7I a.1;exact⟨j.1,λt=>by rw[<- a.2.1 t];exact j.2.1 t,fx j.2.2.1 a.2.2⟩
def okW (w:List Z):Prop:=w≠[]/\w.length<=4/\w.all (flat 4)=true
def OkR (l:List Rw):Prop:=∀ r∈l,okW r.w
theorem a2B:∀ {n m:Nat}{z:Z},n<=m->flat n z=true->flat m z=true:=by
 intro n
 induction n with
 | zero=>intro m z _ h;cases z<;>first | (simp[flat]at h;done) | (cases m<;>simp_all[flat])
 | succ n ih=>
  intro m z b h;cases m with
  | zero=>omega
  | succ m=>
   cases z with
   | tup ws=>
    simp only[flat,gv]at h ⊢;exact λx a=>ih (by omega) (h x a)
   | _=>first | (simp[flat];done) | (simp[flat]at h;done) | (simp only[flat]at h ⊢;exact h)
theorem b5k {ws:List Z}(hm:n<=m) (h:ws.all (flat n)=true):ws.all (flat m)=true:=by
 rw[gv]at h ⊢;exact λx a=>a2B hm (h x a)
theorem a94:flat n (oz e)=true:=by
 cases e<;>cases n<;>rfl
theorem a5V:flat n (.int i)=true:=by cases n<;>rfl
theorem b5l:flat n .non=true:=by cases n<;>rfl
theorem b5m {r:Rw}(h:okW r.w):flat 5 r.z=true:=by
 show ((Z.int r.b::oz r.e::r.w).all _)=true
 rw[gH,gH,a5V,a94,h.2.2];rfl
theorem a4I (h:OkR l):(l.map Rw.z).all (flat 8)=true:=by
 rw[gv];intro x b;obtain⟨r,a,rfl⟩:=fq.mp b;exact a2B (by simp) (b5m (h r a))
noncomputable def wz:Option (List Z)->Z
 | none=>.non
 | some w=>w.headD .non
theorem c2q (h:R (.bl (!e.isSome)) G):zIs false (oz e) .non G R:=by
 cases e with
 | none=>exact b7c h
 | some e=>exact b7c h
theorem c0A (h:R (.bl (decide (e=some b))) G):zEq id (oz e) (.int b) G R:=by
 cases e with
 | none=>
  refine (⟨b5l,a5V,?_⟩)
  have:decide (Z.non=Z.int b)=decide (none=some b):=by simp
  exact h
 | some e=>
  refine b9G ?_
  have:decide (e=b)=decide (some e=some b):=a1b (by simp)
  rw[this];exact h
theorem c2r (h1:flat 8 (.tup xs)=true) (h2:flat 8 (.tup ys)=true) (h:R (.bl (f (decide (xs=ys)))) G):zEq f (.tup xs) (.tup ys) G R:=by
 refine (⟨h1,h2,?_⟩);rw[a1b (Z.tup.injEq _ _)];exact h
def a1Y:P3:=λws G R=>∃ x y,ws=[oz x,oz y]/\R (oz (emin x y)) G
theorem a5l (h:a1Y ws G R):ws.length=2:=by obtain⟨_,_,rfl,_⟩:=h;rfl
theorem a5J (F:Fns K a) (T:Txt K mg a):FnOk P w K mg base CX0 1 a.f3 a.d3 ["end","other"] (lowP K a1Y):=by
 refine fn3 F.n3 a5D (λd G R h=>(by exact a5l h)) (λe A b s H E d G R c h=>?_);have f:=a0Y c;refine⟨_,(a0k (z_if (a0r o_is (a0c (pv 0)) a1y (a0p _))
  (a0n (a0D (a0c (pv 1))))
  a1a)
  (a0k (z_if (a0r o_is (a0c (pv 1)) a1y (a0p _))
  (a0n (a0D (a0c (pv 0))))
  a1a)
  (a0n (a0D (a0t (b_min rfl) rfl T.b_min rfl (a0b (a0c (pv 0)) (a0b (a0c (pv 1)) a0f a0a) a0a)))))),?_⟩
 obtain⟨x,y,rfl,q⟩:=h;cases x with
 | none=>
  symm;cases y<;>exact q
 | some x=>
  cases y with
  | none=>
   symm;exact q
  | some y=>
   symm;exact q
noncomputable def over (r:Rw) (m:Int):Bool:=match r.e with
 | none=>false
 | some e=>decide (e<=m)
def a5x:P3:=λws G R=>∃ r m,ws=[Rw.z r,.int m]/\R (.bl (over r m)) G
theorem a8g (h:a5x ws G R):ws.length=2:=by obtain⟨_,_,rfl,_⟩:=h;rfl
theorem a9m (F:Fns K a) (T:Txt K mg a):FnOk P w K mg base CX0 1 a.f8 a.d8 ["stretch","moment"] (lowP K a5x):=by
 refine fn3 F.n8 a9c (λd G R h=>(by exact a8g h)) (λg A c s H E d G R f h=>?_);refine⟨_,(a0n (a0D (a58 (a4p a7W (q_ix x_ix (a0c (pv 0)) a0g (λ_ _=>rfl)) a1y (a0p _)) (a9D (a4p o_le (q_ix x_ix (a0c (pv 0)) a0g (λ_ _=>rfl)) (a0c (pv 1)) (a0p _)))))),?_⟩;obtain⟨⟨b,e,w⟩,m,rfl,q⟩:=h;cases e with
 | none=>
  symm;exact a4q at1 (by symm;exact q)
 | some e=>
  symm;refine a4q at1 ?_;symm;refine a4q at1 ?_;symm;exact q
theorem a95 {α β:Type}{l:List α}{g:α->Z}{g':β->Z}(f:α->Option β) (hok:∀ ys,ok (put G1 D (.lst ys))) (hz:l.length<=1000)
  (turn:∀ x,x∈l->∀ (ys:List Z) (K1:K3) (K2:Hq->Prop),(∀ y,f x=some y->K1 (g' y) (put G1 D (.lst ys)))->(f x=none->K2 (put G1 D (.lst ys)))->∃ σ',a59 pt (g x) (cap3 cap σ)=some σ'/\tt σ' (put G1 D (.lst ys)) λb G4=>if b=true then te σ' G4 K1 else K2 G4)
  (fin:R (.ref D) (put G1 D (.lst ((l.filterMap f).map g')))):LCB (l.map g) ok cap pt tt te σ R D G1:=by
 refine b1u (λi c G=>c=((l.take i).filterMap f).map g'/\G=put G1 D (.lst c)) ⟨by simp,rfl⟩ ?_ ?_ ?_
 ·simp_all
 ·rintro i x c G d ⟨e,rfl⟩;rw[fm]at d;cases hx':l[i]? with
  | none=>rw[hx']at d;cases d
  | some a=>
   rw[hx']at d;cases d;refine turn a (fA hx') c _ _ (λy j=>⟨a0d,?_,?_,?_⟩) λh=>⟨?_,rfl⟩
   ·rw[e,fc];exact iw (fx (iA _ _) (by rw[fC];omega)) (a0u (ff 1000))
   ·rw[a1o hx',j,e,fv];rfl
   ·rw[a2a]
   ·rw[a1o hx',h,e];simp
 ·simp_all
def One (l:List Rw):Prop:=∀ r∈l,∃ x,r.w=[x]
noncomputable def a22:P3:=λws G R=>∃ p l m,ws=[.ref p,oz m]/\G p=some (.lst (l.map Rw.z))/\One l/\l.length<=1000/\∀ t,G t=none->R (.ref t) (put G t (.lst ((ahead m l).map Rw.z)))
theorem a60 (h:a22 ws G R):ws.length=2:=by obtain⟨_,_,_,rfl,_⟩:=h;rfl
theorem a8h (F:Fns K a) (T:Txt K mg a):FnOk P w K mg base CX0 2 a.f11 a.d11 ["line","moment"] (lowP K a22):=by
 have d:FnOk P w K mg base CX0 1 a.f3 a.d3 ["end","other"] (lowP K a1Y):=a5J F T;refine fn3 F.n11 a8b (λu G R h=>(by exact a60 h)) (λB A n s H E u G R f h=>?_);have I:=a0Y f;refine⟨_,(a0n (a0D (q_lc (N₀:=["line","moment"]) (so:=a0h a2o) (cap:=[none,none,none,some 1]) (pt:=(.tp [0,1,2])) rfl rfl rfl (by decide +kernel) rfl (a0R (a0c (pv 0))) (λ_ _ _ _=>(show QP _ _ (.tp [0,1,2]) from (a4l rfl (a0s (a0o (i:=0) b1I rfl (fb rfl)) (a0s (a0o (i:=1) b1I rfl (fb rfl)) (a0s (a0o (i:=2) b1I rfl (fb rfl)) a2H)))))) (λ_ _ _ _=>(a30 (QW.qt (q_or (a0r o_is (a0c (pv 3)) a1y (a0p _)) (a44 (a0r o_lt (a0c (pv 0)) (a0c (pv 3)) (a0p _))))))) (λ_ _ _ _=>(a1g (a0b (a0c (pv 0)) (a0b (a0q d (f.mono (by decide)) rfl T.m3 F.n3.kp (a5H F) (a0b (a0c (pv 1)) (a0b (a0c (pv 3)) a0f a0a) a0a) (he:=a0a)) (a0b (a0c (pv 2)) a0f a0a) a0C) a0a)))))),?_⟩;obtain⟨p,l,m,rfl,j,y,z,q⟩:=h;symm;refine a2l j ?_;intro D k;refine a95 (a3L m) (λv=>a0l j k) z ?_ (q D k);intro r f v J C g o;obtain⟨x,t⟩:=y r f;obtain⟨b,e,w⟩:=r;cases t;refine⟨_,rfl,?_⟩;cases m with
 | none=>
  symm;refine⟨e,none,rfl,?_⟩;symm;refine⟨lenK rfl,?_⟩;exact g _ rfl
 | some m=>
  symm;refine ifD (λc=>?_) λc=>?_
  ·symm;refine⟨e,some m,rfl,?_⟩;symm;refine⟨lenK rfl,?_⟩;refine g ⟨b,emin e (some m),[x]⟩ ?_;unfold a3L;rw[if_pos (by simpa[bef]using c)]
  ·refine o ?_;unfold a3L;rw[if_neg (by simpa[bef]using c)]
def a3p:P3:=λws G R=>∃ p l m,ws=[.ref p,.int m]/\G p=some (.lst (l.map Rw.z))/\One l/\l.length<=1000/\∀ t,G t=none->R (.ref t) (put G t (.lst ((fromOn m l).map Rw.z)))
theorem a8i (h:a3p ws G R):ws.length=2:=by obtain⟨_,_,_,rfl,_⟩:=h;rfl
theorem a9n (F:Fns K a) (T:Txt K mg a):FnOk P w K mg base CX0 1 a.f13 a.d13 ["line","moment"] (lowP K a3p):=by
 refine fn3 F.n13 a9d (λws G R h=>(by exact a8i h)) (λcdv A outer s H E ws G R hr h=>?_);have hu:=a0Y hr;refine⟨_,(a0n (a0D (q_lc (N₀:=["line","moment"]) (so:=a0h a2W) (N':=["begin","end","worth","moment"]) (cap:=[none,none,none,some 1]) (pt:=(.tp [0,1,2])) rfl rfl rfl (by decide +kernel) rfl (a0R (a0c (pv 0))) (λ_ _ _ _=>(show QP _ _ (.tp [0,1,2]) from (a4l rfl (a0s (a0o (i:=0) b1I rfl (fb rfl)) (a0s (a0o (i:=1) b1I rfl (fb rfl)) (a0s (a0o (i:=2) b1I rfl (fb rfl)) a2H)))))) (λ_ _ _ _=>(a30 (QW.qt (q_or (a0r o_is (a0c (pv 1)) a1y (a0p _)) (a44 (a0r o_lt (a0c (pv 3)) (a0c (pv 1)) (a0p _))))))) (λ_ _ _ _=>(a1g (a0b (a0t (b_max rfl) rfl T.b_max rfl (a0b (a0c (pv 0)) (a0b (a0c (pv 3)) a0f a0a) a0a) (he:=a0a) (hpl:=(a0j a0a a0i))) (a0b (a0c (pv 1)) (a0b (a0c (pv 2)) a0f a0a) a0a) a0C)))))),?_⟩;obtain⟨p,l,m,rfl,hp,h1,hz,q⟩:=h;symm;refine a2l hp ?_;intro D hD;refine a95 (a8f m) (λys=>a0l hp hD) hz ?_ (q D hD);intro r hr ys K1 K2 k1 k2;obtain⟨x,hx⟩:=h1 r hr;obtain⟨b,e,w⟩:=r;cases hx;refine⟨_,rfl,?_⟩;cases e with
 | none=>
  symm;refine⟨lenK rfl,?_⟩;exact k1 ⟨if m > b then m else b,none,[x]⟩ rfl
 | some e=>
  symm;refine ifD (λc=>?_) λc=>?_
  ·symm;refine⟨lenK rfl,?_⟩;refine k1 ⟨if m > b then m else b,some e,[x]⟩ ?_;unfold a8f;rw[if_pos (by simpa[bef]using c)]
  ·refine k2 ?_;unfold a8f;rw[if_neg (by simpa[bef]using c)]
theorem a96 (h:0<n):ixN n (-1)=some (n - 1):=by grind [ixN]
theorem a97 {α:Type}{l:List α}{x:α}(h:l.getLast?=some x):atI l (-1)=some x:=by
 have a:l≠[]:=λz=>by subst z;simp at h
 unfold atI;rw[a96 (g9.mpr a)]
 show l[l.length - 1]?=some x
 rw[<- List.getLast?_eq_getElem?];exact h
theorem b0W {α:Type}{l:List α}{x y:α}(h:l.getLast?=some x):l.set (l.length - 1) y=l.dropLast++[y]:=by
 have a:=a4G h;generalize l.dropLast=i at a;subst a;simp
theorem sIx2 {a b:Z}{w:List Z}:HT.sIx (a::b::w).length 0 (some 2)=2:=by
 have:=HT.sIx_nat (a::b::w).length 0 2
 rw[show ((2:Nat):Int)=2 from rfl]at this;rw[this];simp
theorem cut2 {a b:Z}{w:List Z}:cutZ (a::b::w) (some 2) none=w:=by
 unfold cutZ;rw[sIx2,HT.sIx_none];simp
theorem b3E {a b:Z}{w:List Z}:¬ (HT.sIx (a::b::w).length 0 (some 2)=0/\HT.sIx (a::b::w).length (a::b::w).length none=(a::b::w).length):=by
 rw[sIx2];intro h;exact absurd h.1 (by decide)
def a0N:P3:=λws G R=>∃ p ps,ws=[.ref p]/\G p=some (.lst (ps.map Rw.z))/\OkR ps/\ps.length<=1000/\∀ t,G t=none->R (.ref t) (put G t (.lst ((join ps).map Rw.z)))
theorem a23 (h:a0N ws G R):ws.length=1:=by obtain⟨_,_,rfl,_⟩:=h;rfl
theorem b7L {G:Hq}{R:K3}{a b:Z}{w:List Z}(h:R (.tup w) G):zSl (.tup (a::b::w)) (some 2) none G R:=b1v b3E (by rw[cut2];exact h)
theorem b3F {w:List Z}(h:okW w):flat 8 (.tup w)=true:=b5k (n:=4) (m:=7) (by decide) h.2.2
theorem b0X:∀ (ps told:List Rw),OkR told->OkR ps->OkR (ps.foldl jn told)
 | [],_,h,_=>h
 | p::ps,told,h,h'=>by
  refine b0X ps _ (λr a=>?_) λr a=>h' r (.tail _ a);unfold jn at a
  split at a
  ·next l hl=>
   split at a
   ·rcases fg.mp a with a | a
    ·exact h r (jp _ a)
    ·rw[fi.mp a];exact h' p (.head _)
   ·rcases fg.mp a with a | a
    ·exact h r a
    ·rw[fi.mp a];exact h' p (.head _)
  ·rcases fg.mp a with a | a
   ·exact h r a
   ·rw[fi.mp a];exact h' p (.head _)
theorem c0B (told:List Rw) (p:Rw):(jn told p).length<=told.length+1:=by
 unfold jn
 split
 ·split<;>simp
 ·simp
theorem b0Y:∀ (ps told:List Rw),(ps.foldl jn told).length<=told.length+ps.length
 | [],told=>by simp
 | p::ps,told=>by
  have b:=b0Y ps (jn told p);have a:=c0B told p
  show (ps.foldl jn (jn told p)).length<=_
  rw[fk];omega
theorem b3G {ps:List Rw}(h:ps[i]?=some p):(ps.take (i+1)).foldl jn []=jn ((ps.take i).foldl jn []) p:=by
 rw[gG,h];simp
theorem a3i (F:Fns K a) (T:Txt K mg a):FnOk P w K mg base CX0 1 a.f12 a.d12 ["pieces"] (lowP K a0N):=by
 refine fn3 F.n12 sc_p_with_alike_joined (λws G R h=>(by exact a23 h)) (λcdv A outer s H E ws G R hr h=>?_);have hu:=a0Y hr;refine⟨_,(a0k (a0F (i:=1) sc_p_with_alike_joined.nd rfl (fb rfl) (a1p a0f))
  (a0k (a3E (pt:=(.nm 2)) kH.never rfl (a0R (a0c (pv 0))) (show QP _ _ (.nm 2) from (a0o (i:=2) sc_p_with_alike_joined.nd rfl (fb rfl)))
  (a0n (z_if (QW.qt (a5A (b9d (a0c (pv 1)) (λ_=>rfl)) (a5A (a0r (o_eq hu) (q_ix x_ix (q_ix x_ix (a0c (pv 1)) (q_un a2M a0g) (λ_ _=>rfl)) a0g (λ_ _=>rfl)) (q_ix x_ix (a0c (pv 2)) a0g (λ_ _=>rfl)) (a0p _)) (a3H (a0r (o_eq hu) (a09 x_sl (q_ix x_ix (a0c (pv 1)) (q_un a2M a0g) (λ_ _=>rfl)) (a1m a0g) a05) (a09 x_sl (a0c (pv 2)) (a1m a0g) a05) (a0p _))))))
  (a0n (a7k (q_op a1i (a1g (a0b (q_ix x_ix (q_ix x_ix (a0c (pv 1)) (q_un a2M a0g) (λ_ _=>rfl)) a0g (λ_ _=>rfl)) (a0b (q_ix x_ix (a0c (pv 2)) a0g (λ_ _=>rfl)) a0f a0m) a0m)) (a09 x_sl (a0c (pv 2)) (a1m a0g) a05)) (a0c (pv 1)) (q_un a2M a0g) b4N))
  (a0n (a06 (q_bm PySem.F.plainAttrs_list PySem.F.slot_list_append PySem.F.type_list_append a1j (a0c (pv 1)) (a0b (a0c (pv 2)) a0f a0a)))))))
  (a0n (a0D (a0c (pv 1)))))),?_⟩
 obtain⟨p,ps,rfl,hp,hok,hz,q⟩:=h;symm;refine⟨lenK rfl,λt ht=>?_⟩;symm;refine a2l (a0l hp ht) ?_;refine a1n (λi σ G'=>∃ v,σ=[some (.ref p),some (.ref t),v]/\G'=put G t (.lst (((ps.take i).foldl jn []).map Rw.z))) ⟨_,rfl,by simp⟩ (by rintro i σ G' _ ⟨v,_,e⟩;exact by rw[e];exact a0l hp ht) ?_ ?_
 ·rintro i x σ G' hx ⟨v,rfl,rfl⟩;rw[fm]at hx;cases hx':ps[i]? with
  | none=>rw[hx']at hx;cases hx
  | some r=>
   rw[hx']at hx;cases hx;have hr:=hok r (fA hx');have hot:OkR ((ps.take i).foldl jn []):=b0X _ _ (λr hr=>by simp at hr) λr hr=>hok r (gw hr);have hlt:=b0Y (ps.take i) [];rw[fC]at hlt;have hi:=(fj.mp hx').1;rw[b3G hx'];generalize (ps.take i).foldl jn []=told at hot hlt ⊢;simp only[jG]at hlt;refine⟨_,rfl,?_⟩;have app:∀ G',G'=put G t (.lst (told.map Rw.z))->jn told r=told++[r]->a7X (.ref t) [r.z] G' (λ_ G1=>∃ v,([some (.ref p),some (.ref t),some r.z]:S3)=[some (.ref p),some (.ref t),v]/\G1=put G t (.lst ((jn told r).map Rw.z))):=by
    rintro _ rfl e;refine a1k a0d (by rw[fc];exact a0u (by omega)) ⟨_,rfl,?_⟩;rw[a2a,e,fv]
    rfl
   symm;refine b5X a0d ?_;cases hl:told.getLast? with
   | none=>
    have e0:told=[]:=j6.mp hl;subst e0;refine ifF ?_;symm;refine a3m a0d ?_;symm;exact app _ rfl (by unfold jn;rw[hl])
   | some k=>
    have hne:told≠[]:=λz=>by subst z;simp at hl
    have hlm:(told.map Rw.z).getLast?=some k.z:=by rw[List.getLast?_map,hl];rfl
    have he:(told.map Rw.z).isEmpty=false:=by cases told with | nil=>exact absurd rfl hne | cons _ _=>rfl
    have hk:=hot k (List.mem_of_getLast? hl);rw[he];refine ifT ?_;symm;refine a0I a0d (a97 hlm) ?_;symm;refine a4q at1 ?_;symm;refine a4q at0 ?_;refine c0A ?_;symm;refine ifD (λc1=>?_) λc1=>?_
    ·symm;refine a0I a0d (a97 hlm) ?_;symm;refine b7L ?_;symm;refine b7L ?_;refine c2r (b3F hk) (b3F hr) ?_;symm;refine ifD (λc2=>?_) λc2=>?_
     ·symm;refine a0I a0d (a97 hlm) ?_;symm;refine a4q at0 ?_;symm;refine a4q at1 ?_;symm;refine⟨lenK rfl,?_⟩;symm;refine b7L ?_;refine b5Y (by simp) (a1P (by have:=hr.2.1;simp;omega)) ?_;symm;refine b4S a0d (a96 (by rw[fc];exact g9.mpr hne)) ?_;refine⟨_,rfl,?_⟩;rw[a2a,b0W hlm]
      congr 1
      unfold jn;rw[hl];dsimp only;rw[if_pos ⟨c1,c2⟩,fv,List.map_dropLast]
      rfl
     ·symm;refine a3m a0d ?_;symm;exact app _ rfl (by unfold jn;rw[hl];dsimp only;rw[if_neg λz=>c2 z.2])
    ·refine ifF ?_;symm;refine a3m a0d ?_;symm;exact app _ rfl (by unfold jn;rw[hl];dsimp only;rw[if_neg λz=>c1 z.1])
 ·rintro σ G' ⟨v,rfl,rfl⟩;symm;rw[fc,gR];exact q t ht
theorem b5n (h:over r m=true):r.has m=false:=by
 unfold over at h;unfold Rw.has;cases he:r.e with
 | none=>rw[he]at h;cases h
 | some e=>
  rw[he]at h;simp at h;simp only[bef];rw[decide_eq_false (show ¬ m<e by omega),gL]
theorem b3H (h:m<=m') (o:over r m=true):over r m'=true:=by
 unfold over at o ⊢;cases he:r.e with
 | none=>rw[he]at o;cases o
 | some e=>rw[he]at o;simp at o ⊢;omega
theorem b0Z:∀ {l:List Rw}{m:Int}{k:Nat},(∀ (i:Nat) r,i<k->l[i]?=some r->over r m=true)->val l m=val (l.drop k) m
 | l,m,0,_=>rfl
 | [],m,k+1,_=>rfl
 | r::l,m,k+1,h=>by
  rw[a0L,b5n (h 0 r (by simp) rfl),if_neg (by simp),List.drop_succ_cons];exact b0Z λi s a e=>h (i+1) s (by omega) (by grind)
theorem b5o (h:Rise (r::l)) (o:over r m=false):val (r::l) m=if r.b<=m then some r.w else none:=by
 rw[a0L];have d:bef m r.e=true:=by
  unfold over at o;cases he:r.e with
  | none=>rfl
  | some e=>rw[he]at o;simp at o;simp only[bef,decide_eq_true_eq];omega
 by_cases c:r.b<=m
 ·have:r.has m=true:=by unfold Rw.has;rw[d,decide_eq_true c];rfl
  rw[this,if_pos rfl,if_pos c]
 ·rw[b3A (by omega),if_neg (by simp),if_neg c];refine a5T λs a=>b3A ?_
  have:=((fG.mp h.2).1 s a).b (h.1 r (.head _))
  omega
theorem Rise.drop (h:Rise l) (k:Nat):Rise (l.drop k):=⟨λr a=>h.1 r (iZ a),h.2.sublist (jN _ _)⟩
theorem drop_get {α:Type}{l:List α}{x:α}(h:l[k]?=some x):l.drop k=x::l.drop (k+1):=by
 obtain⟨b,a⟩:=fj.mp h;rw[iX b,a]
def a3M:P3:=λws G R=>Ex4 λ(p q:Addr) (l:List Rw) (ms:List Int)=>ws=[.ref p,.ref q]/\G p=some (.lst (l.map Rw.z))/\G q=some (.lst (ms.map Z.int))/\Rise l/\OkR l/\l.length<=1000/\ms.Pairwise (·<=·)/\ms.length<=1000 /\
 ∀ t,G t=none->R (.ref t) (put G t (.lst (ms.map λm=>wz (val l m))))
theorem a6z (h:a3M ws G R):ws.length=2:=by obtain⟨_,_,_,_,rfl,_⟩:=h;rfl
theorem a6A {l:List Rw}{k:Nat}(h:l[k]?=some r):atI (l.map Rw.z) (k:Int)=some r.z:=a1A (by simp_all)
theorem take_snoc {α:Type}{l:List α}{x:α}(h:l[i]?=some x):l.take (i+1)=l.take i++[x]:=by rw[gG,h];rfl
theorem a61 (F:Fns K a) (T:Txt K mg a):FnOk P w K mg base CX0 2 a.f9 a.d9 ["line","moments"] (lowP K a3M):=by
 have G_p_is_over:=a9m (P:=P) (w:=w) (base:=base) F T;refine fn3 F.n9 sc_p_worths_in (λws G R h=>(by exact a6z h)) (λcdv A outer s H E ws G R hr h=>?_);have hu:=a0Y hr;refine⟨_,(a0k (a0F (i:=2) sc_p_worths_in.nd rfl (fb rfl) (a1p a0f))
  (a0k (a0F (i:=3) sc_p_worths_in.nd rfl (fb rfl) a0g)
  (a0k (a3E (pt:=(.nm 4)) kH.never rfl (a0R (a0c (pv 1))) (show QP _ _ (.nm 4) from (a0o (i:=4) sc_p_worths_in.nd rfl (fb rfl)))
  (a8E (b61 kH.never (QW.qt (a5A (a0r o_lt (a0c (pv 3)) (a0t b_len rfl T.b_len PySem.boot_len (a0b (a0c (pv 0)) a0f a0a) (he:=a0a) (hpl:=a0i)) (a0p _)) (a3H (a3l (a0q G_p_is_over (hr.mono (by decide)) rfl T.m8 F.n8.kp (a9f F) (a0b (q_ix x_ix (a0c (pv 0)) (a0c (pv 3)) (λ_ _=>rfl)) (a0b (a0c (pv 4)) a0f a0a) a0m) (he:=a0m) (hpl:=(a0j a0a a0i)))))))
  (a0n (b9l (i:=3) sc_p_worths_in.nd rfl (fb rfl) a0g b5T)))
  (a0n (z_if (QW.qt (a5A (a0r o_lt (a0c (pv 3)) (a0t b_len rfl T.b_len PySem.boot_len (a0b (a0c (pv 0)) a0f a0a) (he:=a0a) (hpl:=a0i)) (a0p _)) (a3H (a0r o_le (q_ix x_ix (q_ix x_ix (a0c (pv 0)) (a0c (pv 3)) (λ_ _=>rfl)) a0g (λ_ _=>rfl)) (a0c (pv 4)) (a0p _)))))
  (a0n (a06 (q_bm PySem.F.plainAttrs_list PySem.F.slot_list_append PySem.F.type_list_append a1j (a0c (pv 2)) (a0b (q_ix x_ix (q_ix x_ix (a0c (pv 0)) (a0c (pv 3)) (λ_ _=>rfl)) a0g (λ_ _=>rfl)) a0f a0m))))
  (a0n (a06 (q_bm PySem.F.plainAttrs_list PySem.F.slot_list_append PySem.F.type_list_append a1j (a0c (pv 2)) (a0b a1y a0f a0e))))))))
  (a0n (a0D (a0c (pv 2))))))),?_⟩
 obtain⟨p,q,l,ms,rfl,hp,hq,hr,hok,hz,hm,hmz,fin⟩:=h;symm;refine⟨lenK rfl,λt ht=>?_⟩;symm;refine a2l (a0l hq ht) ?_;refine a1n (λi σ G'=>∃ (k:Nat) (v:Option Z),k<=l.length/\(∀ (j:Nat) r m,j<k->l[j]?=some r->ms[i]?=some m->over r m=true)/\σ=[some (.ref p),some (.ref q),some (.ref t),some (.int k),v]/\G'=put G t (.lst ((ms.take i).map λm=>wz (val l m)))) ⟨0,_,fL _,λj r m hj=>by omega,rfl,by simp⟩ (by rintro i σ G' _ ⟨_,_,_,_,_,e⟩;exact by rw[e];exact a0l hq ht) ?_ ?_
 ·rintro i x σ G' hx ⟨k,v,hk,hov,rfl,rfl⟩;rw[fm]at hx;cases hx':ms[i]? with
  | none=>rw[hx']at hx;cases hx
  | some m=>
   rw[hx']at hx;cases hx;refine⟨_,rfl,?_⟩;symm;have hp':put G t (.lst ((ms.take i).map λm=>wz (val l m))) p=some (.lst (l.map Rw.z)):=a0l hp ht;generalize hG:put G t (.lst ((ms.take i).map λm=>wz (val l m)))=G1 at hp' ⊢;refine a8I (fun σ' G'=>∃ k':Nat,k'<=l.length/\(∀ (j:Nat) r,j<k'->l[j]?=some r->over r m=true)/\(∀ r,l[k']?=some r->over r m=false)/\σ'=[some (.ref p),some (.ref q),some (.ref t),some (.int k'),some (.int m)]/\G1=G') ?_ ?_
   ·refine⟨λn σ' G'=>∃ k':Nat,n+k'=l.length/\(∀ (j:Nat) r,j<k'->l[j]?=some r->over r m=true)/\σ'=[some (.ref p),some (.ref q),some (.ref t),some (.int k'),some (.int m)]/\G1=G',⟨l.length - k,k,by omega,λj r hj e=>hov j r m hj e hx',rfl,rfl⟩,?_⟩;rintro n σ' G' ⟨k',hn,ho,rfl,rfl⟩;symm;refine a2m hp' ?_;symm;refine ifD (λc=>?_) λc=>?_
    ·rw[fc]at c;have hlt:k'<l.length:=by omega
     have hg:=fw hlt;symm;refine a0I hp' (a6A hg) ?_;symm;refine⟨_,_,rfl,?_⟩;symm;refine ifB (λc2=>?_) λc2=>?_
     ·symm;refine⟨n - 1,by omega,k'+1,by omega,λj r hj e=>?_,rfl,rfl⟩
      by_cases hjk:j<k'
      ·exact ho j r hjk e
      ·have:j=k':=by omega
       subst this;rw[hg]at e;cases e;exact c2
     ·exact⟨k',by omega,ho,λr e=>by rw[hg]at e;cases e;exact c2,rfl,rfl⟩
    ·rw[fc]at c;refine ifF ?_;exact⟨k',by omega,ho,λr e=>by have:=(fj.mp e).1;omega,rfl,rfl⟩
   ·rintro σ' G' ⟨k',hk',ho,hn,rfl,rfl⟩;have hv:val l m=val (l.drop k') m:=b0Z ho;have nxt:∀ w:Z,w=wz (val l m)->a7X (.ref t) [w] G1 (λ_ G2=>∃ (k:Nat) (v:Option Z),k<=l.length/\(∀ (j:Nat) r m,j<k->l[j]?=some r->ms[i+1]?=some m->over r m=true)/\([some (.ref p),some (.ref q),some (.ref t),some (.int k'),some (.int m)]:S3)=[some (.ref p),some (.ref q),some (.ref t),some (.int k),v]/\G2=put G t (.lst ((ms.take (i+1)).map λm=>wz (val l m)))):=by
     rintro w rfl;subst hG;have hi:=(fj.mp hx').1;refine a1k a0d (by rw[fc,fC];exact a0u (by omega)) ⟨k',_,hk',λj r m' hj e e'=>b3H ?_ (ho j r hj e),rfl,?_⟩
     ·obtain⟨h1,e1⟩:=fj.mp hx';obtain⟨h2,e2⟩:=fj.mp e';rw[<- e1,<- e2];exact ig.mp hm _ _ h1 h2 (by omega)
     ·rw[a2a,take_snoc hx',fv];rfl
    have ht1:∃ ws,G1 t=some (.lst ws):=by rw[<- hG];exact⟨_,a0d⟩
    obtain⟨wt,ht1⟩:=ht1;symm;refine a2m hp' ?_;symm;refine ifD (λc=>?_) λc=>?_
    ·rw[fc]at c;have hlt:k'<l.length:=by omega
     have hg:=fw hlt;have hv2:=b5o (by rw[<- drop_get hg];exact hr.drop k') (hn _ hg);rw[<- drop_get hg,<- hv]at hv2;symm;refine a0I hp' (a6A hg) ?_;symm;refine a4q at0 ?_;symm;refine ifD (λc2=>?_) λc2=>?_
     ·symm;refine a3m ht1 ?_;symm;refine a0I hp' (a6A hg) ?_;symm;have hw:=hok _ (fS hlt);obtain⟨x,xs,ex⟩:∃ x xs,(l[k']).w=x::xs:=by
       cases e:(l[k']).w with
       | nil=>exact absurd e hw.1
       | cons x xs=>exact⟨x,xs,rfl⟩
      refine a4q (w:=x) (by show atI (_::_::(l[k']).w) 2=some x;rw[ex];exact at2) ?_;symm;refine nxt x ?_;rw[hv2,if_pos c2,ex];rfl
     ·symm;refine a3m ht1 ?_;symm;refine nxt .non ?_;rw[hv2,if_neg c2];rfl
    ·rw[fc]at c;refine ifF ?_;symm;refine a3m ht1 ?_;symm;refine nxt .non ?_;rw[hv,iB (by omega)];rfl
 ·rintro σ G' ⟨k,v,_,_,rfl,rfl⟩;symm;rw[fc,gR];exact fin t ht
def a4J:P3:=λws G R=>∃ p l m,ws=[.ref p,.int m]/\G p=some (.lst (l.map Rw.z))/\Rise l/\OkR l/\l.length<=1000/\∀ G',Sm G G'->R (wz (val l m)) G'
theorem a62 (h:a4J ws G R):ws.length=2:=by obtain⟨_,_,_,rfl,_⟩:=h;rfl
theorem a8j (F:Fns K a) (T:Txt K mg a):FnOk P w K mg base CX0 3 a.f10 a.d10 ["line","moment"] (lowP K a4J):=by
 have b:FnOk P w K mg base CX0 2 a.f9 a.d9 ["line","moments"] _:=a61 F T;refine fn3 F.n10 a8a (λi G R h=>(by exact a62 h)) (λn A f s H E i G R c h=>?_);refine⟨_,(a0n (a0D (q_ix x_ix (a0q b (c.mono (by simp)) rfl T.m9 F.n9.kp (a6W F) (a0b (a0c (pv 0)) (a0b (a1p (a0b (a0c (pv 1)) a0f a0a)) a0f a3Y) a0a)) a0g (λ_ _=>rfl)))),?_⟩;obtain⟨p,l,m,rfl,g,c,d,j,q⟩:=h;symm;refine⟨lenK rfl,λa e=>?_⟩;symm;refine⟨p,a,l,[m],rfl,a0l g e,a0d,c,d,j,by simp,by simp,λt k=>?_⟩;symm;exact a0I a0d at0 (q _ ((Sm.new e).trans (Sm.new k)))
theorem b3I (h:OkR l):OkR (ahead m l):=λx a=>by
 obtain⟨r,b,_,rfl⟩:=a4H a;exact h r b
theorem b5p (h:OkR l):OkR (fromOn m l):=λx a=>by
 obtain⟨r,b,_,rfl⟩:=a5U a;exact h r b
def okV (z:Z):Prop:=flat 4 z=true
theorem c0C (h:okV z):okW [z]:=⟨by simp,by simp,by rw[gH,h];rfl⟩
theorem b1Q (h:OkR l) (hz:okV z):OkR (a3a l b e (optW z)):=by
 intro r a;rcases fg.mp a with a | a
 ·rcases fg.mp a with a | a
  ·exact b3I h r a
  ·unfold optW at a
   split at a
   ·next w e=>
          split at e
          ·cases e
          ·cases e;rw[fi.mp a];exact c0C hz
   ·simp_all
 ·cases e with
  | none=>simp at a
  | some e=>exact b5p h r a
def a6B:P3:=λws G R=>Ex5 λp l b e z=>ws=[.ref p,.int b,oz e,z]/\G p=some (.lst (l.map Rw.z))/\Rise l/\OkR l/\One l/\l.length<=900/\bef b e=true/\okV z /\
 ∀ t G',G t=none->Sm G G'->G' t=some (.lst ((a9l l b e (optW z)).map Rw.z))->R (.ref t) G'
theorem a9o (h:a6B ws G R):ws.length=4:=by obtain⟨_,_,_,_,_,rfl,_⟩:=h;rfl
theorem a98 (F:Fns K a) (T:Txt K mg a):FnOk P w K mg base CX0 3 a.f14 a.d14 ["line","begin","end","worth"] (lowP K a6B):=by
 have j:FnOk P w K mg base CX0 2 a.f11 a.d11 ["line","moment"] (lowP K a22):=a8h F T;have d:FnOk P w K mg base CX0 1 a.f12 a.d12 ["pieces"] (lowP K a0N):=a3i F T;have k:FnOk P w K mg base CX0 1 a.f13 a.d13 ["line","moment"] (lowP K a3p):=a9n F T;refine fn3 F.n14 sc_p_put_on (λws G R h=>(by exact a9o h)) (λcdv A outer s H E ws G R r h=>?_);have m:=a0Y r;refine⟨_,(a0k (a0F (i:=4) sc_p_put_on.nd rfl (fb rfl) (a0q j (r.mono (by decide)) rfl T.m11 F.n11.kp (a8d F) (a0b (a0c (pv 0)) (a0b (a0c (pv 1)) a0f a0a) a0a) (he:=a0a) (hpl:=(a0j a0a a0i))))
  (a8E (z_if (a0r a7W (a0c (pv 3)) a1y (a0p _))
  (a0n (a06 (q_bm PySem.F.plainAttrs_list PySem.F.slot_list_append PySem.F.type_list_append a1j (a0c (pv 4)) (a0b (a1g (a0b (a0c (pv 1)) (a0b (a0c (pv 2)) (a0b (a0c (pv 3)) a0f a0a) a0a) a0a)) a0f a0G))))
  a1a)
  (a8E (z_if (a0r a7W (a0c (pv 2)) a1y (a0p _))
  (a0n (a06 (q_bm PySem.F.plainAttrs_list PySem.F.slot_list_extend PySem.F.type_list_extend b4Q (a0c (pv 4)) (a0b (a0q k (r.mono (by decide)) rfl T.m13 F.n13.kp (a9g F) (a0b (a0c (pv 0)) (a0b (a0c (pv 2)) a0f a0a) a0a) (he:=a0a) (hpl:=(a0j a0a a0i))) a0f a0C))))
  a1a)
  (a0n (a0D (a0q d (r.mono (by decide)) rfl T.m12 F.n12.kp (a3h F) (a0b (a0c (pv 4)) a0f a0a) (he:=a0a) (hpl:=a0i))))))),?_⟩
 obtain⟨p,l,b,e,z,rfl,hp,r,hok,h1,hz,g,hv,q⟩:=h;have hpc:=(a9k (w:=optW z) r g).2.2;symm;refine⟨p,l,some b,rfl,hp,h1,by omega,λt x=>?_⟩;symm;have la:=a9j (some b) l;refine a8I (fun σ' f=>σ'=[some (.ref p),some (.int b),some (oz e),some z,some (.ref t)]/\f=put G t (.lst ((ahead (some b) l++(match optW z with | some w=>[(⟨b,e,w⟩:Rw)] | none=>[])).map Rw.z))) ?_ ?_
 ·symm;refine ifN (λc=>?_) λc=>?_
  ·symm;refine a3m a0d ?_;symm;refine⟨lenK rfl,?_⟩;symm;refine a1k a0d (by rw[fc];exact a0u (by omega)) ⟨rfl,?_⟩;rw[a2a,optW,if_neg c,fv];rfl
  ·symm;refine⟨rfl,?_⟩;rw[optW,if_pos c];simp
 ·rintro σ' f ⟨rfl,rfl⟩;have hp1:∀ o,put G t o p=some (.lst (l.map Rw.z)):=λo=>a0l hp x;have fin:∀ f ,Sm G f->f t=some (.lst ((a3a l b e (optW z)).map Rw.z))->a0N [.ref t] f R:=λf s v=>by
   refine⟨t,_,rfl,v,b1Q hok hv,by omega,λu m=>?_⟩;exact q u _ (s.free m) (s.trans (Sm.new m)) a0d
  refine a8I (fun σ' f=>σ'=[some (.ref p),some (.int b),some (oz e),some z,some (.ref t)]/\Sm G f/\f t=some (.lst ((a3a l b e (optW z)).map Rw.z))) ?_ ?_
  ·cases e with
   | none=>
    symm;refine⟨rfl,Sm.new x,?_⟩;unfold a3a;rw[fK];exact a0d
   | some e=>
    symm;refine a3m a0d ?_;symm;refine⟨p,l,e,rfl,hp1 _,h1,by omega,λu m=>?_⟩;have y:t≠u:=λz=>by subst z;rw[a0d]at m;cases m
    have hpl:(a3a l b (some e) (optW z)).length=(ahead (some b) l++(match optW z with | some w=>[(⟨b,some e,w⟩:Rw)] | none=>[])).length+(fromOn e l).length:=by
     unfold a3a;exact fu
    generalize hA:(ahead (some b) l++(match optW z with | some w=>[(⟨b,some e,w⟩:Rw)] | none=>[]))=A at m hpl ⊢
    have e1:put (put G t (.lst (A.map Rw.z))) u (.lst ((fromOn e l).map Rw.z)) t=some (.lst (A.map Rw.z)):=by rw[a0E y];exact a0d
    symm;refine b4T e1 a0d (by rw[fc,fc];exact a1P (by omega)) ?_;refine⟨rfl,?_,?_⟩
    ·exact ((Sm.new x).trans (Sm.new m)).put x
    ·rw[a0d,<- fv,<- hA]
     rfl
  ·rintro σ' f ⟨rfl,s,v⟩;symm;exact fin f s v
def okS (s:Str):Prop:=s.length<=1000/\PyData.strOk s=true
def Th (G:Hq):Z->Prop
 | .non=>True
 | .bl _=>True
 | .int _=>True
 | .str s=>okS s
 | .tup _=>True
 | .ref p=>(∃ ws,G p=some (.lst ws))\/∃ kvs,G p=some (.dK kvs)
 | _=>False
theorem Th.sm (s:Sm G G') (h:Th G x):Th G' x:=by
 cases x with
 | ref p=>
  rcases h with ⟨ws,e⟩ | ⟨ws,e⟩
  ·exact .inl ⟨ws,s _ _ e⟩
  ·exact .inr ⟨ws,s _ _ e⟩
 | _=>exact h
structure Kd (G:Hq) (x:Z) (n:String):Prop where
 ty:tyN G x=some n
 is:n="NoneType"\/n="bool"\/n="int"\/n="str"\/n="tuple"\/n="list"\/n="dict"
theorem Th.kd (h:Th G x):∃ n,Kd G x n:=by
 cases x with
 | non=>exact⟨_,rfl,.inl rfl⟩
 | bl _=>exact⟨_,rfl,.inr (.inl rfl)⟩
 | int _=>exact⟨_,rfl,.inr (.inr (.inl rfl))⟩
 | str _=>exact⟨_,rfl,.inr (.inr (.inr (.inl rfl)))⟩
 | tup _=>exact⟨_,rfl,.inr (.inr (.inr (.inr (.inl rfl))))⟩
 | ref p=>
  rcases h with ⟨ws,e⟩ | ⟨ws,e⟩
  ·exact⟨"list",by simp[tyN,e],.inr (.inr (.inr (.inr (.inr (.inl rfl)))))⟩
  ·exact⟨"dict",by simp[tyN,e],.inr (.inr (.inr (.inr (.inr (.inr rfl)))))⟩
 | _=>exact fh h
theorem b7M (h:n="NoneType"\/n="bool"\/n="int"\/n="str"\/n="tuple"\/n="list"\/n="dict"):kit0 n "str"=some (decide (n="str")):=by
 rcases h with rfl | rfl | rfl | rfl | rfl | rfl | rfl<;>decide +kernel
theorem b5q (h:n="NoneType"\/n="bool"\/n="int"\/n="str"\/n="tuple"\/n="list"\/n="dict"):kit0 n "bool"=some (decide (n="bool")):=by
 rcases h with rfl | rfl | rfl | rfl | rfl | rfl | rfl<;>decide +kernel
theorem b7N (h:n="NoneType"\/n="bool"\/n="int"\/n="str"\/n="tuple"\/n="list"\/n="dict"):kit0 n "int"=some (decide (n="int")||decide (n="bool")):=by
 rcases h with rfl | rfl | rfl | rfl | rfl | rfl | rfl<;>decide +kernel
noncomputable def isS:Z->Bool
 | .str _=>true
 | _=>false
noncomputable def isB:Z->Bool
 | .bl _=>true
 | _=>false
noncomputable def isI:Z->Bool
 | .int _=>true
 | .bl _=>true
 | _=>false
theorem c2s (h:Th G x) (q:R (.bl (isS x)) G):zIsT [x,.ty "str"] G R:=by
 obtain⟨n,k⟩:=h.kd;refine⟨n,_,k.ty,b7M k.is,?_⟩;have e:decide (n="str")=isS x:=by
  have:=k.ty
  cases x with
  | ref p=>rcases h with ⟨ws,e⟩ | ⟨ws,e⟩<;>(simp[tyN,e]at this;subst this;show _=false;decide)
  | _=>first | (cases this;show _=false;decide;done) | (cases this;show _=true;decide;done) | exact fh h
 rw[e];exact q
theorem c0D (h:Th G x) (q:R (.bl (isB x)) G):zIsT [x,.ty "bool"] G R:=by
 obtain⟨n,k⟩:=h.kd;refine⟨n,_,k.ty,b5q k.is,?_⟩;have e:decide (n="bool")=isB x:=by
  have:=k.ty
  cases x with
  | ref p=>rcases h with ⟨ws,e⟩ | ⟨ws,e⟩<;>(simp[tyN,e]at this;subst this;show _=false;decide)
  | _=>first | (cases this;show _=false;decide;done) | (cases this;show _=true;decide;done) | exact fh h
 rw[e];exact q
theorem c0E (h:Th G x) (q:R (.bl (isI x)) G):zIsT [x,.ty "int"] G R:=by
 obtain⟨n,k⟩:=h.kd;refine⟨n,_,k.ty,b7N k.is,?_⟩;have e:(decide (n="int")||decide (n="bool"))=isI x:=by
  have:=k.ty
  cases x with
  | ref p=>rcases h with ⟨ws,e⟩ | ⟨ws,e⟩<;>(simp[tyN,e]at this;subst this;show _=false;decide)
  | _=>first | (cases this;show _=false;decide;done) | (cases this;show _=true;decide;done) | exact fh h
 rw[e];exact q
noncomputable def okC (c:Nat):Bool:=decide (97<=c)&&decide (c<=122)
noncomputable def a15:Z->Bool
 | .str s=>decide (1<=s.length)&&decide (s.length<=8)&&s.cps.toList.all okC
 | _=>false
noncomputable def momB:Z->Bool
 | .int i=>decide (0<=i)&&decide (i<=1000000000000)
 | _=>false
theorem a4d:momB (.int i)=(decide (0<=i)&&decide (i<=1000000000000)):=rfl
noncomputable def strB (x y:Z):Bool:=momB x&&match y with
 | .non=>true
 | .int j=>momB (.int j)&&match x with | .int i=>decide (i<j) | _=>false
 | _=>false
def spB1 (f:Z->Bool):P3:=λws G R=>∃ x,ws=[x]/\Th G x/\∀ G',Sm G G'->R (.bl (f x)) G'
theorem c0F (h:spB1 f ws G R):ws.length=1:=by obtain⟨_,rfl,_⟩:=h;rfl
def spB2 (f:Z->Z->Bool):P3:=λws G R=>∃ x y,ws=[x,y]/\Th G x/\Th G y/\∀ G',Sm G G'->R (.bl (f x y)) G'
theorem c2t (h:spB2 f ws G R):ws.length=2:=by obtain⟨_,_,rfl,_⟩:=h;rfl
abbrev a9p:P3:=spB1 a15
abbrev a3N:P3:=spB1 momB
abbrev a6C:P3:=spB2 strB
theorem b3J (a b:Nat):ltS ⟨#[a]⟩ ⟨#[b]⟩=decide (a<b):=by
 by_cases h:a<b
 ·rw[decide_eq_true h];exact decide_eq_true (j7.mpr (.inl h))
 ·rw[decide_eq_false h];refine decide_eq_false λq=>?_;rcases j7.mp q with q | q
  ·simp_all
  ·simp_all
theorem strA:(Str.ofString "a")=⟨#[97]⟩:=by decide +kernel
theorem strZ:(Str.ofString "z")=⟨#[122]⟩:=by decide +kernel
theorem b5r (x:Str) (g:Nat->Option Z) (f:Z->Option Z) (h:∀ c,f (.str ⟨#[c]⟩)=g c):(a5C x).filterMap f=x.cps.toList.filterMap g:=by
 unfold a5C;rw[jC]
 congr 1
 funext c
 exact h c
theorem b3K (h:x.length<=1000):(a5C x).length<=1000:=by unfold a5C;rw[fc,g6];exact h
theorem c0G (l:List Nat):(l.filterMap λc=>some (Z.bl (okC c)))=(l.map okC).map Z.bl:=by simp
theorem all_map (l:List Nat):(l.map okC).all id=l.all okC:=by simp
theorem a3C:a15 (.str s)=(decide (1<=s.length)&&decide (s.length<=8)&&s.cps.toList.all okC):=rfl
theorem a9q (F:Fns K a) (T:Txt K mg a):FnOk P w K mg base CX0 1 a.f0 a.d0 ["thing"] (lowP K a9p):=by
 refine fn3 F.n0 a9b (λws G R h=>(by exact c0F h)) (λcdv A outer s H E ws G R hr h=>?_);have hu:=a0Y hr;refine⟨_,(a0k (z_if (a29 (a3l (a0t b4P rfl T.b_isinstance rfl (a0b (a0c (pv 0)) (a0b (q_ty (a50 (v:=.ty "str") rfl T.b_str rfl rfl)) a0f a0a) a0a) (he:=a0a) (hpl:=(a0j a0a a0i)))))
  (a0n (a0D q_bl))
  a1a)
  (a0k (z_if (QW.qt (q_or (a0r o_lt (a0t b_len rfl T.b_len PySem.boot_len (a0b (a0c (pv 0)) a0f a0a) (he:=a0a) (hpl:=a0i)) a0g (a0p _)) (a44 (a0r o_gt (a0t b_len rfl T.b_len PySem.boot_len (a0b (a0c (pv 0)) a0f a0a) (he:=a0a) (hpl:=a0i)) (b5O (b0T rfl T.c_LONGEST_NAME)) (a0p _)))))
  (a0n (a0D q_bl))
  a1a)
  (a0n (a0D (a0t (b_all rfl) rfl T.b_all rfl (a0b (q_lc (N₀:=["thing"]) (so:=a0h a2T) (N':=["sign"]) (cap:=[none]) (pt:=(.nm 0)) rfl rfl rfl (by decide +kernel) rfl (b9v (a0c (pv 0))) (λ_ _ _ _=>(show QP _ _ (.nm 0) from (a0o (i:=0) c2i rfl (fb rfl)))) (λ_ _ _ _=>a3Z) (λ_ _ _ _=>(b2H o_le o_le a2b (a0c (pv 0)) a2b))) a0f a0M) (he:=a0M) (hpl:=a0i)))))),?_⟩
 obtain⟨x,rfl,hx,q⟩:=h;symm;refine c2s hx ?_;symm;refine ifNB (λc=>?_) λc=>?_
 ·symm;have e:a15 x=false:=by cases x<;>first | rfl | cases c
  have:=q G (Sm.refl G)
  rw[e]at this;exact this
 ·obtain⟨s,rfl⟩:∃ s,x=.str s:=by cases x<;>first | exact⟨_,rfl⟩ | cases c
  have hs:okS s:=hx;symm;refine a8K (a1P hs.1) ?_;symm;have no:a15 (.str s)=false->R (.bl false) G:=λe=>by have:=q G (Sm.refl G);rw[e]at this;exact this
  refine ifD (λc1=>?_) λc1=>?_
  ·symm;exact no (by rw[a3C,decide_eq_false (show ¬ 1<=s.length by omega)];rfl)
  ·symm;refine a8K (a1P hs.1) ?_;symm;refine ifD (λc2=>?_) λc2=>?_
   ·symm;exact no (by rw[a3C,decide_eq_false (show ¬ s.length<=8 by omega),gL];rfl)
   ·symm;intro D hD;refine b63 (λx=>match x with | .str z=>some (.bl (!ltS z (Str.ofString "a")&&!ltS (Str.ofString "z") z)) | _=>none) (λ_=>True.intro) (b3K hs.1) ?_ ?_
    ·intro x hm ys K1 K2 k1 k2;unfold a5C at hm;obtain⟨c,_,rfl⟩:=fq.mp hm;refine⟨_,rfl,?_⟩;symm;refine ifB (λz=>?_) λz=>?_
     ·symm;refine k1 _ ?_;dsimp only;rw[z];rfl
     ·refine k1 _ ?_;dsimp only;rw[z];rfl
    ·have e:(a5C s).filterMap (λx=>match x with | .str z=>some (.bl (!ltS z (Str.ofString "a")&&!ltS (Str.ofString "z") z)) | _=>none)=(s.cps.toList.map okC).map Z.bl:=by
      rw[b5r s (λc=>some (.bl (okC c))) _ λc=>?_,c0G];dsimp only;rw[strA,strZ,b3J,b3J];unfold okC
      congr 2
      by_cases h1:c<97<;>by_cases h2:122<c<;>simp[h1,h2]<;>omega
     have e2:a15 (.str s)=s.cps.toList.all okC:=by rw[a3C,decide_eq_true (show 1<=s.length by omega),decide_eq_true (show s.length<=8 by omega),fZ,fZ]
     refine c1M (by rw[e];exact a0d) ?_;rw[all_map,<- e2];exact q _ (Sm.new hD)
theorem a3O (F:Fns K a) (T:Txt K mg a):FnOk P w K mg base CX0 1 a.f1 a.d1 ["thing"] (lowP K a3N):=by
 refine fn3 F.n1 a6T (λws G R h=>(by exact c0F h)) (λcdv A outer s H E ws G R hr h=>?_);have hu:=a0Y hr;refine⟨_,(a0k (z_if (QW.qt (q_or (a3l (a0t b4P rfl T.b_isinstance rfl (a0b (a0c (pv 0)) (a0b (q_ty (a50 (v:=.ty "bool") rfl T.b_bool rfl rfl)) a0f a0a) a0a) (he:=a0a) (hpl:=(a0j a0a a0i)))) (a44 (a29 (a3l (a0t b4P rfl T.b_isinstance rfl (a0b (a0c (pv 0)) (a0b (q_ty (a50 (v:=.ty "int") rfl T.b_int rfl rfl)) a0f a0a) a0a) (he:=a0a) (hpl:=(a0j a0a a0i))))))))
  (a0n (a0D q_bl))
  a1a)
  (a0n (a0D (b2H o_le o_le a0g (a0c (pv 0)) (b5O (b0T rfl T.c_LAST_MOMENT)))))),?_⟩
 obtain⟨x,rfl,hx,q⟩:=h;have no:momB x=false->R (.bl false) G:=λe=>by have:=q G (Sm.refl G);rw[e]at this;exact this
 symm;refine c0D hx ?_;symm;refine ifB (λc=>?_) λc=>?_
 ·symm;exact no (by cases x<;>first | rfl | cases c)
 ·symm;refine c0E hx ?_;symm;refine ifNB (λc2=>?_) λc2=>?_
  ·symm;exact no (by cases x<;>first | rfl | cases c2)
  ·obtain⟨i,rfl⟩:∃ i,x=.int i:=by cases x<;>first | exact⟨_,rfl⟩ | (cases c;done) | (cases c2;done)
   symm;refine ifD (λz=>?_) λz=>?_
   ·symm
    have:=q G (Sm.refl G)
    rw[a4d,decide_eq_true z,fZ]at this;exact this
   ·exact no (by rw[a4d,decide_eq_false z];rfl)
theorem a6D (F:Fns K a) (T:Txt K mg a):FnOk P w K mg base CX0 2 a.f2 a.d2 ["begin","end"] (lowP K a6C):=by
 have b:FnOk P w K mg base CX0 1 a.f1 a.d1 ["thing"] (lowP K a3N):=a3O F T;refine fn3 F.n2 a6u (λo G R h=>(by exact c2t h)) (λu A n s H E o G R l h=>?_);have v:=a0Y l;refine⟨_,(a0k (z_if (a29 (a3l (a0q b (l.mono (by decide)) rfl T.m1 F.n1.kp (a2x F) (a0b (a0c (pv 0)) a0f a0a))))
  (a0n (a0D q_bl))
  a1a)
  (a0k (z_if (a0r o_is (a0c (pv 1)) a1y (a0p _))
  (a0n (a0D q_bl))
  a1a)
  (a0n (a0D (a58 (a0q b (l.mono (by decide)) rfl T.m1 F.n1.kp (a2x F) (a0b (a0c (pv 1)) a0f a0a)) (a9D (a4p o_lt (a0c (pv 0)) (a0c (pv 1)) (a0p _)))))))),?_⟩
 obtain⟨x,y,rfl,t,r,q⟩:=h;symm;refine⟨x,rfl,t,λC g=>?_⟩;have m:∀ d,Sm G d->strB x y=false->R (.bl false) d:=λd s e=>by have:=q d s;rw[e]at this;exact this
 symm;refine ifNB (λc=>?_) λc=>?_
 ·symm;exact m _ g (by unfold strB;rw[c];rfl)
 ·symm;refine ifD (λz=>?_) λz=>?_
  ·symm
   have:=q _ g
   unfold strB at this;rw[c,z]at this;exact this
  ·symm;refine⟨y,rfl,r.sm g,λB p=>?_⟩;have k:=g.trans p;symm;refine ifB (λf=>?_) λf=>?_
   ·obtain⟨i,rfl⟩:∃ i,x=.int i:=by cases x<;>first | exact⟨_,rfl⟩ | cases c
    obtain⟨j,rfl⟩:∃ j,y=.int j:=by cases y<;>first | exact⟨_,rfl⟩ | cases f
    symm
    have:=q _ k
    unfold strB at this;rw[c]at this;dsimp only at this;rw[f,fZ,fZ]at this;exact this
   ·refine m _ k ?_;unfold strB;rw[c,fZ];cases y<;>first | rfl | exact absurd rfl z | (dsimp only;rw[f];rfl)
def isL (c:Nat):Prop:=97<=c/\c<=122
def nmOk (s:Str):Prop:=1<=s.cps.toList.length/\s.cps.toList.length<=8/\∀ c∈s.cps.toList,isL c
theorem a4K (s:Str):s.length=s.cps.toList.length:=by rw[g6];rfl
theorem a5W (h:∀ c∈s.cps.toList,isL c):PyData.strOk s=true:=by
 unfold PyData.strOk;rw[j8];intro c a
 have:=(h c (by simp_all)).2
 exact decide_eq_true (by omega)
theorem b3L (h:nmOk s):flat n (.str s)=true:=by
 have:=a5W h.2.2
 cases n<;>exact this
theorem a5K (h:nmOk s):Th G (.str s):=⟨by rw[a4K];have:=h.2.1;omega,a5W h.2.2⟩
theorem nm_b (h:nmOk s):a15 (.str s)=true:=by
 rw[a3C,decide_eq_true (by rw[a4K];exact h.1),decide_eq_true (by rw[a4K];exact h.2.1)];rw[fZ,fZ,gv];intro c b;obtain⟨a,d⟩:=h.2.2 c b;unfold okC;rw[decide_eq_true a,decide_eq_true d];rfl
noncomputable def T12:Int:=1000000000000
def stOk (b:Int) (e:Option Int):Prop:=0<=b/\b<=T12/\∀ x,e=some x->b<x/\x<=T12
theorem stOk.bef (h:stOk b e):bef b e=true:=by
 cases e with
 | none=>rfl
 | some x=>simp only[Lw.bef,decide_eq_true_eq];exact (h.2.2 x rfl).1
theorem st_b (h:stOk b e):strB (.int b) (oz e)=true:=by
 obtain⟨c,g,a⟩:=h;unfold T12 at *;unfold strB;rw[a4d,decide_eq_true c,decide_eq_true g];cases e with
 | none=>rfl
 | some x=>
  obtain⟨f,d⟩:=a x rfl
  show (true&&(momB _&&decide _))=true
  rw[a4d,decide_eq_true (show 0<=x by omega),decide_eq_true d,decide_eq_true f];rfl
def Plain (l:List Rw):Prop:=∀ r∈l,∃ x,r.w=[x]/\flat 0 x=true
theorem Plain.one (h:Plain l):One l:=λr a=>let ⟨x,e,_⟩:=h r a;⟨x,e⟩
theorem Plain.okR (h:Plain l):OkR l:=λr a=>by
 obtain⟨x,e,f⟩:=h r a;rw[e];exact c0C (a2B (by simp) f)
theorem Plain.nil:Plain []:=λr hr=>by simp at hr
theorem a5y (h:Plain puts) (t:Int):flat 0 (a1z puts t)=true:=by
 unfold a1z;cases e:puts.reverse.find? _ with
 | none=>rfl
 | some r=>
  obtain⟨x,a,f⟩:=h r (by have:=ja e;simpa using this)
  show flat 0 (r.w.headD .non)=true
  rw[a];exact f
theorem b3M (z:Z):wz (optW z)=z:=by
 unfold optW
 split
 ·next h=>rw[h];rfl
 ·rfl
theorem b3N (h:Plain L) (f:flat 0 z=true):Plain (a9l L b e (optW z)):=λr a=>by
 have m:Plain (a3a L b e (optW z)):=λr a=>by
  rcases fg.mp a with a | a
  ·rcases fg.mp a with a | a
   ·obtain⟨j,i,_,rfl⟩:=a4H a;exact h j i
   ·unfold optW at a
    split at a
    ·next w e=>
           split at e
           ·cases e
           ·cases e;rw[fi.mp a];exact⟨z,rfl,f⟩
    ·simp_all
  ·cases e with
   | none=>simp at a
   | some e=>
    obtain⟨j,i,_,rfl⟩:=a5U a;exact h j i
 have l:∀ d c,Plain c->Plain d->Plain (d.foldl jn c):=by
  intro d
  induction d with
  | nil=>exact λ_ h _=>h
  | cons p d ih=>
   intro c k g;refine ih _ (λr a=>?_) λr a=>g r (.tail _ a)
   have:=g p (.head _)
   unfold jn at a
   split at a
   ·split at a
    ·rcases fg.mp a with a | a
     ·exact k r (jp _ a)
     ·simp_all
    ·rcases fg.mp a with a | a
     ·exact k r a
     ·simp_all
   ·simp_all
 exact l _ [] Plain.nil m r a
theorem a99 (h1:flat 8 x=true) (h2:flat 8 y=true) (h:R (.bl (f (decide (x=y)))) G):zEq f x y G R:=by
 cases x<;>cases y<;>first
  | exact⟨h1,h2,h⟩
  | (simp at h1;done)
  | (simp[flat]at h2;done)
  | (rw[a1b (Z.int.injEq _ _)]at h;exact h)
  | (rw[a1b (Z.str.injEq _ _)]at h;exact h)
structure Tl where
 key:Str
 w:Option Str
 b:Int
 e:Option Int
abbrev sPut:Str:=Str.ofString "put"
abbrev b00:Str:=Str.ofString "clear"
noncomputable def Tl.z (τ:Tl):Z:=match τ.w with
 | some w=>.tup [.str sPut,.str τ.key,.str w,.int τ.b,oz τ.e]
 | none=>.tup [.str b00,.str τ.key,.int τ.b,oz τ.e]
noncomputable def Tl.v (τ:Tl):Z:=match τ.w with
 | some w=>.str w
 | none=>.non
structure Tl.Ok (τ:Tl):Prop where
 k:nmOk τ.key
 w:∀ s,τ.w=some s->nmOk s
 st:stOk τ.b τ.e
theorem Tl.Ok.v {τ:Tl}(h:τ.Ok):flat 0 τ.v=true:=by
 unfold Tl.v;cases e:τ.w with
 | none=>rfl
 | some w=>exact b3L (h.w w e)
noncomputable def Tl.rw (τ:Tl):Rw:=⟨τ.b,τ.e,[τ.v]⟩
noncomputable def a1K (T:List Tl) (k:Str):List Rw:=(T.filter fun τ=>decide (τ.key=k)).map Tl.rw
theorem a7w:a1K (T++[τ]) k=a1K T k++(if τ.key=k then [τ.rw] else []):=by
 unfold a1K
 by_cases c:τ.key=k<;>simp[c]
def OkT (T:List Tl):Prop:=∀ τ∈T,τ.Ok
theorem a7x (h:OkT T):Plain (a1K T k):=λr a=>by
 obtain⟨τ,b,rfl⟩:=fq.mp a;exact⟨_,rfl,(h τ (fX.mp b).1).v⟩
structure IsLine (T:List Tl) (k:Str) (L:List Rw):Prop where
 can:Can L
 pl:Plain L
 len:L.length<=2*T.length
 v:∀ t,val L t=optW (a1z (a1K T k) t)
theorem IsLine.nil (h:a1K T k=[]):IsLine T k []:=⟨Can.nil,Plain.nil,by simp,λt=>by rw[h];rfl⟩
theorem IsLine.snoc (h:IsLine T τ.key L) (o:τ.Ok):IsLine (T++[τ]) τ.key (a9l L τ.b τ.e (optW τ.v)):=by
 have a:=b5j (w:=optW τ.v) h.can.rise o.st.bef;refine⟨a.1,b3N h.pl o.v,by have:=a.2.2;have:=h.len;simp;omega,λt=>?_⟩;rw[a7w,if_pos rfl,a6y,a.2.1 t,h.v t]
 show _=optW (if (decide (τ.b<=t)&&bef t τ.e)=true then τ.v else a1z _ t)
 split<;>rfl
noncomputable def ixF (k:Str):Nat->List Tl->List Int
 | _,[]=>[]
 | n,τ::T=>(if τ.key=k then [(n:Int)+1] else [])++ixF k (n+1) T
noncomputable def ix (T:List Tl) (k:Str):List Int:=ixF k 0 T
theorem b01:∀ (n:Nat) (T:List Tl),ixF k n (T++[τ])=ixF k n T++(if τ.key=k then [(n+T.length:Int)+1] else [])
 | n,[]=>by simp[ixF]
 | n,σ::T=>by
  rw[ij,ixF,b01,ixF,fI]
  congr 2
  split
  ·congr 1;rw[fk];omega
  ·rfl
theorem a24:ix (T++[τ]) k=ix T k++(if τ.key=k then [(T.length:Int)+1] else []):=by
 unfold ix;rw[b01];simp
theorem b3O:∀ {n:Nat}{T:List Tl}{i:Int},i∈ixF k n T->(n:Int)+1<=i/\i<=n+T.length
 | _,[],i,h=>by simp[ixF]at h
 | n,τ::T,i,h=>by
  rw[fk];rcases fg.mp h with h | h
  ·split at h
   ·rw[fi.mp h];omega
   ·simp_all
  ·have:=b3O h;omega
theorem b7O (h:i∈ix T k):1<=i/\i<=T.length:=by
 have:=b3O h
 simpa using this
theorem b3P:∀ (n:Nat) (T:List Tl),(ixF k n T).length<=T.length
 | _,[]=>by simp[ixF]
 | n,τ::T=>by
  have:=b3P (k:=k) (n+1) T
  rw[ixF,fu,fk]
  split<;>simp<;>omega
theorem b6g (T:List Tl) (k:Str):(ix T k).length<=T.length:=b3P 0 T
theorem a7y:∀ (n:Nat) (T:List Tl),(ixF k n T).Pairwise (·<·)
 | _,[]=>.nil
 | n,τ::T=>by
  refine fE.mpr ⟨by split<;>simp,a7y _ T,λx a y b=>?_⟩
  have:=b3O b
  split at a
  ·rw[fi.mp a];omega
  ·grind
theorem a6E (T:List Tl) (k:Str):(ix T k).Pairwise (·<·):=a7y 0 T
theorem a5X:∀ (n:Nat) (T:List Tl) (s q:Nat),s<=q->(∀ i∈ixF k n T,(i:Int)<=n+s\/(n+q:Int)<i)->a1K (T.take q) k=a1K (T.take s) k
 | n,[],s,q,_,_=>by simp
 | n,τ::T,s,0,hs,_=>by grind
 | n,τ::T,0,q+1,hs,h=>by
  have d:¬ τ.key=k:=λe=>by
   have:=h (n+1) (by rw[ixF,if_pos e];simp)
   omega
  have a:=a5X (k:=k) (n+1) T 0 q (by omega) λi b=>by
   rcases h i (by rw[ixF];simp[b]) with c | c
   omega;omega
  rw[jq];unfold a1K at a ⊢;rw[gC,if_neg (by simpa using d),a];simp
 | n,τ::T,s+1,q+1,hs,h=>by
  have a:=a5X (k:=k) (n+1) T s q (by omega) λi b=>by
   rcases h i (by rw[ixF];simp[b]) with c | c
   ·left;omega
   omega
  rw[jq,jq];unfold a1K at a ⊢;rw[gC,gC]
  split
  ·grind
  ·exact a
theorem IsLine.cut {s q:Nat}(h:IsLine (T.take s) k L) (hs:s<=q) (hi:∀ i∈ix T k,i<=(s:Int)\/(q:Int)<i):IsLine (T.take q) k L:=by
 have e:=a5X 0 T s q hs λi h=>by have:=hi i h;simpa using this
 exact⟨h.can,h.pl,by have:=h.len;rw[fC]at this ⊢;omega,λt=>by rw[e];exact h.v t⟩
theorem a6F {q:Nat}(h:∀ i∈ix T k,(q:Int)<i):a1K (T.take q) k=[]:=by
 have:=a5X 0 T 0 q (fL _) λi a=>by right;have:=h i a;simpa using this
 rw[this];rfl
theorem b7P (h:Rise l) (hr:r∈l) (ht:r.has t=true):val l t=some r.w:=by
 induction l with
 | nil=>simp at hr
 | cons s l ih=>
  rw[a0L];rcases ft.mp hr with rfl | hr
  ·rw[if_pos ht]
  ·rw[if_neg]
   ·exact ih h.tail hr
   ·intro z
    have:=(iH h.2 hr).has z
    rw[ht]at this;cases this
theorem b1R {T:List Tl}{k:Str}{t:Int}:a1z (a1K T k) t=.non\/∃ w,a1z (a1K T k) t=.str w:=by
 unfold a1z;cases e:(a1K T k).reverse.find? _ with
 | none=>exact .inl rfl
 | some r=>
  have:=ja e
  rw[List.mem_reverse]at this;obtain⟨τ,a,rfl⟩:=fq.mp this;unfold Tl.rw Tl.v;cases τ.w with
  | none=>exact .inl rfl
  | some w=>exact .inr ⟨w,rfl⟩
theorem a4L (h:IsLine T k L) (hr:r∈L):∃ w,r.w=[.str w]:=by
 have a:=b7P h.can.rise hr (b1O (h.can.1 r hr));rw[h.v]at a;unfold optW at a
 split at a
 ·cases a
 ·next q=>
  rcases @b1R T k r.b with e | ⟨w,e⟩
  ·exact absurd e q
  ·rw[e]at a;injection a with a;exact⟨w,a.symm⟩
structure Ti where
 r:Rw
 s:Int
 u:Option Int
noncomputable def Ti.z (k:Str) (t:Ti):Z:=.tup [.str k,t.r.w.headD .non,.int t.r.b,oz t.r.e,.int t.s,oz t.u]
noncomputable def Ti.at_ (t:Ti) (q:Int):Bool:=decide (t.s<=q)&&bef q t.u
noncomputable def hasR (L:List Rw) (r:Rw):Bool:=L.any λx=>decide (x.z=r.z)
theorem hasR_iff:hasR L r=true↔r∈L:=by
 unfold hasR;rw[hZ];exact⟨λ⟨x,h,e⟩=>Rw.z_inj (of_decide_eq_true e)▸h,λh=>⟨r,h,decide_eq_true rfl⟩⟩
theorem hasR_no:hasR L r=false↔r∉L:=by
 rw[<- hasR_iff,Bool.not_eq_true]
noncomputable def stR (ts:List Ti):List Rw:=(ts.filter (·.u.isNone)).map (·.r)
noncomputable def endR (L:List Rw) (n:Int) (t:Ti):Ti:=if (t.u.isNone&&!hasR L t.r)=true then ⟨t.r,t.s,some n⟩ else t
noncomputable def newR (n:Int) (r:Rw):Ti:=⟨r,n,none⟩
noncomputable def tOn (ts:List Ti) (L:List Rw) (n:Int):List Ti:=ts.map (endR L n)++(L.filter λr=>!hasR (stR ts) r).map (newR n)
def a11 (ts:List Ti) (q:Int):List Rw:=(ts.filter (·.at_ q)).map (·.r)
theorem b5s:(endR L n t).r=t.r:=by unfold endR;split<;>rfl
theorem c0H:(endR L n t).s=t.s:=by unfold endR;split<;>rfl
theorem b5t:a11 (ts++us) q=a11 ts q++a11 us q:=by simp[a11]
theorem b3Q {α β:Type}{f:α->α}{g:α->β}{p p':α->Bool}:∀ {l:List α},(∀ t∈l,p (f t)=p' t)->(∀ t∈l,g (f t)=g t)->((l.map f).filter p).map g=(l.filter p').map g
 | [],_,_=>rfl
 | t::l,h1,h2=>by
  have a:=b3Q (λt h=>h1 t (.tail _ h)) (λt h=>h2 t (.tail _ h));rw[fy,gC,gC,h1 t (.head _)]
  split
  ·simp_all
  ·omega
theorem b5u (h:q<n):a11 (tOn ts L n) q=a11 ts q:=by
 unfold tOn;rw[b5t];have b:a11 ((L.filter λr=>!hasR (stR ts) r).map (newR n)) q=[]:=by
  unfold a11;rw[ik,jr];intro t a;obtain⟨r,_,rfl⟩:=fq.mp a;unfold Ti.at_ newR;rw[decide_eq_false (by grind)];simp
 rw[b,fK];refine b3Q (λt _=>?_) λt _=>b5s;unfold Ti.at_;rw[c0H]
 congr 1
 unfold endR
 split
 ·next c=>
  rw[gr,Option.isNone_iff_eq_none]at c;rw[c.1];exact decide_eq_true h
 ·rfl
structure TsOk (ts:List Ti) (n:Int):Prop where
 s:∀ t∈ts,t.s<=n
 u:∀ t∈ts,∀ x,t.u=some x->x<=n
theorem b0a (h:TsOk ts n) (hq:n<=q):a11 ts q=stR ts:=by
 unfold a11 stR
 congr 1
 refine List.filter_congr λt a=>?_;unfold Ti.at_;rw[decide_eq_true (by have:=h.s t a;omega),fZ];cases e:t.u with
 | none=>rfl
 | some x=>
  exact decide_eq_false (by have:=h.u t a x e;omega)
theorem c2u:stR (tOn ts L n)=(stR ts).filter (hasR L)++L.filter λr=>!hasR (stR ts) r:=by
 have f:stR (ts.map (endR L n))=(stR ts).filter (hasR L):=by
  unfold stR
  conv=>rhs;rw[List.filter_map,List.filter_filter]
  refine b3Q (λt _=>?_) λt _=>b5s;unfold endR;cases e:t.u with
  | none=>cases c:hasR L t.r<;>simp[c,e]
  | some x=>simp[e]
 have g:∀ l:List Rw,stR (l.map (newR n))=l:=λl=>by
  unfold stR;rw[List.filter_eq_self.mpr (λt h=>by obtain⟨r,_,rfl⟩:=fq.mp h;rfl),gJ];exact i8 l
 have d:∀ a b:List Ti,stR _=stR a++stR b:=λa b=>by unfold stR;rw[j9,fv]
 unfold tOn;rw[d,f,g]
theorem b7Q {S L:List Rw}(hS:S.Nodup) (hL:L.Nodup):(S.filter (hasR L)++L.filter λr=>!hasR S r).Perm L:=by
 refine (jc ?_ hL).mpr λr=>?_
 ·refine gY.mpr ⟨hS.sublist jd,hL.sublist jd,λx b y f e=>?_⟩;subst e;have d:=(fX.mp b).1;have a:=(fX.mp f).2;rw[hasR_iff.mpr d]at a;cases a
 ·rw[fg,fX,fX,hasR_iff]
  constructor
  ·rintro (h | h)
   ·simp_all
   ·exact h.1
  ·intro h
   by_cases c:r∈S
   ·exact .inl ⟨c,h⟩
   ·exact .inr ⟨h,by rw[hasR_no.mpr c];rfl⟩
theorem c2v (h:TsOk ts m) (hm:m<=n):TsOk (tOn ts L n) n:=by
 refine⟨λt a=>?_,λt a x e=>?_⟩
 ·rcases fg.mp a with a | a
  ·obtain⟨c,b,rfl⟩:=fq.mp a;rw[c0H];have:=h.s c b;omega
  ·obtain⟨r,_,rfl⟩:=fq.mp a;exact fU _
 ·rcases fg.mp a with a | a
  ·obtain⟨c,b,rfl⟩:=fq.mp a;unfold endR at e
   split at e
   ·grind
   ·have:=h.u c b x e;omega
  ·obtain⟨r,_,rfl⟩:=fq.mp a;cases e
theorem c0I:(tOn ts L n).length<=ts.length+L.length:=by grind [tOn]
noncomputable def TF (es:List (Int×List Rw)):List Ti:=es.foldl (λts e=>tOn ts e.2 e.1) []
noncomputable def a3P (es:List (Int×List Rw)) (q:Int):List Rw:=match es.reverse.find? (λe=>decide (e.1<=q)) with
 | some e=>e.2
 | none=>[]
theorem a5m:TF (es++[e])=tOn (TF es) e.2 e.1:=by
 unfold TF;rw[jZ];rfl
theorem a6G:a3P (es++[e]) q=if e.1<=q then e.2 else a3P es q:=by
 unfold a3P;rw[gT,g8,i6,gM]
 by_cases c:e.1<=q
 ·simp_all
 ·rw[decide_eq_false c,if_neg c]
theorem a6H (h:Can L):L.Nodup:=by
 have:=(gn.and_mem.mp h.2).imp λ{r s} ⟨a,_,q⟩=>q.lt.b (h.1 r a)
 exact this.imp λ{r s} q e=>by subst e;omega
theorem a8k {α:Type}{P:List α->Prop}(h0:P []) (h1:∀ l a,P l->P (l++[a])) (l:List α):P l:=by
 rw[<- List.reverse_reverse l]
 induction l.reverse with
 | nil=>exact h0
 | cons a l ih=>rw[ib];exact h1 _ _ ih
structure Run (es:List (Int×List Rw)) (n:Int):Prop where
 ok:TsOk (TF es) n
 p:∀ q,(a11 (TF es) q).Perm (a3P es q)
 c:∀ q,Can (a3P es q)
theorem b5v:∀ {es:List (Int×List Rw)}{n:Int},es.Pairwise (λa b=>a.1<b.1)->(∀ e∈es,e.1<=n)->(∀ e∈es,Can e.2)->Run es n:=by
 intro j
 induction j using a8k with
 | h0=>exact λ_ _ _=>⟨⟨λt h=>by simp[TF]at h,λt h=>by simp[TF]at h⟩,λq=>.refl _,λq=>Can.nil⟩
 | h1 j e ih=>
  intro n w v k;obtain⟨m,_,r⟩:=fE.mp w;have o:=λx f=>gb (r x f e (.head _));have R:=ih m o λx f=>k x (by simp[f]);have l:=k e (by simp);have g:=v e (by simp);have d:=c2v (L:=e.2) R.ok (fU e.1);refine⟨by rw[a5m];exact⟨λt i=>fJ (d.s t i) g,λt i x f=>fJ (d.u t i x f) g⟩,λq=>?_,λq=>?_⟩
  ·rw[a5m,a6G]
   by_cases c:e.1<=q
   ·rw[if_pos c,b0a d c,c2u];refine b7Q ?_ (a6H l);rw[<- b0a R.ok (fU e.1)];exact (R.p e.1).nodup_iff.mpr (a6H (R.c e.1))
   ·rw[if_neg c,b5u (by omega)];exact R.p q
  ·rw[a6G]
   split
   ·omega
   ·exact R.c q
theorem c0J:∀ {es:List (Int×List Rw)}{m:Nat},(∀ e∈es,e.2.length<=m)->(TF es).length<=es.length*m:=by
 intro a
 induction a using a8k with
 | h0=>exact λ_=>by simp[TF]
 | h1 a e ih=>
  intro m h;have h1:=ih λx c=>h x (by simp[c]);have h2:=c0I (ts:=TF a) (L:=e.2) (n:=e.1);have h3:=h e (by simp);rw[a5m,fu,iP,Nat.add_mul,Nat.one_mul];omega
theorem b7R (hi:es.map (·.1)=ix T k) (hl:∀ e∈es,IsLine (T.take e.1.toNat) k e.2) (q:Nat):IsLine (T.take q) k (a3P es q):=by
 have b:es.reverse.Pairwise (λx y=>y.1<x.1):=by
  have:=a6E T k
  rw[<- hi]at this;rw[kb];exact gX.mp this
 unfold a3P;cases e:es.reverse.find? _ with
 | none=>
  refine IsLine.nil (a6F λi h=>?_);rw[<- hi]at h;obtain⟨x,a,rfl⟩:=fq.mp h
  have:=js.mp e x (by grind)
  simpa using this
 | some x=>
  obtain⟨g,r,s,o,n⟩:=List.find?_eq_some_iff_append.mp e;have a:x∈es:=by simp_all
  have g:=of_decide_eq_true g;refine (hl x a).cut (by omega) λj l=>?_;rw[<- hi]at l;obtain⟨y,m,rfl⟩:=fq.mp l;have d:y∈es.reverse:=by grind
  rw[o]at d b;rcases fg.mp d with c | c
  ·right
   have:=n y c
   simpa using this
  ·left
   rcases ft.mp c with rfl | c
   ·omega
   ·have:=iH (fE.mp b).2.1 c
    omega
theorem b3R {es:List (Int×List Rw)}(hi:es.map (·.1)=ix T k):es.Pairwise (λa b=>a.1<b.1):=by
 have:=a6E T k
 rw[<- hi]at this;exact gX.mp this
noncomputable def rnK (r:Rw):List Key:=[.inl (some r.b),.inl r.e,match r.w with | [.str s]=>.inr s | _=>.inl none]
theorem b3S {r:Rw}(h:∃ w,r.w=[.str w]):.tup ((rnK r).map keyW)=r.z:=by
 obtain⟨w,h⟩:=h;unfold rnK Rw.z;rw[h];cases r.e<;>rfl
theorem c2w (h:∃ w,r.w=[.str w]):L3.tupZ (rnK r)=r.z:=by
 obtain⟨w,h⟩:=h;unfold L3.tupZ rnK Rw.z;rw[h];cases r.e<;>rfl
theorem b7S (h:∃ w,r.w=[.str w]) (h':∃ w,s.w=[.str w]) (e:rnK r=rnK s):r=s:=Rw.z_inj (by rw[<- b3S h,<- b3S h',e])
theorem b02:∀ x:List Tim.Pz,Tim.cmpT x x=true
 | []=>rfl
 | a::x=>by unfold Tim.cmpT;rw[if_pos rfl];exact b02 x
theorem c0K (h:Can L):∀ r∈L,∀ s∈L,Tim.cmpT (rnK r) (rnK s)=true:=λr a s f=>by
 have d:=(gn.and_mem.mp h.2).imp λ{r s} ⟨a,_,q⟩=>q.lt.b (h.1 r a)
 by_cases c:r=s
 ·rw[c];exact b02 _
 ·have g:=λe=>c ((gn.forall_of_forall_of_flip (R:=λr s=>r.b=s.b->r=s) (λx _ _=>rfl) (d.imp λ{r s} q e=>by omega) (d.imp λ{r s} q e=>by have:=e;omega)) a f e);unfold rnK Tim.cmpT;rw[if_neg (by simp_all)]
  rfl
theorem b3T:∀ {L M:List Rw},Can L->M.Perm L->(M.map rnK).Pairwise (λx y=>Tim.ltT y x=false)->M=L:=λ{L M} h p s=>by
 have c:=(gn.and_mem.mp h.2).imp λ{r s} ⟨m,_,q⟩=>q.lt.b (h.1 r m);have k:=p.nodup_iff.mpr (a6H h);have d:M.Pairwise λr s=>r.b<s.b:=by
  have g:=(gX.mp s).and k;refine (gn.and_mem.mp g).imp λ{x y} ⟨i,l,q,j⟩=>?_;have f:x.b≠y.b:=λe=>j ((gn.forall_of_forall_of_flip (R:=λr s=>r.b=s.b->r=s) (λx _ _=>rfl) (c.imp λ{r s} q e=>by omega) (c.imp λ{r s} q e=>by have:=e;omega)) (p.mem_iff.mp i) (p.mem_iff.mp l) e);unfold rnK Tim.ltT at q;rw[if_neg (by simpa using Ne.symm f)]at q
  have:=q
  have:=of_decide_eq_false this
  omega
 exact p.eq_of_pairwise (λa b _ _ n o=>by omega) d c
abbrev b0b:Str:=Str.ofString "last"
abbrev b3U:Str:=Str.ofString "kept"
noncomputable def shF (n:Int) (d:Addr):List (Str×Z):=[(b0b,.int n),(b3U,.ref d)]
theorem c2F:¬ (b0b=b3U):=by decide +kernel
theorem b7T:putQ b3U (.ref d) [(b0b,.int n)]=shF n d:=by
 rfl
theorem b7U:putQ b0b (.int m) (shF n d)=shF m d:=rfl
theorem a3q:(shF n d).lookup b0b=some (.int n):=rfl
theorem a3r:(shF n d).lookup b3U=some (.ref d):=rfl
theorem a1Q (h1:(m==b0b)=false) (h2:(m==b3U)=false):(shF n d).lookup m=none:=by
 unfold shF;rw[gq,h1,gq,h2];rfl
abbrev enZ (e:Int×Addr):Z:=.tup [.int e.1,.ref e.2]
structure Hist (G:Hq) (S:Addr->Prop) (T:List Tl) (k:Str) (h:Addr) (es:List (Int×Addr)):Prop where
 s:S h
 at_:G h=some (.lst (es.map enZ))
 ix:es.map (·.1)=ix T k
 ne:es≠[]
 ln:∀ e∈es,S e.2/\∃ L,G e.2=some (.lst (L.map Rw.z))/\IsLine (T.take e.1.toNat) k L
structure Tils (G:Hq) (S:Addr->Prop) (T:List Tl) (k:Str) (h:Addr) (es:List (Int×List Rw)):Prop where
 s:S h
 at_:G h=some (.lst ((TF es).map (Ti.z k)))
 ix:es.map (·.1)=ix T k
 ne:es≠[]
 ln:∀ e∈es,IsLine (T.take e.1.toNat) k e.2
def Rec (b:Bool) (G:Hq) (S:Addr->Prop) (T:List Tl) (k:Str) (h:Addr):Prop:=cond b (∃ es,Tils G S T k h es) (∃ es,Hist G S T k h es)
theorem Rec.keepL (H:Rec b G S T k h) (q:∀ x ws,S x->G x=some (.lst ws)->G' x=some (.lst ws)):Rec b G' S T k h:=by
 cases b with
 | false=>
  obtain⟨d,H⟩:=H;exact⟨d,H.s,q _ _ H.s H.at_,H.ix,H.ne,λe f=>let ⟨s,L,a,c⟩:=H.ln e f;⟨s,L,q _ _ s a,c⟩⟩
 | true=>
  obtain⟨d,H⟩:=H;exact⟨d,H.s,q _ _ H.s H.at_,H.ix,H.ne,H.ln⟩
theorem Rec.at_ (H:Rec b G S T k h):S h/\∃ ws,G h=some (.lst ws):=by
 cases b with
 | false=>obtain⟨a,H⟩:=H;exact⟨H.s,_,H.at_⟩
 | true=>obtain⟨a,H⟩:=H;exact⟨H.s,_,H.at_⟩
structure ShM (a:Ad) (b:Bool) (G:Hq) (p:Addr) (S:Addr->Prop) (T:List Tl) (n:Int) (dx d:Addr) (kvs:List (Key×Z)):Prop where
 ob:G p=some (.ins (a.cK b) dx (shF n d))
 sp:S p
 sd:S d
 dc:G d=some (.dK kvs)
 len:kvs.length<=T.length
 no:∀ k,valZ kvs (.inr k)=none->ix T k=[]
 hs:∀ k z,valZ kvs (.inr k)=some z->∃ h,z=.ref h/\Rec b G S T k h
 inj:∀ k k' z,valZ kvs (.inr k)=some z->valZ kvs (.inr k')=some z->k=k'
 al:∀ b,S b->∃ o,G b=some o
 nd:(kvs.map (·.1)).Nodup
 sk:∀ q∈kvs,∃ s,q.1=Sum.inr s
def Sheet (a:Ad) (b:Bool) (G:Hq) (p:Addr) (S:Addr->Prop) (T:List Tl):Prop:=∃ dx d kvs,ShM a b G p S T T.length dx d kvs
def KS (S:Addr->Prop) (G G':Hq):Prop:=∀ b o,S b->G b=some o->G' b=some o
def KN (S:Addr->Prop) (G G':Hq):Prop:=∀ b o,¬ S b->G b=some o->G' b=some o
theorem Sm.ks (s:Sm G G'):KS S G G':=λb o _ e=>s b o e
theorem Sm.kn (s:Sm G G'):KN S G G':=λb o _ e=>s b o e
theorem KN.trans (a:KN S G G1) (b:KN S G1 G2):KN S G G2:=λc o n e=>b c o n (a c o n e)
theorem ShM.keep {a:Ad}{b:Bool}{G G':Hq}{p:Addr}{S:Addr->Prop}{T:List Tl}{n:Int}{dx d:Addr}{kvs:List (Key×Z)}(H:ShM a b G p S T n dx d kvs) (q:KS S G G'):ShM a b G' p S T n dx d kvs:=
 ⟨q _ _ H.sp H.ob,H.sp,H.sd,q _ _ H.sd H.dc,H.len,H.no,λk z e=>let ⟨h,c,g⟩:=H.hs k z e;⟨h,c,g.keepL λx ws s e=>q x _ s e⟩,H.inj,(λb hb=>let ⟨o,e⟩:=H.al b hb;⟨o,q b o hb e⟩),H.nd,H.sk⟩
theorem Sheet.keep {a:Ad}{b:Bool}{G G':Hq}{p:Addr}{S:Addr->Prop}{T:List Tl}(H:Sheet a b G p S T) (q:KS S G G'):Sheet a b G' p S T:=let ⟨dx,d,kvs,h⟩:=H;⟨dx,d,kvs,h.keep q⟩
structure ShV (a:Ad) (b:Bool) (G:Hq) (p:Addr) (S:Addr->Prop) (T:List Tl) (n:Int) (dx d:Addr) (kvs:List (Key×Z)):Prop where
 ob:G p=some (.ins (a.cK b) dx (shF n d))
 sp:S p
 sd:S d
 dc:G d=some (.dK kvs)\/G d=some (.dF kvs)
 len:kvs.length<=T.length
 no:∀ k,valZ kvs (.inr k)=none->ix T k=[]
 hs:∀ k z,valZ kvs (.inr k)=some z->∃ h,z=.ref h/\Rec b G S T k h
 al:∀ b,S b->∃ o,G b=some o
 nd:(kvs.map (·.1)).Nodup
 sk:∀ q∈kvs,∃ s,q.1=Sum.inr s
theorem ShM.v {a:Ad}{b:Bool}{G:Hq}{p:Addr}{S:Addr->Prop}{T:List Tl}{n:Int}{dx d:Addr}{kvs:List (Key×Z)}(H:ShM a b G p S T n dx d kvs):ShV a b G p S T n dx d kvs:=⟨H.ob,H.sp,H.sd,.inl H.dc,H.len,H.no,H.hs,H.al,H.nd,H.sk⟩
theorem ShV.keep {a:Ad}{b:Bool}{G G':Hq}{p:Addr}{S:Addr->Prop}{T:List Tl}{n:Int}{dx d:Addr}{kvs:List (Key×Z)}(H:ShV a b G p S T n dx d kvs) (q:KS S G G'):ShV a b G' p S T n dx d kvs:=
 ⟨q _ _ H.sp H.ob,H.sp,H.sd,H.dc.imp (q _ _ H.sd) (q _ _ H.sd),H.len,H.no,λk z e=>let ⟨h,c,g⟩:=H.hs k z e;⟨h,c,g.keepL λx ws s e=>q x _ s e⟩,(λb hb=>let ⟨o,e⟩:=H.al b hb;⟨o,q b o hb e⟩),H.nd,H.sk⟩
def SheetV (a:Ad) (b:Bool) (G:Hq) (p:Addr) (S:Addr->Prop) (T:List Tl):Prop:=∃ dx d kvs,ShV a b G p S T T.length dx d kvs
theorem Sheet.v {a:Ad}{b:Bool}{G:Hq}{p:Addr}{S:Addr->Prop}{T:List Tl}(H:Sheet a b G p S T):SheetV a b G p S T:=let ⟨dx,d,kvs,h⟩:=H;⟨dx,d,kvs,h.v⟩
theorem SheetV.keep {a:Ad}{b:Bool}{G G':Hq}{p:Addr}{S:Addr->Prop}{T:List Tl}(H:SheetV a b G p S T) (q:KS S G G'):SheetV a b G' p S T:=let ⟨dx,d,kvs,h⟩:=H;⟨dx,d,kvs,h.keep q⟩
theorem b7V (h:t σ G λws G1=>sp ws G1 R EE):b59 sp EE t σ G R:=h
theorem b7W (h:te σ G λ_ G1=>EE C G1):b6a EE C te nx rt bk ct σ G:=h
theorem b7X (h:to σ G λx G1=>∃ q dx fs,x=.ref q/\G1 q=some (.ins C dx fs)/\fs.lookup m=none/\t σ G1 λws G2=>sp (.ref q::ws) G2 R EE):b6b C m sp EE to t σ G R:=h
theorem c0L {PC:Addr->Prop}(h:to σ G λx G1=>∃ q dx fs,x=.ref q/\G1 q=some (.ins C dx fs)/\fs.lookup m=none/\t σ G1 λws G2=>
 sp (.ref q::ws) G2 (λ_ G3=>nx σ G3) λC' G3=>PC C'/\∀ e,th C' e (fun σ' G'=>nx (σ'.set i none) G') rt (fun σ' G'=>bk (σ'.set i none) G') (fun σ' G'=>ct (σ'.set i none) G') (σ.set i (some (.ref e))) G3):c0l PC i C m sp to t th nx rt bk ct σ G:=h
local macro_rules | `(tactic| walk_at "go1")=>`(tactic| with_reducible (first | refine b7V ?_ | refine b7W ?_ | refine b7X ?_ | refine c0L ?_))
def a1u (a:Ad):PX3:=λws G R EE=>∃ x,ws=[x]/\Th G x/\∀ G',Sm G G'->if a15 x=true then R .non G' else EE a.x_NoName G'
theorem a5L {a:Ad}{ws:List Z}{G:Hq}{R:K3}{EE:Addr->Hq->Prop}(h:a1u a ws G R EE):ws.length=1:=by obtain⟨_,rfl,_⟩:=h;rfl
theorem a2i (F:Fns K a) (T:Txt K mg a):FnOk P w K mg base (CXx P w) 2 a.f4 a.d4 ["thing"] (a2S K (a1u a)):=by
 have b:FnOk P w K mg base CX0 1 a.f0 a.d0 ["thing"] _:=a9q F T;refine fn3x F.n4 a6v (λg G R m h=>(by exact a5L h)) (λn A f s H E g G R m e h j=>?_);refine⟨_,(a0n (z_if (a29 (a3l (a0q b (e.mono (by decide)) rfl T.m0 F.n0.kp (a9e F) (a0b (a0c (pv 0)) a0f a0a))))
  (a0n (a76 Outs.of j rfl rfl T.x_NoName T.xi_NoName a2b a0e a0i))
  a1a)),?_⟩
 obtain⟨x,rfl,k,q⟩:=h;symm;refine⟨_,rfl,k,λl i=>?_⟩;have d:=q l i;symm;refine ifNB (λc=>?_) λc=>?_
 ·rw[c]at d;exact d
 ·rw[c]at d;symm;exact d
def a1v (a:Ad):PX3:=λws G R EE=>∃ x y,ws=[x,y]/\Th G x/\Th G y/\∀ G',Sm G G'->if strB x y=true then R .non G' else EE a.x_NoStretch G'
theorem a4e {a:Ad}{ws:List Z}{G:Hq}{R:K3}{EE:Addr->Hq->Prop}(h:a1v a ws G R EE):ws.length=2:=by obtain⟨_,_,rfl,_⟩:=h;rfl
theorem a4M (F:Fns K a) (T:Txt K mg a):FnOk P w K mg base (CXx P w) 3 a.f6 a.d6 ["begin","end"] (a2S K (a1v a)):=by
 have b:FnOk P w K mg base CX0 2 a.f2 a.d2 ["begin","end"] _:=a6D F T;refine fn3x F.n6 a4x (λi G R n h=>(by exact a4e h)) (λo A f s H E i G R n e h k=>?_);refine⟨_,(a0n (z_if (a29 (a3l (a0q b (e.mono (by decide)) rfl T.m2 F.n2.kp (a6w F) (a0b (a0c (pv 0)) (a0b (a0c (pv 1)) a0f a0a) a0a))))
  (a0n (a76 Outs.of k rfl rfl T.x_NoStretch T.xi_NoStretch a2b a0e a0i))
  a1a)),?_⟩
 obtain⟨x,y,rfl,l,g,q⟩:=h;symm;refine⟨_,_,rfl,l,g,λm j=>?_⟩;have d:=q m j;symm;refine ifNB (λc=>?_) λc=>?_
 ·rw[c]at d;exact d
 ·rw[c]at d;symm;exact d
structure Tel (G:Hq) (z:Z) (h:Z) (nm:List Z) (x y:Z):Prop where
 e:z=.tup (h::(nm++[x,y]))
 l:(∃ k,nm=[k])\/∃ k w,nm=[k,w]
 n:∀ z∈nm,Th G z
 x:Th G x
 y:Th G y
theorem Tel.sm {x y:Z}(T:Tel G z h nm x y) (s:Sm G G'):Tel G' z h nm x y:=⟨T.e,T.l,λz a=>(T.n z a).sm s,T.x.sm s,T.y.sm s⟩
def a1w (a:Ad):PX3:=λws G R EE=>Ex5 λ(z h:Z) (nm:List Z) (x y:Z)=>ws=[z]/\Tel G z h nm x y/\∀ G',Sm G G'->if nm.all a15=true then (if strB x y=true then R .non G' else EE a.x_NoStretch G') else EE a.x_NoName G'
theorem a4f {a:Ad}{ws:List Z}{G:Hq}{R:K3}{EE:Addr->Hq->Prop}(h:a1w a ws G R EE):ws.length=1:=by obtain⟨_,_,_,_,_,rfl,_⟩:=h;rfl
theorem c2x:cutZ [h,k,x,y] (some 1) (some (-2))=[k]:=rfl
theorem c2y {h k w x y:Z}:cutZ [h,k,w,x,y] (some 1) (some (-2))=[k,w]:=rfl
theorem a6I {l:List Z}(h:x∈l) (c:f x=false):l.all f=false:=List.all_eq_false.mpr ⟨x,h,by rw[c];decide⟩
theorem b03 {l:List Z}(h:(l.take i).all f=true) (e:l[i]?=some x) (c:f x=true):(l.take (i+1)).all f=true:=by
 rw[gG,jt,h,e]
 show (true&&([x].all f))=true
 rw[gH,c];rfl
theorem a4N (F:Fns K a) (T:Txt K mg a):FnOk P w K mg base (CXx P w) 4 a.f15 a.d15 ["telling"] (a2S K (a1w a)):=by
 have d:FnOk P w K mg base (CXx P w) 3 a.f6 a.d6 ["begin","end"] (a2S K (a1v a)):=a4M F T;have e:FnOk P w K mg base (CXx P w) 2 a.f4 a.d4 ["thing"] (a2S K (a1u a)):=a2i F T;refine fn3x F.n15 sc_p_check_telling (λJ G R D h=>(by exact a4f h)) (λL A C s H E J G R D o h r=>?_);have m:=a0Y o;refine⟨_,(a0k (a3E kH.leaving rfl (b5R (a09 x_sl (a0c (pv 0)) (a1m a0g) (a1m (q_un a2M a0g)))) (show QP _ _ (.nm 1) from (a0o sc_p_check_telling.nd rfl (fb rfl)))
  (a0n (a06 (a35 (a1L Outs.of) r.since e (o.mono (by decide)) rfl T.m4 F.n4.kp (a2h F) (a0b (a0c (pv 1)) a0f a0a)))))
  (a0n (a06 (a35 (a1L Outs.of) r.since d (o.mono (by decide)) rfl T.m6 F.n6.kp (a4A F) (a0b (q_ix x_ix (a0c (pv 0)) (q_un a2M a0g) (λ_ _=>rfl)) (a0b (q_ix x_ix (a0c (pv 0)) (q_un a2M a0g) (λ_ _=>rfl)) a0f a0m) a0m))))),?_⟩
 obtain⟨z,h,M,x,y,rfl,⟨rfl,I,t,B,p⟩,q⟩:=h;rcases I with ⟨k,rfl⟩ | ⟨k,w,rfl⟩
 ·show uSeq _ _ _ _ _ _ (a5v _ [.tup [h,k,x,y]]) _
  symm;refine b1v (show ¬ (HT.sIx 4 0 (some 1)=0/\HT.sIx 4 4 (some (-2))=4) by decide) ?_;rw[c2x];symm;refine a1n (λi σ j=>∃ v:Option Z,Sm G j/\(([k]:List Z).take i).all a15=true/\σ=[some (.tup [h,k,x,y]),v]) ⟨_,Sm.refl _,rfl,rfl⟩ (λ_ _ _ _ _=>True.intro) ?_ ?_
  ·rintro i u σ j m ⟨v,s,f,rfl⟩;have n:=fA m;refine⟨_,rfl,?_⟩;symm;refine⟨u,rfl,(t u n).sm s,λl g=>?_⟩;have b:=q l (s.trans g);refine ifB (λc=>?_) λc=>?_
   ·symm;exact⟨_,s.trans g,b03 f m c,rfl⟩
   ·rw[a6I n c]at b;exact b
  ·rintro σ j ⟨v,s,f,rfl⟩;have f:([k]:List Z).all a15=true:=f;symm;refine⟨x,y,rfl,B.sm s,p.sm s,λl g=>?_⟩;have b:=q l (s.trans g);rw[f]at b;refine ifB (λc=>?_) λc=>?_
   ·rw[c]at b;symm;exact b
   ·rw[c]at b;exact b
 ·show uSeq _ _ _ _ _ _ (a5v _ [.tup [h,k,w,x,y]]) _
  symm;refine b1v (show ¬ (HT.sIx 5 0 (some 1)=0/\HT.sIx 5 5 (some (-2))=5) by decide) ?_;rw[c2y];symm;refine a1n (λi σ j=>∃ v:Option Z,Sm G j/\(([k,w]:List Z).take i).all a15=true/\σ=[some (.tup [h,k,w,x,y]),v]) ⟨_,Sm.refl _,rfl,rfl⟩ (λ_ _ _ _ _=>True.intro) ?_ ?_
  ·rintro i u σ j m ⟨v,s,f,rfl⟩;have n:=fA m;refine⟨_,rfl,?_⟩;symm;refine⟨u,rfl,(t u n).sm s,λl g=>?_⟩;have b:=q l (s.trans g);refine ifB (λc=>?_) λc=>?_
   ·symm;exact⟨_,s.trans g,b03 f m c,rfl⟩
   ·rw[a6I n c]at b;exact b
  ·rintro σ j ⟨v,s,f,rfl⟩;have f:([k,w]:List Z).all a15=true:=f;symm;refine⟨x,y,rfl,B.sm s,p.sm s,λl g=>?_⟩;have b:=q l (s.trans g);rw[f]at b;refine ifB (λc=>?_) λc=>?_
   ·rw[c]at b;symm;exact b
   ·rw[c]at b;exact b
noncomputable def a2j (a:Ad):PX3:=λws G R EE=>∃ q n:Int,ws=[.int q,.int n]/\if 0<=q/\q<=n then R .non G else EE a.x_NoKnowing G
theorem a3F {a:Ad}{ws:List Z}{G:Hq}{R:K3}{EE:Addr->Hq->Prop}(h:a2j a ws G R EE):ws.length=2:=by obtain⟨_,_,rfl,_⟩:=h;rfl
theorem a4g (F:Fns K a) (T:Txt K mg a):FnOk P w K mg base (CXx P w) 1 a.f7 a.d7 ["knowing","last"] (a2S K (a2j a)):=by
 refine fn3x F.n7 a37 (λd G R e h=>(by exact a3F h)) (λj A b s H E d G R e f h g=>?_);have l:=a0Y f;refine⟨_,(a0n (z_if (QW.qt (q_or (a0r o_lt (a0c (pv 0)) a0g (a0p _)) (a44 (a0r o_gt (a0c (pv 0)) (a0c (pv 1)) (a0p _)))))
  (a0n (a76 Outs.of g rfl rfl T.x_NoKnowing T.xi_NoKnowing a2b a0e a0i))
  a1a)),?_⟩
 obtain⟨q,n,rfl,k⟩:=h;symm;refine ifD (λc=>?_) λc=>?_
 ·rw[if_neg (by omega)]at k;symm;exact k
 ·symm;refine ifD (λi=>?_) λi=>?_
  ·rw[if_neg (by omega)]at k;symm;exact k
  ·rw[if_pos (by omega)]at k;symm;exact k
def a1Z:P3:=λws G R=>∃ (l:Addr) (L:List Rw) (τ:Tl),ws=[.ref l,τ.z]/\G l=some (.lst (L.map Rw.z))/\Rise L/\Plain L/\L.length<=400/\τ.Ok /\
 ∀ t G',G t=none->Sm G G'->G' t=some (.lst ((a9l L τ.b τ.e (optW τ.v)).map Rw.z))->R (.ref t) G'
theorem a5n (h:a1Z ws G R):ws.length=2:=by obtain⟨_,_,_,rfl,_⟩:=h;rfl
theorem b7Y:¬ (b00=sPut):=by decide +kernel
theorem a5M (F:Fns K a) (T:Txt K mg a):FnOk P w K mg base CX0 4 a.f16 a.d16 ["line","telling"] (lowP K a1Z):=by
 have d:FnOk P w K mg base CX0 3 a.f14 a.d14 ["line","begin","end","worth"] _:=a98 F T;refine fn3 F.n16 sc_p_line_behind (λr G R h=>(by exact a5n h)) (λu A n s H E r G R f h=>?_);have o:=a0Y f;refine⟨_,(a0k (a0F (i:=2) sc_p_line_behind.nd rfl (fb rfl) (q_if (a0r (o_eq o) (q_ix x_ix (a0c (pv 1)) a0g (λ_ _=>rfl)) a2b (a0p _)) (q_ix x_ix (a0c (pv 1)) a0g (λ_ _=>rfl)) a1y))
  (a0n (a0D (a0q d (f.mono (by decide)) rfl T.m14 F.n14.kp (a91 F) (a0b (a0c (pv 0)) (a0b (q_ix x_ix (a0c (pv 1)) (q_un a2M a0g) (λ_ _=>rfl)) (a0b (q_ix x_ix (a0c (pv 1)) (q_un a2M a0g) (λ_ _=>rfl)) (a0b (a0c (pv 2)) a0f a0a) a0m) a0m) a0a))))),?_⟩
 obtain⟨l,L,⟨t,w,b,e⟩,rfl,m,f,g,x,k,q⟩:=h;have j:=k.st.bef;have p:=k.v;cases w with
 | none=>
  unfold Tl.z;symm;refine ifD (λc=>absurd c b7Y) λ_=>?_;symm;exact⟨l,L,b,e,.non,rfl,m,f,g.okR,g.one,by omega,j,rfl,q⟩
 | some w=>
  unfold Tl.z;symm;refine ifD (λ_=>?_) λc=>absurd rfl c;symm;exact⟨l,L,b,e,.str w,rfl,m,f,g.okR,g.one,by omega,j,a2B (by decide) p,q⟩
def a2C (a:Ad):P3:=λws G R=>∃ b p dx,ws=[.ref p]/\G p=some (.ins (a.cK b) dx [])/\∀ d G',G d=none->(∀ b o,G b=some o->b≠p->G' b=some o)->Sheet a b G' p (λx=>x=p\/x=d) []->R .non G'
theorem a4O {a:Ad}{ws:List Z}{G:Hq}{R:K3}(h:a2C a ws G R):ws.length=1:=by obtain⟨_,_,_,rfl,_⟩:=h;rfl
theorem a5o (F:Fns K a) (T:Txt K mg a):FnOk P w K mg base CX0 1 a.f45 a.d45 ["self"] (lowP K (a2C a)):=by
 refine fn3 F.n45 a5g (λn G R h=>(by exact a4O h)) (λu A l s H E n G R r h=>?_);have v:=a0Y r;obtain⟨b,h⟩:=h;refine⟨_,(a0k (b93 (clK T b) (a3B T b) (a0c (pv 0)) a0g)
  (a0n (b93 (clK T b) (b0S T b) (a0c (pv 0)) b9u))),?_⟩
 obtain⟨p,g,rfl,m,q⟩:=h;symm;refine⟨p,g,[],rfl,m,by decide,?_⟩;symm;intro d i;have c:=a0z a0d i;symm;refine⟨p,g,[(b0b,.int 0)],rfl,by rw[a0E c];exact a0d,by decide,?_⟩;rw[b7T];symm;have f:G d=none:=by rw[a0E (Ne.symm c)]at i;exact i
 refine q d _ f (λb o e j=>?_) ⟨g,d,[],⟨a0d,.inl rfl,.inr rfl,?_,by simp,λk _=>rfl,(λk z e=>by cases e),(λk x z e=>by cases e),?_,.nil,λq t=>by simp at t⟩⟩
 ·rw[a0E j,a0E (a0z e f),a0E j];exact e
 ·rw[a0E (Ne.symm c)];exact a0d
 ·rintro b (rfl | rfl)
  ·exact⟨_,a0d⟩
  ·exact⟨_,by rw[a0E (Ne.symm c)];exact a0d⟩
def a03 (a:Ad):PX3:=λws G R EE=>∃ b:Bool,Ex4 λ(p:Addr) (S:Addr->Prop) (T:List Tl) (q:Int)=>ws=[.ref p,.int q]/\SheetV a b G p S T/\if 0<=q/\q<=T.length then R .non G else EE a.x_NoKnowing G
theorem a25 {a:Ad}{ws:List Z}{G:Hq}{R:K3}{EE:Addr->Hq->Prop}(h:a03 a ws G R EE):ws.length=2:=by obtain⟨_,_,_,_,_,rfl,_⟩:=h;rfl
theorem a04 (F:Fns K a) (T:Txt K mg a):FnOk P w K mg base (CXx P w) 2 a.f30 a.d30 ["self","knowing"] (a2S K (a03 a)):=by
 have e:FnOk P w K mg base (CXx P w) 1 a.f7 a.d7 ["knowing","last"] _:=a4g F T;refine fn3x F.n30 a3g (λj G R m h=>(by exact a25 h)) (λo A g s H E j G R m f h n=>?_);obtain⟨b,h⟩:=h;refine⟨_,(a0n (a06 (a35 (a1L Outs.of) n.since e (f.mono (by decide)) rfl T.m7 F.n7.kp (a39 F) (a0b (a0c (pv 1)) (a0b (a4w (clK T b) (a3B T b) (a0c (pv 0))) a0f a1l) a0a)))),?_⟩;obtain⟨p,S,T',q,rfl,⟨i,d,r,l⟩,k⟩:=h;symm;refine⟨p,i,_,_,rfl,l.ob,a3q,?_⟩;symm;refine⟨q,_,rfl,?_⟩
 by_cases c:0<=q/\q<=T'.length
 ·omega
 ·omega
def a1N (a:Ad) (b:Bool):P3:=λws G R=>Ex9 λ(p:Addr) (S:Addr->Prop) (T:List Tl) (k:Str) (q:Int) (n:Int) (dx d:Addr) (kvs:List (Key×Z))=>ws=[.ref p,.str k,.int q]/\ShV a b G p S T n dx d kvs/\0<=q/\q<=T.length/\T.length<=200 /\
 ∀ t L G',G t=none->Sm G G'->G' t=some (.lst (L.map Rw.z))->IsLine (T.take q.toNat) k L->R (.ref t) G'
theorem a3s {a:Ad}{b:Bool}{ws:List Z}{G:Hq}{R:K3}(h:a1N a b ws G R):ws.length=3:=by obtain⟨_,_,_,_,_,_,_,_,_,rfl,_⟩:=h;rfl
abbrev a4h (a:Ad):P3:=a1N a false
abbrev a4i (a:Ad):P3:=a1N a true
theorem b7Z (l:List Rw):l.filterMap (λr=>some r)=l:=by simp
theorem a4j (F:Fns K a) (T:Txt K mg a):FnOk P w K mg base CX0 3 a.f31 a.d31 ["self","key","knowing"] (lowP K (a4h a)):=by
 refine fn3 F.n31 sc_Sheet_known_line (λws G R h=>(by exact a3s h)) (λcdv A outer s H E ws G R hr h=>?_);have hu:=a0Y hr;refine⟨_,(a0k (a3E (pt:=(.tp [3,4])) kH.never rfl (a9T rfl T.b_reversed (a0b (q_bm PySem.F.plainAttrs_dict PySem.F.slot_dict_get PySem.F.type_dict_get (b3i hu) (a4w T.cl_Sheet T.na_kept (a0c (pv 0))) (a0b (a0c (pv 1)) (a0b (a1p a0f) a0f a3Y) a0a)) a0f a0C)) (show QP _ _ (.tp [3,4]) from (a4l rfl (a0s (a0o (i:=3) sc_Sheet_known_line.nd rfl (fb rfl)) (a0s (a0o (i:=4) sc_Sheet_known_line.nd rfl (fb rfl)) a2H))))
  (a0n (z_if (a0r o_le (a0c (pv 3)) (a0c (pv 2)) (a0p _))
  (a0n (a0D (q_lc (N₀:=["self","key","knowing","since","line"]) (so:=a0h a07) (N':=["begin","end","worth"]) (cap:=[none,none,none]) (pt:=(.tp [0,1,2])) rfl rfl rfl (by decide +kernel) rfl (a0R (a0c (pv 4))) (λ_ _ _ _=>(show QP _ _ (.tp [0,1,2]) from (a4l rfl (a0s (a0o (i:=0) b7G rfl (fb rfl)) (a0s (a0o (i:=1) b7G rfl (fb rfl)) (a0s (a0o (i:=2) b7G rfl (fb rfl)) a2H)))))) (λ_ _ _ _=>a3Z) (λ_ _ _ _=>(a1g (a0b (a0c (pv 0)) (a0b (a0c (pv 1)) (a0b (a0c (pv 2)) a0f a0a) a0a) a0a))))))
  a1a)))
  (a0n (a0D (a1p a0f)))),?_⟩
 obtain⟨p,S,T,k,q,n,dx,d,kvs,rfl,sh,h0,h1,hT,fin⟩:=h;obtain⟨q,rfl⟩:=ge h0;symm;refine⟨p,dx,_,_,rfl,sh.ob,a3r,?_⟩;refine c0d sh.dc ?_;symm;refine⟨lenK rfl,λt0 ht0=>?_⟩;symm;refine b3j (sh.dc.imp (λe=>a0l e ht0) λe=>a0l e ht0) rfl ?_;have s0:Sm G (put G t0 (.lst [])):=Sm.new ht0;have none_:(∀ i∈ix T k,(q:Int)<i)->∀ (v1 v2:Option Z) (G1:Hq),Sm G G1->∀ t,G1 t=none->R (.ref t) (put G1 t (.lst [])):=λhi _ _ G1 s1 t ht=>
  fin t [] _ (s1.free ht) (s1.trans (Sm.new ht)) a0d (by
   have e:((q:Int)).toNat=q:=by omega
   rw[e];exact IsLine.nil (a6F hi))
 cases hv:valZ kvs (.inr k) with
 | none=>
  symm;refine⟨t0,[],rfl,a0d,?_⟩;refine a1n (λi σ G'=>∃ v1 v2:Option Z,σ=[some (.ref p),some (.str k),some (.int q),v1,v2]/\G'=put G t0 (.lst [])) ⟨_,_,rfl,rfl⟩ (λi σ G' _ ⟨_,_,_,e⟩=>by rw[e];exact a0d) ?_ ?_
  ·rintro i x σ G' hx _;simp at hx
  ·rintro σ G' ⟨v1,v2,rfl,rfl⟩;symm;refine⟨lenK rfl,λt ht=>?_⟩;exact none_ (λi hi=>by rw[sh.no k hv]at hi;simp at hi) v1 v2 _ s0 t ht
 | some z=>
  obtain⟨h,rfl,es,H⟩:=sh.hs k z hv;symm;refine⟨h,_,rfl,a0l H.at_ ht0,?_⟩;rw[<- List.map_reverse];refine a1n (λi σ G'=>∃ v1 v2:Option Z,(∀ (j:Nat) e,j<i->es.reverse[j]?=some e->(q:Int)<e.1)/\σ=[some (.ref p),some (.str k),some (.int q),v1,v2]/\G'=put G t0 (.lst [])) ⟨_,_,λj e hj=>by omega,rfl,rfl⟩ (λi σ G' _ ⟨_,_,_,_,e⟩=>by rw[e];exact a0l H.at_ ht0) ?_ ?_
  ·rintro i x σ G' hx ⟨v1,v2,hall,rfl,rfl⟩;rw[fm]at hx;cases hx':es.reverse[i]? with
   | none=>rw[hx']at hx;cases hx
   | some e=>
   rw[hx']at hx;cases hx;obtain⟨s,l⟩:=e;have hmem:(s,l)∈es:=by have:=fA hx';simpa using this
   have hix:s∈ix T k:=by rw[<- H.ix];exact fP (f:=(·.1)) hmem
   obtain⟨hs1,hs2⟩:=b7O hix;obtain⟨_,L,gl,il⟩:=H.ln _ hmem;refine⟨_,rfl,?_⟩;symm;refine ifD (λc=>?_) λc=>?_
   ·symm;refine a2l (a0l gl ht0) ?_;intro D hD;have hone:=il.pl.one;have hll:L.length<=1000:=by have:=il.len;rw[fC]at this;omega
    refine a95 (g':=Rw.z) (λr=>some r) (λys=>a0l (a0l gl ht0) hD) hll ?_ ?_
    ·intro r hr ys K1 K2 k1 k2;obtain⟨x,hx⟩:=hone r hr;obtain⟨b,e,w⟩:=r;cases hx;refine⟨_,rfl,?_⟩;symm;refine⟨lenK rfl,?_⟩;exact k1 ⟨b,e,[x]⟩ rfl
    ·rw[b7Z];refine fin D L _ (s0.free hD) (s0.trans (Sm.new hD)) a0d ?_;have e1:((q:Int)).toNat=q:=by omega
     rw[e1];have il':IsLine (T.take s.toNat) k L:=il;refine il'.cut (by omega) λj hj=>?_;rw[<- H.ix]at hj;obtain⟨e2,he2,rfl⟩:=fq.mp hj
     by_cases c2:e2.1<=s
     ·left;omega
     ·right
      have he3:e2∈es.reverse:=by simpa using he2
      obtain⟨m,hm⟩:=ii he3
      by_cases hmi:m<i
      ·exact hall m e2 hmi hm
      ·exfalso;have hst:(ix T k).Pairwise (·<·):=a6E T k
       rw[<- H.ix]at hst;have hst2:es.reverse.Pairwise (λx y=>y.1<x.1):=by
        rw[kb];exact gX.mp hst
       by_cases hmi2:m=i
       ·subst hmi2;rw[hx']at hm;cases hm;omega
       ·obtain⟨l1,e5⟩:=fj.mp hx';obtain⟨l2,e6⟩:=fj.mp hm
        have:=ig.mp hst2 i m l1 l2 (by omega)
        rw[e5,e6]at this;simp only at this;omega
   ·symm;refine⟨_,_,λj e hj he=>?_,rfl,rfl⟩
    by_cases hji:j<i
    ·exact hall j e hji he
    ·have:j=i:=by omega
     subst this;rw[hx']at he;cases he;simp only;omega
  ·rintro σ G' ⟨v1,v2,hall,rfl,rfl⟩;symm;refine⟨lenK rfl,λt ht=>?_⟩;refine none_ (λj hj=>?_) v1 v2 _ s0 t ht;rw[<- H.ix]at hj;obtain⟨e2,he2,rfl⟩:=fq.mp hj;have he3:e2∈es.reverse:=by simpa using he2
   obtain⟨m,hm⟩:=ii he3;exact hall m e2 (by rw[fc];exact (fj.mp hm).1) hm
def Nmd (l:List Rw):Prop:=∀ r∈l,∃ w,r.w=[.str w]
def NmT (ts:List Ti):Prop:=∀ t∈ts,∃ w,t.r.w=[.str w]
theorem a7z {α β:Type}{l:List α}{g:α->Z}{g':β->Z}(f:α->Option β) (hok:∀ ys,ok (put G1 D (.lst ys))) (hz:l.length<=100000)
  (turn:∀ x,x∈l->∀ (ys:List Z) (K1:K3) (K2:Hq->Prop),(∀ y,f x=some y->K1 (g' y) (put G1 D (.lst ys)))->(f x=none->K2 (put G1 D (.lst ys)))->∃ σ',a59 pt (g x) (cap3 cap σ)=some σ'/\tt σ' (put G1 D (.lst ys)) λb G4=>if b=true then te σ' G4 K1 else K2 G4)
  (fin:R (.ref D) (put G1 D (.lst ((l.filterMap f).map g')))):LCB (l.map g) ok cap pt tt te σ R D G1:=by
 refine b1u (λi c G=>c=((l.take i).filterMap f).map g'/\G=put G1 D (.lst c)) ⟨by simp,rfl⟩ ?_ ?_ ?_
 ·simp_all
 ·rintro i x c G d ⟨e,rfl⟩;rw[fm]at d;cases hx':l[i]? with
  | none=>rw[hx']at d;cases d
  | some a=>
   rw[hx']at d;cases d;have k:=(fj.mp hx').1;refine turn a (fA hx') c _ _ (λy j=>⟨a0d,?_,?_,?_⟩) λh=>⟨?_,rfl⟩
   ·rw[e,fc];refine iw (fx (iA _ _) (by rw[fC];omega:_<=99999)) (by decide)
   ·rw[a1o hx',j,e,fv];rfl
   ·rw[a2a]
   ·rw[a1o hx',h,e];simp
 ·simp_all
def a6J:P3:=λws G R=>∃ (k:Str) (t:Ti),ws=[t.z k]/\(∃ w,t.r.w=[.str w])/\R t.r.z G
theorem a9r (h:a6J ws G R):ws.length=1:=by obtain⟨_,_,rfl,_⟩:=h;rfl
theorem a6K (F:Fns K a) (T:Txt K mg a):FnOk P w K mg base CX0 1 a.f17 a.d17 ["tile"] (lowP K a6J):=by
 refine fn3 F.n17 a90 (λd G R h=>(by exact a9r h)) (λf A c s H E d G R e h=>?_);refine⟨_,(a0n (a0D (a1g (a0b (q_ix x_ix (a0c (pv 0)) a0g (λ_ _=>rfl)) (a0b (q_ix x_ix (a0c (pv 0)) a0g (λ_ _=>rfl)) (a0b (q_ix x_ix (a0c (pv 0)) a0g (λ_ _=>rfl)) a0f a0m) a0m) a0m)))),?_⟩;obtain⟨k,⟨⟨l,i,g⟩,s,u⟩,rfl,⟨w,b⟩,q⟩:=h;subst b;unfold Ti.z;symm;refine⟨lenK rfl,?_⟩;symm;exact q
def a3b:P3:=λws G R=>∃ (k:Str) (t:Ti),ws=[t.z k]/\R (.bl t.u.isNone) G
theorem a5p (h:a3b ws G R):ws.length=1:=by obtain⟨_,_,rfl,_⟩:=h;rfl
theorem a3c (F:Fns K a) (T:Txt K mg a):FnOk P w K mg base CX0 1 a.f18 a.d18 ["tile"] (lowP K a3b):=by
 refine fn3 F.n18 a5E (λc G R h=>(by exact a5p h)) (λe A b s H E c G R d h=>?_);refine⟨_,(a0n (a0D (a4p o_is (q_ix x_ix (a0c (pv 0)) a0g (λ_ _=>rfl)) a1y (a0p _)))),?_⟩;obtain⟨k,⟨r,s,u⟩,rfl,q⟩:=h;unfold Ti.z;symm;refine c2q ?_;rw[Option.not_isSome];exact q
def a3Q:P3:=λws G R=>∃ (k:Str) (t:Ti) (n:Int),ws=[t.z k,.int n]/\R (.bl (t.at_ n)) G
theorem a6L (h:a3Q ws G R):ws.length=2:=by obtain⟨_,_,_,rfl,_⟩:=h;rfl
theorem a63 (F:Fns K a) (T:Txt K mg a):FnOk P w K mg base CX0 2 a.f20 a.d20 ["tile","knowing"] (lowP K a3Q):=by
 have b:FnOk P w K mg base CX0 1 a.f18 a.d18 ["tile"] _:=a3c F T;refine fn3 F.n20 a6U (λg G R h=>(by exact a6L h)) (λi A f s H E g G R d h=>?_);refine⟨_,(a0n (a0D (a58 (a4p o_le (q_ix x_ix (a0c (pv 0)) a0g (λ_ _=>rfl)) (a0c (pv 1)) (a0p _)) (a9D (c1r (a0q b (d.mono (by decide)) rfl T.m18 F.n18.kp (a1X F) (a0b (a0c (pv 0)) a0f a0a)) (a9D (a4p o_lt (a0c (pv 1)) (q_ix x_ix (a0c (pv 0)) a0g (λ_ _=>rfl)) (a0p _)))))))),?_⟩;obtain⟨k,t,n,rfl,q⟩:=h;unfold Ti.at_ at q;unfold Ti.z;symm;refine ifD (λc=>?_) λc=>?_
 ·rw[decide_eq_true c]at q;symm;refine⟨k,t,rfl,?_⟩;cases e:t.u with
  | none=>
   rw[e]at q;symm;exact q
  | some x=>
   rw[e]at q;symm;rw[if_neg (by simp)];symm;exact q
 ·simp_all
def a26:P3:=λws G R=>Ex6 λ(p l:Addr) (k:Str) (ts:List Ti) (L:List Rw) (n:Int)=>ws=[.ref p,.str k,.ref l,.int n]/\G p=some (.lst (ts.map (Ti.z k)))/\G l=some (.lst (L.map Rw.z))/\NmT ts/\Nmd L/\ts.length<=90000/\L.length<=900/\(stR ts).length<=900 /\
 ∀ t G',G t=none->Sm G G'->G' t=some (.lst ((tOn ts L n).map (Ti.z k)))->R (.ref t) G'
theorem a64 (h:a26 ws G R):ws.length=4:=by obtain⟨_,_,_,_,_,_,rfl,_⟩:=h;rfl
noncomputable def prR (r:Rw):Z:=.tup [r.z,.bl true]
noncomputable def prK (r:Rw):List Key×Z:=(rnK r,.bl true)
theorem b6h (h:Nmd L):L.map prR=(L.map prK).map prT:=by
 rw[gJ];refine gZ λr a=>?_
 show Z.tup [r.z,.bl true]=.tup [.tup ((rnK r).map keyW),.bl true]
 rw[b3S (h r a)]
theorem b6i (h:Nmd L) (hr:∃ w,r.w=[.str w]) (hk:∀ j,j∈ks↔j∈(L.map prK).map (·.1)):hasK ks (rnK r)=hasR L r:=by
 rw[g4,b5c,hasR_iff,hk,gJ,fq];exact⟨λ⟨s,a,e⟩=>b7S (h s a) hr e▸a,λa=>⟨r,a,rfl⟩⟩
theorem c2z (ts:List Ti):ts.filterMap (λt=>if t.u.isNone=true then some t.r else none)=stR ts:=by
 unfold stR
 induction ts with
 | nil=>rfl
 | cons t ts ih=>
  rw[gy,gC];cases t.u.isNone
  ·exact ih
  ·show t.r::_=_
   rw[ih];rfl
theorem b70 {α:Type}(l:List α):l.filterMap (λr=>some r)=l:=by simp
theorem b3V {α:Type}{p:α->Bool}(l:List α):l.filterMap (λr=>if p r=true then some r else none)=l.filter p:=by
 induction l with
 | nil=>rfl
 | cons r l ih=>
  rw[gy,gC];cases p r
  ·exact ih
  ·simp_all
theorem b6j {α β:Type}{f:α->β}(l:List α):l.filterMap (λr=>some (f r))=l.map f:=by simp
theorem cut5 {a b c d e f:Z}:cutZ [a,b,c,d,e,f] none (some 5)=[a,b,c,d,e]:=rfl
theorem b6k (h:NmT ts):Nmd (stR ts):=λr b=>by
 obtain⟨t,a,rfl⟩:=fq.mp b;exact h t (fX.mp a).1
theorem a8l (F:Fns K a) (T:Txt K mg a):FnOk P w K mg base CX0 2 a.f19 a.d19 ["tiles","key","line","knowing"] (lowP K a26):=by
 have G_p_run_of:=a6K (P:=P) (w:=w) (base:=base) F T;have G_p_is_standing:=a3c (P:=P) (w:=w) (base:=base) F T;refine fn3 F.n19 sc_p_tiled_on (λws G R h=>(by exact a64 h)) (λcdv A outer s H E ws G R hr h=>?_);have hu:=a0Y hr;refine⟨_,(a0k (a0F (i:=4) sc_p_tiled_on.nd rfl (gA rfl) (a13 (b3u rfl hu) rfl T.b_dict rfl (a0b (q_lc (N₀:=["tiles","key","line","knowing","wanted","standing","begun","ended"]) (so:=a0h a0V) (N':=["run"]) (cap:=[none]) (pt:=(.nm 0)) rfl rfl rfl (by decide +kernel) rfl (a0R (a0c (pv 2))) (λ_ _ _ _=>(show QP _ _ (.nm 0) from (a0o (i:=0) c2j rfl (fb rfl)))) (λ_ _ _ _=>a3Z) (λ_ _ _ _=>(a1g (a0b (a0c (pv 0)) (a0b q_bl a0f a0e) a0a)))) a0f a0M) (he:=a0M) (hpl:=a0i)))
  (a0k (a0F (i:=5) sc_p_tiled_on.nd rfl (gA rfl) (a13 (b3u rfl hu) rfl T.b_dict rfl (a0b (q_lc (N₀:=["tiles","key","line","knowing","wanted","standing","begun","ended"]) (so:=a0h a0V) (N':=["tile"]) (cap:=[none]) (pt:=(.nm 0)) rfl rfl rfl (by decide +kernel) rfl (a0R (a0c (pv 0))) (λ_ _ _ _=>(show QP _ _ (.nm 0) from (a0o (i:=0) c2k rfl (fb rfl)))) (λ_ _ _ _=>(a30 (a3l (a0q G_p_is_standing (hr.mono (by decide)) rfl T.m18 F.n18.kp (a1X F) (a0b (a0c (pv 0)) a0f a0a) (he:=a0a) (hpl:=a0i))))) (λ_ _ _ _=>(a1g (a0b (a0q G_p_run_of (hr.mono (by decide)) rfl T.m17 F.n17.kp (a4a F) (a0b (a0c (pv 0)) a0f a0a) (he:=a0a) (hpl:=a0i)) (a0b q_bl a0f a0e) a0C)))) a0f a0M) (he:=a0M) (hpl:=a0i)))
  (a0k (a9H (i:=6) sc_p_tiled_on.nd rfl rfl (N₀:=["tiles","key","line","knowing","wanted","standing","begun","ended"]) (so:=a0h a0V) (N':=["run","standing"]) (cap:=[none,some 5]) (pt:=(.nm 0)) rfl rfl rfl (by decide +kernel) rfl (a0R (a0c (pv 2))) (λ_ _ _ _=>(show QP _ _ (.nm 0) from (a0o (i:=0) c2l rfl (fb rfl)))) (λ_ _ _ _=>(a30 (a0r (b0O hu) (a0c (pv 0)) (a0c (pv 1)) (by with_unfolding_all rfl)))) (λ_ _ _ _=>(a0c (pv 0))))
  (a0k (a9H (i:=7) sc_p_tiled_on.nd rfl rfl (N₀:=["tiles","key","line","knowing","wanted","standing","begun","ended"]) (so:=a0h a0V) (N':=["tile","wanted","knowing"]) (cap:=[none,some 4,some 3]) (pt:=(.nm 0)) rfl rfl rfl (by decide +kernel) rfl (a0R (a0c (pv 0))) (λ_ _ _ _=>(show QP _ _ (.nm 0) from (a0o (i:=0) c2m rfl (fb rfl)))) (λ_ _ _ _=>a3Z) (λ_ _ _ _=>(q_if (QW.qt (a5A (a3l (a0q G_p_is_standing (hr.mono (by decide)) rfl T.m18 F.n18.kp (a1X F) (a0b (a0c (pv 0)) a0f a0a) (he:=a0a) (hpl:=a0i))) (a3H (a0r (b0O hu) (a0q G_p_run_of (hr.mono (by decide)) rfl T.m17 F.n17.kp (a4a F) (a0b (a0c (pv 0)) a0f a0a) (he:=a0a) (hpl:=a0i)) (a0c (pv 1)) (by with_unfolding_all rfl))))) (q_op a1i (a09 x_sl (a0c (pv 0)) a05 (a1m a0g)) (a1g (a0b (a0c (pv 2)) a0f a0a))) (a0c (pv 0)))))
  (a0n (a0D (q_op a1i (a0c (pv 7)) (q_lc (N₀:=["tiles","key","line","knowing","wanted","standing","begun","ended"]) (so:=a0h a0V) (N':=["begin","end","worth","key","knowing"]) (cap:=[none,none,none,some 1,some 3]) (pt:=(.tp [0,1,2])) rfl rfl rfl (by decide +kernel) rfl (a0R (a0c (pv 6))) (λ_ _ _ _=>(show QP _ _ (.tp [0,1,2]) from (a4l rfl (a0s (a0o (i:=0) b7F rfl (fb rfl)) (a0s (a0o (i:=1) b7F rfl (fb rfl)) (a0s (a0o (i:=2) b7F rfl (fb rfl)) a2H)))))) (λ_ _ _ _=>a3Z) (λ_ _ _ _=>(a1g (a0b (a0c (pv 3)) (a0b (a0c (pv 2)) (a0b (a0c (pv 0)) (a0b (a0c (pv 1)) (a0b (a0c (pv 4)) (a0b a1y a0f a0e) a0a) a0a) a0a) a0a) a0a))))))))))),?_⟩
 obtain⟨p,l,k,ts,L,n,rfl,gp,gl,nt,nl,zt,zl,zs,fin⟩:=h;symm;refine a2l gl ?_;intro D hD;refine a7z (g':=prR) (λr=>some r) (λys=>a0l gl hD) (by omega) ?_ ?_
 ·intro r hr ys K1 K2 k1 k2;refine⟨_,rfl,?_⟩;symm;refine⟨lenK rfl,?_⟩;symm;exact k1 r rfl
 rw[b70,b6h nl];have gD:put G D (.lst ((L.map prK).map prT)) D=some (.lst ((L.map prK).map prT)):=a0d;have s1:Sm G (put G D (.lst ((L.map prK).map prT))):=Sm.new hD;generalize put G D (.lst ((L.map prK).map prT))=G1 at gD s1 ⊢;symm;refine b3v gD (by rw[fc];omega) λW ks hW hks=>?_;have gW:put G1 W (.dT ks) W=some (.dT ks):=a0d;have s2:Sm G (put G1 W (.dT ks)):=s1.trans (Sm.new hW);generalize put G1 W (.dT ks)=G2 at gW s2 ⊢;clear gD s1 hD hW;symm;refine a2l (s2 _ _ gp) ?_;intro E hE;refine a7z (g':=prR) (λt=>if t.u.isNone=true then some t.r else none) (λys=>a0l (s2 _ _ gp) hE) (by omega) ?_ ?_
 ·intro t ht ys K1 K2 k1 k2;refine⟨_,rfl,?_⟩;symm;refine⟨k,t,rfl,?_⟩;refine⟨_,rfl,?_⟩;refine ifB (λc=>?_) λc=>?_
  ·symm;refine⟨k,t,rfl,nt t ht,?_⟩;symm;refine⟨lenK rfl,?_⟩;symm;exact k1 t.r (if_pos c)
  ·exact k2 (if_neg (by rw[c];simp))
 rw[c2z,b6h (b6k nt)];have gE:put G2 E (.lst (((stR ts).map prK).map prT)) E=some (.lst (((stR ts).map prK).map prT)):=a0d;have s3:Sm G2 (put G2 E (.lst (((stR ts).map prK).map prT))):=Sm.new hE;generalize put G2 E (.lst (((stR ts).map prK).map prT))=G3 at gE s3 ⊢;symm;refine b3v gE (by rw[fc];omega) λV vs hV hvs=>?_;have gV:put G3 V (.dT vs) V=some (.dT vs):=a0d;have s4:Sm G2 (put G3 V (.dT vs)):=s3.trans (Sm.new hV);generalize put G3 V (.dT vs)=G4 at gV s4 ⊢;have gW4:=s4 _ _ gW;have s04:=s2.trans s4;clear gE s3 hE hV s2 s4 gW;symm;refine a2l (s04 _ _ gl) ?_;intro B hB;refine a7z (g':=Rw.z) (λr=>if (!hasR (stR ts) r)=true then some r else none) (λys=>a0l (s04 _ _ gl) hB) (by omega) ?_ ?_
 ·intro r hr ys K1 K2 k1 k2;refine⟨_,rfl,?_⟩;symm;refine c0s (a0l gV hB) (b3S (nl r hr)).symm ?_;rw[b6i (b6k nt) (nl r hr) hvs];refine⟨_,rfl,?_⟩;refine ifB (λc=>?_) λc=>?_
  ·symm;exact k1 r (if_pos c)
  ·exact k2 (if_neg (by rw[c];simp))
 rw[b3V];have gB:put G4 B (.lst ((L.filter λr=>!hasR (stR ts) r).map Rw.z)) B=some (.lst ((L.filter λr=>!hasR (stR ts) r).map Rw.z)):=a0d;have s5:Sm G4 (put G4 B (.lst ((L.filter λr=>!hasR (stR ts) r).map Rw.z))):=Sm.new hB;generalize put G4 B (.lst ((L.filter λr=>!hasR (stR ts) r).map Rw.z))=G5 at gB s5 ⊢;have gW5:=s5 _ _ gW4;have s05:=s04.trans s5;symm;refine a2l (s05 _ _ gp) ?_;intro N hN;refine a7z (g':=Ti.z k) (λt=>some (endR L n t)) (λys=>a0l (s05 _ _ gp) hN) (by omega) ?_ ?_
 ·intro t ht ys K1 K2 k1 k2;refine⟨_,rfl,?_⟩;have kk:∀ t',endR L n t=t'->K1 (t'.z k) (put G5 N (.lst ys)):=λt' e=>k1 t' (by rw[e]);symm;refine⟨k,t,rfl,?_⟩;refine⟨_,rfl,?_⟩;refine ifB (λc=>?_) λc=>?_
  ·symm;refine⟨k,t,rfl,nt t ht,?_⟩;symm;refine c0s (a0l gW5 hN) (b3S (nt t ht)).symm ?_;rw[b6i nl (nt t ht) hks];refine⟨_,rfl,?_⟩;refine ifB (λc2=>?_) λc2=>?_
   ·have kk:=kk _ (if_pos (by rw[c];exact c2));symm;unfold Ti.z;refine b1v (show ¬ (HT.sIx 6 0 none=0/\HT.sIx 6 6 (some 5)=6) by decide) ?_;rw[cut5];symm;refine⟨lenK rfl,?_⟩;symm;refine b5Y (by simp) (lenK rfl) ?_;exact kk
   ·have kk:=kk _ (if_neg (by rw[c,show (!hasR L t.r)=false from c2];simp));symm;exact kk
  ·have kk:=kk _ (if_neg (by rw[c];simp));symm;exact kk
 rw[b6j];have gN:put G5 N (.lst ((ts.map (endR L n)).map (Ti.z k))) N=some (.lst ((ts.map (endR L n)).map (Ti.z k))):=a0d;have s6:Sm G5 (put G5 N (.lst ((ts.map (endR L n)).map (Ti.z k)))):=Sm.new hN;generalize put G5 N (.lst ((ts.map (endR L n)).map (Ti.z k)))=G6 at gN s6 ⊢;have gB6:=s6 _ _ gB;have s06:=s05.trans s6;symm;refine a2l gB6 ?_;intro M hM;refine a7z (g':=Ti.z k) (λr=>some (newR n r)) (λys=>a0l gB6 hM) (fx (ju _ _) (by omega)) ?_ ?_
 ·intro r hr ys K1 K2 k1 k2;obtain⟨w,hw⟩:=nl r (fX.mp hr).1;obtain⟨rb,re,rw0⟩:=r;simp only at hw;subst hw;refine⟨_,rfl,?_⟩;symm;refine⟨lenK rfl,?_⟩;exact k1 _ rfl
 rw[b6j];refine a7n (a0l gN hM) a0d ?_ λt ht=>?_
 ·rw[fc,fc,fc,fc]
  have:=ju (λr=>!hasR (stR ts) r) L
  exact fx (by omega:_<=91000) (by decide)
 ·have sM:Sm G (put G6 M (.lst (((L.filter λr=>!hasR (stR ts) r).map (newR n)).map (Ti.z k)))):=s06.trans (Sm.new hM);refine fin t _ (sM.free ht) (sM.trans (Sm.new ht)) ?_;rw[a0d];unfold tOn;rw[fv]
theorem c2A:∀ {es:List (Int×List Rw)},(∀ e∈es,Nmd e.2)->NmT (TF es):=by
 intro b
 induction b using a8k with
 | h0=>exact λ_ t a=>by simp[TF]at a
 | h1 b e ih=>
  intro h t a;rw[a5m]at a;rcases fg.mp a with a | a
  ·obtain⟨f,h0,rfl⟩:=fq.mp a;rw[b5s];exact ih (λx d=>h x (by simp[d])) f h0
  ·obtain⟨r,g,rfl⟩:=fq.mp a;exact h e (by simp) r (fX.mp g).1
theorem b71 (ts:List Ti) (q:Int):ts.filterMap (λt=>if t.at_ q=true then some t.r else none)=a11 ts q:=by
 unfold a11
 induction ts with
 | nil=>rfl
 | cons t ts ih=>
  rw[gy,gC];cases t.at_ q
  ·exact ih
  ·show t.r::_=_
   rw[ih];rfl
noncomputable def unK:List Key->Rw
 | [.inl (some b),.inl e,.inr s]=>⟨b,e,[.str s]⟩
 | _=>⟨0,none,[]⟩
theorem b6l (h:∃ w,r.w=[.str w]):unK (rnK r)=r:=by
 obtain⟨b,e,w⟩:=r;obtain⟨s,h⟩:=h;subst h
 rfl
theorem c0M (h:Nmd l):(l.map rnK).map unK=l:=by
 rw[gJ];exact (gZ λr a=>b6l (h r a)).trans (i8 l)
theorem b6m (h:Nmd l):(l.map rnK).map L3.tupZ=l.map Rw.z:=by
 rw[gJ];exact gZ λr a=>c2w (h r a)
theorem b3W {L M:List Rw}{os:List (List Key)}(hc:Can L) (nl:Nmd L) (p:M.Perm L) (ho:os.Perm (M.map rnK)) (s:os.Pairwise (λx y=>Tim.ltT y x=false)):os.map L3.tupZ=L.map Rw.z:=by
 have c:=λr a=>nl r (p.mem_iff.mp a);have b:(os.map unK).map rnK=os:=by
  rw[gJ];refine (gZ λx f=>?_).trans (i8 os);obtain⟨r,a,rfl⟩:=fq.mp (ho.mem_iff.mp f)
  show rnK _=rnK r
  rw[b6l (c r a)]
 have d:(os.map unK).Perm L:=by
  have:=ho.map unK
  rw[c0M c]at this;exact this.trans p
 have e:=b3T hc d (by simp_all);rw[<- b,e,b6m nl]
structure TsV (T:List Tl) (k:Str) (es:List (Int×List Rw)):Prop where
 ix:es.map (·.1)=ix T k
 ln:∀ e∈es,IsLine (T.take e.1.toNat) k e.2
theorem TsV.le {T:List Tl}{k:Str}{es:List (Int×List Rw)}(h:TsV T k es) {e:Int×List Rw}(he:e∈es):1<=e.1/\e.1<=T.length:=b7O (by rw[<- h.ix];exact fP he)
theorem TsV.run (h:TsV T k es):Run es T.length:=b5v (b3R h.ix) (λ_ a=>(h.le a).2) λe a=>(h.ln e a).can
theorem TsV.nm (h:TsV T k es):NmT (TF es):=c2A λe b r a=>a4L (h.ln e b) a
theorem TsV.len (h:TsV T k es) (hT:T.length<=200):(TF es).length<=80000:=by
 have d:=c0J (m:=400) λe c=>by
  have:=(h.ln e c).len
  rw[fC]at this;omega
 have a:es.length<=200:=by
  have b:=congrArg fN h.ix;rw[fc]at b
  have:=b6g T k
  omega
 omega
theorem TsV.line (h:TsV T k es) (q:Nat):IsLine (T.take q) k (a3P es q):=b7R h.ix h.ln q
theorem TsV.st (h:TsV T k es):(stR (TF es)).length<=2*T.length:=by
 rw[<- b0a h.run.ok (fU _),(h.run.p _).length_eq]
 have:=(h.line T.length).len
 rw[gR]at this;exact this
theorem b04 {a:Ad}{G:Hq}{p:Addr}{S:Addr->Prop}{T:List Tl}{n:Int}{dx d t0:Addr}{kvs:List (Key×Z)}(sh:ShV a true G p S T n dx d kvs) (ht0:G t0=none) (k:Str) :
  ∃ h es,(valZ kvs (.inr k)).getD (.ref t0)=.ref h/\put G t0 (.lst []) h=some (.lst ((TF es).map (Ti.z k)))/\TsV T k es/\(valZ kvs (.inr k)=none->es=[]):=by
 cases hv:valZ kvs (.inr k) with
 | none=>exact⟨t0,[],rfl,a0d,⟨by rw[sh.no k hv];rfl,λe he=>by simp at he⟩,λ_=>rfl⟩
 | some z=>
  obtain⟨h,rfl,es,H⟩:=sh.hs k z hv;exact⟨h,es,rfl,a0l H.at_ ht0,⟨H.ix,H.ln⟩,λe=>by cases e⟩
theorem a4k (F:Fns K a) (T:Txt K mg a):FnOk P w K mg base CX0 3 a.f32 a.d32 ["self","key","knowing"] (lowP K (a4i a)):=by
 have G_p_run_of:=a6K (P:=P) (w:=w) (base:=base) F T;have G_p_stands_at:=a63 (P:=P) (w:=w) (base:=base) F T;refine fn3 F.n32 a38 (λws G R h=>(by exact a3s h)) (λcdv A outer s H E ws G R hr h=>?_);have hu:=a0Y hr;refine⟨_,(a0n (a0D (a0t b3s rfl T.b_sorted rfl (a0b (q_lc (N₀:=["self","key","knowing"]) (so:=a0h a08) (N':=["tile","knowing"]) (cap:=[none,some 2]) (pt:=(.nm 0)) rfl rfl rfl (by decide +kernel) rfl (a0R (q_bm PySem.F.plainAttrs_dict PySem.F.slot_dict_get PySem.F.type_dict_get (b3i hu) (a4w T.cl_Tiled T.naT_kept (a0c (pv 0))) (a0b (a0c (pv 1)) (a0b (a1p a0f) a0f a3Y) a0a))) (λ_ _ _ _=>(show QP _ _ (.nm 0) from (a0o (i:=0) c0t rfl (fb rfl)))) (λ_ _ _ _=>(a30 (a3l (a0q G_p_stands_at (hr.mono (by decide)) rfl T.m20 F.n20.kp (a6X F) (a0b (a0c (pv 0)) (a0b (a0c (pv 1)) a0f a0a) a0a) (he:=a0a) (hpl:=(a0j a0a a0i)))))) (λ_ _ _ _=>(a0q G_p_run_of (hr.mono (by decide)) rfl T.m17 F.n17.kp (a4a F) (a0b (a0c (pv 0)) a0f a0a) (he:=a0a) (hpl:=a0i)))) a0f a0M) (he:=a0M) (hpl:=a0i)))),?_⟩;obtain⟨p,S,T,k,q,n,dx,d,kvs,rfl,sh,h0,h1,hT,fin⟩:=h;obtain⟨q,rfl⟩:=ge h0;symm;refine⟨p,dx,_,_,rfl,sh.ob,a3r,?_⟩;refine c0d sh.dc ?_;symm;refine⟨lenK rfl,λt0 ht0=>?_⟩;symm;refine b3j (sh.dc.imp (λe=>a0l e ht0) λe=>a0l e ht0) rfl ?_;have s0:Sm G (put G t0 (.lst [])):=Sm.new ht0;obtain⟨h,es,hval,gh,tv,_⟩:=b04 sh ht0 k;rw[hval];generalize put G t0 (.lst [])=G1 at s0 gh ⊢;symm;refine a2l gh ?_;intro D hD;refine a7z (g':=Rw.z) (λt=>if t.at_ (q:Int)=true then some t.r else none) (λys=>a0l gh hD) (by have:=tv.len hT;omega) ?_ ?_
 ·intro t ht ys K1 K2 k1 k2;refine⟨_,rfl,?_⟩;symm;refine⟨k,t,_,rfl,?_⟩;refine⟨_,rfl,?_⟩;refine ifB (λc=>?_) λc=>?_
  ·symm;exact⟨k,t,rfl,tv.nm t ht,k1 t.r (if_pos c)⟩
  ·exact k2 (if_neg (by rw[c];simp))
 rw[b71];have il:=tv.line q;have nl:Nmd (a3P es q):=λr hr=>a4L il hr;have pm:=tv.run.p q;have nm:Nmd (a11 (TF es) q):=λr hr=>nl r (pm.mem_iff.mp hr);have s1:Sm G (put G1 D (.lst ((a11 (TF es) q).map Rw.z))):=s0.trans (Sm.new hD);refine b3t (rows:=(a11 (TF es) q).map rnK) (m:=3) (by rw[b6m nm];exact a0d) ?_ ?_ ?_ ?_ λt os ht hp hs=>?_
 ·rw[fc,pm.length_eq]
  have:=il.len
  rw[fC]at this;omega
 ·intro x hx;obtain⟨r,hr,rfl⟩:=fq.mp hx;exact⟨r.b,_,rfl⟩
 ·intro x hx;obtain⟨r,hr,rfl⟩:=fq.mp hx
  rfl
 ·intro x hx y hy;obtain⟨r,hr,rfl⟩:=fq.mp hx;obtain⟨s,hs,rfl⟩:=fq.mp hy;exact c0K il.can r (pm.mem_iff.mp hr) s (pm.mem_iff.mp hs)
 ·rw[b3W il.can nl pm hp hs];refine fin t (a3P es q) _ (s1.free ht) (s1.trans (Sm.new ht)) a0d ?_;rw[show ((q:Int)).toNat=q by omega];exact il
theorem a2r:valZ (putZ kvs k v) j=if j=k then some v else valZ kvs j:=by
 unfold putZ
 split
 ·next hc=>
  have m:∀ kvs:List (Key×Z),valZ (kvs.map λkv=>if kv.1=k then (kv.1,v) else kv) j=(valZ kvs j).map λx=>if j=k then v else x:=by
   intro kvs
   induction kvs with
   | nil=>rfl
   | cons p r ih=>
    unfold valZ at ih ⊢;rw[fy,gM,gM];have h:(if p.1=k then (p.1,v) else p).1=p.1:=by split<;>rfl
    rw[h];cases c:decide (p.1=j) with
    | false=>exact ih
    | true=>
     have d:=of_decide_eq_true c;simp
     by_cases ck:p.1=k
     ·simp_all
     ·simp_all
  rw[m]
  by_cases c:j=k
  ·subst c;obtain⟨p,f,g⟩:=hZ.mp hc
   have:(kvs.find? λkv=>decide (kv.1=j)).isSome=true:=kc.mpr ⟨p,f,g⟩
   unfold valZ;cases e:kvs.find? λkv=>decide (kv.1=j) with
   | none=>rw[e]at this;cases this
   | some q=>simp
  ·simp_all
 ·next hc=>
  unfold valZ;rw[j5]
  by_cases c:j=k
  ·subst c
   have:kvs.find? (λkv=>decide (kv.1=j))=none:=by
    rw[js];intro p i l;exact hc (hZ.mpr ⟨p,i,l⟩)
   rw[this];simp
  ·rw[if_neg c]
   have:[(k,v)].find? (λkv=>decide (kv.1=j))=none:=by simp;exact λz=>c z.symm
   rw[this,Option.or_none]
theorem b05 {kvs:List (Key×Z)}{k:Key}{v:Z}:(putZ kvs k v).length<=kvs.length+1:=by
 unfold putZ
 split<;>simp
theorem Hist.ne_row {L:List Rw}(H:Hist G S T k h es) (e:G x=some (.lst (L.map Rw.z))):x≠h:=λz=>by
 subst z
 have:=e.symm.trans H.at_
 have b:L.map Rw.z=es.map enZ:=by simp_all
 cases es with
 | nil=>exact H.ne rfl
 | cons a es=>
  cases L with
  | nil=>simp at b
  | cons r L=>
   have c:=(gO.inj b).1;simp only[Rw.z,Z.tup.injEq,gO.injEq]at c;obtain⟨i,d,g⟩:=r;have f:=c.2.1;cases d<;>cases f
theorem a9s (h:valZ kvs k=none):∀ q∈kvs,q.1≠k:=λq b e=>by
 unfold valZ at h
 have:(kvs.find? λa=>decide (a.1=k)).isSome=true:=kc.mpr ⟨q,b,decide_eq_true e⟩
 cases e2:kvs.find? λa=>decide (a.1=k) with
 | none=>rw[e2]at this;cases this
 | some x=>rw[e2]at h;cases h
theorem b72 (h:valZ kvs k=none):putZ kvs k v=kvs++[(k,v)]:=by
 unfold putZ;rw[if_neg λz=>?_];obtain⟨q,a,b⟩:=hZ.mp z;exact a9s h q a (of_decide_eq_true b)
theorem b6n (h:valZ kvs k=none) (nd:(kvs.map (·.1)).Nodup):((putZ kvs k v).map (·.1)).Nodup:=by
 rw[b72 h,fv,gY];refine⟨nd,by simp,λx a y c=>?_⟩;obtain⟨q,b,rfl⟩:=fq.mp a
 have:y=k:=by simpa using c
 rw[this];exact a9s h q b
theorem b6o (sk:∀ q∈kvs,∃ s,q.1=Sum.inr s):∀ q∈putZ kvs (.inr k) v,∃ s,q.1=Sum.inr s:=λq a=>by
 unfold putZ at a
 split at a
 ·obtain⟨d,c,e⟩:=fq.mp a;obtain⟨s,b⟩:=sk d c;refine⟨s,?_⟩;rw[<- e]
  split
  ·omega
  ·omega
 ·rcases fg.mp a with a | a
  ·exact sk q a
  ·exact⟨k,by rw[fi.mp a]⟩
noncomputable def a16 (a:Ad) (b:Bool):P3:=λws G R=>Ex9 λ(p:Addr) (S:Addr->Prop) (T:List Tl) (τ:Tl) (l:Addr) (L:List Rw) (dx d:Addr) (kvs:List (Key×Z))=>ws=[.ref p,.str τ.key,.ref l]/\ShM a b G p S T ((T.length:Int)+1) dx d kvs/\G l=some (.lst (L.map Rw.z))/\¬ S l/\IsLine (T++[τ]) τ.key L/\T.length<=200 /\
 ∀ (S':Addr->Prop) G',(∀ b,S b->S' b)->(∀ b,S' b->S b\/b=l\/G b=none)->KN S G G'->Sheet a b G' p S' (T++[τ])->R .non G'
theorem a3R {a:Ad}{b:Bool}{ws:List Z}{G:Hq}{R:K3}(h:a16 a b ws G R):ws.length=3:=by obtain⟨_,_,_,_,_,_,_,_,_,rfl,_⟩:=h;rfl
abbrev a4P (a:Ad):P3:=a16 a false
abbrev a4Q (a:Ad):P3:=a16 a true
theorem a4R (h:s∈ix T k):(T++[τ]).take s.toNat=T.take s.toNat:=by
 have:=b7O h
 rw[iF (by omega)]
theorem a8m:(T++[τ]).take ((T.length:Int)+1).toNat=T++[τ]:=by
 rw[gI];rw[fu,iP];omega
theorem a4S (F:Fns K a) (T:Txt K mg a):FnOk P w K mg base CX0 3 a.f41 a.d41 ["self","key","line"] (lowP K (a4P a)):=by
 refine fn3 F.n41 a4y (λws G R h=>(by exact a3R h)) (λcdv A outer s H E ws G R hr h=>?_);have hu:=a0Y hr;refine⟨_,(a0n (a06 (q_bm PySem.F.plainAttrs_list PySem.F.slot_list_append PySem.F.type_list_append a1j (q_bm PySem.F.plainAttrs_dict PySem.F.slot_dict_setdefault PySem.F.type_dict_setdefault a8T (a4w T.cl_Sheet T.na_kept (a0c (pv 0))) (a0b (a0c (pv 1)) (a0b (a1p a0f) a0f a3Y) a0a)) (a0b (a1g (a0b (a4w T.cl_Sheet T.na_last (a0c (pv 0))) (a0b (a0c (pv 2)) a0f a0a) a1l)) a0f a0G)))),?_⟩;obtain⟨p,S,T,τ,l,L,U,d,v,rfl,g,I,nl,il,hT,q⟩:=h;symm;refine⟨p,U,_,_,rfl,g.ob,a3r,?_⟩;refine c0c g.dc ?_;symm;refine⟨lenK rfl,λn m=>?_⟩;symm;have aa:p≠d:=λz=>by have e:=g.ob;rw[z,g.dc]at e;cases e
 have V:((T++[τ]).length:Int)=(T.length:Int)+1:=by simp
 refine c0b (a0l g.dc m) rfl (a0u (by have:=g.len;omega)) (λz D=>?_) λD=>?_
 ·obtain⟨h,rfl,es,H⟩:=g.hs _ z D;have hpe:p≠h:=λz=>by have e:=g.ob;rw[z,H.at_]at e;cases e
  have hde:d≠h:=λz=>by have e:=g.dc;rw[z,H.at_]at e;cases e
  have hle:l≠h:=λz=>nl (z▸H.s);refine a3m (a0l H.at_ m) ?_;symm;refine⟨p,U,_,_,rfl,a0l g.ob m,a3q,?_⟩;symm;refine⟨lenK rfl,?_⟩;symm;have hel:es.length<=T.length:=by
   have e1:=congrArg fN H.ix;rw[fc]at e1;rw[e1];exact b6g T τ.key
  refine a1k (a0l H.at_ m) (by rw[fc];exact a0u (by omega)) ?_;have i:∀ b o,b≠h->G b=some o->put (put G n (.lst [])) h (.lst (es.map enZ++[.tup [.int ((T.length:Int)+1),.ref l]])) b=some o:=λb o C e=>by rw[a0E C];exact a0l e m
  refine q (λb=>S b\/b=l) _ (λb j=>.inl j) (λb j=>j.elim .inl λz=>.inr (.inl z)) (λb o C e=>i b o (λz=>C (z▸H.s)) e) ⟨U,d,v,?_⟩;refine⟨by rw[V];exact i _ _ hpe g.ob,.inl g.sp,.inl g.sd,i _ _ hde g.dc,by have:=g.len;simp;omega,λk B=>?_,λk z e=>?_,g.inj,(λb j=>?_),g.nd,g.sk⟩
  ·rw[a24,g.no k B,if_neg]
   ·rfl
   ·rintro rfl;rw[D]at B;cases B
  ·by_cases X:k=τ.key
   ·subst X;rw[D]at e;cases e;refine⟨h,rfl,es++[((T.length:Int)+1,l)],.inl H.s,by rw[a0d,fv];rfl,by rw[fv,H.ix,a24,if_pos rfl];rfl,by simp,λe r=>?_⟩;rcases fg.mp r with r | r
    ·obtain⟨Q,L1,u,N⟩:=H.ln e r;refine⟨.inl Q,L1,i _ _ (H.ne_row u) u,?_⟩;rw[a4R (by rw[<- H.ix];exact fP r)];exact N
    ·rw[fi.mp r];refine⟨.inr rfl,L,i _ _ hle I,?_⟩;rw[a8m];exact il
   ·obtain⟨t,x,y,H'⟩:=g.hs k z e;have hh:t≠h:=λw=>X (g.inj k τ.key z e (by rw[D,x,w]));refine⟨t,x,y,.inl H'.s,i _ _ hh H'.at_,by rw[H'.ix,a24,if_neg (Ne.symm X),fK],H'.ne,λe r=>?_⟩;obtain⟨Q,L1,u,N⟩:=H'.ln e r;refine⟨.inl Q,L1,i _ _ (H.ne_row u) u,?_⟩;rw[a4R (by rw[<- H'.ix];exact fP r)];exact N
  ·by_cases c:b=h
   ·rw[c];exact⟨_,a0d⟩
   ·rcases j with j | j
    ·obtain⟨o,e⟩:=g.al b j;exact⟨o,i b o c e⟩
    ·rw[j]at c ⊢;exact⟨_,i l _ c I⟩
 ·have M:d≠n:=a0z g.dc m;have hpt:p≠n:=a0z g.ob m;have hlt:l≠n:=a0z I m;have Y:put (put G n (.lst [])) d (.dK (putZ v (.inr τ.key) (.ref n))) n=some (.lst []):=by rw[a0E (Ne.symm M)];exact a0d
  refine a3m Y ?_;symm;refine⟨p,U,_,_,rfl,by rw[a0E aa];exact a0l g.ob m,a3q,?_⟩;symm;refine⟨lenK rfl,?_⟩;symm;refine a1k Y (a0u (by decide)) ?_;have i:∀ b o,b≠d->G b=some o->put (put (put G n (.lst [])) d (.dK (putZ v (.inr τ.key) (.ref n)))) n (.lst ([]++[.tup [.int ((T.length:Int)+1),.ref l]])) b=some o:=λb o C e=>by
   rw[a0E (a0z e m),a0E C];exact a0l e m
  have nS:∀ t,S t->∀ o,G t=some o->t≠n:=λt _ o e=>a0z e m;refine q (λb=>S b\/b=l\/b=n) _ (λb j=>.inl j) (λb j=>j.elim .inl λz=>z.elim (λz=>.inr (.inl z)) λz=>.inr (.inr (by rw[z];exact m))) (λb o C e=>i b o (λz=>C (z▸g.sd)) e) ⟨U,d,putZ v (.inr τ.key) (.ref n),?_⟩;refine⟨by rw[V];exact i _ _ aa g.ob,.inl g.sp,.inl g.sd,by rw[a0E M];exact a0d,by have h1:=g.len;have h2:=@b05 v (.inr τ.key) (.ref n);simp;omega,λk B=>?_,λk z e=>?_,λk k' z e J=>?_,(λb j=>?_),b6n D g.nd,b6o g.sk⟩
  ·rw[a2r]at B
   split at B
   ·cases B
   ·next c=>
    rw[a24,g.no k B,if_neg λz=>c (by rw[z])]
    rfl
  ·rw[a2r]at e
   split at e
   ·next c=>
    cases e;have X:k=τ.key:=by simpa using c
    subst X;refine⟨n,rfl,[((T.length:Int)+1,l)],.inr (.inr rfl),by rw[a0d];rfl,by rw[a24,g.no _ D,if_pos rfl];rfl,by simp,λe r=>?_⟩;rw[fi.mp r];refine⟨.inr (.inl rfl),L,i _ _ (λz=>by have z':l=d:=z;rw[z',g.dc]at I;cases I) I,?_⟩;rw[a8m];exact il
   ·next c=>
    obtain⟨t,x,y,H'⟩:=g.hs k z e;have hd':t≠d:=λw=>by have e:=H'.at_;rw[w,g.dc]at e;cases e
    refine⟨t,x,y,.inl H'.s,i _ _ hd' H'.at_,by rw[H'.ix,a24,if_neg λz=>c (by rw[z]),fK],H'.ne,λe r=>?_⟩;obtain⟨Q,L1,u,N⟩:=H'.ln e r;refine⟨.inl Q,L1,i _ _ (λw=>by rw[w,g.dc]at u;cases u) u,?_⟩;rw[a4R (by rw[<- H'.ix];exact fP r)];exact N
  ·rw[a2r]at e J
   split at e
   ·next c=>
    split at J
    ·next c'=>simpa using c.trans c'.symm
    ·cases e;obtain⟨t,x,y,H'⟩:=g.hs k' _ J;cases x;exact absurd rfl (nS _ H'.s _ H'.at_)
   ·split at J
    ·cases J;obtain⟨t,x,y,H'⟩:=g.hs k _ e;cases x;exact absurd rfl (nS _ H'.s _ H'.at_)
    ·exact g.inj k k' z e J
  ·by_cases c:b=n
   ·rw[c];exact⟨_,a0d⟩
   ·by_cases c2:b=d
    ·rw[c2];exact⟨_,by rw[a0E M];exact a0d⟩
    ·rcases j with j | j | j
     ·obtain⟨o,e⟩:=g.al b j;exact⟨o,i b o c2 e⟩
     ·rw[j]at c2 ⊢;exact⟨_,i l _ c2 I⟩
     ·exact absurd j c
theorem b5w (h:valZ kvs k≠none):(putZ kvs k v).map (·.1)=kvs.map (·.1):=by
 unfold putZ;rw[if_pos]
 ·rw[gJ];refine gZ λx _=>?_
  show (if x.1=k then _ else x).1=x.1
  split<;>rfl
 ·rw[hZ];unfold valZ at h;cases e:kvs.find? λa=>decide (a.1=k) with
  | none=>rw[e]at h;exact absurd rfl h
  | some x=>
   have:=ke e
   exact⟨x,ja e,this⟩
theorem b73 (nd:(kvs.map (·.1)).Nodup):((putZ kvs k v).map (·.1)).Nodup:=by
 by_cases h:valZ kvs k=none
 ·exact b6n h nd
 ·rw[b5w h];exact nd
theorem a4T (F:Fns K a) (T:Txt K mg a):FnOk P w K mg base CX0 3 a.f42 a.d42 ["self","key","line"] (lowP K (a4Q a)):=by
 have i:FnOk P w K mg base CX0 2 a.f19 a.d19 ["tiles","key","line","knowing"] (lowP K a26):=a8l F T;refine fn3 F.n42 a4z (λws G R h=>(by exact a3R h)) (λcdv A outer s H E ws G R M h=>?_);have hu:=a0Y M;refine⟨_,(a0n (a7k (a0q i (M.mono (by decide)) rfl T.m19 F.n19.kp (a8e F) (a0b (q_bm PySem.F.plainAttrs_dict PySem.F.slot_dict_get PySem.F.type_dict_get (b3i hu) (a4w T.cl_Tiled T.naT_kept (a0c (pv 0))) (a0b (a0c (pv 1)) (a0b (a1p a0f) a0f a3Y) a0a)) (a0b (a0c (pv 1)) (a0b (a0c (pv 2)) (a0b (a4w T.cl_Tiled T.naT_last (a0c (pv 0))) a0f a1l) a0a) a0a) a0C)) (a4w T.cl_Tiled T.naT_kept (a0c (pv 0))) (a0c (pv 1)) (b56 hu))),?_⟩;obtain⟨p,S,T,τ,l,L,N,d,D,rfl,g,gl,nl,il,hT,q⟩:=h;symm;refine⟨p,N,_,_,rfl,g.ob,a3r,?_⟩;refine c0c g.dc ?_;symm;refine⟨lenK rfl,λt0 C=>?_⟩;symm;refine c0a (a0l g.dc C) rfl ?_;have I:Sm G (put G t0 (.lst [])):=Sm.new C;obtain⟨h,es,hval,gh,B,hno⟩:=b04 g.v C τ.key;rw[hval];generalize put G t0 (.lst [])=G1 at I gh ⊢;symm;refine⟨p,N,_,_,rfl,I _ _ g.ob,a3q,?_⟩;symm;have lL:L.length<=900:=by have:=il.len;rw[fu,iP]at this;omega
 refine⟨h,l,τ.key,TF es,L,_,rfl,gh,I _ _ gl,B.nm,λr M=>a4L il M,by have:=B.len hT;omega,lL,by have:=B.st;omega,λt G2 ht s2 gt=>?_⟩;have y:=I.trans s2;have hGt:G t=none:=I.free ht;have npd:p≠d:=λz=>by have e:=g.ob;rw[z,g.dc]at e;cases e
 have ntd:t≠d:=λz=>by rw[z,y _ _ g.dc]at gt;cases gt
 have hlen:((T++[τ]).length:Int)=(T.length:Int)+1:=by simp
 symm;refine⟨p,N,_,_,rfl,y _ _ g.ob,a3r,?_⟩;symm;refine b3b (y _ _ g.dc) rfl (a0u (by have:=g.len;omega)) ?_;have m:∀ b o,b≠d->G b=some o->put G2 d (.dK (putZ D (.inr τ.key) (.ref t))) b=some o:=λb o nb e=>by rw[a0E nb];exact y _ _ e
 have nS:∀ z u,z=Z.ref u->S u->z≠.ref t:=λz u e hs n=>by
  rw[e]at n;cases n;obtain⟨o,eo⟩:=g.al _ hs;rw[hGt]at eo;cases eo
 refine q (λb=>S b\/b=t) _ (λb x=>.inl x) (λb x=>x.elim .inl λz=>.inr (.inr (by rw[z];exact hGt))) (λb o nb e=>m b o (λz=>nb (z▸g.sd)) e) ⟨N,d,putZ D (.inr τ.key) (.ref t),?_⟩;refine⟨by rw[hlen];exact m _ _ npd g.ob,.inl g.sp,.inl g.sd,a0d,by have h1:=g.len;have h2:=@b05 D (.inr τ.key) (.ref t);simp;omega,λk hk=>?_,λk z e=>?_,λk k' z e n=>?_,(λb x=>?_),b73 g.nd,b6o g.sk⟩
 ·rw[a2r]at hk
  split at hk
  ·cases hk
  ·next c=>
   rw[a24,g.no k hk,if_neg λz=>c (by rw[z])]
   rfl
 ·rw[a2r]at e
  split at e
  ·next c=>
   cases e;have ck:k=τ.key:=by simpa using c
   subst ck;refine⟨t,rfl,es++[((T.length:Int)+1,L)],.inr rfl,by rw[a0E ntd,gt,a5m],by rw[fv,B.ix,a24,if_pos rfl];rfl,by simp,λe he=>?_⟩;rcases fg.mp he with he | he
   ·have:=B.ln e he
    rw[a4R (by rw[<- B.ix];exact fP he)];exact this
   ·rw[fi.mp he]
    show IsLine ((T++[τ]).take ((T.length:Int)+1).toNat) τ.key L
    rw[a8m];exact il
  ·next c=>
   obtain⟨u,J,es',H'⟩:=g.hs k z e;refine⟨u,J,es',.inl H'.s,m _ _ (λw=>by have e:=H'.at_;rw[w,g.dc]at e;cases e) H'.at_,by rw[H'.ix,a24,if_neg λz=>c (by rw[z]),fK],H'.ne,λe he=>?_⟩
   have:=H'.ln e he
   rw[a4R (by rw[<- H'.ix];exact fP he)];exact this
 ·rw[a2r]at e n
  split at e
  ·next c=>
   split at n
   ·next c'=>simpa using c.trans c'.symm
   ·cases e;obtain⟨u,J,H'⟩:=g.hs k' _ n;exact absurd rfl (nS _ u J H'.at_.1)
  ·split at n
   ·cases n;obtain⟨u,J,H'⟩:=g.hs k _ e;exact absurd rfl (nS _ u J H'.at_.1)
   ·exact g.inj k k' z e n
 ·by_cases c2:b=d
  ·rw[c2];exact⟨_,a0d⟩
  ·rcases x with x | x
   ·obtain⟨o,e⟩:=g.al b x;exact⟨o,m b o c2 e⟩
   ·rw[x];exact⟨_,by rw[a0E ntd];exact gt⟩
theorem a1x {P:kz}{w:World}{K:Fg}{mg:Str->Option Value}{base:Heap}{a:Ad}(F:Fns K a) (T:Txt K mg a) (b:Bool):∃ f d,Meth K (a.cK b) "known_line" f/\FnOk P w K mg base CX0 3 f d ["self","key","knowing"] (lowP K (a1N a b))/\Binds K d ["self","key","knowing"] []:=by
 cases b
 ·exact⟨_,_,T.mt31,a4j F T,a4b F⟩
 ·exact⟨_,_,T.mt32,a4k F T,a4c F⟩
theorem a65 {P:kz}{w:World}{K:Fg}{mg:Str->Option Value}{base:Heap}{a:Ad}(F:Fns K a) (T:Txt K mg a) (b:Bool):∃ f d,Meth K (a.cK b) "keep_line" f/\FnOk P w K mg base CX0 3 f d ["self","key","line"] (lowP K (a16 a b))/\Binds K d ["self","key","line"] []:=by
 cases b
 ·exact⟨_,_,T.mt41,a4S F T,a4C F⟩
 ·exact⟨_,_,T.mt42,a4T F T,a4D F⟩
def BadT (a:Ad) (G:Hq) (z:Z) (c:Addr):Prop:=Ex4 λ(h:Z) (nm:List Z) (x y:Z)=>Tel G z h nm x y/\((nm.all a15=false/\c=a.x_NoName)\/(nm.all a15=true/\strB x y=false/\c=a.x_NoStretch))
def a4U (a:Ad):PX3:=λws G R EE=>∃ b:Bool,∃ (p:Addr) (S:Addr->Prop) (T:List Tl),Sheet a b G p S T/\((∃ τ:Tl,ws=[.ref p,τ.z]/\τ.Ok/\T.length<=150 /\
 ∀ (S':Addr->Prop) G',(∀ b,S b->S' b)->(∀ b,S' b->S b\/G b=none)->KN S G G'->Sheet a b G' p S' (T++[τ])->R (.int ((T.length:Int)+1)) G') \/
 ∃ (z:Z) (c:Addr),ws=[.ref p,z]/\BadT a G z c/\∀ G',Sm G G'->EE c G')
theorem a66 {a:Ad}{ws:List Z}{G:Hq}{R:K3}{EE:Addr->Hq->Prop}(h:a4U a ws G R EE):ws.length=2:=by obtain⟨_,_,_,_,_,⟨_,rfl,_⟩ | ⟨_,_,rfl,_⟩⟩:=h<;>rfl
theorem c0N {τ:Tl}:∃ ws,τ.z=.tup ws/\atI ws 1=some (.str τ.key):=by
 obtain⟨k,w,b,e⟩:=τ;cases w<;>exact⟨_,rfl,at1⟩
theorem b74:Th G (oz e):=by cases e<;>exact True.intro
theorem Tl.Ok.tel {τ:Tl}(ok:τ.Ok):∃ (h:Z) (nm:List Z),Tel G τ.z h nm (.int τ.b) (oz τ.e)/\nm.all a15=true/\strB (.int τ.b) (oz τ.e)=true:=by
 obtain⟨k,w,b,e⟩:=τ;have d:=ok.k;have a:=ok.w;have f:=st_b ok.st;cases w with
 | none=>exact⟨_,[.str k],⟨rfl,.inl ⟨_,rfl⟩,λz c=>by rw[fi.mp c];exact a5K d,True.intro,b74⟩,by rw[gH,nm_b d];rfl,f⟩
 | some w=>
  have a:=a w rfl;refine⟨_,[.str k,.str w],⟨rfl,.inr ⟨_,_,rfl⟩,λz c=>?_,True.intro,b74⟩,by rw[gH,nm_b d,gH,nm_b a];rfl,f⟩;simp at c;rcases c with rfl | rfl
  ·exact a5K d
  ·exact a5K a
theorem a4V (F:Fns K a) (T:Txt K mg a):FnOk P w K mg base (CXx P w) 5 a.f43 a.d43 ["self","telling"] (a2S K (a4U a)):=by
 have g:FnOk P w K mg base (CXx P w) 4 a.f15 a.d15 ["telling"] (a2S K (a1w a)):=a4N F T;have j:FnOk P w K mg base CX0 4 a.f16 a.d16 ["line","telling"] (lowP K a1Z):=a5M F T;refine fn3x F.n43 sc_Sheet_tell (λws G R EE h=>(by exact a66 h)) (λcdv A outer s H E ws G R EE M h ux=>?_);have hu:=a0Y M;obtain⟨b,h⟩:=h;obtain⟨U,Y,B,GO_keep_line,r⟩:=a65 (P:=P) (base:=base) F T b;obtain⟨I,J,n,GO_known_line,m⟩:=a1x (P:=P) (base:=base) F T b;refine⟨_,(a0k (a06 (a35 (a1L Outs.of) ux.since g (M.mono (by decide)) rfl T.m15 F.n15.kp (a4B F) (a0b (a0c (pv 1)) a0f a0a) (he:=a0a) (hpl:=a0i)))
  (a0k (a0F (i:=2) sc_Sheet_tell.nd rfl (fb rfl) (q_ix x_ix (a0c (pv 1)) a0g (λ_ _=>rfl)))
  (a0k (a0F (i:=3) sc_Sheet_tell.nd rfl (fb rfl) (a0q j (M.mono (by decide)) rfl T.m16 F.n16.kp (a5I F) (a0b (a8S (a0c (pv 0)) (clK T b) n GO_known_line (M.mono (by decide)) m (a0b (a0c (pv 2)) (a0b (a4w (clK T b) (a3B T b) (a0c (pv 0))) a0f a1l) a0a) (hst:=a0a)) (a0b (a0c (pv 1)) a0f a0a) a0C) (he:=a0C)))
  (a0k (b41 (clK T b) (a3B T b) (a0c (pv 0)) a0g b5T)
  (a0k (a06 (a8S (a0c (pv 0)) (clK T b) B GO_keep_line (M.mono (by decide)) r (a0b (a0c (pv 2)) (a0b (a0c (pv 3)) a0f a0a) a0a) (hst:=a0a)))
  (a0n (a0D (a4w (clK T b) (a3B T b) (a0c (pv 0)))))))))),?_⟩
 obtain⟨p,S,T,⟨l,d,Q,sh⟩,⟨τ,rfl,ok,hT,q⟩ | ⟨z,c,rfl,⟨h,nm,x,y,N,hb⟩,q⟩⟩:=h
 rotate_left
 ·symm;refine⟨z,h,nm,x,y,rfl,N,λG1 s1=>?_⟩;have q':=q G1 s1;rcases hb with ⟨e1,rfl⟩ | ⟨e1,e2,rfl⟩
  ·rw[e1];exact ifF q'
  ·rw[e1,e2];exact ifT (ifF q')
 symm;obtain⟨th,tn,N,ta,ts⟩:=ok.tel (G:=G);refine⟨_,_,_,_,_,rfl,N,λG1 s1=>?_⟩;rw[ta,ts];refine ifT (ifT ?_);have D:=sh.keep (Sm.ks s1);obtain⟨ws,ez,ek⟩:=@c0N τ;symm;rw[ez];refine a4q ek ?_;rw[<- ez];symm;refine⟨p,l,_,rfl,D.ob,a1Q (by decide +kernel) (by decide +kernel),?_⟩;symm;refine⟨p,l,_,_,rfl,D.ob,a3q,?_⟩;symm;refine⟨p,S,T,τ.key,_,_,l,d,Q,rfl,D.v,by omega,by omega,by omega,λt L G2 ht s2 gt V=>?_⟩;rw[show ((T.length:Int)).toNat=T.length by omega,gR]at V;have sh2:=D.keep (Sm.ks s2);symm;have hll:=V.len;refine⟨t,L,τ,rfl,gt,V.can.rise,V.pl,by omega,ok,λu C hu s3 gu=>?_⟩;have f:=sh2.keep (Sm.ks s3);have S13:=(s1.trans s2).trans s3;have hu0:G u=none:=(s1.trans s2).free hu;have nu:¬ S u:=λz=>by obtain⟨o,e⟩:=sh.al u z;rw[hu0]at e;cases e
 symm;refine⟨p,l,_,_,rfl,f.ob,a3q,?_⟩;symm;refine⟨l,_,f.ob,by show 2<1000;decide,?_⟩;rw[b7U];have hup:u≠p:=λz=>nu (z▸sh.sp);have X:ShM a b (put C p (.ins (a.cK b) l (shF ((T.length:Int)+1) d))) p S T ((T.length:Int)+1) l d Q:=by
  have kp:∀ x o,x≠p->C x=some o->put C p (.ins (a.cK b) l (shF ((T.length:Int)+1) d)) x=some o:=λx o nb e=>by rw[a0E nb];exact e
  refine⟨a0d,f.sp,f.sd,kp _ _ (λz=>by have e:=f.dc;rw[z,f.ob]at e;cases e) f.dc,f.len,f.no,λk z e=>?_,f.inj,(λb hb=>?_),f.nd,f.sk⟩
  ·obtain⟨h,ez,H⟩:=f.hs k z e;exact⟨h,ez,H.keepL λx ws _ g1=>kp _ _ (λz=>by rw[z,f.ob]at g1;cases g1) g1⟩
  ·by_cases c:b=p
   ·rw[c];exact⟨_,a0d⟩
   ·obtain⟨o,e⟩:=f.al b hb;exact⟨o,kp b o c e⟩
 have gu4:put C p (.ins (a.cK b) l (shF ((T.length:Int)+1) d)) u=some (.lst ((a9l L τ.b τ.e (optW τ.v)).map Rw.z)):=by rw[a0E hup];exact gu
 have kn4:KN S G (put C p (.ins (a.cK b) l (shF ((T.length:Int)+1) d))):=λb o nb e=>by rw[a0E (show b≠p from λz=>nb (by rw[z];exact sh.sp))];exact S13 _ _ e
 have nn4:∀ x,put C p (.ins (a.cK b) l (shF ((T.length:Int)+1) d)) x=none->G x=none:=λx e=>by
  by_cases c:x=p
  ·rw[c,a0d]at e;cases e
  ·rw[a0E c]at e;exact S13.free e
 generalize put C p (.ins (a.cK b) l (shF ((T.length:Int)+1) d))=G4 at X gu4 kn4 nn4 ⊢;symm;refine⟨p,l,_,rfl,X.ob,a1Q (by decide +kernel) (by decide +kernel),?_⟩;symm;refine⟨p,S,T,τ,u,_,l,d,Q,rfl,X,gu4,nu,V.snoc ok,by omega,λS' G5 i1 i2 kn5 sh5=>?_⟩;have sh5':=sh5;obtain⟨dx5,d5,kvs5,m5⟩:=sh5';symm;refine⟨p,dx5,_,_,rfl,m5.ob,a3q,?_⟩;have e:(((T++[τ]).length:Nat):Int)=(T.length:Int)+1:=by simp
 rw[e];refine q S' G5 i1 (λb hb=>?_) (kn4.trans kn5) sh5;rcases i2 b hb with h | h | h
 ·exact .inl h
 ·rw[h];exact .inr hu0
 ·exact .inr (nn4 b h)
local macro_rules | `(tactic| walk_at "go1")=>`(tactic| with_reducible (first | refine c0p ?_ | refine i_iD ?_))
theorem ShV.frz {a:Ad}{b:Bool}{G:Hq}{p:Addr}{S:Addr->Prop}{T:List Tl}{n:Int}{dx d:Addr}{kvs:List (Key×Z)}(H:ShV a b G p S T n dx d kvs):ShV a b (put G d (.dF kvs)) p S T n dx d kvs:=by
 have k:∀ b o,b≠d->G b=some o->put G d (.dF kvs) b=some o:=λb o r e=>by rw[a0E r];exact e
 have j:∀ b f,G b=some (.lst f)->b≠d:=λb f e z=>by
  rw[z]at e;rcases H.dc with c | c<;>(rw[c]at e;cases e)
 refine⟨k _ _ (λz=>?_) H.ob,H.sp,H.sd,.inr a0d,H.len,H.no,λl z e=>?_,λb i=>?_,H.nd,H.sk⟩
 ·have e:=H.ob;rw[z]at e;rcases H.dc with c | c<;>(rw[c]at e;cases e)
 ·obtain⟨h,q,m⟩:=H.hs l z e;exact⟨h,q,m.keepL λx f _ g=>k _ _ (j _ _ g) g⟩
 ·by_cases c:b=d
  ·rw[c];exact⟨_,a0d⟩
  ·obtain⟨o,e⟩:=H.al b i;exact⟨o,k b o c e⟩
def a2D (a:Ad):P3:=λws G R=>∃ b:Bool,∃ (p:Addr) (S:Addr->Prop) (T:List Tl),ws=[.ref p]/\Sheet a b G p S T/\R (.int T.length) G
theorem a4W {a:Ad}{ws:List Z}{G:Hq}{R:K3}(h:a2D a ws G R):ws.length=1:=by obtain⟨_,_,_,_,rfl,_⟩:=h;rfl
theorem a5q (F:Fns K a) (T:Txt K mg a):FnOk P w K mg base CX0 1 a.f48 a.d48 ["self"] (lowP K (a2D a)):=by
 refine fn3 F.n48 a5h (λf G R h=>(by exact a4W h)) (λj A c s H E f G R g h=>?_);obtain⟨b,h⟩:=h;refine⟨_,(a0n (a0D (a4w (clK T b) (a3B T b) (a0c (pv 0))))),?_⟩;obtain⟨p,S,T',rfl,⟨e,d,k,i⟩,q⟩:=h;symm;exact⟨p,e,_,_,rfl,i.ob,a3q,q⟩
def inR (T:List Tl) (q:Int):Prop:=0<=q/\q<=T.length
def a3d (a:Ad):PX3:=λws G R EE=>∃ b:Bool,Ex5 λ(p:Addr) (S:Addr->Prop) (T:List Tl) (x:Z) (q:Int)=>ws=[.ref p,x,.int q]/\Sheet a b G p S T/\(∀ G'',Th G'' x)/\T.length<=200 /\
 ((inR T q/\∃ k,x=.str k/\nmOk k/\∀ t L G',G t=none->Sm G G'->G' t=some (.lst (L.map Rw.z))->IsLine (T.take q.toNat) k L->R (.ref t) G')\/(¬ inR T q/\∀ G',Sm G G'->EE a.x_NoKnowing G')\/(inR T q/\a15 x=false/\∀ G',Sm G G'->EE a.x_NoName G'))
theorem a5r {a:Ad}{ws:List Z}{G:Hq}{R:K3}{EE:Addr->Hq->Prop}(h:a3d a ws G R EE):ws.length=3:=by obtain⟨_,_,_,_,_,_,rfl,_⟩:=h;rfl
theorem a3e (F:Fns K a) (T:Txt K mg a):FnOk P w K mg base (CXx P w) 4 a.f33 a.d33 ["self","key","knowing"] (a2S K (a3d a)):=by
 have c:FnOk P w K mg base (CXx P w) 2 a.f30 a.d30 ["self","knowing"] (a2S K (a03 a)):=a04 F T;have g:FnOk P w K mg base (CXx P w) 2 a.f4 a.d4 ["thing"] (a2S K (a1u a)):=a2i F T;refine fn3x F.n33 a5F (λQ G R U h=>(by exact a5r h)) (λcdv A M s H E Q G R U n h D=>?_);have hu:=a0Y n;obtain⟨b,h⟩:=h;obtain⟨l,j,f,GO_known_line,i⟩:=a1x F T b;refine⟨_,(a0k (a06 (a1h (a1L Outs.of) D.since (a0c (pv 0)) (clK T b) (a0W T b) c (n.mono (by decide)) (a02 F) (a0b (a0c (pv 2)) a0f a0a)))
  (a0k (a06 (a35 (a1L Outs.of) D.since g (n.mono (by decide)) rfl T.m4 F.n4.kp (a2h F) (a0b (a0c (pv 1)) a0f a0a)))
  (a0n (a0D (a8S (a0c (pv 0)) (clK T b) f GO_known_line (n.mono (by decide)) i (a0b (a0c (pv 1)) (a0b (a0c (pv 2)) a0f a0a) a0a)))))),?_⟩
 obtain⟨p,S,T',x,q,rfl,u,C,hT,h⟩:=h;have B:=u;obtain⟨r,d,I,z⟩:=B;symm;refine⟨p,r,_,rfl,z.ob,a1Q (by decide +kernel) (by decide +kernel),?_⟩;symm;refine⟨b,p,S,T',q,rfl,u.v,?_⟩;rcases h with ⟨hq,k,rfl,hk,fin⟩ | ⟨hq,e⟩ | ⟨hq,hn,e⟩
 ·have y:0<=q/\q<=T'.length:=hq;rw[if_pos y];symm;refine⟨_,rfl,C _,λJ m=>?_⟩;rw[nm_b hk];refine ifT ?_;have o:=z.keep (Sm.ks m);symm;refine⟨p,r,_,rfl,o.ob,a1Q (by decide +kernel) (by decide +kernel),?_⟩;symm;exact⟨p,S,T',k,q,_,r,d,I,rfl,o.v,hq.1,hq.2,hT,λt L Y X N V il=>fin t L Y (m.free X) (m.trans N) V il⟩
 ·rw[if_neg (show ¬ (0<=q/\q<=T'.length) from hq)];exact e G (Sm.refl _)
 ·rw[if_pos (show 0<=q/\q<=T'.length from hq)];symm;refine⟨_,rfl,C _,λJ m=>?_⟩;rw[hn];exact ifF (e J m)
def a2E (a:Ad):PX3:=λws G R EE=>∃ x,ws=[x]/\Th G x/\∀ G',Sm G G'->if momB x=true then R .non G' else EE a.x_NoStretch G'
theorem a4X {a:Ad}{ws:List Z}{G:Hq}{R:K3}{EE:Addr->Hq->Prop}(h:a2E a ws G R EE):ws.length=1:=by obtain⟨_,rfl,_⟩:=h;rfl
theorem a5s (F:Fns K a) (T:Txt K mg a):FnOk P w K mg base (CXx P w) 2 a.f5 a.d5 ["thing"] (a2S K (a2E a)):=by
 have b:FnOk P w K mg base CX0 1 a.f1 a.d1 ["thing"] _:=a3O F T;refine fn3x F.n5 a5e (λg G R j h=>(by exact a4X h)) (λn A f s H E g G R j e h m=>?_);refine⟨_,(a0n (z_if (a29 (a3l (a0q b (e.mono (by decide)) rfl T.m1 F.n1.kp (a2x F) (a0b (a0c (pv 0)) a0f a0a))))
  (a0n (a76 Outs.of m rfl rfl T.x_NoStretch T.xi_NoStretch a2b a0e a0i))
  a1a)),?_⟩
 obtain⟨x,rfl,i,q⟩:=h;symm;refine⟨_,rfl,i,λl k=>?_⟩;have d:=q l k;symm;refine ifNB (λc=>?_) λc=>?_
 ·rw[c]at d;exact d
 ·rw[c]at d;exact d
def a2F (a:Ad):PX3:=λws G R EE=>∃ b:Bool,Ex6 λ(p:Addr) (S:Addr->Prop) (T:List Tl) (x y:Z) (q:Int)=>ws=[.ref p,x,y,.int q]/\Sheet a b G p S T/\(∀ G'',Th G'' x)/\(∀ G'',Th G'' y)/\T.length<=200 /\
 ((inR T q/\∃ k m,x=.str k/\nmOk k/\y=.int m/\momB (.int m)=true/\∀ G',Sm G G'->R (a1z (a1K (T.take q.toNat) k) m) G')\/(¬ inR T q/\∀ G',Sm G G'->EE a.x_NoKnowing G')\/(inR T q/\a15 x=false/\∀ G',Sm G G'->EE a.x_NoName G')\/(inR T q/\a15 x=true/\momB y=false/\∀ G',Sm G G'->EE a.x_NoStretch G'))
theorem a4Y {a:Ad}{ws:List Z}{G:Hq}{R:K3}{EE:Addr->Hq->Prop}(h:a2F a ws G R EE):ws.length=4:=by obtain⟨_,_,_,_,_,_,_,rfl,_⟩:=h;rfl
theorem a2G (F:Fns K a) (T:Txt K mg a):FnOk P w K mg base (CXx P w) 4 a.f36 a.d36 ["self","key","moment","knowing"] (a2S K (a2F a)):=by
 have G_Sheet_check_knowing:=a04 (P:=P) (w:=w) (base:=base) F T;have G_p_check_name:=a2i (P:=P) (w:=w) (base:=base) F T;have G_p_check_moment:=a5s (P:=P) (w:=w) (base:=base) F T;have G_p_worth_in:=a8j (P:=P) (w:=w) (base:=base) F T;refine fn3x F.n36 a5f (λws G R EE h=>(by exact a4Y h)) (λcdv A outer s H E ws G R EE hr h ux=>?_);have hu:=a0Y hr;obtain⟨b,h⟩:=h;obtain⟨fO_known_line,dO_known_line,mtO_known_line,GO_known_line,bdO_known_line⟩:=a1x (P:=P) (base:=base) F T b;refine⟨_,(a0k (a06 (a1h (a1L Outs.of) ux.since (a0c (pv 0)) (clK T b) (a0W T b) G_Sheet_check_knowing (hr.mono (by decide)) (a02 F) (a0b (a0c (pv 3)) a0f a0a) (hst:=a0a) (hpl:=a0i)))
  (a0k (a06 (a35 (a1L Outs.of) ux.since G_p_check_name (hr.mono (by decide)) rfl T.m4 F.n4.kp (a2h F) (a0b (a0c (pv 1)) a0f a0a) (he:=a0a) (hpl:=a0i)))
  (a0k (a06 (a35 (a1L Outs.of) ux.since G_p_check_moment (hr.mono (by decide)) rfl T.m5 F.n5.kp (a5i F) (a0b (a0c (pv 2)) a0f a0a) (he:=a0a) (hpl:=a0i)))
  (a0n (a0D (a0q G_p_worth_in (hr.mono (by decide)) rfl T.m10 F.n10.kp (a8c F) (a0b (a8S (a0c (pv 0)) (clK T b) mtO_known_line GO_known_line (hr.mono (by decide)) bdO_known_line (a0b (a0c (pv 1)) (a0b (a0c (pv 3)) a0f a0a) a0a) (hst:=a0a) (hpl:=(a0j a0a a0i))) (a0b (a0c (pv 2)) a0f a0a) a0C) (he:=a0C) (hpl:=(a0j a0a a0i)))))))),?_⟩
 obtain⟨p,S,T',x,y,q,rfl,sh,hx,hy,hT,h⟩:=h;have sh':=sh;obtain⟨dx,d,kvs,sm⟩:=sh';symm;refine⟨p,dx,_,rfl,sm.ob,a1Q (by decide +kernel) (by decide +kernel),?_⟩;symm;refine⟨b,p,S,T',q,rfl,sh.v,?_⟩;rcases h with ⟨hq,k,m,rfl,hk,rfl,hm,fin⟩ | ⟨hq,e⟩ | ⟨hq,hn,e⟩ | ⟨hq,hn,hm,e⟩
 ·rw[if_pos (show 0<=q/\q<=T'.length from hq)];symm;refine⟨_,rfl,hx _,λG1 s1=>?_⟩;rw[nm_b hk];refine ifT ?_;symm;refine⟨_,rfl,hy _,λG2 s2=>?_⟩;rw[hm];refine ifT ?_;have s12:=s1.trans s2;have sm2:=sm.keep (Sm.ks s12);symm;refine⟨p,dx,_,rfl,sm2.ob,a1Q (by decide +kernel) (by decide +kernel),?_⟩;symm;refine⟨p,S,T',k,q,_,dx,d,kvs,rfl,sm2.v,hq.1,hq.2,hT,λt L G3 ht s3 gt il=>?_⟩;symm;have hl:=il.len;rw[fC]at hl;refine⟨t,L,m,rfl,gt,il.can.rise,il.pl.okR,by omega,λG4 s4=>?_⟩;rw[il.v,b3M];exact fin G4 ((s12.trans s3).trans s4)
 ·rw[if_neg (show ¬ (0<=q/\q<=T'.length) from hq)];exact e G (Sm.refl _)
 ·rw[if_pos (show 0<=q/\q<=T'.length from hq)];symm;refine⟨_,rfl,hx _,λG1 s1=>?_⟩;rw[hn];exact ifF (e G1 s1)
 ·rw[if_pos (show 0<=q/\q<=T'.length from hq)];symm;refine⟨_,rfl,hx _,λG1 s1=>?_⟩;rw[hn];refine ifT ?_;symm;refine⟨_,rfl,hy _,λG2 s2=>?_⟩;rw[hm];exact ifF (e G2 (s1.trans s2))
theorem Rec.ne (H:Rec b G S T k h):ix T k≠[]:=λz=>by
 cases b with
 | false=>
  obtain⟨a,H⟩:=H
  have:=H.ix
  rw[z]at this;exact H.ne (ik.mp this)
 | true=>
  obtain⟨a,H⟩:=H
  have:=H.ix
  rw[z]at this;exact H.ne (ik.mp this)
def NE (T:List Tl) (k:Str):Prop:=∃ L,IsLine T k L/\L≠[]
structure KeysAt (T:List Tl) (ts:List Str):Prop where
 so:PyProof.Rows.sortedS ts=true
 nd:ts.Nodup
 is:∀ s,s∈ts↔NE T s
theorem IsLine.uniq (h:IsLine T k L) (g:IsLine T k M):L=M:=b6f h.can g.can λt=>by rw[h.v,g.v]
theorem b0c (h:ix T k=[]) (q:Nat):a1K (T.take q) k=[]:=a6F λi a=>by rw[h]at a;simp at a
def Few (T:List Tl):Prop:=T.length<=200/\∃ kn:List Str,kn.length<=63/\∀ τ∈T,τ.key∈kn
theorem b6p:∀ {xs ys:List Str},xs.Nodup->(∀ x∈xs,x∈ys)->xs.length<=ys.length
 | [],_,_,_=>fL _
 | x::xs,ys,h,m=>by
  rw[iq]at h;have b:=m x (.head _)
  have:=b6p (ys:=ys.erase x) h.2 λy a=>(List.mem_erase_of_ne (λz=>h.1 (by simp_all))).mpr (m y (.tail _ a))
  rw[List.length_erase_of_mem b]at this
  have:=List.length_pos_of_mem b
  rw[fk];omega
theorem b3X:∀ {T:List Tl}{k:Str}{n:Nat},ixF k n T≠[]->∃ τ∈T,τ.key=k
 | [],_,_,h=>absurd rfl h
 | τ::T,k,n,h=>by
  by_cases c:τ.key=k
  ·exact⟨τ,.head _,c⟩
  ·unfold ixF at h;rw[if_neg c,g7]at h;obtain⟨σ,b,a⟩:=b3X h;exact⟨σ,.tail _ b,a⟩
theorem b3Y {ks:List Str}(h:kvs.map (·.1)=ks.map Sum.inr) (m:s∈ks):∃ z,valZ kvs (.inr s)=some z:=by
 unfold valZ;cases e2:kvs.find? λc=>decide (c.1=Sum.inr s) with
 | some q=>exact⟨_,rfl⟩
 | none=>
  have a:(Sum.inr s)∈kvs.map (·.1):=by rw[h];exact fP m
  obtain⟨q,b,d⟩:=fq.mp a
  have:=js.mp e2 q b
  simp[d]at this
def a3f (a:Ad):PX3:=λws G R EE=>∃ b:Bool,Ex4 λ(p:Addr) (S:Addr->Prop) (T:List Tl) (q:Int)=>ws=[.ref p,.int q]/\Sheet a b G p S T/\Few T /\
 ((inR T q/\∀ t ts G',G t=none->Sm G G'->G' t=some (.lst (ts.map Z.str))->KeysAt (T.take q.toNat) ts->ts.length<=63->R (.ref t) G')\/(¬ inR T q/\∀ G',Sm G G'->EE a.x_NoKnowing G'))
theorem a5t {a:Ad}{ws:List Z}{G:Hq}{R:K3}{EE:Addr->Hq->Prop}(h:a3f a ws G R EE):ws.length=2:=by obtain⟨_,_,_,_,_,rfl,_⟩:=h;rfl
theorem a6M:∀ {kvs:List (Key×Z)},(∀ q∈kvs,∃ s,q.1=Sum.inr s)->∃ ks:List Str,kvs.map (·.1)=ks.map Sum.inr/\(kvs.map λq=>keyW q.1)=ks.map Z.str
 | [],_=>⟨[],rfl,rfl⟩
 | q::kvs,h=>by
  obtain⟨s,a⟩:=h q (.head _);obtain⟨e,c,d⟩:=a6M λq b=>h q (.tail _ b);exact⟨s::e,by rw[fy,fy,c,a],by rw[fy,fy,d,a];rfl⟩
theorem b3Z {ks:List Str}(h:kvs.map (·.1)=ks.map Sum.inr) (e:valZ kvs (.inr s)=some z):s∈ks:=by
 unfold valZ at e;cases e2:kvs.find? λg=>decide (g.1=Sum.inr s) with
 | none=>rw[e2]at e;cases e
 | some q=>
  have a:=ja e2;have c:q.1=Sum.inr s:=by have:=ke e2;simpa using this
  have:(Sum.inr s:Key)∈ks.map Sum.inr:=by rw[<- h,<- c];exact fP a
  obtain⟨x,b,d⟩:=fq.mp this;cases d;exact b
theorem a10 (F:Fns K a) (T:Txt K mg a):FnOk P w K mg base (CXx P w) 4 a.f34 a.d34 ["self","knowing"] (a2S K (a3f a)):=by
 have G_Sheet_check_knowing:=a04 (P:=P) (w:=w) (base:=base) F T;refine fn3x F.n34 a5G (λws G R EE h=>(by exact a5t h)) (λcdv A outer s H E ws G R EE hr h ux=>?_);have hu:=a0Y hr;obtain⟨b,h⟩:=h;obtain⟨fO_known_line,dO_known_line,mtO_known_line,GO_known_line,bdO_known_line⟩:=a1x (P:=P) (base:=base) F T b;refine⟨_,(a0k (a06 (a1h (a1L Outs.of) ux.since (a0c (pv 0)) (clK T b) (a0W T b) G_Sheet_check_knowing (hr.mono (by decide)) (a02 F) (a0b (a0c (pv 1)) a0f a0a) (hst:=a0a) (hpl:=a0i)))
  (a0n (a0D (c2c (a0t a8Z rfl T.b_sorted rfl (a0b (q_lc (N₀:=["self","knowing"]) (so:=a0h a1t) (N':=["key","knowing","self"]) (cap:=[none,some 1,some 0]) (pt:=(.nm 0)) rfl rfl rfl (by decide +kernel) rfl (b7x (a4w (clK T b) (b0S T b) (a0c (pv 0)))) (λ_ _ _ _=>(show QP _ _ (.nm 0) from (a0o (i:=0) c0u rfl (fb rfl)))) (λ_ _ _ _=>(a30 (b9d (a8S (a0c (pv 2)) (clK T b) mtO_known_line GO_known_line (hr.mono (by decide)) bdO_known_line (a0b (a0c (pv 0)) (a0b (a0c (pv 1)) a0f a0a) a0a) (hst:=a0a) (hpl:=(a0j a0a a0i))) (λ_=>rfl)))) (λ_ _ _ _=>(a0c (pv 0)))) a0f a0M) (he:=a0M) (hpl:=a0i)))))),?_⟩
 obtain⟨p,S,T',q,rfl,sh,hT,h⟩:=h;have sh':=sh;obtain⟨dx,d,kvs,sm⟩:=sh';symm;refine⟨p,dx,_,rfl,sm.ob,a1Q (by decide +kernel) (by decide +kernel),?_⟩;symm;refine⟨b,p,S,T',q,rfl,sh.v,?_⟩;rcases h with ⟨hq,fin⟩ | ⟨hq,e⟩
 rotate_left
 ·rw[if_neg (show ¬ (0<=q/\q<=T'.length) from hq)];exact e G (Sm.refl _)
 rw[if_pos (show 0<=q/\q<=T'.length from hq)];symm;refine c2d sm.dc ?_;symm;refine⟨p,dx,_,_,rfl,sm.ob,a3r,?_⟩;symm;refine c2a (.inl sm.dc) ?_;have smF:=sm.v.frz;obtain⟨ks,hk1,hk2⟩:=a6M sm.sk;have hnd:ks.Nodup:=by
  have:=sm.nd
  rw[hk1]at this;exact (gX.mp this).imp λh z=>h (by rw[z])
 obtain⟨hT2,kn,kn1,kn2⟩:=hT;have hkl:ks.length<=63:=fx (b6p hnd λs hs=>by
  obtain⟨z,ez⟩:=b3Y hk1 hs;obtain⟨h,_,hh⟩:=sm.hs s z ez;obtain⟨τ,t1,t2⟩:=b3X (T:=T') (k:=s) (n:=0) (λz=>hh.ne z);rw[<- t2];exact kn2 τ t1) kn1
 rw[hk2];intro D hD;refine b1u (λi ys G'=>∃ ts:List Str,ys=ts.map Z.str/\ts.Nodup/\(∀ s,s∈ts↔s∈ks.take i/\NE (T'.take q.toNat) s)/\ts.length<=i/\Sm (put G d (.dF kvs)) G'/\G' D=some (.lst ys)) ⟨[],rfl,.nil,λs=>by simp,ff _,Sm.new hD,a0d⟩ (λ_ _ _ _ _=>True.intro) ?_ ?_
 ·rintro i x ys G' hx ⟨ts,rfl,hn,hm,hl,s,gD⟩;rw[fm]at hx;cases hx':ks[i]? with
  | none=>rw[hx']at hx;cases hx
  | some k=>
  rw[hx']at hx;cases hx;have hi:=(fj.mp hx').1;have ht1:ks.take (i+1)=ks.take i++[k]:=by rw[gG,hx'];rfl
  have nk:k∉ks.take i:=λz=>by
   have h1:(ks.take (i+1)).Nodup:=hnd.sublist (jf _ _);rw[ht1,gY]at h1;exact h1.2.2 k z k (by simp) rfl
  have smA:=smF.keep (Sm.ks s);refine⟨_,rfl,?_⟩;symm;refine⟨p,dx,_,rfl,smA.ob,a1Q (by decide +kernel) (by decide +kernel),?_⟩;symm;refine⟨p,S,T',k,q,_,dx,d,kvs,rfl,smA,hq.1,hq.2,by omega,λt L G2 ht s2 gt il=>?_⟩;refine b5X gt ?_;cases hL:L with
  | nil=>
   symm;refine⟨ts,rfl,hn,λy=>?_,by omega,s.trans s2,s2 _ _ gD⟩;rw[hm,ht1,fg,fi]
   constructor
   ·exact λ⟨a1,a2⟩=>⟨.inl a1,a2⟩
   ·rintro⟨a1 | rfl,a2⟩
    ·exact⟨a1,a2⟩
    ·obtain⟨M,m1,m2⟩:=a2;exact absurd (m1.uniq il) (by rw[hL];exact m2)
  | cons r L'=>
   symm;refine⟨_,rfl,s2 _ _ gD,by rw[fc];exact a0u (by omega),ts++[k],by rw[fv];rfl,?_,λy=>?_,by rw[fu];simp;omega,(s.trans s2).put hD,a0d⟩
   ·rw[gY];exact⟨hn,by simp,λa1 h1 b1 h2 z=>nk (by rw[<- fi.mp h2,<- z];exact ((hm a1).mp h1).1)⟩
   ·rw[fg,hm,ht1,fg,fi]
    constructor
    ·rintro (⟨a1,a2⟩ | rfl)
     ·exact⟨.inl a1,a2⟩
     ·exact⟨.inr rfl,L,il,by rw[hL];simp⟩
    ·rintro⟨a1 | rfl,a2⟩
     ·exact .inl ⟨a1,a2⟩
     ·exact .inr rfl
 ·rintro ys G' ⟨ts,rfl,hn,hm,hl,s,gD⟩;rw[fc]at hm hl;rw[gR]at hm;symm;refine a80 gD (by omega) λt us ht hp hs=>?_;have gd:G' d=some (.dF kvs):=s _ _ a0d;have td:t≠d:=Ne.symm (a0z gd ht);have fr:G t=none:=by
   have h1:=s.free ht;rw[a0E td]at h1;exact h1
  have sm2:Sm G (put (put G' t (.lst (us.map Z.str))) d (.dK kvs)):=λb o e=>by
   by_cases c:b=d
   ·rw[c,a0d,<- sm.dc,<- c];exact e
   ·rw[a0E c];exact a0l (s _ _ (by rw[a0E c];exact e)) ht
  refine⟨a0l gd ht,fin t us _ fr sm2 (by rw[a0E td];exact a0d) ⟨hs,hp.nodup_iff.mpr hn,λy=>?_⟩ (by rw[hp.length_eq];omega)⟩;rw[hp.mem_iff,hm]
  constructor
  ·exact λz=>z.2
  ·intro z;refine⟨?_,z⟩;cases e:valZ kvs (.inr y) with
   | some w=>exact b3Z hk1 e
   | none=>
    obtain⟨L,l1,l2⟩:=z;exact absurd (l1.uniq (IsLine.nil (b0c (sm.no y e) _))) l2
def b6q:P3:=λws G R=>∃ c k:Int,ws=[.int c,.int k]/\0<=k/\k<=1000/\∀ i:Int,0<=i->i<268435449->R (.int i) G
theorem b75 (h:b6q ws G R):ws.length=2:=by obtain⟨_,_,rfl,_⟩:=h;rfl
theorem a7A (F:Fns K a) (T:Txt K mg a):FnOk P w K mg base CX0 1 a.f22 a.d22 ["cell","k"] (lowP K b6q):=by
 refine fn3 F.n22 sc_mix (λd G R h=>(by exact b75 h)) (λj A b s H E d G R f h=>?_);have n:=a0Y f;refine⟨_,(a0k (a0F (i:=2) sc_mix.nd rfl (fb rfl) (q_op a2k (q_op a1i (a0c (pv 0)) (q_op b4L a0g (q_op a1i (a0c (pv 1)) a0g))) a0g))
  (a0k (a0F (i:=2) sc_mix.nd rfl (fb rfl) (q_op a2k (q_op b4L (a0c (pv 2)) (a0c (pv 2))) a0g))
  (a0n (a0D (q_op b2O (q_op a2k (q_op b4L (a0c (pv 2)) (q_op a1i (q_op a1i (a0c (pv 2)) a0g) (a0c (pv 1)))) a0g) a0g))))),?_⟩
 obtain⟨c,k,rfl,m,l,q⟩:=h;symm;refine i_I (.inl ⟨by decide,by decide⟩) ?_;symm;refine i_I (show (0:Int)<2147483647 by decide) ?_;symm;generalize ho:(c+104729*(k+1)) % 2147483647=o;refine i_I (.inl ⟨by omega,by omega⟩) ?_;symm;refine i_I (show (0:Int)<2147483629 by decide) ?_;symm;generalize ho2:o*o % 2147483629=o2;refine i_I (.inl ⟨by omega,by omega⟩) ?_;symm;refine i_I (show (0:Int)<2147483587 by decide) ?_;symm;refine i_I ⟨by decide,by decide⟩ ?_;have e:∀ x:Int,0<=x % 2147483587/\x % 2147483587<2147483587:=λx=>⟨fW _ (by decide),gg _ (by decide)⟩
 have:=e (o2*(o2+7919+k))
 exact q _ (by omega) (by omega)
def Bnd (xs bs:List Int):Prop:=xs.length=bs.length/\∀ (i:Nat) x b,xs[i]?=some x->bs[i]?=some b->0<=x/\x<b
theorem Bnd.at (h:Bnd xs bs) {i:Nat}(e:bs[i]?=some b):∃ x,xs[i]?=some x/\0<=x/\x<b:=by
 have c:=(fj.mp e).1;have a:i<xs.length:=by rw[h.1];exact c
 exact⟨xs[i],fw a,h.2 i _ b (fw a) e⟩
theorem a0P {xs:List Int}{i:Nat}(e:xs[i]?=some x):atI (xs.map Z.int) (i:Int)=some (.int x):=a1A (by simp_all)
def b06:P3:=λws G R=>Ex4 λ(c w:Int) (p:Addr) (bs:List Int)=>ws=[.int c,.int w,.ref p]/\G p=some (.lst (bs.map Z.int))/\bs.length<=20/\(∀ b∈bs,0<b/\b<2 ^ 60) /\
 ∀ t xs,G t=none->Bnd xs bs->R (.ref t) (put G t (.lst (xs.map Z.int)))
theorem b30 (h:b06 ws G R):ws.length=3:=by obtain⟨_,_,_,_,rfl,_⟩:=h;rfl
theorem b07 (F:Fns K a) (T:Txt K mg a):FnOk P w K mg base CX0 2 a.f23 a.d23 ["cell","way","bounds"] (lowP K b06):=by
 have G_mix:=a7A (P:=P) (w:=w) (base:=base) F T;refine fn3 F.n23 sc_parts (λws G R h=>(by exact b30 h)) (λcdv A outer s H E ws G R hr h=>?_);have hu:=a0Y hr;refine⟨_,(a0k (a0F (i:=3) sc_parts.nd rfl (fb rfl) (a1p a0f))
  (a0k (a3E (pt:=(.nm 4)) kH.never rfl (a48 rfl T.b_range (a0b (a0t b_len rfl T.b_len PySem.boot_len (a0b (a0c (pv 2)) a0f a0a) (he:=a0a) (hpl:=a0i)) a0f a0C)) (show QP _ _ (.nm 4) from (a0o (i:=4) sc_parts.nd rfl (fb rfl)))
  (a0n (z_if (a0r (o_eq hu) (a0c (pv 1)) a0g (a0p _))
  (a0k (a06 (q_bm PySem.F.plainAttrs_list PySem.F.slot_list_append PySem.F.type_list_append a1j (a0c (pv 3)) (a0b (q_op a2k (a0c (pv 0)) (q_ix x_ix (a0c (pv 2)) (a0c (pv 4)) (λ_ _=>rfl))) a0f a0A)))
  (a0n (a0F (i:=0) sc_parts.nd rfl (fb rfl) (q_op b2O (a0c (pv 0)) (q_ix x_ix (a0c (pv 2)) (a0c (pv 4)) (λ_ _=>rfl))))))
  (a0n (a06 (q_bm PySem.F.plainAttrs_list PySem.F.slot_list_append PySem.F.type_list_append a1j (a0c (pv 3)) (a0b (q_op a2k (q_op b4L (a0q G_mix (hr.mono (by decide)) rfl T.m22 F.n22.kp (a2p F) (a0b (a0c (pv 0)) (a0b (a0c (pv 4)) a0f a0a) a0a) (he:=a0a) (hpl:=(a0j a0a a0i))) a0g) (q_ix x_ix (a0c (pv 2)) (a0c (pv 4)) (λ_ _=>rfl))) a0f a0A)))))))
  (a0n (a0D (a0c (pv 3)))))),?_⟩
 obtain⟨c,w,p,bs,rfl,hp,hl,hb,q⟩:=h;symm;refine⟨lenK rfl,λt ht=>?_⟩;symm;refine a2m (a0l hp ht) ?_;symm;rw[fc];refine⟨by omega,by omega,?_⟩;rw[show ((bs.length:Int)).toNat=bs.length by omega];refine a1n (λi σ G'=>∃ (c:Int) (xs:List Int) (v:Option Z),xs.length=i/\(∀ (j:Nat) x b,xs[j]?=some x->bs[j]?=some b->0<=x/\x<b)/\σ=[some (.int c),some (.int w),some (.ref p),some (.ref t),v]/\G'=put G t (.lst (xs.map Z.int))) ⟨c,[],_,rfl,λj x b h=>by simp at h,rfl,rfl⟩ (λ_ _ _ _ _=>True.intro) ?_ ?_
 ·rintro i x σ G' hx ⟨c,xs,v,hxs,hall,rfl,rfl⟩;obtain⟨hi,rfl⟩:=a47 hx;rw[Int.zero_add];have hbi:bs[i]?=some bs[i]:=fw hi;have hbb:=hb _ (fS hi);generalize bs[i]=b at hbi hbb;have hbm:=a0P hbi;have hp':=a0l (o:=.lst (xs.map Z.int)) hp ht;have fin:∀ (c' x:Int) (w':Option Z),0<=x->x<b->∃ (c:Int) (xs':List Int) (v:Option Z),xs'.length=i+1/\(∀ (j:Nat) x b,xs'[j]?=some x->bs[j]?=some b->0<=x/\x<b)/\([some (.int c'),some (.int w),some (.ref p),some (.ref t),w']:S3)=[some (.int c),some (.int w),some (.ref p),some (.ref t),v]/\put (put G t (.lst (xs.map Z.int))) t (.lst (xs.map Z.int++[.int x]))=put G t (.lst (xs'.map Z.int)):=λc' x w' x0 x1=>by
   refine⟨c',xs++[x],w',by simp;exact hxs,λj y b' e1 e2=>?_,rfl,by rw[a2a,fv];rfl⟩
   by_cases hj:j<xs.length
   ·rw[ir hj]at e1;exact hall j y b' e1 e2
   ·have hjl:=(fj.mp e1).1
    have:j=xs.length:=by simp at hjl;omega
    subst this;rw[iN (ff _),Nat.sub_self]at e1;cases e1;rw[hxs,hbi]at e2;cases e2;exact⟨x0,x1⟩
  refine⟨_,rfl,?_⟩;symm;refine ifD (λ_=>?_) λ_=>?_
  ·symm;refine a3m a0d ?_;symm;refine a0I hp' hbm ?_;symm;refine i_I hbb.1 ?_;symm;refine a1k a0d (by rw[fc];exact a0u (by omega)) ?_;have hne:p≠t:=a0z hp ht;symm;refine a0I (by rw[a0E hne,a0E hne];exact hp) hbm ?_;symm;refine i_I ⟨hbb.1,by omega⟩ ?_;symm;exact fin _ _ _ (fW _ (by omega)) (gg _ hbb.1)
  ·symm;refine a3m a0d ?_;symm;refine⟨c,(i:Int),rfl,by omega,by omega,λm m0 m1=>?_⟩;symm;refine i_I (.inl ⟨by omega,by omega⟩) ?_;symm;refine a0I hp' hbm ?_;symm;refine i_I hbb.1 ?_;symm;refine a1k a0d (by rw[fc];exact a0u (by omega)) ?_;exact fin _ _ _ (fW _ (by omega)) (gg _ hbb.1)
 ·rintro σ G' ⟨c,xs,v,hxs,hall,rfl,rfl⟩;rw[a2z]at hxs;symm;exact q t xs ht ⟨hxs,hall⟩
abbrev LET:Str:=Str.ofString "etaoinshrdlucmfwypvbgkjqxz"
theorem a5Y:LET.cps.toList=[101,116,97,111,105,110,115,104,114,100,108,117,99,109,102,119,121,112,118,98,103,107,106,113,120,122]:=by decide +kernel
theorem b6r (h0:0<=k) (h1:k<26):∃ c,atI LET.cps.toList k=some c/\isL c:=by
 obtain⟨j,rfl⟩:=ge h0;have a:j<26:=by omega
 have:∀ j:Fin 26,∃ c,([101,116,97,111,105,110,115,104,114,100,108,117,99,109,102,119,121,112,118,98,103,107,106,113,120,122])[j.1]?=some c/\97<=c/\c<=122:=by decide
 obtain⟨c,e,h⟩:=this ⟨j,a⟩;exact⟨c,a1A (by rw[a5Y];exact e),h⟩
theorem a3D (a b:Str):(a++b).cps.toList=a.cps.toList++b.cps.toList:=by
 show (a.cps++b.cps).toList=_
 rw[Array.toList_append]
theorem c0O {p:Nat}(h:p<=s.cps.toList.length):(Txt.slice s none (some (p:Int))).cps.toList=s.cps.toList.take p:=by
 have:=eq_of_beq (PyProof.Rows.slice_closes_to (x:=s) (j:=p) ⟨by omega,by omega⟩)
 rw[this];simp
theorem b31 {p:Nat}(h:p<=s.cps.toList.length):(Txt.slice s (some (p:Int)) none).cps.toList=s.cps.toList.drop p:=by
 have:=PyProof.Rows.slice_from_eq (x:=s) (i:=p) (by simp) (by rw[a4K];omega) rfl
 rw[this,a4K,gI (by simp)];simp
def letN (s:Str) (n:Nat):Prop:=s.cps.toList.length=n/\∀ c∈s.cps.toList,isL c
theorem letN.nm (h:letN s n) (h1:1<=n) (h8:n<=8):nmOk s:=⟨by rw[h.1];exact h1,by rw[h.1];exact h8,h.2⟩
theorem letN.sz (h:letN s n) (h8:n<=100):s.length<=sizeLine:=a1P (by rw[a4K,h.1];omega)
theorem letN.one (h:isL c):letN ⟨#[c]⟩ 1:=⟨rfl,λx a=>by
 have:x=c:=by simpa using a
 rw[this];exact h⟩
theorem letN.add {a b:Str}{n m:Nat}(h:letN a n) (g:letN b m):letN (a++b) (n+m):=⟨by rw[a3D,fu,h.1,g.1],λc hc=>by
 rw[a3D]at hc;rcases fg.mp hc with hc | hc
 ·exact h.2 c hc
 ·exact g.2 c hc⟩
theorem letN.to (h:letN s n) (hp:p<=n):letN (Txt.slice s none (some (p:Int))) p:=⟨by rw[c0O (by rw[h.1];exact hp),fC,h.1];omega,λc a=>by
 rw[c0O (by rw[h.1];exact hp)]at a;exact h.2 c (gw a)⟩
theorem letN.from (h:letN s n) (hp:p<=n):letN (Txt.slice s (some (p:Int)) none) (n - p):=⟨by rw[b31 (by rw[h.1];exact hp),gj,h.1],λc a=>by
 rw[b31 (by rw[h.1];exact hp)]at a;exact h.2 c (iZ a)⟩
theorem a7B:∀ (ys:List Str),(∀ s∈ys,letN s 1)->letN (Str.join (Str.ofString "") ys) ys.length
 | [],_=>⟨by decide +kernel,λc a=>by rw[show (Str.join _ []).cps.toList=[] by decide +kernel]at a;simp at a⟩
 | [s],h=>h s (.head _)
 | s::t::r,h=>by
  have b:=a7B _ λu d=>h u (.tail _ d);have e:letN (Str.ofString "") 0:=⟨by decide +kernel,λc a=>by rw[show (Str.ofString "").cps.toList=[] by decide +kernel]at a;simp at a⟩
  have:=((h s (.head _)).add e).add b
  rw[show 1+0+(t::r).length=(s::t::r).length by simp;omega]at this;exact this
theorem b32 (ys:List Str) (h:∀ s∈ys,letN s 1):letN (Txt.join (Str.ofString "") ys) ys.length:=by
 have e:Txt.join _ ys=Str.join (Str.ofString "") ys:=StrLaws.glued_eq_join _ _;rw[e];exact a7B ys h
theorem b08:∀ (ys:List Str),(∀ s∈ys,letN s 1)->(ys.map (·.length)).sum=ys.length
 | [],_=>rfl
 | s::r,h=>by
  rw[fy,List.sum_cons,b08 r λu a=>h u (.tail _ a),fk,a4K,(h s (.head _)).1];omega
theorem c0P:∀ i:Nat,i<8->([8,8,26,26,26,26,26,26,26,26,26,2]:List Int)[3+i]?=some 26:=by decide
theorem a8n {α:Type}{P:α->Prop}{l:List α}{x:α}(h:∀ s∈l,P s) (hx:P x):∀ s∈l++[x],P s:=λs a=>by
 rcases fg.mp a with a | a
 ·exact h s a
 ·simp_all
theorem b76 (h0:0<=k) (h1:k<26) (h0':0<=k') (h1':k'<26) (e:atI LET.cps.toList k=some c) (e':atI LET.cps.toList k'=some c):k=k':=by
 obtain⟨j,rfl⟩:=ge h0;obtain⟨f,rfl⟩:=ge h0';have d:∀ i:Nat,i<26->atI LET.cps.toList i=LET.cps.toList[i]?:=λi l=>by
  obtain⟨x,g⟩:∃ x,LET.cps.toList[i]?=some x:=⟨_,fw (by rw[a5Y];exact l)⟩;rw[g];exact a1A g
 rw[d j (by omega),a5Y]at e;rw[d f (by omega),a5Y]at e';have h:∀ a b:Fin 26,([101,116,97,111,105,110,115,104,114,100,108,117,99,109,102,119,121,112,118,98,103,107,106,113,120,122])[a.1]?=([101,116,97,111,105,110,115,104,114,100,108,117,99,109,102,119,121,112,118,98,103,107,106,113,120,122])[b.1]?->a=b:=by decide +kernel
 have:=h ⟨j,by omega⟩ ⟨f,by omega⟩ (e.trans e'.symm)
 have:j=f:=congrArg Fin.val this
 omega
theorem b77 (h:ns.Nodup) (hl:∀ u∈ns,letN u m) (hs:letN s l) (ne:l≠m) (hn:ns≠[]):(ns.set (ns.length - 1) s).Nodup:=by
 obtain⟨x,d⟩:∃ x,ns.getLast?=some x:=⟨_,List.getLast?_eq_some_getLast hn⟩;rw[b0W d,gY];refine⟨h.sublist (List.dropLast_sublist _),by simp,λa c b e z=>ne ?_⟩;rw[fi.mp e]at z
 have:=(hl a (jp _ c)).1
 rw[z,hs.1]at this;exact this
def b09:P3:=λws G R=>∃ (c w n:Int),ws=[.int c,.int w,.int n]/\1<=n/\n<=22/\∀ (t:Addr) (ns:List Str) (G':Hq),G t=none->G' t=some (.lst (ns.map Z.str))->(ns.length:Int)=n->(∀ s∈ns,nmOk s)->ns.Nodup->Sm G G'->R (.ref t) G'
theorem b33 (h:b09 ws G R):ws.length=3:=by obtain⟨_,_,_,rfl,_⟩:=h;rfl
abbrev B12:List Int:=[8,8,26,26,26,26,26,26,26,26,26,2]
theorem b5x (F:Fns K a) (T:Txt K mg a):FnOk P w K mg base CX0 3 a.f24 a.d24 ["cell","way","many"] (lowP K b09):=by
 have G_parts:=b07 (P:=P) (w:=w) (base:=base) F T;refine fn3 F.n24 sc_names (λws G R h=>(by exact b33 h)) (λcdv A outer s H E ws G R hr h=>?_);have hu:=a0Y hr;refine⟨_,(a0k (a0F (i:=3) sc_names.nd rfl (gA rfl) a2b)
  (a0k (a0F (i:=4) sc_names.nd rfl (gA rfl) (a0q G_parts (hr.mono (by decide)) rfl T.m23 F.n23.kp (b0P F) (a0b (a0c (pv 0)) (a0b (a0c (pv 1)) (a0b (q_op a1i (q_op a1i (a1p (a0b a0g (a0b a0g (a0b a0g a0f a0e) a0e) a0e)) (q_op c14 (a1p (a0b a0g a0f a0e)) a0g)) (a1p (a0b a0g a0f a0e))) a0f a0A) a0a) a0a) (he:=a0a) (hpl:=(a0j a0a (a0j a0A a0i)))))
  (a0k (a0F (i:=5) sc_names.nd rfl (gA rfl) (q_bm PySem.F.plainAttrs_str PySem.F.slot_str_join PySem.F.type_str_join b9s a2b (a0b (q_lc (N₀:=["cell","way","many","letters","xs","stem","at","found"]) (so:=a0h a6p) (N':=["k","letters","xs"]) (cap:=[none,some 3,some 4]) (pt:=(.nm 0)) rfl rfl rfl (by decide +kernel) rfl (a48 rfl T.b_range (a0b (q_op a1i a0g (q_ix x_ix (a0c (pv 4)) a0g (λ_ _=>rfl))) a0f a0A)) (λ_ _ _ _=>(show QP _ _ (.nm 0) from (a0o (i:=0) c2n rfl (fb rfl)))) (λ_ _ _ _=>a3Z) (λ_ _ _ _=>(q_ix x_ix (a0c (pv 1)) (q_ix x_ix (a0c (pv 2)) (q_op a1i a0g (a0c (pv 0))) (λ_ _=>rfl)) (λ_ _=>rfl)))) a0f a0M)))
  (a0k (a0F (i:=6) sc_names.nd rfl (gA rfl) (q_op a2k (q_ix x_ix (a0c (pv 4)) a0g (λ_ _=>rfl)) (a0t b_len rfl T.b_len PySem.boot_len (a0b (a0c (pv 5)) a0f a0a) (he:=a0a) (hpl:=a0i))))
  (a0k (a9H (i:=7) sc_names.nd rfl rfl (N₀:=["cell","way","many","letters","xs","stem","at","found"]) (so:=a0h a6p) (N':=["k","stem","letters","at","xs"]) (cap:=[none,some 5,some 3,some 6,some 4]) (pt:=(.nm 0)) rfl rfl rfl (by decide +kernel) rfl (a48 rfl T.b_range (a0b (a0c (pv 2)) a0f a0a)) (λ_ _ _ _=>(show QP _ _ (.nm 0) from (a0o (i:=0) c2o rfl (fb rfl)))) (λ_ _ _ _=>a3Z) (λ_ _ _ _=>(q_op a1i (q_op a1i (a09 x_sl (a0c (pv 1)) a05 (a1m (a0c (pv 3)))) (q_ix x_ix (a0c (pv 2)) (q_op a2k (q_op a1i (q_ix x_ix (a0c (pv 4)) a0g (λ_ _=>rfl)) (a0c (pv 0))) a0g) (λ_ _=>rfl))) (a09 x_sl (a0c (pv 1)) (a1m (q_op a1i (a0c (pv 3)) a0g)) a05))))
  (a8E (z_if (QW.qt (a5A (a0r (o_eq hu) (q_ix x_ix (a0c (pv 4)) a0g (λ_ _=>rfl)) a0g (a0p _)) (a3H (a0r o_lt (a0t b_len rfl T.b_len PySem.boot_len (a0b (a0c (pv 5)) a0f a0a) (he:=a0a) (hpl:=a0i)) a0g (a0p _)))))
  (a0n (a7k (q_op a1i (q_ix x_ix (a0c (pv 7)) a0g (λ_ _=>rfl)) (q_ix x_ix (q_ix x_ix (a0c (pv 7)) a0g (λ_ _=>rfl)) a0g (λ_ _=>rfl))) (a0c (pv 7)) (q_un a2M a0g) b4N))
  (a0n (z_if (a0r (o_eq hu) (q_ix x_ix (a0c (pv 4)) a0g (λ_ _=>rfl)) a0g (a0p _))
  (a0n (a7k (a09 x_sl (q_ix x_ix (a0c (pv 7)) a0g (λ_ _=>rfl)) (a1m a0g) a05) (a0c (pv 7)) (q_un a2M a0g) b4N))
  a1a)))
  (a0n (a0D (a0c (pv 7)))))))))),?_⟩
 obtain⟨c,w,n,rfl,n1,n2,q⟩:=h;symm;refine⟨lenK rfl,λa1 h1=>?_⟩;symm;refine⟨lenK rfl,λa2 h2=>?_⟩;symm;refine c15 a0d (by decide) (by decide) (lenK rfl) λa3 h3=>?_;symm;refine a7n (a0l (a0l a0d h2) h3) a0d (lenK rfl) λa4 h4=>?_;symm;refine⟨lenK rfl,λa5 h5=>?_⟩;symm;refine a7n (a0l a0d h5) a0d (lenK rfl) λa6 h6=>?_;have s6:=(((((Sm.new (o:=.lst [.int 8,.int 8,.int 26]) h1).trans (Sm.new (o:=.lst [.int 26]) h2)).trans (Sm.new (o:=.lst (fB (8:Int).toNat [Z.int 26]).flatten) h3)).trans (Sm.new (o:=.lst ([.int 8,.int 8,.int 26]++(fB (8:Int).toNat [Z.int 26]).flatten)) h4)).trans (Sm.new (o:=.lst [.int 2]) h5)).trans (Sm.new (o:=.lst ([.int 8,.int 8,.int 26]++(fB (8:Int).toNat [Z.int 26]).flatten++[.int 2])) h6);symm;refine⟨c,w,a6,B12,rfl,a0d,by decide,by decide,λt xs ht hB=>?_⟩;have s7:=s6.trans (Sm.new (o:=.lst (xs.map Z.int)) ht);have gx:put (put (put (put (put (put (put G a1 (.lst [.int 8,.int 8,.int 26])) a2 (.lst [.int 26])) a3 (.lst (fB (8:Int).toNat [Z.int 26]).flatten)) a4 (.lst ([.int 8,.int 8,.int 26]++(fB (8:Int).toNat [Z.int 26]).flatten))) a5 (.lst [.int 2])) a6 (.lst ([.int 8,.int 8,.int 26]++(fB (8:Int).toNat [Z.int 26]).flatten++[.int 2]))) t (.lst (xs.map Z.int)) t=some (.lst (xs.map Z.int)):=a0d;generalize put (put (put (put (put (put (put G a1 (.lst [.int 8,.int 8,.int 26])) a2 (.lst [.int 26])) a3 (.lst (fB (8:Int).toNat [Z.int 26]).flatten)) a4 (.lst ([.int 8,.int 8,.int 26]++(fB (8:Int).toNat [Z.int 26]).flatten))) a5 (.lst [.int 2])) a6 (.lst ([.int 8,.int 8,.int 26]++(fB (8:Int).toNat [Z.int 26]).flatten++[.int 2]))) t (.lst (xs.map Z.int))=G7 at s7 gx ⊢;clear s6 ht h6 h5 h4 h3 h2 h1;obtain⟨x0,e0,x00,x01⟩:=hB.at (i:=0) (b:=8) rfl;obtain⟨x1,e1,x10,x11⟩:=hB.at (i:=1) (b:=8) rfl;obtain⟨x2,e2,x20,x21⟩:=hB.at (i:=2) (b:=26) rfl;obtain⟨x9,e9,x90,x91⟩:=hB.at (i:=11) (b:=2) rfl;symm;refine a0I gx (a0P e0) ?_;symm;refine⟨by omega,by omega,?_⟩;intro D hD;obtain⟨m,hm⟩:∃ m:Nat,(1+x0).toNat=m:=⟨_,rfl⟩;have hm1:1<=m:=by omega
 have hm8:m<=8:=by omega
 rw[hm];refine b1u (λi ys G'=>∃ ss:List Str,ys=ss.map Z.str/\ss.length=i/\(∀ s∈ss,letN s 1)/\G'=put G7 D (.lst (ss.map Z.str))) ⟨[],rfl,rfl,λs h=>by simp at h,rfl⟩ (λ_ _ _ _ _=>True.intro) ?_ ?_
 ·rintro i x ys G' hx ⟨ss,rfl,hl,hall,rfl⟩;obtain⟨hi,rfl⟩:=a47 hx;obtain⟨y,ey,y0,y1⟩:=hB.at (c0P i (by omega));obtain⟨ch,ech,hch⟩:=b6r y0 y1;refine⟨_,rfl,?_⟩;symm;refine a0I (a0l gx hD) (by rw[show (3:Int)+(0+(i:Int))=((3+i:Nat):Int) by omega];exact a0P ey) ?_;symm;refine b7d (lenK rfl) ech ?_;refine⟨a0d,by rw[fc];exact a0u (by omega),ss++[⟨#[ch]⟩],by rw[fv];rfl,by simp;exact hl,a8n hall (letN.one hch),?_⟩;rw[a2a,fv];rfl
 ·rintro ys G' ⟨ss,rfl,hl,hall,rfl⟩;rw[a2z]at hl;have hstem:=b32 ss hall;rw[hl]at hstem;symm;refine b9L a0d (by rw[b08 ss hall,hl,show (Str.ofString "").length=0 by decide +kernel];omega) ?_;have gx8:=a0l (o:=.lst (ss.map Z.str)) gx hD;have s8:=s7.trans (Sm.new (o:=.lst (ss.map Z.str)) hD);generalize put G7 D (.lst (ss.map Z.str))=G8 at gx8 s8 ⊢;generalize Txt.join (Str.ofString "") ss=stem at hstem ⊢;have hls:stem.length=m:=by rw[a4K,hstem.1]
  symm;refine a0I gx8 (a0P e1) ?_;symm;refine a8K (hstem.sz (by omega)) ?_;symm;rw[hls];refine i_I (show (0:Int)<(m:Int) by omega) ?_;symm;have hat:0<=x1 % (m:Int)/\x1 % (m:Int)<m:=⟨fW _ (by omega),gg _ (by omega)⟩;obtain⟨p,hp⟩:∃ p:Nat,x1 % (m:Int)=(p:Int):=⟨(x1 % (m:Int)).toNat,by omega⟩;rw[hp]at hat ⊢;refine⟨by omega,by omega,?_⟩;intro F hF;refine b1u (λi ys G'=>∃ ns:List Str,ys=ns.map Z.str/\ns.length=i/\(∀ s∈ns,letN s m)/\ns.Nodup/\(∀ s∈ns,∃ (j c:Nat),j<i/\atI LET.cps.toList ((x2+(0+(j:Int))) % 26)=some c/\s.cps.toList=(Txt.slice stem none (some (p:Int))).cps.toList++[c]++(Txt.slice stem (some ((p+1:Nat):Int)) none).cps.toList)/\G'=put G8 F (.lst (ns.map Z.str))) ⟨[],rfl,rfl,(λs h=>by simp at h),.nil,(λs h=>by simp at h),rfl⟩ (λ_ _ _ _ _=>True.intro) ?_ ?_
  ·rintro i x ys G' hx ⟨ns,rfl,hnl,hnall,hnd,hns,rfl⟩;obtain⟨hi,rfl⟩:=a47 hx;refine⟨_,rfl,?_⟩;symm;refine a9J (hstem.sz (by omega)) ?_;have l1:=hstem.to (p:=p) (by omega);symm;refine a0I (a0l gx8 hF) (a0P e2) ?_;symm;refine i_I (show (0:Int)<26 by decide) ?_;symm;obtain⟨ch,ech,hch⟩:=b6r (fW (x2+(0+(i:Int))) (by decide:(26:Int)≠0)) (gg _ (by decide));refine b7d (lenK rfl) ech ?_;have l2:=l1.add (letN.one hch);refine a8J (a1P (by rw[a4K,l1.1];show p+1<=1000;omega)) ?_;symm;refine a9J (hstem.sz (by omega)) ?_;have l3:=hstem.from (p:=p+1) (by omega);have l4:=l2.add l3;rw[show p+1+(m - (p+1))=m by omega]at l4;rw[show ((p:Int)+1)=((p+1:Nat):Int) by omega];refine a8J (a1P (by rw[a4K,a4K,l2.1,l3.1];omega)) ?_;have eN:(Txt.slice stem none (some (p:Int))++(⟨#[ch]⟩:Str)++Txt.slice stem (some ((p+1:Nat):Int)) none).cps.toList=(Txt.slice stem none (some (p:Int))).cps.toList++[ch]++(Txt.slice stem (some ((p+1:Nat):Int)) none).cps.toList:=by rw[a3D,a3D]
   have hin:i<22:=by omega
   refine⟨a0d,by rw[fc];exact a0u (by omega),_,by rw[fv];rfl,by simp;exact hnl,a8n hnall l4,?_,?_,?_⟩
   ·rw[gY];refine⟨hnd,by simp,λu hu v hv z=>?_⟩;rw[fi.mp hv]at z;obtain⟨j,c',hj,ec',es⟩:=hns u hu;rw[z,eN]at es;have ecc:ch=c':=by simpa using es
    subst ecc
    have:=b76 (fW _ (by decide)) (gg _ (by decide)) (fW _ (by decide)) (gg _ (by decide)) ech ec'
    omega
   ·refine a8n (λs hs=>?_) ⟨i,ch,by omega,ech,eN⟩;obtain⟨j,c',hj,r⟩:=hns s hs;exact⟨j,c',by omega,r⟩
   rw[a2a,fv];rfl
  ·rintro ys G' ⟨ns,rfl,hnl,hnall,hnd,_,rfl⟩;rw[a2z]at hnl;have s9:=s8.trans (Sm.new (o:=.lst (ns.map Z.str)) hF);have gx9:=a0l (o:=.lst (ns.map Z.str)) gx8 hF;have gF:put G8 F (.lst (ns.map Z.str)) F=some (.lst (ns.map Z.str)):=a0d;have hFG:G F=none:=s8.free hF;generalize put G8 F (.lst (ns.map Z.str))=G9 at s9 gx9 gF ⊢;have hnn:∀ s∈ns,nmOk s:=λs hs=>(hnall s hs).nm hm1 hm8;obtain⟨a,as,ea⟩:∃ a as,ns=a::as:=by cases ns with | nil=>simp at hnl;omega | cons a as=>exact⟨a,as,rfl⟩
   have ha:=hnall a (by rw[ea];simp);have hla:a.length=m:=by rw[a4K,ha.1]
   have at0a:atI (ns.map Z.str) 0=some (.str a):=by rw[ea];exact at0
   obtain⟨c0,cr,ec⟩:∃ c0 cr,a.cps.toList=c0::cr:=by
    have:=ha.1
    cases h:a.cps.toList with
    | nil=>rw[h]at this;simp at this;omega
    | cons c cr=>exact⟨c,cr,rfl⟩
   have hc0:isL c0:=ha.2 c0 (by rw[ec];simp);have hix:ixN (ns.map Z.str).length (-1)=some ((ns.map Z.str).length - 1):=a96 (by rw[fc,ea];simp);have setok:∀ s l,letN s l->l≠m->nmOk s->∃ ns':List Str,(ns.map Z.str).set ((ns.map Z.str).length - 1) (.str s)=ns'.map Z.str/\ns'.length=ns.length/\ns'.Nodup/\∀ u∈ns',nmOk u:=λs l hsl ne hs=>by
    refine⟨ns.set (ns.length - 1) s,by rw[fc,List.map_set],by simp,b77 hnd hnall hsl ne (by rw[ea];simp),λu hu=>?_⟩;rcases kf hu with hu | hu
    ·exact hnn u hu
    ·rw[hu];exact hs
   symm;refine a8I (fun σ' G'=>∃ ns':List Str,ns'.length=ns.length/\(∀ s∈ns',nmOk s)/\ns'.Nodup/\Sm G G'/\G' F=some (.lst (ns'.map Z.str))/\σ'=[some (.int c),some (.int w),some (.int n),some (.str LET),some (.ref t),some (.str stem),some (.int p),some (.ref F)]) ?_ ?_
   ·symm;refine a0I gx9 (a0P e9) ?_;symm;refine ifD (λc1=>?_) λc1=>?_
    ·symm;refine a8K (hstem.sz (by omega)) ?_;symm;rw[hls];refine ifD (λc2=>?_) λc2=>?_
     ·symm;refine a0I gF at0a ?_;symm;refine a0I gF at0a ?_;symm;refine b7d (ha.sz (by omega)) (by rw[ec];exact at0) ?_;refine a8J (a1P (by rw[hla];show m+1<=1000;omega)) ?_;symm;refine b4S gF hix ?_;obtain⟨ns',en,hl',hnd',hok'⟩:=setok _ _ (ha.add (letN.one hc0)) (by omega) ((ha.add (letN.one hc0)).nm (by omega) (by omega));exact⟨ns',hl',hok',hnd',s9.put hFG,by rw[a0d,en],rfl⟩
     ·symm;refine a0I gx9 (a0P e9) ?_;symm;refine ifD (λ_=>?_) λz=>absurd c1 z;symm;refine a0I gF at0a ?_;symm;refine a9J (ha.sz (by omega)) ?_;symm;refine b4S gF hix ?_;obtain⟨ns',en,hl',hnd',hok'⟩:=setok _ _ (ha.from (p:=1) (by omega)) (by omega) ((ha.from (p:=1) (by omega)).nm (by omega) (by omega));exact⟨ns',hl',hok',hnd',s9.put hFG,by rw[a0d];exact congrArg _ (congrArg _ en),rfl⟩
    ·symm;refine a0I gx9 (a0P e9) ?_;symm;refine ifD (λz=>absurd z c1) λ_=>?_;symm;exact⟨hnn,hnd,s9,gF,rfl⟩
   ·rintro σ' G' ⟨ns',hl',hok',hnd',s10,gF',rfl⟩;symm;exact q F ns' G' hFG gF' (by rw[hl',hnl];omega) hok' hnd' s10
theorem a67:(10:Int) ^ (12:Int).toNat=1000000000000:=by decide
theorem b34 {ns:List Str}(h:∀ s∈ns,nmOk s) (h0:0<=k) (h1:k<(ns.length:Int)):∃ s,atI (ns.map Z.str) k=some (.str s)/\s∈ns/\nmOk s:=by
 obtain⟨j,rfl⟩:=ge h0;have a:j<ns.length:=by omega
 exact⟨ns[j],a1A (by simp_all),fS a,h _ (fS a)⟩
theorem at_3 {a b c:Int}{k:Int}(h0:0<=k) (h1:k<3) {P:Int->Prop}(pa:P a) (pb:P b) (pc:P c):∃ n,atI [Z.int a,.int b,.int c] k=some (.int n)/\P n:=by
 have:k=0\/k=1\/k=2:=by omega
 rcases this with rfl | rfl | rfl
 ·exact⟨_,rfl,pa⟩
 ·exact⟨_,rfl,pb⟩
 ·exact⟨_,rfl,pc⟩
theorem at_4 {a b c d:Int}{k:Int}(h0:0<=k) (h1:k<4) {P:Int->Prop}(pa:P a) (pb:P b) (pc:P c) (pd:P d):∃ n,atI [Z.int a,.int b,.int c,.int d] k=some (.int n)/\P n:=by
 have:k=0\/k=1\/k=2\/k=3:=by omega
 rcases this with rfl | rfl | rfl | rfl
 ·exact⟨_,rfl,pa⟩
 ·exact⟨_,rfl,pb⟩
 ·exact⟨_,rfl,pc⟩
 ·exact⟨_,rfl,pd⟩
def a7C:P3:=λws G R=>Ex6 λ(c w:Int) (ks wsA:Addr) (kn wn:List Str)=>ws=[.int c,.int w,.ref ks,.ref wsA]/\G ks=some (.lst (kn.map Z.str))/\G wsA=some (.lst (wn.map Z.str))/\1<=kn.length/\kn.length<=20/\1<=wn.length/\wn.length<=20/\(∀ s∈kn,nmOk s)/\(∀ s∈wn,nmOk s) /\
 ∀ τ G',Sm G G'->Tl.Ok τ->τ.key∈kn->R τ.z G'
theorem b0d (h:a7C ws G R):ws.length=4:=by obtain⟨_,_,_,_,_,_,rfl,_⟩:=h;rfl
theorem b1S (F:Fns K a) (T:Txt K mg a):FnOk P w K mg base CX0 3 a.f25 a.d25 ["cell","way","keys","worths"] (lowP K a7C):=by
 have G_parts:=b07 (P:=P) (w:=w) (base:=base) F T;refine fn3 F.n25 sc_telling (λws G R h=>(by exact b0d h)) (λcdv A outer s H E ws G R hr h=>?_);have hu:=a0Y hr;refine⟨_,(a0k (a0F (i:=4) sc_telling.nd rfl (fb rfl) (a0q G_parts (hr.mono (by decide)) rfl T.m23 F.n23.kp (b0P F) (a0b (a0c (pv 0)) (a0b (a0c (pv 1)) (a0b (a1p (a0b a0g (a0b (a0t b_len rfl T.b_len PySem.boot_len (a0b (a0c (pv 2)) a0f a0a) (he:=a0a) (hpl:=a0i)) (a0b (a0t b_len rfl T.b_len PySem.boot_len (a0b (a0c (pv 3)) a0f a0a) (he:=a0a) (hpl:=a0i)) (a0b a0g (a0b a0g (a0b a0g (a0b a0g (a0b (q_op a1i (q_op a6b a0g a0g) a0g) (a0b (q_op a6b a0g a0g) a0f a0A) a0A) a0e) a0e) a0e) a0e) a0C) a0C) a0e)) a0f a3Y) a0a) a0a) (he:=a0a) (hpl:=(a0j a0a (a0j a3Y a0i)))))
  (a0k (a0F (i:=5) sc_telling.nd rfl (fb rfl) (q_ix x_ix (a1p (a0b (q_ix x_ix (a0c (pv 4)) a0g (λ_ _=>rfl)) (a0b (q_op a6a (q_op a6b a0g a0g) (q_op a2k (q_ix x_ix (a0c (pv 4)) a0g (λ_ _=>rfl)) a0g)) (a0b (q_ix x_ix (a0c (pv 4)) a0g (λ_ _=>rfl)) a0f a0m) a0A) a0m)) (a0t (b_min rfl) rfl T.b_min rfl (a0b a0g (a0b (q_ix x_ix (a0c (pv 4)) a0g (λ_ _=>rfl)) a0f a0m) a0e) (he:=a0e) (hpl:=(a0j a0m a0i))) (λ_ _=>rfl)))
  (a0k (a0F (i:=6) sc_telling.nd rfl (fb rfl) a1y)
  (a8E (z_if (QW.qt (a5A (a0r o_gt (q_ix x_ix (a0c (pv 4)) a0g (λ_ _=>rfl)) a0g (a0p _)) (a3H (a0r o_lt (a0c (pv 5)) (q_op a6b a0g a0g) (a0p _)))))
  (a0n (a0F (i:=6) sc_telling.nd rfl (fb rfl) (a0t (b_min rfl) rfl T.b_min rfl (a0b (q_op a6b a0g a0g) (a0b (q_op a1i (q_op a1i (a0c (pv 5)) a0g) (q_ix x_ix (a1p (a0b (q_op a2k (q_ix x_ix (a0c (pv 4)) a0g (λ_ _=>rfl)) a0g) (a0b (q_ix x_ix (a0c (pv 4)) a0g (λ_ _=>rfl)) (a0b (q_ix x_ix (a0c (pv 4)) a0g (λ_ _=>rfl)) (a0b (q_ix x_ix (a0c (pv 4)) a0g (λ_ _=>rfl)) a0f a0m) a0m) a0m) a0A)) (q_op a6a (q_ix x_ix (a0c (pv 4)) a0g (λ_ _=>rfl)) a0g) (λ_ _=>rfl))) a0f a0A) a0A) (he:=a0A) (hpl:=(a0j a0A a0i)))))
  a1a)
  (a0k (z_if (a0r (o_eq hu) (q_ix x_ix (a0c (pv 4)) a0g (λ_ _=>rfl)) a0g (a0p _))
  (a0n (a0D (a1g (a0b a2b (a0b (q_ix x_ix (a0c (pv 2)) (q_ix x_ix (a0c (pv 4)) a0g (λ_ _=>rfl)) (λ_ _=>rfl)) (a0b (a0c (pv 5)) (a0b (a0c (pv 6)) a0f a0a) a0a) a0m) a0e))))
  a1a)
  (a0n (a0D (a1g (a0b a2b (a0b (q_ix x_ix (a0c (pv 2)) (q_ix x_ix (a0c (pv 4)) a0g (λ_ _=>rfl)) (λ_ _=>rfl)) (a0b (q_ix x_ix (a0c (pv 3)) (q_ix x_ix (a0c (pv 4)) a0g (λ_ _=>rfl)) (λ_ _=>rfl)) (a0b (a0c (pv 5)) (a0b (a0c (pv 6)) a0f a0a) a0a) a0m) a0m) a0e))))))))),?_⟩
 obtain⟨c,w,ks,wsA,kn,wn,rfl,hk,hw,kn1,kn2,wn1,wn2,hkn,hwn,q⟩:=h;symm;refine a2m hk ?_;symm;refine a2m hw ?_;symm;refine i_I ⟨by decide,by decide,by decide⟩ ?_;rw[a67];symm;refine i_I ⟨by decide,by decide,by decide⟩ ?_;rw[a67];symm;refine⟨lenK rfl,λa1 h1=>?_⟩;symm;rw[fc,fc];refine⟨c,w,a1,[4,(kn.length:Int),(wn.length:Int),24,5,40,8,1000000000000+1,1000000000000],rfl,a0d,by show 9<=20;decide,λb hb=>?_,λt xs ht hB=>?_⟩
 ·simp only[ft,gS,or_false]at hb;rcases hb with rfl | rfl | rfl | rfl | rfl | rfl | rfl | rfl | rfl<;>omega
 have s2:=(Sm.new (o:=.lst [.int 4,.int (kn.length:Int),.int (wn.length:Int),.int 24,.int 5,.int 40,.int 8,.int (1000000000000+1),.int 1000000000000]) h1).trans (Sm.new (o:=.lst (xs.map Z.int)) ht);have gx:put (put G a1 (.lst [.int 4,.int (kn.length:Int),.int (wn.length:Int),.int 24,.int 5,.int 40,.int 8,.int (1000000000000+1),.int 1000000000000])) t (.lst (xs.map Z.int)) t=some (.lst (xs.map Z.int)):=a0d;generalize put (put G a1 (.lst [.int 4,.int (kn.length:Int),.int (wn.length:Int),.int 24,.int 5,.int 40,.int 8,.int (1000000000000+1),.int 1000000000000])) t (.lst (xs.map Z.int))=G2 at s2 gx ⊢;obtain⟨x0,e0,x00,x01⟩:=hB.at (i:=0) rfl;obtain⟨x1,e1,x10,x11⟩:=hB.at (i:=1) rfl;obtain⟨x2,e2,x20,x21⟩:=hB.at (i:=2) rfl;obtain⟨x3,e3,x30,x31⟩:=hB.at (i:=3) rfl;obtain⟨x4,e4,x40,x41⟩:=hB.at (i:=4) rfl;obtain⟨x5,e5,x50,x51⟩:=hB.at (i:=5) rfl;obtain⟨x6,e6,x60,x61⟩:=hB.at (i:=6) rfl;obtain⟨x7,e7,x70,x71⟩:=hB.at (i:=7) rfl;obtain⟨x8,e8,x80,x81⟩:=hB.at (i:=8) rfl;symm;refine a0I gx (a0P e7) ?_;symm;refine i_I ⟨by decide,by decide,by decide⟩ ?_;rw[a67];symm;refine a0I gx (a0P e3) ?_;symm;refine i_I (show (0:Int)<3 by decide) ?_;symm;refine a0I gx (a0P e3) ?_;symm;refine⟨lenK rfl,λa3 h3=>?_⟩;symm;refine a0I (a0l gx h3) (a0P e6) ?_;symm;obtain⟨b,eb,b0,b1⟩:=at_3 (a:=x7) (b:=1000000000000 - x3 % 3) (c:=x3) (k:=if x6<2 then x6 else 2) (by split<;>omega) (by split<;>omega) (P:=λn=>0<=n/\n<=1000000000000) ⟨x70,by omega⟩ ⟨by omega,by omega⟩ ⟨x30,by omega⟩
 refine a0I a0d eb ?_;have s3:=s2.trans (Sm.new (o:=.lst [.int x7,.int (1000000000000 - x3 % 3),.int x3]) h3);have gx3:=a0l (o:=.lst [.int x7,.int (1000000000000 - x3 % 3),.int x3]) gx h3;generalize put G2 a3 (.lst [.int x7,.int (1000000000000 - x3 % 3),.int x3])=G3 at s3 gx3 ⊢;symm;refine a8I (fun σ' G'=>∃ e:Option Int,stOk b e/\Sm G3 G'/\σ'=[some (.int c),some (.int w),some (.ref ks),some (.ref wsA),some (.ref t),some (.int b),some (oz e)]) ?_ ?_
 ·symm;refine a0I gx3 (a0P e4) ?_;symm;refine ifD (λc1=>?_) λc1=>?_
  ·symm;refine i_I ⟨by decide,by decide,by decide⟩ ?_;rw[a67];symm;refine ifD (λc2=>?_) λc2=>?_
   ·symm;refine i_I ⟨by decide,by decide,by decide⟩ ?_;rw[a67];symm;refine a0I gx3 (a0P e5) ?_;symm;refine i_I (show (0:Int)<4 by decide) ?_;symm;refine a0I gx3 (a0P e5) ?_;symm;refine a0I gx3 (a0P e5) ?_;symm;refine a0I gx3 (a0P e8) ?_;symm;refine⟨lenK rfl,λa4 h4=>?_⟩;symm;refine a0I (a0l gx3 h4) (a0P e4) ?_;symm;obtain⟨n,en,n0⟩:=at_4 (a:=x5 % 4) (b:=x5) (c:=x5) (d:=x8) (k:=x4 - 1) (by omega) (by omega) (P:=λn=>0<=n) (fW _ (by decide)) x50 x50 x80;refine a0I a0d en ?_;symm;refine⟨some (if b+1+n<1000000000000 then b+1+n else 1000000000000),⟨b0,b1,λx hx=>?_⟩,Sm.new h4,rfl⟩;cases hx;unfold T12
    split<;>omega
   ·symm;exact⟨none,⟨b0,b1,λx hx=>nomatch hx⟩,Sm.refl _,rfl⟩
  ·symm;exact⟨none,⟨b0,b1,λx hx=>nomatch hx⟩,Sm.refl _,rfl⟩
 ·rintro σ' G' ⟨e,hst,s4,rfl⟩;have gx4:=s4 _ _ gx3;have S4:=s3.trans s4;obtain⟨kk,ekk,mkk,hkk⟩:=b34 hkn x10 x11;obtain⟨ww,eww,_,hww⟩:=b34 hwn x20 x21;symm;refine a0I gx4 (a0P e0) ?_;symm;refine ifD (λc1=>?_) λc1=>?_
  ·symm;refine a0I gx4 (a0P e1) ?_;symm;refine a0I (S4 _ _ hk) ekk ?_;symm;refine⟨lenK rfl,?_⟩;exact q ⟨kk,none,b,e⟩ G' S4 ⟨hkk,(λs h=>nomatch h),hst⟩ mkk
  ·symm;refine a0I gx4 (a0P e1) ?_;symm;refine a0I (S4 _ _ hk) ekk ?_;symm;refine a0I gx4 (a0P e2) ?_;symm;refine a0I (S4 _ _ hw) eww ?_;symm;refine⟨lenK rfl,?_⟩;exact q ⟨kk,some ww,b,e⟩ G' S4 ⟨hkk,(λs h=>by cases h;exact hww),hst⟩ mkk
def b1a:P3:=λws G R=>Ex5 λ(p:Addr) (T:List Tl) (k:Str) (m q:Int)=>ws=[.ref p,.str k,.int m,.int q]/\G p=some (.lst (T.map Tl.z))/\0<=q/\q<=T.length/\T.length<=900/\∀ G',Sm G G'->R (a1z (a1K (T.take q.toNat) k) m) G'
theorem b35 (h:b1a ws G R):ws.length=4:=by obtain⟨_,_,_,_,_,rfl,_⟩:=h;rfl
theorem b5y {α:Type}{l:List α}{n:Nat}:cutZ l none (some (n:Int))=l.take n:=by
 unfold cutZ
 have:=HT.sIx_nat l.length l.length n
 rw[this,HT.sIx_none];simp
theorem b0e:a1z (a1K (T++[τ]) k) m=if τ.key=k/\(decide (τ.b<=m)&&bef m τ.e)=true then τ.v else a1z (a1K T k) m:=by
 rw[a7w]
 by_cases c:τ.key=k
 ·rw[if_pos c,a6y]
  show (if (decide (τ.b<=m)&&bef m τ.e)=true then τ.v else _)=_
  simp only[c,true_and]
 ·simp_all
theorem b5z (F:Fns K a) (T:Txt K mg a):FnOk P w K mg base CX0 1 a.f26 a.d26 ["tellings","key","moment","knowing"] (lowP K b1a):=by
 refine fn3 F.n26 sc_worth (λws G R h=>(by exact b35 h)) (λcdv A outer s H E ws G R hr h=>?_);have hu:=a0Y hr;refine⟨_,(a0k (a0F (i:=4) sc_worth.nd rfl (fb rfl) a1y)
  (a0k (a3E (pt:=(.nm 5)) kH.never rfl (a0R (a09 x_sl (a0c (pv 0)) a05 (a1m (a0c (pv 3))))) (show QP _ _ (.nm 5) from (a0o (i:=5) sc_worth.nd rfl (fb rfl)))
  (a0n (z_if (QW.qt (a5A (a0r (o_eq hu) (q_ix x_ix (a0c (pv 5)) a0g (λ_ _=>rfl)) (a0c (pv 1)) (a0p _)) (a5A (a0r o_le (q_ix x_ix (a0c (pv 5)) (q_un a2M a0g) (λ_ _=>rfl)) (a0c (pv 2)) (a0p _)) (a3H (QW.qt (q_or (a0r o_is (q_ix x_ix (a0c (pv 5)) (q_un a2M a0g) (λ_ _=>rfl)) a1y (a0p _)) (a44 (a0r o_lt (a0c (pv 2)) (q_ix x_ix (a0c (pv 5)) (q_un a2M a0g) (λ_ _=>rfl)) (a0p _)))))))))
  (a0k (a0F (i:=4) sc_worth.nd rfl (fb rfl) a1y)
  (a0n (z_if (a0r (o_eq hu) (q_ix x_ix (a0c (pv 5)) a0g (λ_ _=>rfl)) a2b (a0p _))
  (a0n (a0F (i:=4) sc_worth.nd rfl (fb rfl) (q_ix x_ix (a0c (pv 5)) a0g (λ_ _=>rfl))))
  a1a)))
  a1a)))
  (a0n (a0D (a0c (pv 4)))))),?_⟩
 obtain⟨p,T,k,m,q,rfl,hp,h0,h1,hT,fin⟩:=h;obtain⟨q,rfl⟩:=ge h0;rw[show ((q:Int)).toNat=q by omega]at fin;symm;refine b9H hp λt ht=>?_;rw[b5y,<- jL];generalize T.take q=T' at fin ⊢;symm;refine a2l a0d ?_;refine a1n (λi σ G'=>∃ v:Option Z,σ=[some (.ref p),some (.str k),some (.int m),some (.int q),some (a1z (a1K (T'.take i) k) m),v]/\G'=put G t (.lst (T'.map Tl.z))) ⟨_,by simp;rfl,rfl⟩ (λi σ G' _ ⟨_,_,e⟩=>by rw[e];exact a0d) ?_ ?_
 ·rintro i x σ G' hx ⟨v,rfl,rfl⟩;rw[fm]at hx;cases hx':T'[i]? with
  | none=>rw[hx']at hx;cases hx
  | some τ=>
  rw[hx']at hx;cases hx;have ht1:T'.take (i+1)=T'.take i++[τ]:=by rw[gG,hx'];rfl
  rw[ht1,b0e];generalize a1z (a1K (T'.take i) k) m=f;obtain⟨key,w,b,e⟩:=τ;have no:∀ (o:Prop) [Decidable o],¬ o->(if o then Tl.v ⟨key,w,b,e⟩ else f)=f:=λo _ h=>if_neg h;refine⟨_,rfl,?_⟩;cases w with
  | none=>
   unfold Tl.z;symm;refine ifD (λc1=>?_) λc1=>?_
   ·symm;refine ifD (λc2=>?_) λc2=>?_
    ·cases e with
     | none=>
      symm;refine ifD (λz=>absurd z b7Y) λ_=>?_;symm;rw[if_pos ⟨c1,by simp[bef,c2]⟩];exact⟨_,rfl,rfl⟩
     | some e=>
      symm;refine ifD (λc3=>?_) λc3=>?_
      ·symm;refine ifD (λz=>absurd z b7Y) λ_=>?_;symm;rw[if_pos ⟨c1,by simp[bef,c2,c3]⟩];exact⟨_,rfl,rfl⟩
      ·symm;rw[if_neg (λz=>by have:=z.2;simp[bef,c2,c3]at this)];exact⟨_,rfl,rfl⟩
    ·symm;rw[if_neg (λz=>by have:=z.2;simp[c2]at this)];exact⟨_,rfl,rfl⟩
   ·symm;rw[if_neg (λz=>c1 z.1)];exact⟨_,rfl,rfl⟩
  | some w=>
   unfold Tl.z;symm;refine ifD (λc1=>?_) λc1=>?_
   ·symm;refine ifD (λc2=>?_) λc2=>?_
    ·cases e with
     | none=>
      symm;refine ifD (λ_=>?_) λz=>absurd rfl z;symm;rw[if_pos ⟨c1,by simp[bef,c2]⟩];exact⟨_,rfl,rfl⟩
     | some e=>
      symm;refine ifD (λc3=>?_) λc3=>?_
      ·symm;refine ifD (λ_=>?_) λz=>absurd rfl z;symm;rw[if_pos ⟨c1,by simp[bef,c2,c3]⟩];exact⟨_,rfl,rfl⟩
      ·symm;rw[if_neg (λz=>by have:=z.2;simp[bef,c2,c3]at this)];exact⟨_,rfl,rfl⟩
    ·symm;rw[if_neg (λz=>by have:=z.2;simp[c2]at this)];exact⟨_,rfl,rfl⟩
   ·symm;rw[if_neg (λz=>c1 z.1)];exact⟨_,rfl,rfl⟩
 ·rintro σ G' ⟨v,rfl,rfl⟩;symm;rw[fc,gR];exact fin _ (Sm.new ht)
noncomputable def b0f (kvs:List (Key×Z)) (ns:List Int):Prop:=kvs.map (·.1)=ns.map λi=>(Sum.inl (some i):Key)
theorem b5A (h:b0f kvs ns) (hd:ns.Nodup) (x:Int) (v:Z):∃ ms,b0f (putZ kvs (.inl (some x)) v) ms/\ms.Nodup/\ms.length<=ns.length+1/\∀ y,y∈ms↔y∈ns\/y=x:=by
 unfold putZ;have g:(kvs.any λc=>decide (c.1=Sum.inl (some x)))=decide (x∈ns):=by
  rw[g4];simp only[hZ,decide_eq_true_eq]
  constructor
  ·rintro⟨c,k,l⟩
   have:c.1∈ns.map λi=>(Sum.inl (some i)):=by rw[<- h];exact fP k
   obtain⟨n,j,f⟩:=fq.mp this;rw[l]at f;cases f;exact j
  ·intro d
   have:(Sum.inl (some x))∈kvs.map (·.1):=by rw[h];exact fP d
   obtain⟨c,j,f⟩:=fq.mp this;exact⟨c,j,f⟩
 rw[g]
 by_cases d:x∈ns
 ·rw[decide_eq_true d,if_pos rfl];refine⟨ns,?_,hd,by omega,λy=>⟨.inl,λh=>h.elim id λe=>e▸d⟩⟩;unfold b0f;rw[<- h,gJ];refine gZ λc _=>?_
  show (if c.1=Sum.inl (some x) then _ else c).1=c.1
  split<;>rfl
 ·rw[decide_eq_false d,if_neg (by simp)];refine⟨ns++[x],?_,?_,by simp,λy=>by simp⟩
  ·unfold b0f;rw[fv,h,fv];rfl
  ·rw[gY];exact⟨hd,by simp,λa m b o=>by rw[fi.mp o];rintro rfl;exact d m⟩
theorem b5B (h:b0f kvs ns):kvs.length=ns.length:=by
 have:=congrArg fN h
 simpa using this
theorem b5C {a b c d e:Z}:cutZ [a,b,c,d,e] (some (-2)) none=[d,e]:=rfl
theorem b1T {a b d e:Z}:cutZ [a,b,d,e] (some (-2)) none=[d,e]:=rfl
def inT (x:Int):Prop:=0<=x/\x<=T12
def a7D:P3:=λws G R=>∃ (p:Addr) (T:List Tl),ws=[.ref p]/\G p=some (.lst (T.map Tl.z))/\OkT T/\T.length<=100/\∀ (t:Addr) (ms:List Int) (G':Hq),G t=none->Sm G G'->G' t=some (.lst (ms.map Z.int))->ms≠[]->(∀ x∈ms,inT x)->ms.length<=1000->R (.ref t) G'
theorem b0g (h:a7D ws G R):ws.length=1:=by obtain⟨_,_,rfl,_⟩:=h;rfl
def Ks (kvs:List (Key×Z)) (n:Nat):Prop:=∃ ns:List Int,b0f kvs ns/\ns.Nodup/\ns.length<=n/\ns≠[]/\∀ x∈ns,inT x
theorem Ks.put (h:Ks kvs n) (hx:inT x):Ks (putZ kvs (.inl (some x)) v) (n+1):=by
 obtain⟨j,c,e,m,l,d⟩:=h;obtain⟨f,g,i,k,a⟩:=b5A c e x v;refine⟨f,g,i,by omega,λz=>?_,λy b=>?_⟩
 ·have:=(a x).mpr (.inr rfl)
  rw[z]at this;simp at this
 ·rcases (a y).mp b with h | h
  ·simp_all
  ·simp_all
theorem Ks.mono (h:Ks kvs n) (hm:n<=m):Ks kvs m:=let ⟨ns,h1,h2,h3,h4⟩:=h;⟨ns,h1,h2,fx h3 hm,h4⟩
theorem Ks.len (h:Ks kvs n):kvs.length<=n:=by
 obtain⟨c,a,_,b,_⟩:=h;rw[b5B a];exact b
theorem b5D:Ks (a8U [] [(.inl (some 0),.bl true),(.inl (some 1000000000000),.bl true)]) 2:=
 ⟨[0,1000000000000],by unfold b0f;decide,by decide,by decide,by decide,λx b=>by
  simp at b;rcases b with rfl | rfl<;>exact⟨by decide,by decide⟩⟩
theorem b1U (F:Fns K a) (T:Txt K mg a):FnOk P w K mg base CX0 1 a.f27 a.d27 ["tellings"] (lowP K a7D):=by
 refine fn3 F.n27 sc_moments (λws G R h=>(by exact b0g h)) (λcdv A outer s H E ws G R hr h=>?_);have hu:=a0Y hr;refine⟨_,(a0k (a0F (i:=1) sc_moments.nd rfl (fb rfl) (c0f (b0E a0g q_bl (b0E (q_op a6b a0g a0g) q_bl b7t))))
  (a0k (a3E (pt:=(.nm 2)) kH.never rfl (a0R (a0c (pv 0))) (show QP _ _ (.nm 2) from (a0o (i:=2) sc_moments.nd rfl (fb rfl)))
  (a0n (a3E (pt:=(.nm 3)) kH.never rfl (b5R (a09 x_sl (a0c (pv 2)) (a1m (q_un a2M a0g)) a05)) (show QP _ _ (.nm 3) from (a0o (i:=3) sc_moments.nd rfl (fb rfl)))
  (a0n (z_if (a0r a7W (a0c (pv 3)) a1y (a0p _))
  (a0n (a3E (pt:=(.nm 4)) kH.never rfl (a0R (a1p (a0b (q_op a6a (a0c (pv 3)) a0g) (a0b (a0c (pv 3)) a0f a0a) a0A))) (show QP _ _ (.nm 4) from (a0o (i:=4) sc_moments.nd rfl (fb rfl)))
  (a0n (z_if (a0r o_ge (a0c (pv 4)) a0g (a0p _))
  (a0n (a7k q_bl (a0c (pv 1)) (a0c (pv 4)) (b56 hu)))
  a1a))))
  a1a)))))
  (a0n (a0D (a0t (b_sorted rfl) rfl T.b_sorted rfl (a0b (a0c (pv 1)) a0f a0a) (he:=a0a) (hpl:=a0i)))))),?_⟩
 obtain⟨p,T,rfl,hp,hok,hT,q⟩:=h;symm;intro d hd;symm;refine i_I ⟨by decide,by decide,by decide⟩ ?_;rw[a67];symm;refine⟨a0d,_,rfl,by decide,?_⟩;rw[a2a];symm;have hdp:p≠d:=a0z hp hd;refine a2l (a0l hp hd) ?_;refine a1n (λi σ G'=>Ex4 λ(v1 v2 v3:Option Z) (kvs:List (Key×Z))=>Ks kvs (2+4*i)/\Sm G G'/\G' d=some (.dK kvs)/\σ=[some (.ref p),some (.ref d),v1,v2,v3]) ⟨_,_,_,_,b5D,Sm.new hd,a0d,rfl⟩ (λi σ G' _ ⟨_,_,_,_,_,s,_⟩=>s _ _ hp) ?_ ?_
 ·rintro i x σ G' hx ⟨v1,v2,v3,kvs,hk,s,gd,rfl⟩;rw[fm]at hx;cases hx':T[i]? with
  | none=>rw[hx']at hx;cases hx
  | some τ=>
  rw[hx']at hx;cases hx;have hi:=(fj.mp hx').1;have ok:=hok τ (fA hx');have hst:=ok.st;refine⟨_,rfl,?_⟩;obtain⟨key,w,b,e⟩:=τ;cases w with
  | none=>
   unfold Tl.z;symm;refine b1v (show ¬ (HT.sIx 4 0 (some (-2))=0/\HT.sIx 4 4 none=4) by decide) ?_;rw[b1T];symm;refine a1n (λj σ G2=>∃ (v2 v3:Option Z) (kvs:List (Key×Z)),Ks kvs (2+4*i+2*j)/\Sm G G2/\G2 d=some (.dK kvs)/\σ=[some (.ref p),some (.ref d),some (Z.tup [.str b00,.str key,.int b,oz e]),v2,v3]) ⟨_,_,kvs,hk,s,gd,rfl⟩ (λ_ _ _ _ _=>True.intro) ?_ ?_
   ·rintro j y σ G2 hy ⟨v2,v3,kvs,hk,s,gd,rfl⟩;have hyy:(∃ n,y=.int n/\inT n)\/y=.non:=by
     have:=fA hy
     simp only[ft,gS,or_false]at this;rcases this with rfl | rfl
     ·exact .inl ⟨b,rfl,hst.1,hst.2.1⟩
     ·cases e with
      | none=>exact .inr rfl
      | some x=>exact .inl ⟨x,rfl,by have h1:=hst.1;have h2:=hst.2.2 x rfl;simp only at h1 h2;exact⟨by omega,h2.2⟩⟩
    refine⟨_,rfl,?_⟩;rcases hyy with ⟨n,rfl,hn⟩ | rfl
    ·symm;refine⟨lenK rfl,λl hl=>?_⟩;symm;refine a2l a0d ?_;have ndl:d≠l:=a0z gd hl;have hjl:j<2:=by have:=(fj.mp hy).1;simpa using this
     refine a1n (λk σ G3=>∃ (v3:Option Z) (kvs:List (Key×Z)),Ks kvs (2+4*i+2*j+k)/\Sm G G3/\G3 d=some (.dK kvs)/\G3 l=some (.lst [.int (n - 1),.int n])/\σ=[some (.ref p),some (.ref d),some (Z.tup [.str b00,.str key,.int b,oz e]),some (.int n),v3]) ⟨_,kvs,hk,s.trans (Sm.new hl),a0l gd hl,a0d,rfl⟩ (λk σ G3 _ ⟨_,_,_,_,_,gl,_⟩=>gl) ?_ ?_
     ·rintro k z σ G3 hz ⟨v3,kvs,hk,s,gd,gl,rfl⟩;have hzz:∃ m,z=.int m/\(m=n - 1\/m=n):=by
       have:=fA hz
       simp only[ft,gS,or_false]at this;rcases this with rfl | rfl
       ·exact⟨_,rfl,.inl rfl⟩
       ·exact⟨_,rfl,.inr rfl⟩
      obtain⟨m,rfl,hm⟩:=hzz;have hkl:k<2:=by have:=(fj.mp hz).1;simpa using this
      refine⟨_,rfl,?_⟩;symm;refine ifD (λc=>?_) λc=>?_
      ·symm;refine b3b gd rfl (a0u (by have:=hk.len;omega)) ?_;exact⟨_,_,hk.put ⟨by omega,by have:=hn.2;omega⟩,s.put hd,a0d,by rw[a0E (Ne.symm ndl)];exact gl,rfl⟩
      ·symm;exact⟨_,kvs,hk.mono (by omega),s,gd,gl,rfl⟩
     ·rintro σ G3 ⟨v3,kvs,hk,s,gd,gl,rfl⟩;exact⟨_,_,kvs,hk.mono (by simp;omega),s,gd,rfl⟩
    ·symm;exact⟨_,_,kvs,hk.mono (by omega),s,gd,rfl⟩
   ·rintro σ G2 ⟨v2,v3,kvs,hk,s,gd,rfl⟩;exact⟨_,_,_,kvs,hk.mono (by simp;omega),s,gd,rfl⟩
  | some w=>
   unfold Tl.z;symm;refine b1v (show ¬ (HT.sIx 5 0 (some (-2))=0/\HT.sIx 5 5 none=5) by decide) ?_;rw[b5C];symm;refine a1n (λj σ G2=>∃ (v2 v3:Option Z) (kvs:List (Key×Z)),Ks kvs (2+4*i+2*j)/\Sm G G2/\G2 d=some (.dK kvs)/\σ=[some (.ref p),some (.ref d),some (Z.tup [.str sPut,.str key,.str w,.int b,oz e]),v2,v3]) ⟨_,_,kvs,hk,s,gd,rfl⟩ (λ_ _ _ _ _=>True.intro) ?_ ?_
   ·rintro j y σ G2 hy ⟨v2,v3,kvs,hk,s,gd,rfl⟩;have hyy:(∃ n,y=.int n/\inT n)\/y=.non:=by
     have:=fA hy
     simp only[ft,gS,or_false]at this;rcases this with rfl | rfl
     ·exact .inl ⟨b,rfl,hst.1,hst.2.1⟩
     ·cases e with
      | none=>exact .inr rfl
      | some x=>exact .inl ⟨x,rfl,by have h1:=hst.1;have h2:=hst.2.2 x rfl;simp only at h1 h2;exact⟨by omega,h2.2⟩⟩
    refine⟨_,rfl,?_⟩;rcases hyy with ⟨n,rfl,hn⟩ | rfl
    ·symm;refine⟨lenK rfl,λl hl=>?_⟩;symm;refine a2l a0d ?_;have ndl:d≠l:=a0z gd hl;have hjl:j<2:=by have:=(fj.mp hy).1;simpa using this
     refine a1n (λk σ G3=>∃ (v3:Option Z) (kvs:List (Key×Z)),Ks kvs (2+4*i+2*j+k)/\Sm G G3/\G3 d=some (.dK kvs)/\G3 l=some (.lst [.int (n - 1),.int n])/\σ=[some (.ref p),some (.ref d),some (Z.tup [.str sPut,.str key,.str w,.int b,oz e]),some (.int n),v3]) ⟨_,kvs,hk,s.trans (Sm.new hl),a0l gd hl,a0d,rfl⟩ (λk σ G3 _ ⟨_,_,_,_,_,gl,_⟩=>gl) ?_ ?_
     ·rintro k z σ G3 hz ⟨v3,kvs,hk,s,gd,gl,rfl⟩;have hzz:∃ m,z=.int m/\(m=n - 1\/m=n):=by
       have:=fA hz
       simp only[ft,gS,or_false]at this;rcases this with rfl | rfl
       ·exact⟨_,rfl,.inl rfl⟩
       ·exact⟨_,rfl,.inr rfl⟩
      obtain⟨m,rfl,hm⟩:=hzz;have hkl:k<2:=by have:=(fj.mp hz).1;simpa using this
      refine⟨_,rfl,?_⟩;symm;refine ifD (λc=>?_) λc=>?_
      ·symm;refine b3b gd rfl (a0u (by have:=hk.len;omega)) ?_;exact⟨_,_,hk.put ⟨by omega,by have:=hn.2;omega⟩,s.put hd,a0d,by rw[a0E (Ne.symm ndl)];exact gl,rfl⟩
      ·symm;exact⟨_,kvs,hk.mono (by omega),s,gd,gl,rfl⟩
     ·rintro σ G3 ⟨v3,kvs,hk,s,gd,gl,rfl⟩;exact⟨_,_,kvs,hk.mono (by simp;omega),s,gd,rfl⟩
    ·symm;exact⟨_,_,kvs,hk.mono (by omega),s,gd,rfl⟩
   ·rintro σ G2 ⟨v2,v3,kvs,hk,s,gd,rfl⟩;exact⟨_,_,_,kvs,hk.mono (by simp;omega),s,gd,rfl⟩
 ·rintro σ G' ⟨v1,v2,v3,kvs,hk,s,gd,rfl⟩;rw[fc]at hk;obtain⟨ns,k1,k2,k3,k4,k5⟩:=hk;symm;refine b3d gd k1 (by omega) λt ms ht hperm hpw=>?_;refine q t ms _ (s.free ht) (s.trans (Sm.new ht)) a0d (λz=>?_) (λx hx=>k5 x (hperm.mem_iff.mp hx)) (by rw[hperm.length_eq];omega)
  have:=hperm.length_eq
  rw[z]at this;exact k4 (iV.mp this.symm)
def leS (a b:Str):Prop:=PySem.Spec.ltCps b.cps.toList a.cps.toList=false
theorem b36 {a b:Str}:leS a b↔¬ b.cps.toList<a.cps.toList:=by unfold leS;rw[PyProof.Rows.ltCps_eq];simp
theorem b37 {a b c:Str}(h:leS a b) (g:leS b c):leS a c:=by
 rw[b36]at *;exact List.le_trans (α:=Nat) h g
theorem b5E {a b:Str}(h:leS a b) (g:leS b a):a=b:=by
 rw[b36]at *;have e:a.cps.toList=b.cps.toList:=jW (α:=Nat) h g;cases a;cases b;simpa using e
theorem c0Q:∀ {l:List Str}{p:Str},PyProof.Rows.risingS p l=true->(p::l).Pairwise leS
 | [],p,_=>iY _ _
 | x::r,p,h=>by
  unfold PyProof.Rows.risingS at h;rw[gr,Bool.not_eq_true']at h;have b:=c0Q h.2;refine fG.mpr ⟨λy a=>?_,b⟩;rcases ft.mp a with rfl | a
  ·exact h.1
  ·exact b37 h.1 (iH b a)
theorem b1V:∀ {l:List Str},PyProof.Rows.sortedS l=true->l.Pairwise leS
 | [],_=>gn.nil
 | _::_,h=>c0Q h
theorem a4Z:∀ {xs ys:List Str},xs.Pairwise leS->ys.Pairwise leS->xs.Perm ys->xs=ys
 | [],ys,_,_,h=>(List.nil_perm.mp h).symm
 | x::xs,[],_,_,h=>by have:=h.length_eq;simp at this
 | x::xs,y::ys,h1,h2,h=>by
  have e:x=y:=by
   have c:=h.mem_iff.mp (gi);have b:=h.mem_iff.mpr (gi);rcases ft.mp c with e | c
   ·omega
   ·rcases ft.mp b with e | b
    ·simp_all
    ·exact b5E (iH h1 b) (iH h2 c)
  subst e;rw[a4Z (fG.mp h1).2 (fG.mp h2).2 h.cons_inv]
theorem TsV.uniq (h:TsV T k es) (g:TsV T k fs):es=fs:=by
 have e:=h.ix.trans g.ix.symm;have l:es.length=fs.length:=by have:=congrArg fN e;simpa using this
 refine List.ext_getElem l λi c b=>?_;have a:es[i].1=fs[i].1:=by
  have:(es.map (·.1))[i]?=(fs.map (·.1))[i]?:=by rw[e]
  rw[fm,fm,fw c,fw b]at this;simpa using this
 have f:=h.ln es[i] (fS c);have d:=g.ln fs[i] (fS b);rw[<- a]at d;exact Prod.ext a (f.uniq d)
structure TilesIs (T:List Tl) (ss:List Str) (f:Str->List (Int×List Rw)):Prop where
 so:PyProof.Rows.sortedS ss=true
 nd:ss.Nodup
 is:∀ s,s∈ss↔ix T s≠[]
 tv:∀ s∈ss,TsV T s (f s)
def a12 (ss:List Str) (f:Str->List (Int×List Rw)):List Z:=ss.flatMap λs=>(TF (f s)).map (Ti.z s)
theorem TilesIs.uniq (h:TilesIs T ss f) (k:TilesIs T us g):a12 ss f=a12 us g:=by
 have e:=a4Z (b1V h.so) (b1V k.so) ((jc h.nd k.nd).mpr λs=>by rw[h.is,k.is]);subst e;refine congrArg List.flatten (gZ λs a=>?_);rw[(h.tv s a).uniq (k.tv s a)]
def a3S (a:Ad):P3:=λws G R=>∃ (p:Addr) (S:Addr->Prop) (T:List Tl),ws=[.ref p]/\Sheet a true G p S T/\OkT T/\Few T/\T.length<=63/\∀ t ss f G',G t=none->Sm G G'->TilesIs T ss f->(a12 ss f).all (flat 8)=true->G' t=some (.lst (a12 ss f))->R (.ref t) G'
theorem a6N {a:Ad}{ws:List Z}{G:Hq}{R:K3}(h:a3S a ws G R):ws.length=1:=by obtain⟨_,_,_,rfl,_⟩:=h;rfl
theorem a6O:a12 (ss++[s]) f=a12 ss f++(TF (f s)).map (Ti.z s):=by
 unfold a12;simp
theorem a7E:∀ {ss:List Str},(∀ s∈ss,(TF (f s)).length<=m)->(a12 ss f).length<=ss.length*m
 | [],_=>by simp[a12]
 | s::ss,h=>by
  have b:=a7E λu a=>h u (.tail _ a);have c:=h s (.head _);have e:a12 (s::ss) f=(TF (f s)).map (Ti.z s)++a12 ss f:=by unfold a12;rw[List.flatMap_cons]
  rw[e,fu,fc,fk,Nat.add_mul,Nat.one_mul];omega
theorem b78 {t:Ti}(hk:PyData.strOk k=true) (h:∃ w,t.r.w=[.str w]/\PyData.strOk w=true):flat 8 (t.z k)=true:=by
 obtain⟨w,e,a⟩:=h;unfold Ti.z;rw[e]
 show (([.str k,.str w,.int t.r.b,oz t.r.e,.int t.s,oz t.u]).all _)=true
 simp only[gH];rw[show flat 7 (.str k)=true from hk,show flat 7 (.str w)=true from a,a5V,a5V,a94,a94]
 rfl
theorem TsV.fl (h:TsV T k es) (ok:OkT T):∀ t∈TF es,∃ w,t.r.w=[.str w]/\PyData.strOk w=true:=by
 have l:∀ {b:List _},(∀ e∈b,∀ r∈e.2,∃ w,r.w=[.str w]/\PyData.strOk w=true)->∀ t∈TF b,∃ w,t.r.w=[.str w]/\PyData.strOk w=true:=by
  intro b
  induction b using a8k with
  | h0=>exact λ_ t a=>by simp[TF]at a
  | h1 b e ih=>
   intro h t a;rw[a5m]at a;rcases fg.mp a with a | a
   ·obtain⟨n,h0,rfl⟩:=fq.mp a;rw[b5s];exact ih (λx m=>h x (by simp[m])) n h0
   ·obtain⟨r,c,rfl⟩:=fq.mp a;exact h e (by simp) r (fX.mp c).1
 refine l λe f r c=>?_;obtain⟨w,i⟩:=a4L (h.ln e f) c;obtain⟨x,d,j⟩:=(h.ln e f).pl r c;rw[i]at d;cases d;exact⟨w,i,j⟩
noncomputable def esOf (T:List Tl) (s:Str):List (Int×List Rw):=open Classical in if h:∃ es,TsV T s es then h.choose else []
theorem b79 (h:TsV T s es):esOf T s=es:=by
 unfold esOf;rw[dif_pos ⟨es,h⟩];exact (Exists.choose_spec (⟨es,h⟩)).uniq h
theorem c2B (ok:OkT T) (h:ix T s≠[]):nmOk s:=by
 obtain⟨τ,b,a⟩:=b3X h;rw[<- a];exact (ok τ b).k
theorem a68 (F:Fns K a) (T:Txt K mg a):FnOk P w K mg base CX0 1 a.f46 a.d46 ["self"] (lowP K (a3S a)):=by
 refine fn3 F.n46 sc_Tiled_tiles (λws G R h=>(by exact a6N h)) (λcdv A outer s H E ws G R hr h=>?_);have hu:=a0Y hr;refine⟨_,(a0k (a0F (i:=1) sc_Tiled_tiles.nd rfl (fb rfl) (a1p a0f))
  (a0k (a3E (pt:=(.nm 2)) kH.never rfl (a0R (a0t (b3r rfl) rfl T.b_sorted rfl (a0b (a4w T.cl_Tiled T.naT_kept (a0c (pv 0))) a0f a1l) (he:=a1l) (hpl:=a0i))) (show QP _ _ (.nm 2) from (a0o (i:=2) sc_Tiled_tiles.nd rfl (fb rfl)))
  (a0n (a3E (pt:=(.tp [3,4,5,6,7,8])) kH.never rfl (a0R (q_ix c12 (a4w T.cl_Tiled T.naT_kept (a0c (pv 0))) (a0c (pv 2)) (λ_ _=>rfl))) (show QP _ _ (.tp [3,4,5,6,7,8]) from (a4l rfl (a0s (a0o (i:=3) sc_Tiled_tiles.nd rfl (fb rfl)) (a0s (a0o (i:=4) sc_Tiled_tiles.nd rfl (fb rfl)) (a0s (a0o (i:=5) sc_Tiled_tiles.nd rfl (fb rfl)) (a0s (a0o (i:=6) sc_Tiled_tiles.nd rfl (fb rfl)) (a0s (a0o (i:=7) sc_Tiled_tiles.nd rfl (fb rfl)) (a0s (a0o (i:=8) sc_Tiled_tiles.nd rfl (fb rfl)) a2H))))))))
  (a0n (a06 (q_bm PySem.F.plainAttrs_list PySem.F.slot_list_append PySem.F.type_list_append a1j (a0c (pv 1)) (a0b (a1g (a0b (a0c (pv 3)) (a0b (a0c (pv 4)) (a0b (a0c (pv 5)) (a0b (a0c (pv 6)) (a0b (a0c (pv 7)) (a0b (a0c (pv 8)) a0f a0a) a0a) a0a) a0a) a0a) a0a)) a0f a0G)))))))
  (a0n (a0D (a0c (pv 1)))))),?_⟩
 obtain⟨p,S,T',rfl,⟨dx,d,kvs,sh⟩,ok,few,hT,fin⟩:=h;symm;refine⟨lenK rfl,λW hW=>?_⟩;have gW:put G W (.lst []) W=some (.lst []):=a0d;have s0:Sm G (put G W (.lst [])):=Sm.new hW;generalize put G W (.lst [])=G1 at gW s0 ⊢;symm;refine⟨p,dx,_,_,rfl,s0 _ _ sh.ob,a3r,?_⟩;symm;obtain⟨ks,hk1,hk2⟩:=a6M sh.sk;have hnd:ks.Nodup:=by
  have:=sh.nd
  rw[hk1]at this;exact (gX.mp this).imp λh z=>h (by rw[z])
 have hkl:ks.length<=63:=by
  have:=congrArg fN hk1
  rw[fc,fc]at this
  have:=sh.len
  omega
 refine b1C (s0 _ _ sh.dc) hk1 (by omega) λK ts hK pm so=>?_;have gK:put G1 K (.lst (ts.map Z.str)) K=some (.lst (ts.map Z.str)):=a0d;have s1:Sm G1 (put G1 K (.lst (ts.map Z.str))):=Sm.new hK;have nWK:W≠K:=a0z gW hK;generalize put G1 K (.lst (ts.map Z.str))=G2 at gK s1 ⊢;have gW2:=s1 _ _ gW;have s02:=s0.trans s1;have tl:=pm.length_eq;have at_:∀ s∈ts,∃ h,valZ kvs (.inr s)=some (.ref h)/\G h=some (.lst ((TF (esOf T' s)).map (Ti.z s)))/\TsV T' s (esOf T' s):=λs hs=>by
  obtain⟨z,ez⟩:=b3Y hk1 (pm.mem_iff.mp hs);obtain⟨h,rfl,es,H⟩:=sh.hs s z ez;have tv:TsV T' s es:=⟨H.ix,H.ln⟩;rw[b79 tv];exact⟨h,ez,H.at_,tv⟩
 have ti:TilesIs T' ts (esOf T'):=⟨so,pm.nodup_iff.mpr hnd,λs=>⟨λhs=>?_,λhs=>?_⟩,λs hs=>let ⟨_,_,_,tv⟩:=at_ s hs;tv⟩
 rotate_left
 ·obtain⟨z,ez⟩:=b3Y hk1 (pm.mem_iff.mp hs);obtain⟨h,rfl,es,H⟩:=sh.hs s z ez;exact λe=>H.ne (ik.mp (H.ix.trans e))
 ·cases ez:valZ kvs (.inr s) with
  | none=>exact absurd (sh.no s ez) hs
  | some z=>exact pm.mem_iff.mpr (b3Z hk1 ez)
 have lenT:∀ i,(a12 (ts.take i) (esOf T')).length<=63*80000:=λi=>fx (a7E (m:=80000) λs hs=>(ti.tv s (gw hs)).len (by omega)) (Nat.mul_le_mul_right _ (by rw[fC];omega));symm;refine a2l gK ?_;refine a1n (λi σ G'=>Ex7 λ(v1 v2 v3 v4 v5 v6 v7:Option Z)=>Kq W G2 G'/\G' W=some (.lst (a12 (ts.take i) (esOf T')))/\σ=[some (.ref p),some (.ref W),v1,v2,v3,v4,v5,v6,v7]) ⟨_,_,_,_,_,_,_,λ_ _ e _=>e,gW2,rfl⟩ (by rintro i σ G' _ ⟨_,_,_,_,_,_,_,k,_⟩;exact k _ _ gK (Ne.symm nWK)) ?_ ?_
 ·rintro i x σ G3 hx ⟨v1,v2,v3,v4,v5,v6,v7,kq,gW3,rfl⟩;rw[fm]at hx;cases hx':ts[i]? with
  | none=>rw[hx']at hx;cases hx
  | some s=>
  rw[hx']at hx;cases hx;obtain⟨h,ez,gh,tv⟩:=at_ s (fA hx');have l1:=lenT (i+1);rw[take_snoc hx',a6O,fu,fc]at l1;have ne:∀ {b o},G b=some o->b≠W:=λe=>a0z e hW;refine⟨_,rfl,?_⟩;symm;refine⟨p,dx,_,_,rfl,kq _ _ (s02 _ _ sh.ob) (ne sh.ob),a3r,?_⟩;symm;refine c13 (kq _ _ (s02 _ _ sh.dc) (ne sh.dc)) rfl ez ?_;have gh3:=kq _ _ (s02 _ _ gh) (ne gh);symm;refine a2l gh3 ?_;refine a1n (λj σ G'=>Ex6 λ(v2 v3 v4 v5 v6 v7:Option Z)=>Kq W G3 G'/\G' W=some (.lst (a12 (ts.take i) (esOf T')++((TF (esOf T' s)).take j).map (Ti.z s)))/\σ=[some (.ref p),some (.ref W),some (.str s),v2,v3,v4,v5,v6,v7]) ⟨_,_,_,_,_,_,λ_ _ e _=>e,by simpa using gW3,rfl⟩ (by rintro j σ G' _ ⟨_,_,_,_,_,_,k,_⟩;exact k _ _ gh3 (ne gh)) ?_ ?_
  ·rintro j x σ G4 hx ⟨w2,w3,w4,w5,w6,w7,kq4,gW4,rfl⟩;rw[fm]at hx;cases hr:(TF (esOf T' s))[j]? with
   | none=>rw[hr]at hx;cases hx
   | some t=>
   rw[hr]at hx;cases hx;have hj:=(fj.mp hr).1;refine⟨_,rfl,?_⟩;symm;refine a3m gW4 ?_;symm;refine⟨lenK rfl,?_⟩;symm;refine a1k gW4 (by rw[fu,fc,fC];exact iw (by omega:_<=63*80000) (by decide)) ?_;refine⟨_,_,_,_,_,_,λb o e nb=>by rw[a0E nb];exact kq4 b o e nb,?_,rfl⟩;rw[a0d,take_snoc hr,fv,fI]
   rfl
  ·rintro σ G4 ⟨w2,w3,w4,w5,w6,w7,kq4,gW4,rfl⟩;rw[fc,gR]at gW4;symm;refine⟨_,_,_,_,_,_,_,λb o e nb=>kq4 b o (kq b o e nb) nb,?_,rfl⟩;rw[gW4,take_snoc hx',a6O]
 ·rintro σ G3 ⟨v1,v2,v3,v4,v5,v6,v7,kq,gW3,rfl⟩;rw[fc,gR]at gW3;symm;refine fin W ts (esOf T') G3 hW (λb o e=>kq _ _ (s02 _ _ e) (a0z e hW)) ti ?_ gW3;rw[gv];intro z hz;unfold a12 at hz;obtain⟨s,hs,hz⟩:=List.mem_flatMap.mp hz;obtain⟨t,ht,rfl⟩:=fq.mp hz;exact b78 (a5W (c2B ok ((ti.is s).mp hs)).2.2) ((ti.tv s hs).fl ok t ht)
noncomputable def a3T:P3:=λws G R=>∃ p:Addr,ws=[.ref p]/\R (.int 0) G
theorem a6P (h:a3T ws G R):ws.length=1:=by obtain⟨_,rfl,_⟩:=h;rfl
theorem a69 (F:Fns K a) (T:Txt K mg a):FnOk P w K mg base CX0 1 a.f47 a.d47 ["self"] (lowP K a3T):=by
 refine fn3 F.n47 a6V (λc G R h=>(by exact a6P h)) (λe A b s H E c G R d h=>?_)
 refine⟨_,(a0n (a0D a0g)),?_⟩;obtain⟨p,rfl,q⟩:=h;exact q
theorem a9t {a b:Str}(ha:PyData.strOk a=true) (hb:PyData.strOk b=true):PyData.strOk (a++b)=true:=by
 unfold PyData.strOk at *
 show (a.cps++b.cps).all _=true
 rw[Array.all_append,ha,hb];rfl
theorem a27 {a:Str}(ha:PyData.strOk a=true) (lo hi:Option Int):PyData.strOk (Txt.slice a lo hi)=true:=by
 unfold Txt.slice
 split
 ·exact ha
 ·unfold PyData.strOk at *;rw[j8]at *;intro c hc;obtain⟨j,_,hj⟩:=h9.mp (by simpa using hc);exact ha c (jM hj)
theorem b0h (a b:Str):(a++b).length=a.length+b.length:=Array.size_append
theorem b8a (hc:s.cps.toList=[c]) (hn:okC c=false):a15 (.str (x++s++y))=false:=by
 rw[a3C,a3D,a3D,hc,jt,jt,gH,hn];simp
noncomputable def badSigns:List Str:=["A","0"," ","-","_"]
theorem b38:∀ s∈badSigns,s.length=1/\PyData.strOk s=true/\∃ c,s.cps.toList=[c]/\okC c=false:=by
 intro s a;unfold badSigns at a;simp at a;rcases a with rfl | rfl | rfl | rfl | rfl
 ·exact⟨by decide +kernel,by decide +kernel,65,by decide +kernel,by decide +kernel⟩
 ·exact⟨by decide +kernel,by decide +kernel,48,by decide +kernel,by decide +kernel⟩
 ·exact⟨by decide +kernel,by decide +kernel,32,by decide +kernel,by decide +kernel⟩
 ·exact⟨by decide +kernel,by decide +kernel,45,by decide +kernel,by decide +kernel⟩
 ·exact⟨by decide +kernel,by decide +kernel,95,by decide +kernel,by decide +kernel⟩
theorem b8b {ns:List Str}{k:Int}(h0:0<=k) (h1:k<ns.length):∃ s,atI (ns.map Z.str) k=some (.str s)/\s∈ns:=by
 obtain⟨j,rfl⟩:=ge h0;have a:j<ns.length:=by omega
 exact⟨ns[j],a1A (by simp_all),fS a⟩
theorem b6s {zs:List Z}{k:Int}(h0:0<=k) (h1:k<zs.length):∃ z,atI zs k=some z/\z∈zs:=by
 obtain⟨j,rfl⟩:=ge h0;have hj:j<zs.length:=by omega
 exact⟨zs[j],a1A (fw hj),fS hj⟩
def a6Q:P3:=λws G R=>∃ (c:Int) (s:Str),ws=[.int c,.str s]/\nmOk s/\∀ z G',Sm G G'->(∀ G'',Th G'' z)->a15 z=false->R z G'
theorem a9u (h:a6Q ws G R):ws.length=2:=by obtain⟨_,_,rfl,_⟩:=h;rfl
theorem b0i (F:Fns K a) (T:Txt K mg a):FnOk P w K mg base CX0 2 a.f38 a.d38 ["cell","name"] (lowP K a6Q):=by
 have G_mix:=a7A (P:=P) (w:=w) (base:=base) F T;refine fn3 F.n38 sc_bad_name (λws G R h=>(by exact a9u h)) (λcdv A outer s H E ws G R hr h=>?_);have hu:=a0Y hr;refine⟨_,(a0k (a0F (i:=2) sc_bad_name.nd rfl (fb rfl) (q_op a2k (a0q G_mix (hr.mono (by decide)) rfl T.m22 F.n22.kp (a2p F) (a0b (a0c (pv 0)) (a0b a0g a0f a0e) a0a) (he:=a0a) (hpl:=(a0j a0e a0i))) (q_op a1i (a0t b_len rfl T.b_len PySem.boot_len (a0b (a0c (pv 1)) a0f a0a) (he:=a0a) (hpl:=a0i)) a0g)))
  (a0k (a0F (i:=3) sc_bad_name.nd rfl (fb rfl) (q_ix x_ix (a1p (a0b a2b (a0b a2b (a0b a2b (a0b a2b (a0b a2b a0f a0e) a0e) a0e) a0e) a0e)) (q_op a2k (a0q G_mix (hr.mono (by decide)) rfl T.m22 F.n22.kp (a2p F) (a0b (a0c (pv 0)) (a0b a0g a0f a0e) a0a) (he:=a0a) (hpl:=(a0j a0e a0i))) a0g) (λ_ _=>rfl)))
  (a0k (a0F (i:=4) sc_bad_name.nd rfl (fb rfl) a2b)
  (a0n (a0D (q_ix x_ix (a1p (a0b a2b (a0b (a0c (pv 4)) (a0b (q_op a1i (q_op a1i (a09 x_sl (a09 x_sl (a0c (pv 1)) a05 (a1m (a0c (pv 2)))) a05 (a1m a0g)) (a0c (pv 3))) (a09 x_sl (a09 x_sl (a0c (pv 1)) (a1m (a0c (pv 2))) a05) a05 (a1m (q_op a6a a0g (a0c (pv 2)))))) (a0b a1y (a0b a0g (a0b q_bl (a0b (a1g (a0b a2b a0f a0e)) a0f a0G) a0e) a0e) a0e) a0A) a0a) a0e)) (q_op a2k (a0q G_mix (hr.mono (by decide)) rfl T.m22 F.n22.kp (a2p F) (a0b (a0c (pv 0)) (a0b a0g a0f a0e) a0a) (he:=a0a) (hpl:=(a0j a0e a0i))) a0g) (λ_ _=>rfl))))))),?_⟩
 obtain⟨c,s,rfl,hs,q⟩:=h;have hsl:s.length<=8:=by rw[a4K];exact hs.2.1
 have hok:=a5W hs.2.2;symm;refine⟨c,20,rfl,by decide,by decide,λr r0 r1=>?_⟩;symm;refine a8K (a1P (by omega)) ?_;symm;refine i_I (show (0:Int)<(s.length:Int)+1 by omega) ?_;symm;generalize r % ((s.length:Int)+1)=at_;refine⟨lenK rfl,λu hu=>?_⟩;symm;refine⟨c,21,rfl,by decide,by decide,λr2 r20 r21=>?_⟩;symm;refine i_I (show (0:Int)<5 by decide) ?_;obtain⟨sg,a1,hsg⟩:=b8b (ns:=badSigns) (k:=r2 % 5) (by omega) (by show r2 % 5<5;omega);obtain⟨sl,so,ch,sc,sn⟩:=b38 sg hsg;refine a0I a0d a1 ?_;symm;refine a9J (a1P (by omega)) ?_;have l1:=PyProof.Txt.length_slice_le s none (some at_);have o1:=a27 hok none (some at_);generalize Txt.slice s none (some at_)=x1 at l1 o1 ⊢;symm;refine a9J (a1P (by omega)) ?_;have l2:=PyProof.Txt.length_slice_le x1 none (some 7);have o2:=a27 o1 none (some 7);generalize Txt.slice x1 none (some 7)=x2 at l2 o2 ⊢;symm;refine a8J (a1P (by omega)) ?_;symm;refine a9J (a1P (by omega)) ?_;have l3:=PyProof.Txt.length_slice_le s (some at_) none;have o3:=a27 hok (some at_) none;generalize Txt.slice s (some at_) none=x3 at l3 o3 ⊢;symm;refine a9J (a1P (by omega)) ?_;have l4:=PyProof.Txt.length_slice_le x3 none (some (7 - at_));have o4:=a27 o3 none (some (7 - at_));generalize Txt.slice x3 none (some (7 - at_))=x4 at l4 o4 ⊢;symm;refine a8J (a1P (by rw[b0h];omega)) ?_;symm;refine⟨lenK rfl,?_⟩;symm;refine⟨lenK rfl,λv hv=>?_⟩;symm;refine⟨c,22,rfl,by decide,by decide,λr3 r30 r31=>?_⟩;symm;refine i_I (show (0:Int)<7 by decide) ?_;obtain⟨z,a2,hz⟩:=b6s (zs:=[.str (Str.ofString ""),.str (Str.ofString "abcdefghi"),.str (x2++sg++x4),.non,.int 7,.bl true,.tup [.str (Str.ofString "a")]]) (k:=r3 % 7) (by omega) (by show r3 % 7<7;omega);refine a0I a0d a2 ?_;have ok:(∀ G'',Th G'' z)/\a15 z=false:=by
  simp only[ft,gS,or_false]at hz;rcases hz with rfl | rfl | rfl | rfl | rfl | rfl | rfl
  ·exact⟨λ_=>⟨by decide +kernel,by decide +kernel⟩,by decide +kernel⟩
  ·exact⟨λ_=>⟨by decide +kernel,by decide +kernel⟩,by decide +kernel⟩
  ·exact⟨λ_=>⟨by rw[b0h,b0h];omega,a9t (a9t o2 so) o4⟩,b8a sc sn⟩
  ·exact⟨λ_=>True.intro,rfl⟩
  ·exact⟨λ_=>True.intro,rfl⟩
  ·exact⟨λ_=>True.intro,rfl⟩
  ·exact⟨λ_=>True.intro,rfl⟩
 exact q z _ ((Sm.new hu).trans (Sm.new hv)) ok.1 ok.2
def a3U:P3:=λws G R=>∃ c b:Int,ws=[.int c,.int b]/\0<=b/\b<=T12/\∀ x y G',Sm G G'->(∀ G'',Th G'' x/\Th G'' y)->strB x y=false->R (.tup [x,y]) G'
theorem a6R (h:a3U ws G R):ws.length=2:=by obtain⟨_,_,rfl,_⟩:=h;rfl
def NoSt (z:Z):Prop:=∃ x y,z=.tup [x,y]/\(∀ G'',Th G'' x/\Th G'' y)/\strB x y=false
theorem b1b (h:i<0\/T12<i):momB (.int i)=false:=by
 unfold T12 at h;rw[a4d];rcases h with h | h
 ·grind
 ·simp_all
theorem a7F (hx:∀ G'',Th G'' x) (hy:∀ G'',Th G'' y) (h:momB x=false):NoSt (.tup [x,y]):=⟨x,y,rfl,λa=>⟨hx a,hy a⟩,by unfold strB;rw[h];rfl⟩
theorem a9v (h:j<0\/T12<j\/j<=i):NoSt (.tup [.int i,.int j]):=⟨_,_,rfl,λa=>⟨True.intro,True.intro⟩,by
 show (momB _&&(momB _&&decide _))=false
 rcases h with h | h | h
 ·rw[b1b (.inl h)];cases momB _<;>rfl
 ·rw[b1b (.inr h)];cases momB _<;>rfl
 ·rw[decide_eq_false (show ¬ i<j by omega),gL,gL]⟩
theorem b39 (hy:∀ G'',Th G'' y) (h:strB (.int i) y=false):NoSt (.tup [.int i,y]):=⟨_,_,rfl,λa=>⟨True.intro,hy a⟩,h⟩
theorem c2C (hf:1<=far) (hb0:0<=b):∀ z∈([.tup [.int (-1),.non],.tup [.int (0 - far),.int b],.tup [.int (1000000000000+far),.non],.tup [.int b,.int b],.tup [.int b,.int (b - 1)],.tup [.bl true,.non]]++[.tup [.int b,.int (1000000000000+far)],.tup [.int b,.bl true],.tup [.int b,.str (Str.ofString "a")],.tup [.non,.non],.tup [.str (Str.ofString "0"),.non],.tup [.int b,.int (-1)]]++[.tup [.int 0,.bl false],.tup [.int 1000000000000,.int (1000000000000+1)]]:List Z),NoSt z:=by
 intro z hz;have ts:∀ s:Str,okS s->∀ G'',Th G'' (.str s):=λs h _=>h;simp only[ij,g7,ft,gS,or_false]at hz;rcases hz with rfl | rfl | rfl | rfl | rfl | rfl | rfl | rfl | rfl | rfl | rfl | rfl | rfl | rfl
 ·exact a7F (λ_=>True.intro) (λ_=>True.intro) (by decide)
 ·exact a7F (λ_=>True.intro) (λ_=>True.intro) (b1b (.inl (by omega)))
 ·exact a7F (λ_=>True.intro) (λ_=>True.intro) (b1b (.inr (by unfold T12;omega)))
 ·exact a9v (.inr (.inr (by omega)))
 ·exact a9v (.inr (.inr (by omega)))
 ·exact a7F (λ_=>True.intro) (λ_=>True.intro) rfl
 ·exact a9v (.inr (.inl (by unfold T12;omega)))
 ·exact b39 (λ_=>True.intro) (by unfold strB;exact gL _)
 ·exact b39 (ts _ ⟨by decide +kernel,by decide +kernel⟩) (by unfold strB;exact gL _)
 ·exact a7F (λ_=>True.intro) (λ_=>True.intro) rfl
 ·exact a7F (ts _ ⟨by decide +kernel,by decide +kernel⟩) (λ_=>True.intro) rfl
 ·exact a9v (.inl (by decide))
 ·exact b39 (λ_=>True.intro) (by unfold strB;exact gL _)
 ·exact a9v (.inr (.inl (by decide)))
theorem a7a (F:Fns K a) (T:Txt K mg a):FnOk P w K mg base CX0 2 a.f39 a.d39 ["cell","begin"] (lowP K a3U):=by
 have G_mix:=a7A (P:=P) (w:=w) (base:=base) F T;refine fn3 F.n39 sc_bad_stretch (λws G R h=>(by exact a6R h)) (λcdv A outer s H E ws G R hr h=>?_);have hu:=a0Y hr;refine⟨_,(a0k (a0F (i:=2) sc_bad_stretch.nd rfl (fb rfl) (q_op a1i a0g (a0q G_mix (hr.mono (by decide)) rfl T.m22 F.n22.kp (a2p F) (a0b (a0c (pv 0)) (a0b a0g a0f a0e) a0a) (he:=a0a) (hpl:=(a0j a0e a0i)))))
  (a0k (a0F (i:=3) sc_bad_stretch.nd rfl (fb rfl) (a1p (a0b (a1g (a0b (q_un a2M a0g) (a0b a1y a0f a0e) a45)) (a0b (a1g (a0b (q_op a6a a0g (a0c (pv 2))) (a0b (a0c (pv 1)) a0f a0a) a0A)) (a0b (a1g (a0b (q_op a1i (q_op a6b a0g a0g) (a0c (pv 2))) (a0b a1y a0f a0e) a0A)) (a0b (a1g (a0b (a0c (pv 1)) (a0b (a0c (pv 1)) a0f a0a) a0a)) (a0b (a1g (a0b (a0c (pv 1)) (a0b (q_op a6a (a0c (pv 1)) a0g) a0f a0A) a0a)) (a0b (a1g (a0b q_bl (a0b a1y a0f a0e) a0e)) a0f a0G) a0G) a0G) a0G) a0G) a0G)))
  (a0k (a0F (i:=3) sc_bad_stretch.nd rfl (fb rfl) (q_op a1i (a0c (pv 3)) (a1p (a0b (a1g (a0b (a0c (pv 1)) (a0b (q_op a1i (q_op a6b a0g a0g) (a0c (pv 2))) a0f a0A) a0a)) (a0b (a1g (a0b (a0c (pv 1)) (a0b q_bl a0f a0e) a0a)) (a0b (a1g (a0b (a0c (pv 1)) (a0b a2b a0f a0e) a0a)) (a0b (a1g (a0b a1y (a0b a1y a0f a0e) a0e)) (a0b (a1g (a0b a2b (a0b a1y a0f a0e) a0e)) (a0b (a1g (a0b (a0c (pv 1)) (a0b (q_un a2M a0g) a0f a45) a0a)) a0f a0G) a0G) a0G) a0G) a0G) a0G))))
  (a0k (a0F (i:=3) sc_bad_stretch.nd rfl (fb rfl) (q_op a1i (a0c (pv 3)) (a1p (a0b (a1g (a0b a0g (a0b q_bl a0f a0e) a0e)) (a0b (a1g (a0b (q_op a6b a0g a0g) (a0b (q_op a1i (q_op a6b a0g a0g) a0g) a0f a0A) a0A)) a0f a0G) a0G))))
  (a0n (a0D (q_ix x_ix (a0c (pv 3)) (q_op a2k (a0q G_mix (hr.mono (by decide)) rfl T.m22 F.n22.kp (a2p F) (a0b (a0c (pv 0)) (a0b a0g a0f a0e) a0a) (he:=a0a) (hpl:=(a0j a0e a0i))) (a0t b_len rfl T.b_len PySem.boot_len (a0b (a0c (pv 3)) a0f a0a) (he:=a0a) (hpl:=a0i))) (λ_ _=>rfl)))))))),?_⟩
 obtain⟨c,b,rfl,b0,b1,q⟩:=h;symm;refine⟨c,23,rfl,by decide,by decide,λr r0 r1=>?_⟩;symm;have hf:1<=1+r:=by omega
 generalize 1+r=far at hf ⊢
 repeat (symm;first | refine⟨lenK rfl,?_⟩ | (refine i_I ⟨by decide,by decide,by decide⟩ ?_;rw[a67]))
 intro u hu
 repeat (symm;first | refine⟨lenK rfl,?_⟩ | (refine i_I ⟨by decide,by decide,by decide⟩ ?_;rw[a67]))
 intro v hv;symm;refine a7n (a0l a0d hv) a0d (lenK rfl) λw hw=>?_
 repeat (symm;first | refine⟨lenK rfl,?_⟩ | (refine i_I ⟨by decide,by decide,by decide⟩ ?_;rw[a67]))
 intro x hx;symm;refine a7n (a0l a0d hx) a0d (lenK rfl) λy hy=>?_;symm;refine⟨c,24,rfl,by decide,by decide,λr2 r20 r21=>?_⟩;symm;refine a2m a0d ?_;symm;refine i_I (show (0:Int)<14 by decide) ?_;obtain⟨z,a1,hz⟩:=b6s (zs:=([.tup [.int (-1),.non],.tup [.int (0 - far),.int b],.tup [.int (1000000000000+far),.non],.tup [.int b,.int b],.tup [.int b,.int (b - 1)],.tup [.bl true,.non]]++[.tup [.int b,.int (1000000000000+far)],.tup [.int b,.bl true],.tup [.int b,.str (Str.ofString "a")],.tup [.non,.non],.tup [.str (Str.ofString "0"),.non],.tup [.int b,.int (-1)]]++[.tup [.int 0,.bl false],.tup [.int 1000000000000,.int (1000000000000+1)]]:List Z)) (k:=r2 % 14) (by omega) (by show r2 % 14<14;omega);refine a0I a0d a1 ?_;obtain⟨zx,zy,rfl,h1,h2⟩:=c2C hf b0 z hz;exact q zx zy _ (((((Sm.new hu).trans (Sm.new hv)).trans (Sm.new hw)).trans (Sm.new hx)).trans (Sm.new hy)) h1 h2
def BadN (z:Z) (named:Bool):Prop:=Ex4 λ(h:Z) (nm:List Z) (x y:Z)=>(∀ G'',Tel G'' z h nm x y)/\nm.all a15=!named/\(named=false->strB x y=false)
def b6t:P3:=λws G R=>∃ (c:Int) (τ:Tl),ws=[.int c,τ.z]/\τ.Ok/\∀ z named G',Sm G G'->BadN z named->R (.tup [z,.bl named]) G'
theorem b8c (h:b6t ws G R):ws.length=2:=by obtain⟨_,_,rfl,_⟩:=h;rfl
theorem c0R (l:(∃ k,nm=[k])\/∃ k w,nm=[k,w]):cutZ (h::(nm++[x,y])) none (some (-2))=h::nm:=by
 rcases l with ⟨k,rfl⟩ | ⟨k,w,rfl⟩<;>rfl
theorem c2D (l:(∃ k,nm=[k])\/∃ k w,nm=[k,w]):atI (h::(nm++[x,y])) (-2)=some x:=by
 rcases l with ⟨k,rfl⟩ | ⟨k,w,rfl⟩<;>rfl
theorem b8d (h:j<n):ixN n (j:Int)=some j:=by simp_all[ixN]
theorem b6u (l:(∃ k,nm=[k])\/∃ k w,nm=[k,w]):1<=nm.length/\nm.length<=2:=by
 rcases l with ⟨k,rfl⟩ | ⟨k,w,rfl⟩<;>exact⟨by simp,by simp⟩
theorem c0S (F:Fns K a) (T:Txt K mg a):FnOk P w K mg base CX0 3 a.f40 a.d40 ["cell","telling"] (lowP K b6t):=by
 have G_mix:=a7A (P:=P) (w:=w) (base:=base) F T;have G_bad_name:=b0i (P:=P) (w:=w) (base:=base) F T;have G_bad_stretch:=a7a (P:=P) (w:=w) (base:=base) F T;refine fn3 F.n40 sc_bad (λws G R h=>(by exact b8c h)) (λcdv A outer s H E ws G R hr h=>?_);have hu:=a0Y hr;refine⟨_,(a0k (a0F (i:=2) sc_bad.nd rfl (fb rfl) (q_op a2k (a0q G_mix (hr.mono (by decide)) rfl T.m22 F.n22.kp (a2p F) (a0b (a0c (pv 0)) (a0b a0g a0f a0e) a0a) (he:=a0a) (hpl:=(a0j a0e a0i))) a0g))
  (a0k (a0F (i:=3) sc_bad.nd rfl (fb rfl) (a13 b_list rfl T.b_list rfl (a0b (a0c (pv 1)) a0f a0a) (he:=a0a) (hpl:=a0i)))
  (a8E (z_if (a0r o_lt (a0c (pv 2)) a0g (a0p _))
  (a0k (a0F (i:=4) sc_bad.nd rfl (fb rfl) (q_op a1i a0g (q_op a2k (a0q G_mix (hr.mono (by decide)) rfl T.m22 F.n22.kp (a2p F) (a0b (a0c (pv 0)) (a0b a0g a0f a0e) a0a) (he:=a0a) (hpl:=(a0j a0e a0i))) (q_op a6a (a0t b_len rfl T.b_len PySem.boot_len (a0b (a0c (pv 3)) a0f a0a) (he:=a0a) (hpl:=a0i)) a0g))))
  (a0n (a7k (a0q G_bad_name (hr.mono (by decide)) rfl T.m38 F.n38.kp (a92 F) (a0b (a0c (pv 0)) (a0b (q_ix x_ix (a0c (pv 3)) (a0c (pv 4)) (λ_ _=>rfl)) a0f a0m) a0a) (he:=a0a) (hpl:=(a0j a0m a0i))) (a0c (pv 3)) (a0c (pv 4)) b4N)))
  a1a)
  (a8E (z_if (a0r o_gt (a0c (pv 2)) a0g (a0p _))
  (a0n (a0F (i:=3) sc_bad.nd rfl (fb rfl) (q_op a1i (a09 x_sl (a0c (pv 3)) a05 (a1m (q_un a2M a0g))) (a13 b_list rfl T.b_list rfl (a0b (a0q G_bad_stretch (hr.mono (by decide)) rfl T.m39 F.n39.kp (a6Y F) (a0b (a0c (pv 0)) (a0b (q_ix x_ix (a0c (pv 3)) (q_un a2M a0g) (λ_ _=>rfl)) a0f a0m) a0a) (he:=a0a) (hpl:=(a0j a0m a0i))) a0f a0C) (he:=a0C) (hpl:=a0i)))))
  a1a)
  (a0n (a0D (a1g (a0b (a13 b_tuple rfl T.b_tuple rfl (a0b (a0c (pv 3)) a0f a0a) (he:=a0a) (hpl:=a0i)) (a0b (a4p o_lt (a0c (pv 2)) a0g (a0p _)) a0f a46) a0C)))))))),?_⟩
 obtain⟨c,τ,rfl,ok,q⟩:=h;obtain⟨th,nm,tel,ta,ts⟩:=ok.tel (G:=G);obtain⟨ez,hl,hn,hx,hy⟩:=tel;have b0:=ok.st.1;have b1:=ok.st.2.1;have hnm:∀ z∈nm,∃ s,z=.str s/\nmOk s:=λz hz=>by
  have:=gv.mp ta z hz
  have t:=hn z hz;cases z<;>first | (simp[a15]at this;done) | skip
  rename_i s
  refine⟨s,rfl,?_⟩;rw[a3C,gr,gr,decide_eq_true_eq,decide_eq_true_eq,gv]at this;rw[a4K]at this;refine⟨this.1.1,this.1.2,λc hc=>?_⟩
  have:=this.2 c hc
  unfold okC at this;rw[gr,decide_eq_true_eq,decide_eq_true_eq]at this;exact this
 obtain⟨n1,n2⟩:=b6u hl;generalize τ.z=tz at ez ⊢;subst ez;symm;refine⟨c,25,rfl,by decide,by decide,λr r0 r1=>?_⟩;symm;refine i_I (show (0:Int)<3 by decide) ?_;have hw:0<=r % 3/\r % 3<3:=by omega
 generalize r % 3=way at hw ⊢;symm;intro f hf;symm;refine a8I (fun σ' G'=>∃ (nm':List Z) (v:Option Z),((∃ k,nm'=[k])\/∃ k w,nm'=[k,w])/\(∀ G'',∀ z∈nm',Th G'' z)/\(nm'.all a15=!decide (way<2))/\Sm G G'/\G' f=some (.lst (th::(nm'++[.int τ.b,oz τ.e])))/\σ'=[some (.int c),some (.tup (th::(nm++[.int τ.b,oz τ.e]))),some (.int way),some (.ref f),v]) ?_ ?_
 ·symm;refine ifD (λc1=>?_) λc1=>?_
  ·symm;refine⟨c,26,rfl,by decide,by decide,λr2 r20 r21=>?_⟩;symm;refine a2m a0d ?_;symm;have el:((th::(nm++[.int τ.b,oz τ.e])).length:Int) - 3=nm.length:=by simp;omega
   rw[el];refine i_I (show (0:Int)<(nm.length:Int) by omega) ?_;symm;have hm:0<=r2 % (nm.length:Int)/\r2 % (nm.length:Int)<nm.length:=⟨fW _ (by omega),gg _ (by omega)⟩;generalize r2 % (nm.length:Int)=j' at hm ⊢;obtain⟨j,rfl⟩:=ge hm.1;have hj:j<nm.length:=by omega
   obtain⟨s,es,hs⟩:=hnm _ (fS hj);have ej:(th::(nm++[.int τ.b,oz τ.e]))[j+1]?=some (.str s):=by
    rw[List.getElem?_cons_succ,ir hj,fw hj,es]
   have e1:(1:Int)+(j:Int)=((j+1:Nat):Int):=by omega
   rw[e1];refine a0I a0d (a1A ej) ?_;symm;refine⟨c,s,rfl,hs,λz G1 s1 tz nz=>?_⟩;have gf:=s1 _ _ (a0d (a:=f) (G:=G) (o:=.lst (th::(nm++[.int τ.b,oz τ.e]))));symm;refine b4S gf (j:=j+1) (b8d (by simp;omega)) ?_;refine⟨nm.set j z,_,?_,?_,?_,((Sm.new hf).trans s1).put hf,?_,rfl⟩
   ·rcases hl with ⟨k,rfl⟩ | ⟨k,w,rfl⟩
    ·have:j=0:=by simp at hj;omega
     subst this;exact .inl ⟨_,rfl⟩
    ·have:j=0\/j=1:=by simp at hj;omega
     rcases this with rfl | rfl
     ·exact .inr ⟨_,_,rfl⟩
     ·exact .inr ⟨_,_,rfl⟩
   ·intro G'' u hu;rcases kf hu with hu | rfl
    ·obtain⟨s',rfl,hs'⟩:=hnm u hu;exact a5K hs'
    ·exact tz G''
   ·rw[decide_eq_true c1];exact a6I (List.mem_set hj z) nz
   ·rw[a0d,jT,List.set_append_left _ _ hj]
  ·symm;refine⟨nm,_,hl,λG'' u hu=>?_,?_,Sm.new hf,a0d,rfl⟩
   ·obtain⟨s',rfl,hs'⟩:=hnm u hu;exact a5K hs'
   ·rw[decide_eq_false c1];exact ta
 ·rintro σ' G1 ⟨nm',v,hl',hn',ha',s1,gf,rfl⟩;symm;refine a8I (fun σ' G'=>∃ (f':Addr) (x y:Z),(∀ G'',Th G'' x/\Th G'' y)/\(way > 0->strB x y=false)/\Sm G G'/\G' f'=some (.lst (th::(nm'++[x,y])))/\σ'=[some (.int c),some (.tup (th::(nm++[.int τ.b,oz τ.e]))),some (.int way),some (.ref f'),v]) ?_ ?_
  ·symm;refine ifD (λc2=>?_) λc2=>?_
   ·symm;refine b9H gf λu hu=>?_;rw[c0R hl'];symm;refine a0I (a0l gf hu) (c2D hl') ?_;symm;refine⟨c,τ.b,rfl,b0,b1,λx y G2 s2 hxy hst=>?_⟩;have gu:=s2 _ _ (a0d (a:=u) (G:=G1) (o:=.lst (th::nm')));symm;intro v' hv';symm;refine a7n (a0l gu hv') a0d (a1P (by obtain⟨_,l2⟩:=b6u hl';simp;omega)) λw hw'=>?_;symm;exact⟨w,x,y,hxy,λ_=>hst,(((s1.trans (Sm.new hu)).trans s2).trans (Sm.new hv')).trans (Sm.new hw'),by rw[a0d];rfl,rfl⟩
   ·symm;exact⟨f,.int τ.b,oz τ.e,λG''=>⟨True.intro,b74⟩,λz=>absurd z c2,s1,gf,rfl⟩
  ·rintro σ' G2 ⟨f',x,y,hxy,hst,s2,gf',rfl⟩;symm;refine⟨_,gf',?_⟩;symm;refine⟨lenK rfl,?_⟩;refine q _ (decide (way<2)) _ s2 ⟨th,nm',x,y,λG''=>⟨rfl,hl',hn' G'',(hxy G'').1,(hxy G'').2⟩,ha',λz=>hst ?_⟩
   have:=of_decide_eq_false z
   omega
def a7G (a:Ad):P3:=λws G R=>∃ b:Bool,Ex5 λ(p:Addr) (S:Addr->Prop) (T:List Tl) (z:Z) (named:Bool)=>ws=[.ref p,z,.bl named]/\Sheet a b G p S T/\BadN z named/\∀ G',Sm G G'->R (.bl true) G'
theorem b0j {a:Ad}{ws:List Z}{G:Hq}{R:K3}(h:a7G a ws G R):ws.length=3:=by obtain⟨_,_,_,_,_,_,rfl,_⟩:=h;rfl
theorem b1c {K:Fg}{C:Addr}:PySem.W.kitOne K (.ref C) (.ref C)=some true:=by
 unfold PySem.W.kitOne;rw[if_pos (by simp)]
theorem b1d (e1:G p=some (.lst [.bl x,.bl y,.bl z])) (e2:G q=some (.lst [.bl x,.bl y,.bl z])) (h:R (.bl (f true)) G):zEqN f (.ref p) (.ref q) G R:=by
 refine c18 (b3l e1 (a3y b1A (a3y b1A (a3y b1A b3m)))) (b3l e2 (a3y b1A (a3y b1A (a3y b1A b3m)))) rfl rfl ?_;rw[PySem.SeqAt.eqv_refl _ rfl];exact h
theorem b1W (F:Fns K a) (T:Txt K mg a):FnOk P w K mg base CX0 6 a.f44 a.d44 ["sheet","telling","named"] (lowP K (a7G a)):=by
 have G_Sheet_tell:=a4V (P:=P) (w:=w) (base:=base) F T;refine fn3 F.n44 sc_refused (λws G R h=>(by exact b0j h)) (λcdv A outer s H E ws G R hr h=>?_);have hu:=a0Y hr;obtain⟨b,h⟩:=h;refine⟨_,(a0k (a0F (i:=3) sc_refused.nd rfl (fb rfl) (a1p a0f))
  (a0k (a0F (i:=4) sc_refused.nd rfl (fb rfl) q_bl)
  (a0k (c0m (i:=5) (λC=>C=a.x_NoName\/C=a.x_NoStretch) rfl rfl rfl (a0c (pv 0)) (clK T b) (a3K T b) G_Sheet_tell (hr.mono (by decide)) (a4E F) (a0b (a0c (pv 1)) a0f a0a) rfl T.x_TimesError (λC hC=>(by rcases hC with rfl | rfl;exact T.xm_NoName_TimesError;exact T.xm_NoStretch_TimesError)) sc_refused.nd rfl rfl (λC ex oe hC hx1 hx2 hx3=>(a0k (a0F (i:=3) sc_refused.nd rfl (fb rfl) (a1p (a0b (a0t (b45 hx1 hx2 hx3 (by rcases hC with rfl | rfl;exact T.xk_NoName;exact T.xk_NoStretch)) rfl T.b_isinstance rfl (a0b (a0c (pv 5)) (a0b (a3I (a1M rfl T.x_NoName)) a0f a0a) a0a) (he:=a0a) (hpl:=(a0j a0a a0i))) (a0b (a0t (b45 hx1 hx2 hx3 (by rcases hC with rfl | rfl;exact T.xk_NoName;exact T.xk_NoStretch)) rfl T.b_isinstance rfl (a0b (a0c (pv 5)) (a0b (a3I (a1M rfl T.x_NoStretch)) a0f a0a) a0a) (he:=a0a) (hpl:=(a0j a0a a0i))) (a0b (a0t (b45 hx1 hx2 hx3 (by rcases hC with rfl | rfl;exact T.xk_NoName;exact T.xk_NoStretch)) rfl T.b_isinstance rfl (a0b (a0c (pv 5)) (a0b (q_ty (a50 (v:=.ty "ValueError") rfl T.b_ValueError rfl rfl)) a0f a0a) a0a) (he:=a0a) (hpl:=(a0j a0a a0i))) a0f a0C) a0C) a0C)))
  (a0n (a0F (i:=4) sc_refused.nd rfl (fb rfl) (a0t (b45 hx1 hx2 hx3 (by rcases hC with rfl | rfl;exact T.xk_NoName;exact T.xk_NoStretch)) rfl T.b_isinstance rfl (a0b (a0c (pv 5)) (a0b (a1g (a0b (a3I (a1M rfl T.x_Broken)) (a0b (a3I (a1M rfl T.x_Forgotten)) (a0b (a3I (a1M rfl T.x_NoFit)) (a0b (a3I (a1M rfl T.x_NoKnowing)) (a0b (a3I (a1M rfl T.x_NoLog)) (a0b (a3I (a1M rfl T.x_NoRow)) (a0b (a3I (a1M rfl T.x_NoSheet)) a0f a0a) a0a) a0a) a0a) a0a) a0a) a0a)) a0f a0G) a0a) (he:=a0a) (hpl:=(a0j a0G a0i))))))) (he:=a0a) (hpl:=a0i))
  (a0n (a0D (a58 (a4p (c17 hu) (a0c (pv 3)) (a1p (a0b (a0c (pv 2)) (a0b (b9c (a0c (pv 2))) (a0b q_bl a0f a0e) a45) a0a)) (a0p _)) (a9D (b9c (a0c (pv 4)))))))))),?_⟩
 obtain⟨p,S,T',z,named,rfl,sh,⟨h,nm,x,y,tel,ha,hs⟩,q⟩:=h;have sh':=sh;obtain⟨dx,d,kvs,sm⟩:=sh';symm;refine⟨lenK rfl,λk0 hk0=>?_⟩;symm;refine⟨p,dx,_,rfl,a0l sm.ob hk0,a1Q (by decide +kernel) (by decide +kernel),?_⟩;symm;have sh1:=sh.keep (Sm.ks (Sm.new (o:=.lst []) hk0));cases named with
 | true=>
  refine⟨b,p,S,T',sh1,.inr ⟨z,a.x_NoName,rfl,⟨h,nm,x,y,tel _,.inl ⟨ha,rfl⟩⟩,λG1 s1=>⟨.inl rfl,λe=>?_⟩⟩⟩;symm;refine⟨_,true,rfl,.inl ⟨_,rfl,b1c⟩,?_⟩;symm;refine⟨_,false,rfl,.inl ⟨_,rfl,T.kt_NoName_NoStretch⟩,?_⟩;symm;refine⟨_,true,rfl,.inr (.inl ⟨_,rfl,T.kt_NoName_ValueError⟩),?_⟩;symm;refine⟨lenK rfl,λk1 hk1=>?_⟩;symm;refine⟨lenK rfl,?_⟩;refine⟨_,false,rfl,.inr (.inr ⟨[a.x_Broken,a.x_Forgotten,a.x_NoFit,a.x_NoKnowing,a.x_NoLog,a.x_NoRow,a.x_NoSheet],rfl,T.ka_NoName_0⟩),?_⟩;symm;refine⟨lenK rfl,λk2 hk2=>?_⟩;symm;refine b1d (a0l a0d hk2) a0d ?_;symm;refine ifT ?_;symm;exact q _ (((Sm.new hk0).trans s1).trans ((Sm.new hk1).trans (Sm.new hk2)))
 | false=>
  refine⟨b,p,S,T',sh1,.inr ⟨z,a.x_NoStretch,rfl,⟨h,nm,x,y,tel _,.inr ⟨ha,hs rfl,rfl⟩⟩,λG1 s1=>⟨.inr rfl,λe=>?_⟩⟩⟩;symm;refine⟨_,false,rfl,.inl ⟨_,rfl,T.kt_NoStretch_NoName⟩,?_⟩;symm;refine⟨_,true,rfl,.inl ⟨_,rfl,b1c⟩,?_⟩;symm;refine⟨_,true,rfl,.inr (.inl ⟨_,rfl,T.kt_NoStretch_ValueError⟩),?_⟩;symm;refine⟨lenK rfl,λk1 hk1=>?_⟩;symm;refine⟨lenK rfl,?_⟩;refine⟨_,false,rfl,.inr (.inr ⟨[a.x_Broken,a.x_Forgotten,a.x_NoFit,a.x_NoKnowing,a.x_NoLog,a.x_NoRow,a.x_NoSheet],rfl,T.ka_NoStretch_1⟩),?_⟩;symm;refine⟨lenK rfl,λk2 hk2=>?_⟩;symm;refine b1d (a0l a0d hk2) a0d ?_;symm;refine ifT ?_;symm;exact q _ (((Sm.new hk0).trans s1).trans ((Sm.new hk1).trans (Sm.new hk2)))
local macro_rules | `(tactic| walk_at "go1")=>`(tactic| first | refine i_I (show (0:Int)<_ by decide) ?_ | refine a0I (by assumption) (by with_unfolding_all rfl) ?_ | (refine i_I ⟨by decide,by decide,by decide⟩ ?_;rw[a67]))
def b1e:P3:=λws G R=>∃ (p:Addr) (L:List Rw) (m:Int),ws=[.ref p,.int m]/\G p=some (.lst (L.map Rw.z))/\One L/\R (wz (val L m)) G
theorem b4a (h:b1e ws G R):ws.length=2:=by obtain⟨_,_,_,rfl,_⟩:=h;rfl
theorem b5F (F:Fns K a) (T:Txt K mg a):FnOk P w K mg base CX0 1 a.f28 a.d28 ["line","moment"] (lowP K b1e):=by
 refine fn3 F.n28 sc_shown (λB G R h=>(by exact b4a h)) (λI A y s H E B G R D h=>?_);have J:=a0Y D;refine⟨_,(a0k (a3E kH.never rfl (a0R (a0c (pv 0))) (show QP _ _ (.tp [2,3,4]) from (a4l rfl (a0s (a0o sc_shown.nd rfl (fb rfl)) (a0s (a0o sc_shown.nd rfl (fb rfl)) (a0s (a0o sc_shown.nd rfl (fb rfl)) a2H)))))
  (a0n (z_if (QW.qt (a5A (a0r o_le (a0c (pv 2)) (a0c (pv 1)) (a0p _)) (a3H (QW.qt (q_or (a0r o_is (a0c (pv 3)) a1y (a0p _)) (a44 (a0r o_lt (a0c (pv 1)) (a0c (pv 3)) (a0p _))))))))
  (a0n (a0D (a0c (pv 4))))
  a1a)))
  (a0n (a0D a1y))),?_⟩
 obtain⟨p,L,m,rfl,v,t,q⟩:=h;symm;refine a2l v ?_;refine a1n (λi σ f=>∃ g l k:Option Z,f=G/\val L m=val (L.drop i) m/\σ=[some (.ref p),some (.int m),g,l,k]) ⟨_,_,_,rfl,rfl,rfl⟩ (by rintro i σ f _ ⟨_,_,_,rfl,_⟩;exact v) ?_ ?_
 ·rintro i x σ f d ⟨g,l,k,rfl,c,rfl⟩;rw[fm]at d;cases hx':L[i]? with
  | none=>rw[hx']at d;cases d
  | some r=>
  rw[hx']at d;cases d;obtain⟨x,n⟩:=t r (fA hx');have C:r.z=.tup [.int r.b,oz r.e,x]:=by unfold Rw.z;rw[n]
  rw[drop_get hx',a0L]at c;rw[C];refine⟨_,rfl,?_⟩;symm;have u:r.has m=(decide (r.b<=m)&&bef m r.e):=rfl;refine ifD (λj=>?_) λj=>?_
  ·rw[u,decide_eq_true j,fZ]at c;cases he:r.e with
   | none=>
    rw[he]at c;symm
    have:val L m=some [x]:=by rw[c,<- n];rfl
    rw[this]at q;exact q
   | some e=>
    rw[he]at c;symm;refine ifD (λo=>?_) λo=>?_
    ·symm
     have:val L m=some [x]:=by rw[c,<- n];exact if_pos (decide_eq_true o)
     rw[this]at q;exact q
    ·symm;exact⟨_,_,_,rfl,by rw[c];exact if_neg (by rw[show bef m (some e)=decide (m<e) from rfl,decide_eq_true_eq];exact o),rfl⟩
  ·rw[u,decide_eq_false j,jo,if_neg (by decide)]at c;symm;exact⟨_,_,_,rfl,c,rfl⟩
 ·rintro σ f ⟨g,l,k,rfl,c,rfl⟩;rw[fc,List.drop_length,a21]at c;symm;rw[c]at q;exact q
def Has (kvs:List (Key×Z)) (x:Option Int):Prop:=∃ v,valZ kvs (.inl x)=some v
theorem Has.put (h:Has kvs x):Has (putZ kvs (.inl y) v) x:=by
 unfold Has;rw[a2r]
 split
 ·exact⟨_,rfl⟩
 ·exact h
theorem Has.new:Has (putZ kvs (.inl x) v) x:=⟨v,by rw[a2r,if_pos rfl]⟩
def a7H:P3:=λws G R=>∃ (p:Addr) (L:List Rw),ws=[.ref p]/\G p=some (.lst (L.map Rw.z))/\Can L/\(∀ r∈L,∃ w,r.w=[.str w])/\L.length<=900/\R (.bl true) G
theorem b0k (h:a7H ws G R):ws.length=1:=by obtain⟨_,_,rfl,_⟩:=h;rfl
theorem b1X (F:Fns K a) (T:Txt K mg a):FnOk P w K mg base CX0 1 a.f29 a.d29 ["line"] (lowP K a7H):=by
 refine fn3 F.n29 sc_is_line (λws G R h=>(by exact b0k h)) (λcdv A outer s H E ws G R hr h=>?_);have hu:=a0Y hr;refine⟨_,(a0k (a3E (pt:=(.nm 1)) kH.never rfl (b1t rfl T.b_range (a0b a0g (a0b (a0t b_len rfl T.b_len PySem.boot_len (a0b (a0c (pv 0)) a0f a0a) (he:=a0a) (hpl:=a0i)) a0f a0C) a0e)) (show QP _ _ (.nm 1) from (a0o (i:=1) sc_is_line.nd rfl (fb rfl)))
  (a0k (z_if (QW.qt (q_or (a0r o_is (q_ix x_ix (q_ix x_ix (a0c (pv 0)) (q_op a6a (a0c (pv 1)) a0g) (λ_ _=>rfl)) a0g (λ_ _=>rfl)) a1y (a0p _)) (a44 (a0r o_lt (q_ix x_ix (q_ix x_ix (a0c (pv 0)) (a0c (pv 1)) (λ_ _=>rfl)) a0g (λ_ _=>rfl)) (q_ix x_ix (q_ix x_ix (a0c (pv 0)) (q_op a6a (a0c (pv 1)) a0g) (λ_ _=>rfl)) a0g (λ_ _=>rfl)) (a0p _)))))
  (a0n (a0D q_bl))
  a1a)
  (a0n (z_if (QW.qt (a5A (a0r (o_eq hu) (q_ix x_ix (q_ix x_ix (a0c (pv 0)) (a0c (pv 1)) (λ_ _=>rfl)) a0g (λ_ _=>rfl)) (q_ix x_ix (q_ix x_ix (a0c (pv 0)) (q_op a6a (a0c (pv 1)) a0g) (λ_ _=>rfl)) a0g (λ_ _=>rfl)) (a0p _)) (a3H (a0r (o_eq hu) (q_ix x_ix (q_ix x_ix (a0c (pv 0)) (a0c (pv 1)) (λ_ _=>rfl)) a0g (λ_ _=>rfl)) (q_ix x_ix (q_ix x_ix (a0c (pv 0)) (q_op a6a (a0c (pv 1)) a0g) (λ_ _=>rfl)) a0g (λ_ _=>rfl)) (a0p _)))))
  (a0n (a0D q_bl))
  a1a))))
  (a0n (a0D (a0t b4P rfl T.b_isinstance rfl (a0b (a0c (pv 0)) (a0b (q_ty (a50 (v:=.ty "list") rfl T.b_list rfl rfl)) a0f a0a) a0a) (he:=a0a) (hpl:=(a0j a0a a0i)))))),?_⟩
 obtain⟨p,L,rfl,gp,can,hw,hl,q⟩:=h;symm;refine a2m gp ?_;symm;rw[fc];refine⟨1,_,rfl,⟨by decide,by decide,by omega,by omega⟩,?_⟩;refine a1n (λi σ G'=>∃ v:Option Z,G'=G/\σ=[some (.ref p),v]) ⟨_,rfl,rfl⟩ (λ_ _ _ _ _=>True.intro) ?_ ?_
 ·rintro i u σ G' hu ⟨v,rfl,rfl⟩;obtain⟨hi,rfl⟩:=a47 hu;have hi:i+1<L.length:=by omega
  have hs:L[i]?=some L[i]:=fw (by omega);have hr:L[i+1]?=some L[i+1]:=fw hi;have ms:L[i]∈L:=fS _;have mr:L[i+1]∈L:=fS _;have l2:Lt2 L[i] L[i+1]:=ig.mp can.2 i (i+1) (by omega) hi (by omega);generalize L[i]=s at hs ms l2;generalize L[i+1]=r at hr mr l2;obtain⟨x,l2,l3,l4⟩:=l2;obtain⟨w,hrw⟩:=hw r mr;obtain⟨w',hsw⟩:=hw s ms;have ar:atI (L.map Rw.z) (1+(i:Int))=some (.tup [.int r.b,oz r.e,.str w]):=by
   rw[show 1+(i:Int)=((i+1:Nat):Int) by omega,a6A hr];unfold Rw.z;rw[hrw]
  have as':atI (L.map Rw.z) (1+(i:Int) - 1)=some (.tup [.int s.b,.int x,.str w']):=by
   rw[show 1+(i:Int) - 1=(i:Int) by omega,a6A hs];unfold Rw.z;rw[hsw,l2]
  refine⟨_,rfl,?_⟩;symm;refine a0I gp as' ?_;symm;refine a0I gp ar ?_;symm;refine a0I gp as' ?_;symm;refine ifD (λz=>absurd z (by omega)) λ_=>?_;symm;refine a0I gp ar ?_;symm;refine a0I gp as' ?_;symm;refine ifD (λce=>?_) λ_=>?_
  rotate_left
  ·symm;exact⟨_,rfl,rfl⟩
  symm;refine a0I gp ar ?_;symm;refine a0I gp as' ?_;symm;refine ifD (λcw=>absurd (by rw[hsw,hrw,cw]) (l4 ce.symm)) λ_=>?_;symm;exact⟨_,rfl,rfl⟩
 ·rintro σ G' ⟨v,rfl,rfl⟩;symm;refine c1N (n:="list") (b:=true) (by simp[tyN,gp]) (by decide +kernel) ?_;exact q
theorem b4b (ok:OkT T) (h:NE T s):nmOk s:=by
 obtain⟨L,a,d⟩:=h
 by_cases c:∃ τ∈T,τ.key=s
 ·obtain⟨τ,f,e⟩:=c;rw[<- e];exact (ok τ f).k
 ·have:a1K T s=[]:=by
   unfold a1K;rw[ik,jr];intro τ b;simpa using λz=>c ⟨τ,b,z⟩
  exact absurd (a.uniq (IsLine.nil this)) d
theorem b8e (h:KeysAt T ts) (g:KeysAt T us):ts=us:=a4Z (b1V h.so) (b1V g.so) ((jc h.nd g.nd).mpr λs=>by rw[h.is,g.is])
theorem a9w {ts:List Str}(h:∀ s∈ts,nmOk s):(ts.map Z.str).all (flat 8)=true:=by
 rw[List.all_map,gv];exact λs a=>b3L (h s a)
theorem a3t {a:Ad}{b:Bool}{G:Hq}{p:Addr}{S:Addr->Prop}{T:List Tl}(h:Sheet a b G p S T):∃ dx n d,G p=some (.ins (a.cK b) dx (shF n d)):=let ⟨_,_,_,m⟩:=h;⟨_,_,_,m.ob⟩
def b6v (a:Ad):P3:=λws G R=>∃ b:Bool,Ex5 λ(p:Addr) (S:Addr->Prop) (T:List Tl) (k:Str) (q:Int)=>ws=[.ref p,.str k,.int q]/\Sheet a b G p S T/\OkT T/\Few T/\T.length<=63/\nmOk k/\inR T q/\∀ G',Sm G G'->R (.bl true) G'
theorem b8f {a:Ad}{ws:List Z}{G:Hq}{R:K3}(h:b6v a ws G R):ws.length=3:=by obtain⟨_,_,_,_,_,_,rfl,_⟩:=h;rfl
theorem c0T (F:Fns K a) (T:Txt K mg a):FnOk P w K mg base CX0 5 a.f35 a.d35 ["sheet","key","knowing"] (lowP K (b6v a)):=by
 have G_Sheet_line_at:=a3e (P:=P) (w:=w) (base:=base) F T;have G_Sheet_keys_at:=a10 (P:=P) (w:=w) (base:=base) F T;refine fn3 F.n35 sc_own (λws G R h=>(by exact b8f h)) (λcdv A outer s H E ws G R hr h=>?_);have hu:=a0Y hr;obtain⟨b,h⟩:=h;refine⟨_,(a0k (a0F (i:=3) sc_own.nd rfl (fb rfl) (a13 b_list rfl T.b_list rfl (a0b (a1h a0S up0 (a0c (pv 0)) (clK T b) (a0T T b) G_Sheet_line_at (hr.mono (by decide)) (a0Z F) (a0b (a0c (pv 1)) (a0b (a0c (pv 2)) a0f a0a) a0a) (hst:=a0a) (hpl:=(a0j a0a a0i))) a0f a0C) (he:=a0C) (hpl:=a0i)))
  (a0k (a0F (i:=4) sc_own.nd rfl (fb rfl) (a13 b_list rfl T.b_list rfl (a0b (a1h a0S up0 (a0c (pv 0)) (clK T b) (a0U T b) G_Sheet_keys_at (hr.mono (by decide)) (a00 F) (a0b (a0c (pv 2)) a0f a0a) (hst:=a0a) (hpl:=a0i)) a0f a0C) (he:=a0C) (hpl:=a0i)))
  (a0k (a06 (q_bm PySem.F.plainAttrs_list PySem.F.slot_list_append PySem.F.type_list_append a1j (a1h a0S up0 (a0c (pv 0)) (clK T b) (a0T T b) G_Sheet_line_at (hr.mono (by decide)) (a0Z F) (a0b (a0c (pv 1)) (a0b (a0c (pv 2)) a0f a0a) a0a) (hst:=a0a) (hpl:=(a0j a0a a0i))) (a0b (a1g (a0b (q_op a6b a0g a0g) (a0b a1y (a0b (a0c (pv 1)) a0f a0a) a0e) a0A)) a0f a0G)))
  (a0k (a06 (q_bm PySem.F.plainAttrs_list PySem.F.slot_list_append PySem.F.type_list_append a1j (a1h a0S up0 (a0c (pv 0)) (clK T b) (a0U T b) G_Sheet_keys_at (hr.mono (by decide)) (a00 F) (a0b (a0c (pv 2)) a0f a0a) (hst:=a0a) (hpl:=a0i)) (a0b a2b a0f a0e)))
  (a0n (a0D (a58 (a4p (o_eq hu) (a1h a0S up0 (a0c (pv 0)) (clK T b) (a0T T b) G_Sheet_line_at (hr.mono (by decide)) (a0Z F) (a0b (a0c (pv 1)) (a0b (a0c (pv 2)) a0f a0a) a0a) (hst:=a0a) (hpl:=(a0j a0a a0i))) (a0c (pv 3)) (a0p _)) (a9D (a4p (o_eq hu) (a1h a0S up0 (a0c (pv 0)) (clK T b) (a0U T b) G_Sheet_keys_at (hr.mono (by decide)) (a00 F) (a0b (a0c (pv 2)) a0f a0a) (hst:=a0a) (hpl:=a0i)) (a0c (pv 4)) (a0p _)))))))))),?_⟩
 obtain⟨p,S,T',k,q,rfl,sh,ok,few,hT,hk,inq,fin⟩:=h;have okq:OkT (T'.take q.toNat):=fun τ h=>ok τ (gw h);obtain⟨dx1,n1,d1,ob1⟩:=a3t sh;symm;refine⟨p,dx1,_,rfl,ob1,a1Q (by decide +kernel) (by decide +kernel),?_⟩;symm;refine⟨b,p,S,T',.str k,q,rfl,sh,(λ_=>a5K hk),few.1,.inl ⟨inq,k,rfl,hk,λl L G1 hl1 s1 gl il=>?_⟩⟩;symm;refine a9K gl λl2 hl2=>?_;have g2:put G1 l2 (.lst (L.map Rw.z)) l2=some (.lst (L.map Rw.z)):=a0d;have s2:Sm G (put G1 l2 (.lst (L.map Rw.z))):=s1.trans (Sm.new hl2);generalize put G1 l2 (.lst (L.map Rw.z))=G2 at g2 s2 ⊢;clear s1 gl hl1 hl2;have sh2:=sh.keep (Sm.ks s2);obtain⟨dx2,n2,d2,ob2⟩:=a3t sh2;symm;refine⟨p,dx2,_,rfl,ob2,a1Q (by decide +kernel) (by decide +kernel),?_⟩;symm;refine⟨b,p,S,T',q,rfl,sh2,few,.inl ⟨inq,λf ts G3 hf s3 gf ka tl3=>?_⟩⟩;symm;refine a9K gf λf2 hf2=>?_;have g3:put G3 f2 (.lst (ts.map Z.str)) f2=some (.lst (ts.map Z.str)):=a0d;have s4:Sm G2 (put G3 f2 (.lst (ts.map Z.str))):=s3.trans (Sm.new hf2);generalize put G3 f2 (.lst (ts.map Z.str))=G4 at g3 s4 ⊢;have g2:=s4 _ _ g2;have s04:=s2.trans s4;clear s2 s3 s4 gf hf hf2;have sh4:=sh.keep (Sm.ks s04);obtain⟨dx4,n4,d4,ob4⟩:=a3t sh4;symm;refine⟨p,dx4,_,rfl,ob4,a1Q (by decide +kernel) (by decide +kernel),?_⟩;symm;refine⟨b,p,S,T',.str k,q,rfl,sh4,(λ_=>a5K hk),few.1,.inl ⟨inq,k,rfl,hk,λl3 L3 G5 hl3 s5 gl3 il3=>?_⟩⟩;have hL3:=il3.len;rw[fC]at hL3;symm;refine a3m gl3 ?_;symm;refine⟨lenK rfl,?_⟩;symm;refine a1k gl3 (by rw[fc];exact a0u (by omega)) ?_;have s6:Sm G4 (put G5 l3 (.lst (L3.map Rw.z++[.tup [.int 1000000000000,.non,.str k]]))):=s5.put hl3;generalize put G5 l3 (.lst (L3.map Rw.z++[.tup [.int 1000000000000,.non,.str k]]))=G6 at s6 ⊢;clear s5 gl3 hl3;have sh6:=sh4.keep (Sm.ks s6);obtain⟨dx6,n6,d6,ob6⟩:=a3t sh6;symm;refine⟨p,dx6,_,rfl,ob6,a1Q (by decide +kernel) (by decide +kernel),?_⟩;symm;refine⟨b,p,S,T',q,rfl,sh6,few,.inl ⟨inq,λf3 ts3 G7 hf3 s7 gf3 ka3 tl3'=>?_⟩⟩;symm;refine a3m gf3 ?_;symm;refine a1k gf3 (by rw[fc];exact a0u (by omega)) ?_;have s8:Sm G4 (put G7 f3 (.lst (ts3.map Z.str++[.str (Str.ofString "z")]))):=s6.trans (s7.put hf3);generalize put G7 f3 (.lst (ts3.map Z.str++[.str (Str.ofString "z")]))=G8 at s8 ⊢;clear s6 s7 gf3 hf3;have sh8:=sh4.keep (Sm.ks s8);obtain⟨dx8,n8,d8,ob8⟩:=a3t sh8;symm;refine⟨p,dx8,_,rfl,ob8,a1Q (by decide +kernel) (by decide +kernel),?_⟩;symm;refine⟨b,p,S,T',.str k,q,rfl,sh8,(λ_=>a5K hk),few.1,.inl ⟨inq,k,rfl,hk,λl4 L4 G9 hl4 s9 gl4 il4=>?_⟩⟩;have s49:=s8.trans s9;symm;refine a9I gl4 (s49 _ _ g2) (a4I il4.pl.okR) (a4I il.pl.okR) ?_;rw[il4.uniq il,decide_eq_true rfl];refine⟨true,rfl,ifT ?_⟩;have sh9:=sh4.keep (Sm.ks s49);obtain⟨dx9,n9,d9,ob9⟩:=a3t sh9;symm;refine⟨p,dx9,_,rfl,ob9,a1Q (by decide +kernel) (by decide +kernel),?_⟩;symm;refine⟨b,p,S,T',q,rfl,sh9,few,.inl ⟨inq,λf5 ts5 G10 hf5 s10 gf5 ka5 tl5=>?_⟩⟩;have s410:=s49.trans s10;have e:=b8e ka5 ka;subst e;have fl:=a9w λs hs=>b4b okq ((ka.is s).mp hs);symm;refine a9I gf5 (s410 _ _ g3) fl fl ?_;rw[decide_eq_true rfl];exact fin G10 (s04.trans s410)
theorem b5G (hk:∀ τ∈T,τ.key∈kn) (nd:kn.Nodup) (hp:sk.Perm kn) (hs:PyProof.Rows.sortedS sk=true) (ka:KeysAt T ts):ts=sk.filter λk=>decide (k∈ts):=by
 have a:=hp.nodup_iff.mpr nd;refine a4Z (b1V ka.so) ((b1V hs).sublist jd) ((jc ka.nd (a.sublist jd)).mpr λs=>?_);rw[fX,decide_eq_true_eq];refine⟨λh=>⟨hp.mem_iff.mpr ?_,h⟩,λh=>h.2⟩;obtain⟨L,e,f⟩:=(ka.is s).mp h
 by_cases c:∃ τ∈T,τ.key=s
 ·obtain⟨τ,b,d⟩:=c;rw[<- d];exact hk τ b
 ·have:a1K T s=[]:=by
   unfold a1K;rw[ik,jr];intro τ g;simpa using λz=>c ⟨τ,g,z⟩
  exact absurd (e.uniq (IsLine.nil this)) f
theorem Kq.ks (k:Kq r G G') (n:¬ S r):KS S G G':=λb o a e=>k b o e λz=>n (z▸a)
theorem Kq.sm (k:Kq r G G1) (s:Sm G1 G2):Kq r G G2:=λb o e nb=>s b o (k b o e nb)
theorem c0U {xs:List Int}{k:Int}(h0:0<=k) (h1:k<xs.length):∃ x,atI (xs.map Z.int) k=some (.int x)/\x∈xs:=by
 obtain⟨j,rfl⟩:=ge h0;exact⟨xs[j],a1A (by simp),fS _⟩
structure He where
 k:Str
 m:Int
 q:Int
 due:Z
 a:Addr
 b:Addr
 L:List Rw
noncomputable def He.z (e:He):Z:=.tup [.str e.k,.int e.m,.int e.q,e.due,.ref e.a,.ref e.b]
structure HOk (T:List Tl) (G:Hq) (N:Addr->Prop) (e:He):Prop where
 k:nmOk e.k
 m:inT e.m
 q:inR T e.q
 due:e.due=a1z (a1K (T.take e.q.toNat) e.k) e.m
 a:G e.a=some (.lst (e.L.map Rw.z))
 b:G e.b=some (.lst (e.L.map Rw.z))
 f:(e.L.map Rw.z).all (flat 8)=true
 na:¬ N e.a
 nb:¬ N e.b
theorem HOk.keep (h:HOk T G N e) (k:∀ x o,G x=some o->¬ N x->G' x=some o/\¬ N' x):HOk T G' N' e:=
 ⟨h.k,h.m,h.q,h.due,(k _ _ h.a h.na).1,(k _ _ h.b h.nb).1,h.f,(k _ _ h.a h.na).2,(k _ _ h.b h.nb).2⟩
theorem HOk.more (h:HOk T G N e):HOk (T++[τ]) G N e:=by
 have c:=h.q;unfold inR at c;refine⟨h.k,h.m,?_,?_,h.a,h.b,h.f,h.na,h.nb⟩
 ·unfold inR;rw[fu]
  show 0<=e.q/\e.q<=((T.length+1))
  omega
 ·rw[h.due,iF (by omega)]
structure AIn (a:Ad) (b:Bool) (G:Hq) (p:Addr) (S:Addr->Prop) (T:List Tl) (tl ks hl:Addr) (kn:List Str) (hs:List He):Prop where
 sh:Sheet a b G p S T
 ok:OkT T
 len:T.length<=63
 gt:G tl=some (.lst (T.map Tl.z))
 gk:G ks=some (.lst (kn.map Z.str))
 k1:1<=kn.length
 k2:kn.length<=20
 hk:∀ s∈kn,nmOk s
 nd:kn.Nodup
 km:∀ τ∈T,τ.key∈kn
 gh:G hl=some (.lst (hs.map He.z))
 hh:hs.length<=500
 nh:¬ S hl
 nt:tl≠hl
 nk:ks≠hl
def b1f (a:Ad):P3:=λws G R=>∃ b:Bool,Ex9 λ(p:Addr) (S:Addr->Prop) (T:List Tl) (tl ks hl:Addr) (kn:List Str) (c:Int) (hs:List He)=>ws=[.ref p,.ref tl,.ref ks,.int c,.ref hl]/\AIn a b G p S T tl ks hl kn hs /\
 ∀ e G',Kq hl G G'->HOk T G' (λx=>S x\/x=tl\/x=hl) e->G' hl=some (.lst ((hs++[e]).map He.z))->R (.bl true) G'
theorem b4c {a:Ad}{ws:List Z}{G:Hq}{R:K3}(h:b1f a ws G R):ws.length=5:=by obtain⟨_,_,_,_,_,_,_,_,_,_,rfl,_⟩:=h;rfl
theorem b5H (F:Fns K a) (T:Txt K mg a):FnOk P w K mg base CX0 6 a.f37 a.d37 ["sheet","tellings","keys","cell","held"] (lowP K (b1f a)):=by
 have G_moments:=b1U (P:=P) (w:=w) (base:=base) F T;have G_worth:=b5z (P:=P) (w:=w) (base:=base) F T;have G_Sheet_line_at:=a3e (P:=P) (w:=w) (base:=base) F T;have G_mix:=a7A (P:=P) (w:=w) (base:=base) F T;have G_Sheet_keys_at:=a10 (P:=P) (w:=w) (base:=base) F T;have G_own:=c0T (P:=P) (w:=w) (base:=base) F T;have G_Sheet_worth_at:=a2G (P:=P) (w:=w) (base:=base) F T;have G_shown:=b5F (P:=P) (w:=w) (base:=base) F T;have G_is_line:=b1X (P:=P) (w:=w) (base:=base) F T;refine fn3 F.n37 sc_asked (λws G R h=>(by exact b4c h)) (λcdv A outer s H E ws G R hr h=>?_);have hu:=a0Y hr;obtain⟨b,h⟩:=h;refine⟨_,(a0k (a0F (i:=5) sc_asked.nd rfl (fb rfl) (a0q G_moments (hr.mono (by decide)) rfl T.m27 F.n27.kp (b1K F) (a0b (a0c (pv 1)) a0f a0a) (he:=a0a) (hpl:=a0i)))
  (a0k (a0F (i:=6) sc_asked.nd rfl (fb rfl) (q_ix x_ix (a0c (pv 2)) (q_op a2k (a0q G_mix (hr.mono (by decide)) rfl T.m22 F.n22.kp (a2p F) (a0b (a0c (pv 3)) (a0b a0g a0f a0e) a0a) (he:=a0a) (hpl:=(a0j a0e a0i))) (a0t b_len rfl T.b_len PySem.boot_len (a0b (a0c (pv 2)) a0f a0a) (he:=a0a) (hpl:=a0i))) (λ_ _=>rfl)))
  (a0k (a0F (i:=7) sc_asked.nd rfl (fb rfl) (q_ix x_ix (a0c (pv 5)) (q_op a2k (a0q G_mix (hr.mono (by decide)) rfl T.m22 F.n22.kp (a2p F) (a0b (a0c (pv 3)) (a0b a0g a0f a0e) a0a) (he:=a0a) (hpl:=(a0j a0e a0i))) (a0t b_len rfl T.b_len PySem.boot_len (a0b (a0c (pv 5)) a0f a0a) (he:=a0a) (hpl:=a0i))) (λ_ _=>rfl)))
  (a0k (a0F (i:=8) sc_asked.nd rfl (gA rfl) (q_op a2k (a0q G_mix (hr.mono (by decide)) rfl T.m22 F.n22.kp (a2p F) (a0b (a0c (pv 3)) (a0b a0g a0f a0e) a0a) (he:=a0a) (hpl:=(a0j a0e a0i))) (q_op a1i (a0t b_len rfl T.b_len PySem.boot_len (a0b (a0c (pv 1)) a0f a0a) (he:=a0a) (hpl:=a0i)) a0g)))
  (a0k (a0F (i:=9) sc_asked.nd rfl (fb rfl) (a0q G_worth (hr.mono (by decide)) rfl T.m26 F.n26.kp (b5e F) (a0b (a0c (pv 1)) (a0b (a0c (pv 6)) (a0b (a0c (pv 7)) (a0b (a0c (pv 8)) a0f a0a) a0a) a0a) a0a) (he:=a0a) (hpl:=(a0j a0a (a0j a0a (a0j a0a a0i))))))
  (a0k (z_if (QW.qt (q_or (a29 (a3l (a0q G_own (hr.mono (by decide)) rfl T.m35 F.n35.kp (b6e F) (a0b (a0c (pv 0)) (a0b (a0c (pv 6)) (a0b (a0c (pv 8)) a0f a0a) a0a) a0a) (he:=a0a) (hpl:=(a0j a0a (a0j a0a a0i)))))) (a44 (a29 (a3l (a0q G_own (hr.mono (by decide)) rfl T.m35 F.n35.kp (b6e F) (a0b (a0c (pv 0)) (a0b (a0c (pv 6)) (a0b (a0t b_len rfl T.b_len PySem.boot_len (a0b (a0c (pv 1)) a0f a0a) (he:=a0a) (hpl:=a0i)) a0f a0C) a0a) a0a) (he:=a0a) (hpl:=(a0j a0a (a0j a0C a0i)))))))))
  (a0n (a0D q_bl))
  a1a)
  (a0k (a0F (i:=10) sc_asked.nd rfl (fb rfl) (a1h a0S up0 (a0c (pv 0)) (clK T b) (a0T T b) G_Sheet_line_at (hr.mono (by decide)) (a0Z F) (a0b (a0c (pv 6)) (a0b (a0c (pv 8)) a0f a0a) a0a) (hst:=a0a) (hpl:=(a0j a0a a0i))))
  (a0k (a06 (q_bm PySem.F.plainAttrs_list PySem.F.slot_list_append PySem.F.type_list_append a1j (a0c (pv 4)) (a0b (a1g (a0b (a0c (pv 6)) (a0b (a0c (pv 7)) (a0b (a0c (pv 8)) (a0b (a0c (pv 9)) (a0b (a0c (pv 10)) (a0b (a13 b_list rfl T.b_list rfl (a0b (a0c (pv 10)) a0f a0a) (he:=a0a) (hpl:=a0i)) a0f a0C) a0a) a0a) a0a) a0a) a0a)) a0f a0G)))
  (a0k (z_if (QW.qt (q_or (a0r (o_ne hu) (a1h a0S up0 (a0c (pv 0)) (clK T b) (a2q T b) G_Sheet_worth_at (hr.mono (by decide)) (a2A F) (a0b (a0c (pv 6)) (a0b (a0c (pv 7)) (a0b (a0c (pv 8)) a0f a0a) a0a) a0a) (hst:=a0a) (hpl:=(a0j a0a (a0j a0a a0i)))) (a0c (pv 9)) (a0p _)) (q_or (a0r (o_ne hu) (a0q G_shown (hr.mono (by decide)) rfl T.m28 F.n28.kp (b5f F) (a0b (a0c (pv 10)) (a0b (a0c (pv 7)) a0f a0a) a0a) (he:=a0a) (hpl:=(a0j a0a a0i))) (a0c (pv 9)) (a0p _)) (a44 (a29 (a3l (a0q G_is_line (hr.mono (by decide)) rfl T.m29 F.n29.kp (b1L F) (a0b (a0c (pv 10)) a0f a0a) (he:=a0a) (hpl:=a0i))))))))
  (a0n (a0D q_bl))
  a1a)
  (a0n (a0D (a4p (o_eq hu) (a1h a0S up0 (a0c (pv 0)) (clK T b) (a0U T b) G_Sheet_keys_at (hr.mono (by decide)) (a00 F) (a0b (a0c (pv 8)) a0f a0a) (hst:=a0a) (hpl:=a0i)) (q_lc (N₀:=["sheet","tellings","keys","cell","held","moments","key","moment","knowing","due","line"]) (so:=a0h a78) (N':=["one","knowing","sheet"]) (cap:=[none,some 8,some 0]) (pt:=(.nm 0)) rfl rfl rfl (by decide +kernel) rfl (a0R (a0t a8Z rfl T.b_sorted rfl (a0b (a0c (pv 2)) a0f a0a) (he:=a0a) (hpl:=a0i))) (λ_ _ _ _=>(show QP _ _ (.nm 0) from (a0o (i:=0) c0v rfl (fb rfl)))) (λ_ _ _ _=>(a30 (a0r (o_ne hu) (a1h a0S up0 (a0c (pv 2)) (clK T b) (a0T T b) G_Sheet_line_at (hr.mono (by decide)) (a0Z F) (a0b (a0c (pv 0)) (a0b (a0c (pv 1)) a0f a0a) a0a) (hst:=a0a) (hpl:=(a0j a0a a0i))) (a1p a0f) (a0p _)))) (λ_ _ _ _=>(a0c (pv 0)))) (a0p _))))))))))))),?_⟩
 obtain⟨p,S,T',tl,ks,hl,kn,c,hs,rfl,I,fin⟩:=h;have few:Few T':=⟨by have:=I.len;omega,kn,by have:=I.k2;omega,I.km⟩;have k1:=I.k1;have k2:=I.k2;have lT:=I.len;symm;refine⟨tl,T',rfl,I.gt,I.ok,by omega,λtm ms G1 htm s1 gm hne hms hml=>?_⟩;symm;refine⟨c,30,rfl,by decide,by decide,λj j0 j1=>?_⟩;symm;refine a2m (s1 _ _ I.gk) ?_;rw[fc];symm;refine i_I (show (0:Int)<(kn.length:Int) by omega) ?_;symm;obtain⟨k,ek,mk,hk⟩:=b34 I.hk (fW j (show (kn.length:Int)≠0 by omega)) (gg j (by omega));refine a0I (s1 _ _ I.gk) ek ?_;symm;refine⟨c,31,rfl,by decide,by decide,λi i0 i1=>?_⟩;symm;refine a2m gm ?_;rw[fc];have lm:=g9.mpr hne;symm;refine i_I (show (0:Int)<(ms.length:Int) by omega) ?_;symm;obtain⟨m,em,hm⟩:=c0U (xs:=ms) (fW i (show (ms.length:Int)≠0 by omega)) (gg i (by omega));have hm:=hms m hm;refine a0I gm em ?_;clear gm em hne hms hml lm ek;symm;refine⟨c,32,rfl,by decide,by decide,λu u0 u1=>?_⟩;symm;refine a2m (s1 _ _ I.gt) ?_;rw[fc];symm;refine i_I (show (0:Int)<(T'.length:Int)+1 by omega) ?_;have inq:inR T' (u % ((T'.length:Int)+1)):=⟨fW u (by omega),by have:=gg u (show (0:Int)<(T'.length:Int)+1 by omega);omega⟩;generalize u % ((T'.length:Int)+1)=q at inq ⊢;symm;refine⟨tl,T',k,m,q,rfl,s1 _ _ I.gt,inq.1,inq.2,by omega,λG2 s2=>?_⟩;have okq:OkT (T'.take q.toNat):=fun τ h=>I.ok τ (gw h);have hf:=a2B (m:=8) (by decide) (a5y (a7x okq (k:=k)) m);have s02:=s1.trans s2;clear s1 s2 htm;symm;refine⟨b,p,S,T',k,q,rfl,I.sh.keep (Sm.ks s02),I.ok,few,lT,hk,inq,λG3 s3=>?_⟩;refine⟨_,rfl,ifF ?_⟩;have s03:=s02.trans s3;symm;refine a2m (s03 _ _ I.gt) ?_;rw[fc];symm;refine⟨b,p,S,T',k,T'.length,rfl,I.sh.keep (Sm.ks s03),I.ok,few,lT,hk,⟨by omega,by omega⟩,λG4 s4=>?_⟩;symm;refine ifF ?_;have s04:=s03.trans s4;clear s02 s3 s03 s4;have sh4:=I.sh.keep (Sm.ks s04);obtain⟨dx1,n1,d1,ob1⟩:=a3t sh4;symm;refine⟨p,dx1,_,rfl,ob1,a1Q (by decide +kernel) (by decide +kernel),?_⟩;symm;refine⟨b,p,S,T',.str k,q,rfl,sh4,(λ_=>a5K hk),few.1,.inl ⟨inq,k,rfl,hk,λl L G5 hl1 s5 gl il=>?_⟩⟩;have llen:=il.len;rw[fC]at llen;have s05:=s04.trans s5;have nla:¬ (S l\/l=tl\/l=hl):=λz=>by
  have f:=s04.free hl1;rcases z with z | rfl | rfl
  ·obtain⟨_,_,_,mm⟩:=I.sh;obtain⟨o,e'⟩:=mm.al l z;rw[f]at e';cases e'
  ·rw[I.gt]at f;cases f
  ·rw[I.gh]at f;cases f
 have gh5:=s05 _ _ I.gh;symm;refine a3m gh5 ?_;symm;refine a9K gl λl2 hl2=>?_;have nlb:¬ (S l2\/l2=tl\/l2=hl):=λz=>by
  have f:=s05.free hl2;rcases z with z | rfl | rfl
  ·obtain⟨_,_,_,mm⟩:=I.sh;obtain⟨o,e'⟩:=mm.al l2 z;rw[f]at e';cases e'
  ·rw[I.gt]at f;cases f
  ·rw[I.gh]at f;cases f
 have g2:put G5 l2 (.lst (L.map Rw.z)) l2=some (.lst (L.map Rw.z)):=a0d;have s56:Sm G5 (put G5 l2 (.lst (L.map Rw.z))):=Sm.new hl2;generalize put G5 l2 (.lst (L.map Rw.z))=G6 at g2 s56 ⊢;symm;refine⟨lenK rfl,?_⟩;symm;refine a1k (s56 _ _ gh5) (by rw[fc];exact a0u (by have:=I.hh;omega)) ?_;generalize hdue:a1z (a1K (T'.take q.toNat) k) m=due at hf ⊢;have kq7:Kq hl G (put G6 hl (.lst (hs.map He.z++[.tup [.str k,.int m,.int q,due,.ref l,.ref l2]]))):=λb o e nb=>by rw[a0E nb];exact s56 _ _ (s05 _ _ e)
 have k67:Kq hl G6 (put G6 hl (.lst (hs.map He.z++[.tup [.str k,.int m,.int q,due,.ref l,.ref l2]]))):=λb o e nb=>by rw[a0E nb];exact e
 have gh7:put G6 hl (.lst (hs.map He.z++[.tup [.str k,.int m,.int q,due,.ref l,.ref l2]])) hl=some (.lst ((hs++[He.mk k m q due l l2 L]).map He.z)):=by rw[a0d,fv];rfl
 generalize put G6 hl (.lst (hs.map He.z++[.tup [.str k,.int m,.int q,due,.ref l,.ref l2]]))=G7 at kq7 k67 gh7 ⊢;have h7:HOk T' G7 (λx=>S x\/x=tl\/x=hl) ⟨k,m,q,due,l,l2,L⟩:=⟨hk,hm,inq,hdue.symm,k67 _ _ (s56 _ _ gl) λz=>nla (.inr (.inr z)),k67 _ _ g2 λz=>nlb (.inr (.inr z)),a4I il.pl.okR,nla,nlb⟩;have sh7:=I.sh.keep (Kq.ks kq7 I.nh);have gk7:=kq7 _ _ I.gk I.nk;clear s04 s5 s05 nla nlb hl1 hl2 gl gh5 g2 s56 k67 ob1 sh4;obtain⟨dx2,n2,d2,ob2⟩:=a3t sh7;symm;refine⟨p,dx2,_,rfl,ob2,a1Q (by decide +kernel) (by decide +kernel),?_⟩;symm;refine⟨b,p,S,T',.str k,.int m,q,rfl,sh7,(λ_=>a5K hk),(λ_=>True.intro),few.1,.inl ⟨inq,k,m,rfl,hk,rfl,by rw[a4d,decide_eq_true hm.1,decide_eq_true (show m<=1000000000000 from hm.2)];rfl,λG8 s8=>?_⟩⟩;rw[hdue];symm;refine a99 hf hf ?_;rw[decide_eq_true rfl];refine⟨_,rfl,ifF ?_⟩;symm;refine⟨l,L,m,rfl,s8 _ _ h7.a,il.pl.one,?_⟩;rw[il.v m,hdue,b3M];symm;refine a99 hf hf ?_;rw[decide_eq_true rfl];refine⟨_,rfl,ifF ?_⟩;symm;refine⟨l,L,rfl,s8 _ _ h7.a,il.can,λr hr=>a4L il hr,by omega,?_⟩;symm;refine ifF ?_;have sh8:=sh7.keep (Sm.ks s8);obtain⟨dx3,n3,d3,ob3⟩:=a3t sh8;symm;refine⟨p,dx3,_,rfl,ob3,a1Q (by decide +kernel) (by decide +kernel),?_⟩;symm;refine⟨b,p,S,T',q,rfl,sh8,few,.inl ⟨inq,λf ts G3 hf s3 gf ka tl3=>?_⟩⟩;have s03:=s8.trans s3;symm;refine a80 (s03 _ _ gk7) (by omega) λQ sk hQ hperm hsort=>?_;have hsl:=hperm.length_eq;have gQ:put G3 Q (.lst (sk.map Z.str)) Q=some (.lst (sk.map Z.str)):=a0d;have s34:Sm G3 (put G3 Q (.lst (sk.map Z.str))):=Sm.new hQ;generalize put G3 Q (.lst (sk.map Z.str))=G4 at gQ s34 ⊢;symm;refine a2l gQ ?_;intro D hD;refine b1u (λj ys G'=>ys=((sk.take j).filter λk=>decide (k∈ts)).map Z.str/\Sm G4 G'/\G' D=some (.lst ys)) ⟨by simp,Sm.new hD,a0d⟩ (by rintro j ys G' _ ⟨_,s,_⟩;exact s _ _ gQ) ?_ ?_
 ·rintro j x ys G' hx ⟨rfl,s,gD⟩;rw[fm]at hx;cases hx':sk[j]? with
  | none=>rw[hx']at hx;cases hx
  | some y=>
  rw[hx']at hx;cases hx;have hj:=(fj.mp hx').1;have hy:nmOk y:=I.hk y (hperm.mem_iff.mp (fA hx'));have sh4:=sh7.keep (Sm.ks ((s03.trans s34).trans s));obtain⟨dx4,n4,d4,ob4⟩:=a3t sh4;have lf:((sk.take j).filter λk=>decide (k∈ts)).length<=20:=fx (ju _ _) (by rw[fC];omega);refine⟨_,rfl,?_⟩;symm;refine⟨p,dx4,_,rfl,ob4,a1Q (by decide +kernel) (by decide +kernel),?_⟩;symm;refine⟨b,p,S,T',.str y,q,rfl,sh4,(λ_=>a5K hy),few.1,.inl ⟨inq,y,rfl,hy,λl' L' G5 hl5 s5 gl5 il5=>?_⟩⟩;symm;refine⟨lenK rfl,λu hu=>?_⟩;have su:Sm G5 (put G5 u (.lst [])):=Sm.new hu;refine a9I (su _ _ gl5) a0d (a4I il5.pl.okR) rfl ?_;have tk:(sk.take (j+1)).filter (λk=>decide (k∈ts))=(sk.take j).filter (λk=>decide (k∈ts))++[y].filter (λk=>decide (k∈ts)):=by rw[take_snoc hx',j9]
  by_cases hm:y∈ts
  ·obtain⟨M,m1,m2⟩:=(ka.is y).mp hm;have hne:L'≠[]:=by rw[<- m1.uniq il5];exact m2
   refine⟨_,rfl,ifN (λ_=>?_) λz=>absurd z (by simpa using hne)⟩;symm;refine⟨su _ _ (s5 _ _ gD),by rw[fc];exact a0u (by omega),?_,((s.trans s5).trans su).put hD,a0d⟩;rw[tk];simp[hm]
  ·have hne:L'=[]:=Classical.byContradiction λz=>hm ((ka.is y).mpr ⟨L',il5,z⟩);refine⟨_,rfl,ifN (λz=>absurd (by rw[hne];rfl) z) λ_=>⟨?_,(s.trans s5).trans su,su _ _ (s5 _ _ gD)⟩⟩;rw[tk];simp[hm]
 ·rintro ys G5 ⟨rfl,s45,gD⟩;rw[fc,gR,<- b5G (fun τ h=>I.km τ (gw h)) I.nd hperm hsort ka]at gD;have s35:=s34.trans s45;have s05:=s03.trans s35;have fts:(ts.map Z.str).all (flat 8)=true:=a9w λs hs'=>b4b okq ((ka.is s).mp hs');symm;refine a9I (s35 _ _ gf) gD fts fts ?_;rw[decide_eq_true rfl];exact fin _ G5 (Kq.sm kq7 s05) (h7.keep λx o e n=>⟨s05 _ _ e,n⟩) (s05 _ _ gh7)
structure LIn (a:Ad) (G6 G:Hq) (p d tl hl:Addr) (kn:List Str) (S:Addr->Prop) (T:List Tl) (hs:List He):Prop where
 ok:OkT T
 km:∀ τ∈T,τ.key∈kn
 hh:∀ h∈hs,HOk T G (λx=>S x\/x=tl\/x=hl) h
 sh:Sheet a true G p S T
 sf:∀ b,S b->(b=p\/b=d)\/G6 b=none
 kp:∀ b o,G6 b=some o->¬ (b=p\/b=d)->b≠tl->b≠hl->G b=some o
 gt:G tl=some (.lst (T.map Tl.z))
 gh:G hl=some (.lst (hs.map He.z))
 nT:¬ S tl
 nH:¬ S hl
 nth:tl≠hl
theorem LIn.sm {a:Ad}{G6 G G':Hq}{p d tl hl:Addr}{kn:List Str}{S:Addr->Prop}{T:List Tl}{hs:List He}(h:LIn a G6 G p d tl hl kn S T hs) (s:Sm G G'):LIn a G6 G' p d tl hl kn S T hs:=
 { h with hh:=λe he=>(h.hh e he).keep λ_ _ e n=>⟨s _ _ e,n⟩,sh:=h.sh.keep (Sm.ks s),kp:=λb o e n n1 n2=>s _ _ (h.kp b o e n n1 n2),gt:=s _ _ h.gt,gh:=s _ _ h.gh }
theorem LIn.add {a:Ad}{G6 G G':Hq}{p d tl hl:Addr}{kn:List Str}{S:Addr->Prop}{T:List Tl}{hs:List He}{e:He}(h:LIn a G6 G p d tl hl kn S T hs) (k:Kq hl G G') (ho:HOk T G' (λx=>S x\/x=tl\/x=hl) e) (g:G' hl=some (.lst ((hs++[e]).map He.z))):LIn a G6 G' p d tl hl kn S T (hs++[e]):=
 { h with
  hh:=λu hu=>by
   rcases fg.mp hu with hu | hu
   ·exact (h.hh u hu).keep λ_ _ e n=>⟨k _ _ e λz=>n (.inr (.inr z)),n⟩
   ·rw[fi.mp hu];exact ho
  sh:=h.sh.keep (Kq.ks k h.nH)
  kp:=λb o e n n1 n2=>k _ _ (h.kp b o e n n1 n2) n2
  gt:=k _ _ h.gt h.nth
  gh:=g }
theorem LIn.told {a:Ad}{G6 G G1 G2:Hq}{p d tl hl:Addr}{kn:List Str}{S S':Addr->Prop}{T:List Tl}{τ:Tl}{hs:List He}(h:LIn a G6 G p d tl hl kn S T hs) (o:τ.Ok) (m:τ.key∈kn) (k:Kq tl G G1) (g:G1 tl=some (.lst ((T++[τ]).map Tl.z))) (i2:∀ b,S' b->S b\/G1 b=none) (kn':KN S G1 G2) (sh:Sheet a true G2 p S' (T++[τ])):LIn a G6 G2 p d tl hl kn S' (T++[τ]) hs:=by
 have gh1:=k _ _ h.gh (Ne.symm h.nth);refine⟨λu hu=>?_,λu hu=>?_,λe he=>((h.hh e he).more).keep λx o e n=>?_,sh,λb hb=>?_,λb o e n n1 n2=>?_,kn' _ _ h.nT g,kn' _ _ h.nH gh1,λz=>?_,λz=>?_,h.nth⟩
 ·rcases fg.mp hu with hu | hu
  ·exact h.ok u hu
  ·rw[fi.mp hu];exact o
 ·rcases fg.mp hu with hu | hu
  ·exact h.km u hu
  ·rw[fi.mp hu];exact m
 ·have e1:=k _ _ e λz=>n (.inr (.inl z));refine⟨kn' _ _ (λz=>n (.inl z)) e1,λz=>?_⟩;rcases z with z | z
  ·rcases i2 _ z with w | w
   ·exact n (.inl w)
   ·rw[w]at e1;cases e1
  ·exact n (.inr z)
 ·rcases i2 b hb with w | w
  ·exact h.sf b w
  ·by_cases n:b=p\/b=d
   ·exact .inl n
   ·right
    cases e:G6 b with
    | none=>rfl
    | some o=>
     by_cases n1:b=tl
     ·rw[n1,g]at w;cases w
     ·by_cases n2:b=hl
      ·rw[n2,gh1]at w;cases w
      ·rw[k _ _ (h.kp b o e n n1 n2) n1]at w;cases w
 ·refine kn' _ _ (λz=>?_) (k _ _ (h.kp b o e n n1 n2) n1);rcases h.sf b z with w | w
  ·exact n w
  ·rw[w]at e;cases e
 ·rcases i2 _ z with w | w
  ·exact h.nT w
  ·rw[w]at g;cases g
 ·rcases i2 _ z with w | w
  ·exact h.nH w
  ·rw[w]at gh1;cases gh1
theorem b4d (h:KeysAt [] ts):ts=[]:=by
 refine List.eq_nil_iff_forall_not_mem.mpr λs b=>?_;obtain⟨L,c,a⟩:=(h.is s).mp b;exact a (c.uniq (IsLine.nil rfl))
theorem b8g (h:a9h ws G R):ws.length=1:=by obtain⟨_,_,rfl,_⟩:=h;rfl
theorem c0V (F:Fns K a) (T:Txt K mg a):FnOk P w K mg base CX0 7 a.f49 a.d49 ["script"] (lowP K a9h):=by
 have G_names:=b5x (P:=P) (w:=w) (base:=base) F T;have G_Sheet___init__:=a5o (P:=P) (w:=w) (base:=base) F T;have G_cell_at:=b1N (P:=P) (w:=w) (base:=base) F T;have G_telling:=b1S (P:=P) (w:=w) (base:=base) F T;have G_bad:=c0S (P:=P) (w:=w) (base:=base) F T;have G_Tiled_tiles:=a68 (P:=P) (w:=w) (base:=base) F T;have G_asked:=b5H (P:=P) (w:=w) (base:=base) F T;have G_Sheet_keys_at:=a10 (P:=P) (w:=w) (base:=base) F T;have G_Sheet_first:=a69 (P:=P) (w:=w) (base:=base) F T
 have G_mix:=a7A (P:=P) (w:=w) (base:=base) F T;have G_Sheet_tell:=a4V (P:=P) (w:=w) (base:=base) F T;have G_Sheet_knowings:=a5q (P:=P) (w:=w) (base:=base) F T;have G_Sheet_worth_at:=a2G (P:=P) (w:=w) (base:=base) F T;have G_refused:=b1W (P:=P) (w:=w) (base:=base) F T;refine fn3 F.n49 sc_law (λws G R h=>(by exact b8g h)) (λcdv A outer s H E ws G R hr h=>?_);have hu:=a0Y hr;refine⟨_,(a0k (a0F (i:=1) sc_law.nd rfl (fb rfl) (q_op a2k (a0q G_cell_at (hr.mono (by decide)) rfl T.m21 F.n21.kp (a3A F) (a0b (a0c (pv 0)) (a0b a0g a0f a0e) a0a) (he:=a0a) (hpl:=(a0j a0e a0i))) a0g))
  (a0k (a0F (i:=2) sc_law.nd rfl (fb rfl) (q_ix x_ix (a1p (a0b a0g (a0b a0g a0f a0e) a0e)) (a13 c0o rfl T.b_int rfl (a0b (a4p (o_eq hu) (q_op a2k (a0q G_mix (hr.mono (by decide)) rfl T.m22 F.n22.kp (a2p F) (a0b (a0q G_cell_at (hr.mono (by decide)) rfl T.m21 F.n21.kp (a3A F) (a0b (a0c (pv 0)) (a0b a0g a0f a0e) a0a) (he:=a0a) (hpl:=(a0j a0e a0i))) (a0b a0g a0f a0e) a0C) (he:=a0C) (hpl:=(a0j a0e a0i))) a0g) a0g (a0p _)) a0f a46) (he:=a46) (hpl:=a0i)) (λ_ _=>rfl)))
  (a0k (a0F (i:=3) sc_law.nd rfl (fb rfl) (a0q G_names (hr.mono (by decide)) rfl T.m24 F.n24.kp (b0Q F) (a0b (q_op b2O (a0q G_cell_at (hr.mono (by decide)) rfl T.m21 F.n21.kp (a3A F) (a0b (a0c (pv 0)) (a0b a0g a0f a0e) a0a) (he:=a0a) (hpl:=(a0j a0e a0i))) a0g) (a0b (a0c (pv 1)) (a0b (a0c (pv 2)) a0f a0a) a0a) a0A) (he:=a0A) (hpl:=(a0j a0a (a0j a0a a0i)))))
  (a0k (a0F (i:=4) sc_law.nd rfl (fb rfl) (a0q G_names (hr.mono (by decide)) rfl T.m24 F.n24.kp (b0Q F) (a0b (a0q G_cell_at (hr.mono (by decide)) rfl T.m21 F.n21.kp (a3A F) (a0b (a0c (pv 0)) (a0b a0g a0f a0e) a0a) (he:=a0a) (hpl:=(a0j a0e a0i))) (a0b (a0c (pv 1)) (a0b a0g a0f a0e) a0a) a0C) (he:=a0C) (hpl:=(a0j a0a (a0j a0e a0i)))))
  (a0k (a0F (i:=5) sc_law.nd rfl (fb rfl) (b7m T.mk_Tiled G_Sheet___init__ (hr.mono (by decide)) rfl T.mg_Tiled (a5j F)))
  (a0k (a0F (i:=6) sc_law.nd rfl (fb rfl) (a1p a0f))
  (a0k (a0F (i:=7) sc_law.nd rfl (fb rfl) (a1p a0f))
  (a0k (a3E (pt:=(.nm 8)) kH.never rfl (a0R (a09 x_sl (a0c (pv 0)) (a1m a0g) (a1m a0g))) (show QP _ _ (.nm 8) from (a0o (i:=8) sc_law.nd rfl (fb rfl)))
  (a0k (a0F (i:=9) sc_law.nd rfl (fb rfl) (a0q G_telling (hr.mono (by decide)) rfl T.m25 F.n25.kp (b1J F) (a0b (a0c (pv 8)) (a0b (a0c (pv 1)) (a0b (a0c (pv 3)) (a0b (a0c (pv 4)) a0f a0a) a0a) a0a) a0a) (he:=a0a) (hpl:=(a0j a0a (a0j a0a (a0j a0a a0i))))))
  (a8E (z_if (a0r (o_eq hu) (q_op a2k (a0q G_mix (hr.mono (by decide)) rfl T.m22 F.n22.kp (a2p F) (a0b (a0c (pv 8)) (a0b a0g a0f a0e) a0a) (he:=a0a) (hpl:=(a0j a0e a0i))) a0g) a0g (a0p _))
  (a0k (b9k (pt:=(.tp [10,11])) (a0q G_bad (hr.mono (by decide)) rfl T.m40 F.n40.kp (c0w F) (a0b (a0c (pv 8)) (a0b (a0c (pv 9)) a0f a0a) a0a) (he:=a0a) (hpl:=(a0j a0a a0i))) (show QP _ _ (.tp [10,11]) from (a4l rfl (a0s (a0o (i:=10) sc_law.nd rfl (fb rfl)) (a0s (a0o (i:=11) sc_law.nd rfl (fb rfl)) a2H)))))
  (a0k (a0F (i:=12) sc_law.nd rfl (fb rfl) (a75 (a0c (pv 5)) T.cl_Tiled T.mt46 G_Tiled_tiles (hr.mono (by decide)) (a3J F)))
  (a0n (z_if (QW.qt (q_or (a29 (a3l (a0q G_refused (hr.mono (by decide)) rfl T.m44 F.n44.kp (b1M F) (a0b (a0c (pv 5)) (a0b (a0c (pv 10)) (a0b (a0c (pv 11)) a0f a0a) a0a) a0a) (he:=a0a) (hpl:=(a0j a0a (a0j a0a a0i)))))) (a44 (a0r (o_ne hu) (a75 (a0c (pv 5)) T.cl_Tiled T.mt46 G_Tiled_tiles (hr.mono (by decide)) (a3J F)) (a0c (pv 12)) (a0p _)))))
  (a0n (a0D q_bl))
  a1a))))
  a1a)
  (a0k (a06 (q_bm PySem.F.plainAttrs_list PySem.F.slot_list_append PySem.F.type_list_append a1j (a0c (pv 6)) (a0b (a0c (pv 9)) a0f a0a)))
  (a0k (z_if (QW.qt (q_or (a0r (o_ne hu) (b3x λb=>(a1h a0S up0 (a0c (pv 5)) (clK T b) (a3K T b) G_Sheet_tell (hr.mono (by decide)) (a4E F) (a0b (a0c (pv 9)) a0f a0a) (hst:=a0a) (hpl:=a0i))) (a0t b_len rfl T.b_len PySem.boot_len (a0b (a0c (pv 6)) a0f a0a) (he:=a0a) (hpl:=a0i)) (a0p _)) (a44 (a0r (o_ne hu) (b3x λb=>(a75 (a0c (pv 5)) (clK T b) (a4F T b) G_Sheet_knowings (hr.mono (by decide)) (a5k F))) (a0t b_len rfl T.b_len PySem.boot_len (a0b (a0c (pv 6)) a0f a0a) (he:=a0a) (hpl:=a0i)) (a0p _)))))
  (a0n (a0D q_bl))
  a1a)
  (a0n (z_if (QW.qt (a5A (a0r (o_eq hu) (q_op a2k (a0q G_mix (hr.mono (by decide)) rfl T.m22 F.n22.kp (a2p F) (a0b (a0c (pv 8)) (a0b a0g a0f a0e) a0a) (he:=a0a) (hpl:=(a0j a0e a0i))) a0g) a0g (a0p _)) (a3H (a29 (a3l (a0q G_asked (hr.mono (by decide)) rfl T.m37 F.n37.kp (b0R F) (a0b (a0c (pv 5)) (a0b (a0c (pv 6)) (a0b (a0c (pv 3)) (a0b (a0c (pv 8)) (a0b (a0c (pv 7)) a0f a0a) a0a) a0a) a0a) a0a) (he:=a0a) (hpl:=(a0j a0a (a0j a0a (a0j a0a (a0j a0a a0i)))))))))))
  (a0n (a0D q_bl))
  a1a)))))))
  (a0k (a3E (pt:=(.nm 8)) kH.never rfl (a0R (a09 x_sl (a0c (pv 0)) (a1m a0g) (a1m a0g))) (show QP _ _ (.nm 8) from (a0o (i:=8) sc_law.nd rfl (fb rfl)))
  (a0n (z_if (a29 (a3l (a0q G_asked (hr.mono (by decide)) rfl T.m37 F.n37.kp (b0R F) (a0b (a0c (pv 5)) (a0b (a0c (pv 6)) (a0b (a0c (pv 3)) (a0b (q_op a1i (a0c (pv 8)) a0g) (a0b (a0c (pv 7)) a0f a0a) a0A) a0a) a0a) a0a) (he:=a0a) (hpl:=(a0j a0a (a0j a0a (a0j a0A (a0j a0a a0i))))))))
  (a0n (a0D q_bl))
  a1a)))
  (a0k (a3E (pt:=(.tp [13,14,15,16,17,18])) kH.never rfl (a0R (a0c (pv 7))) (show QP _ _ (.tp [13,14,15,16,17,18]) from (a4l rfl (a0s (a0o (i:=13) sc_law.nd rfl (fb rfl)) (a0s (a0o (i:=14) sc_law.nd rfl (fb rfl)) (a0s (a0o (i:=15) sc_law.nd rfl (fb rfl)) (a0s (a0o (i:=16) sc_law.nd rfl (fb rfl)) (a0s (a0o (i:=17) sc_law.nd rfl (fb rfl)) (a0s (a0o (i:=18) sc_law.nd rfl (fb rfl)) a2H))))))))
  (a0n (z_if (QW.qt (q_or (a0r (o_ne hu) (b3x λb=>(a1h a0S up0 (a0c (pv 5)) (clK T b) (a2q T b) G_Sheet_worth_at (hr.mono (by decide)) (a2A F) (a0b (a0c (pv 13)) (a0b (a0c (pv 14)) (a0b (a0c (pv 15)) a0f a0a) a0a) a0a) (hst:=a0a) (hpl:=(a0j a0a (a0j a0a a0i))))) (a0c (pv 16)) (a0p _)) (a44 (a0r (o_ne hu) (a0c (pv 17)) (a0c (pv 18)) (a0p _)))))
  (a0n (a0D q_bl))
  a1a)))
  (a0n (a0D (a58 (a4p (o_eq hu) (b3x λb=>(a1h a0S up0 (a0c (pv 5)) (clK T b) (a0U T b) G_Sheet_keys_at (hr.mono (by decide)) (a00 F) (a0b a0g a0f a0e) (hst:=a0e) (hpl:=a0i))) (a1p a0f) (a0p _)) (a58 (a4p (o_eq hu) (b3x λb=>(a75 (a0c (pv 5)) (clK T b) (a6x T b) G_Sheet_first (hr.mono (by decide)) (a6Z F))) a0g (a0p _)) (a9D (a0t (c2g T.ow_Tiled T.ki_Tiled_Sheet) rfl T.b_isinstance rfl (a0b (a0c (pv 5)) (a0b (a3I (a1M rfl T.mg_Sheet)) a0f a0a) a0a) (he:=a0a) (hpl:=(a0j a0a a0i)))))))))))))))))),?_⟩
 obtain⟨sa,ns,rfl,hl,q⟩:=h;symm;refine⟨sa,ns,0,rfl,by decide,λc0=>?_⟩;symm;generalize c0 % 2=way;refine⟨lenK rfl,λA hA=>?_⟩;symm;refine⟨sa,ns,0,rfl,by decide,λc1=>?_⟩;symm;refine⟨_,95,rfl,by decide,by decide,λmx mx0 mx1=>?_⟩;symm;obtain⟨many,em,hm1,hm2⟩:∃ many:Int,atI [Z.int 4,.int 20] (if decide (mx % 8=0)=true then 1 else 0)=some (.int many)/\4<=many/\many<=20:=by
  split
  ·exact⟨20,rfl,by decide,by decide⟩
  ·exact⟨4,rfl,by decide,by decide⟩
 refine a0I a0d em ?_;generalize put G A (.lst [.int 4,.int 20])=G0;clear hA em;symm;refine⟨sa,ns,0,rfl,by decide,λc2=>?_⟩;symm;refine i_I ⟨by decide,by decide⟩ ?_;symm;refine⟨_,_,many,rfl,by omega,by omega,λks kn G1 hks gks kl kno knd s1=>?_⟩;symm;refine⟨sa,ns,1,rfl,by decide,λc3=>?_⟩;symm;refine⟨_,_,3,rfl,by decide,by decide,λwsA wn G3 hws gws hwn hwno _ s3=>?_⟩;have gks3:=s3 _ _ gks;clear gks s1 hks s3 hws;symm;intro p dx hp;refine⟨true,p,dx,rfl,a0d,λd G4 hd k4 sh4=>⟨rfl,?_⟩⟩;have fr:∀ x,(x=p\/x=d)->G3 x=none:=λx hx=>by
  rcases hx with rfl | rfl
  ·exact hp
  ·exact (Sm.new hp).free hd
 have kp4:∀ x o,G3 x=some o->G4 x=some o:=λx o e=>k4 x o (a0l e hp) (a0z e hp);have out:∀ x o,G3 x=some o->¬ (x=p\/x=d):=λx o e z=>by rw[fr x z]at e;cases e
 have nK:=out _ _ gks3;have nW:=out _ _ gws;have gk4:=kp4 _ _ gks3;have gw4:=kp4 _ _ gws;have nS4:∀ x,G4 x=none->¬ (x=p\/x=d):=λx e z=>by
  obtain⟨_,_,_,m⟩:=sh4;obtain⟨o,e'⟩:=m.al x z;rw[e]at e';cases e'
 clear k4 kp4 out fr;symm;refine⟨lenK rfl,λtl htl=>?_⟩;symm;refine⟨lenK rfl,λhl' hhl=>?_⟩;symm;refine b9I λc hc=>?_;have hcl:(cutZ ns (some 2) (some 122)).length<=63:=fx (a6e ..) hl;generalize cutZ ns (some 2) (some 122)=cs at hcl ⊢;have s46:=((Sm.new (o:=.lst []) htl).trans (Sm.new (o:=.lst []) hhl)).trans (Sm.new (o:=.lst (cs.map Z.int)) hc);have gt6:put (put (put G4 tl (.lst [])) hl' (.lst [])) c (.lst (cs.map Z.int)) tl=some (.lst (([]:List Tl).map Tl.z)):=a0l (a0l a0d hhl) hc;have gh6:put (put (put G4 tl (.lst [])) hl' (.lst [])) c (.lst (cs.map Z.int)) hl'=some (.lst (([]:List He).map He.z)):=a0l a0d hc;have gc6:put (put (put G4 tl (.lst [])) hl' (.lst [])) c (.lst (cs.map Z.int)) c=some (.lst (cs.map Z.int)):=a0d;have nth:tl≠hl':=a0z a0d hhl;have ntc:c≠tl:=Ne.symm (a0z (a0l a0d hhl) hc);have nhc:c≠hl':=Ne.symm (a0z a0d hc);have nkt:ks≠tl:=a0z gk4 htl;have nkh:ks≠hl':=a0z (a0l gk4 htl) hhl;have nwt:wsA≠tl:=a0z gw4 htl;have nwh:wsA≠hl':=a0z (a0l gw4 htl) hhl;have nSt:=nS4 tl htl;have nSh:=nS4 hl' ((Sm.new htl).free hhl);have nSc:=nS4 c (((Sm.new (o:=.lst []) htl).trans (Sm.new (o:=.lst []) hhl)).free hc);have sh6:=sh4.keep (Sm.ks s46);have gk6:=s46 _ _ gk4;have gw6:=s46 _ _ gw4;generalize put (put (put G4 tl (.lst [])) hl' (.lst [])) c (.lst (cs.map Z.int))=G6 at s46 gt6 gh6 gc6 sh6 gk6 gw6 ⊢;clear s46 gk4 gw4 sh4 htl hhl hc nS4;symm;refine a2l gc6 ?_;refine a1n (λi σ G'=>Ex8 λ(S:Addr->Prop) (T:List Tl) (hs:List He) (v1 v2 v3 v4 v5:Option Z)=>T.length=i/\hs.length<=i/\LIn a G6 G' p d tl hl' kn S T hs/\σ=[some (.scr sa ns),some (.int way),some (.int many),some (.ref ks),some (.ref wsA),some (.ref p),some (.ref tl),some (.ref hl'),v1,v2,v3,v4,v5,none,none,none,none,none,none])
  ⟨_,[],[],_,_,_,_,_,rfl,ff _,⟨fun τ h=>by simp at h,fun τ h=>by simp at h,λh hh=>by simp at hh,sh6,λb hb=>.inl hb,λb o e _ _ _=>e,gt6,gh6,nSt,nSh,nth⟩,rfl⟩ (by rintro i σ G' _ ⟨_,_,_,_,_,_,_,_,_,_,I,_⟩;exact I.kp _ _ gc6 nSc ntc nhc) ?_ ?_
 ·rintro i x σ G' hx ⟨S,T1,hs,v1,v2,v3,v4,v5,hTl,hhs,I,rfl⟩;rw[fm]at hx;cases hx':cs[i]? with
  | none=>rw[hx']at hx;cases hx
  | some cl=>
  rw[hx']at hx;cases hx;have hi:=(fj.mp hx').1;have few:Few T1:=⟨by omega,kn,by omega,I.km⟩;refine⟨_,rfl,?_⟩;symm;refine⟨_,_,ks,wsA,kn,wn,rfl,I.kp _ _ gk6 nK nkt nkh,I.kp _ _ gw6 nW nwt nwh,by omega,by omega,by omega,by omega,kno,hwno,fun τ Ga sA okτ mk=>?_⟩
  replace I:=I.sm sA
  clear sA;symm;refine a8I (fun σ' Gb=>∃ (v3 v4 v5:Option Z),Sm Ga Gb/\σ'=[some (.scr sa ns),some (.int way),some (.int many),some (.ref ks),some (.ref wsA),some (.ref p),some (.ref tl),some (.ref hl'),some (.int cl),some τ.z,v3,v4,v5,none,none,none,none,none,none]) ?_ ?_
  ·symm;refine⟨_,51,rfl,by decide,by decide,λr r0 r1=>?_⟩;symm;refine ifD (λ_=>?_) λ_=>?_
   ·symm;refine⟨_,τ,rfl,okτ,λz named Gb sb bad=>?_⟩;symm;have I2:=I.sm sb;obtain⟨dx2,n2,d2,ob2⟩:=a3t I2.sh;refine⟨p,dx2,_,rfl,ob2,a1Q (by decide +kernel) (by decide +kernel),?_⟩;symm;refine⟨p,S,T1,rfl,I2.sh,I2.ok,few,by omega,λt ss f Gc ht sc til fl gt=>?_⟩;symm;have I3:=I2.sm sc;refine⟨true,p,S,T1,z,named,rfl,I3.sh,bad,λGd sd=>?_⟩;refine⟨_,rfl,ifF ?_⟩;have I4:=I3.sm sd;obtain⟨dx4,n4,d4,ob4⟩:=a3t I4.sh;symm;refine⟨p,dx4,_,rfl,ob4,a1Q (by decide +kernel) (by decide +kernel),?_⟩;symm;refine⟨p,S,T1,rfl,I4.sh,I4.ok,few,by omega,λt5 ss5 f5 Ge ht5 se til5 fl5 gt5=>?_⟩;symm;refine a9I gt5 (se _ _ (sd _ _ gt)) fl5 fl ?_;rw[til5.uniq til,decide_eq_true rfl];symm;refine ifF ?_;symm;exact⟨_,_,_,((sb.trans sc).trans sd).trans se,rfl⟩
   ·symm;exact⟨_,_,_,Sm.refl _,rfl⟩
  ·rintro σ' Gb ⟨w3,w4,w5,sb,rfl⟩
   replace I:=I.sm sb
   symm;refine a3m I.gt ?_;symm;refine a1k I.gt (by rw[fc];exact a0u (by omega)) ?_;have gt7:put Gb tl (.lst (T1.map Tl.z++[τ.z])) tl=some (.lst ((T1++[τ]).map Tl.z)):=by rw[a0d,fv];rfl
   have k7:Kq tl Gb (put Gb tl (.lst (T1.map Tl.z++[τ.z]))):=Kq.at
   generalize put Gb tl (.lst (T1.map Tl.z++[τ.z]))=G7 at gt7 k7 ⊢;have sh7:=I.sh.keep (Kq.ks k7 I.nT);obtain⟨dx7,n7,d7,ob7⟩:=a3t sh7;symm;refine b3y true ?_;symm;refine⟨p,dx7,_,rfl,ob7,a1Q (by decide +kernel) (by decide +kernel),?_⟩;symm;refine⟨true,p,S,T1,sh7,.inl ⟨τ,rfl,okτ,by omega,λS' G8 i1 i2 kn8 sh8=>?_⟩⟩;have I8:=I.told okτ mk k7 gt7 i2 kn8 sh8;have hTl':(T1++[τ]).length=i+1:=by rw[fu,hTl];rfl
   have e1:(T1.length:Int)+1=((T1++[τ]).length:Int):=by rw[hTl',hTl];rfl
   rw[e1];generalize T1++[τ]=T2 at I8 hTl';symm;refine a2m I8.gt ?_;rw[fc];symm;refine ifN (λz=>absurd rfl z) λ_=>?_;obtain⟨dx8,n8,d8,ob8⟩:=a3t I8.sh;symm;refine b3y true ?_;symm;refine⟨p,dx8,_,rfl,ob8,a1Q (by decide +kernel) (by decide +kernel),?_⟩;symm;refine⟨true,p,S',T2,rfl,I8.sh,?_⟩;symm;refine a2m I8.gt ?_;rw[fc];symm;refine ifN (λz=>absurd rfl z) λ_=>?_;symm;refine⟨_,33,rfl,by decide,by decide,λr r0 r1=>?_⟩;symm;refine ifD (λ_=>?_) λ_=>?_
   ·symm;refine⟨true,p,S',T2,tl,ks,hl',kn,_,hs,rfl,⟨I8.sh,I8.ok,by omega,I8.gt,I8.kp _ _ gk6 nK nkt nkh,by omega,by omega,kno,knd,I8.km,I8.gh,by omega,I8.nH,nth,nkh⟩,λe G9 k9 he gh9=>?_⟩;symm;refine ifF ?_;symm;exact⟨S',T2,hs++[e],_,_,_,_,_,hTl',by rw[fu];exact kg hhs,I8.add k9 he gh9,rfl⟩
   ·symm;exact⟨S',T2,hs,_,_,_,_,_,hTl',by omega,I8,rfl⟩
 ·rintro σ G' ⟨S,T1,hs,v1,v2,v3,v4,v5,hTl,hhs,I,rfl⟩;rw[fc]at hTl hhs;have few:Few T1:=⟨by omega,kn,by omega,I.km⟩;symm;refine b9I λc2 hc2=>?_;have hcl2:(cutZ ns (some 2) (some 122)).length<=63:=fx (a6e ..) hl;generalize cutZ ns (some 2) (some 122)=cs2 at hcl2 ⊢;have s7:Sm G' (put G' c2 (.lst (cs2.map Z.int))):=Sm.new hc2;have gc7:put G' c2 (.lst (cs2.map Z.int)) c2=some (.lst (cs2.map Z.int)):=a0d;have nhc2:c2≠hl':=Ne.symm (a0z I.gh hc2);generalize put G' c2 (.lst (cs2.map Z.int))=G7 at s7 gc7 ⊢
  replace I:=I.sm s7
  clear s7 hc2;symm;refine a2l gc7 ?_;refine a1n (λi σ G''=>∃ (hs':List He) (v1:Option Z),hs'.length<=63+i/\LIn a G6 G'' p d tl hl' kn S T1 hs'/\Kq hl' G7 G''/\σ=[some (.scr sa ns),some (.int way),some (.int many),some (.ref ks),some (.ref wsA),some (.ref p),some (.ref tl),some (.ref hl'),v1,v2,v3,v4,v5,none,none,none,none,none,none])
   ⟨hs,_,by omega,I,Kq.refl _ _,rfl⟩ (by rintro i σ G'' _ ⟨_,_,_,_,k,_⟩;exact k _ _ gc7 nhc2) ?_ ?_
  ·rintro i x σ G'' hx ⟨hs',v1,hhs',I8,kq,rfl⟩;rw[fm]at hx;cases hx':cs2[i]? with
   | none=>rw[hx']at hx;cases hx
   | some cl=>
   rw[hx']at hx;cases hx;have hi:=(fj.mp hx').1;refine⟨_,rfl,?_⟩;symm;refine⟨true,p,S,T1,tl,ks,hl',kn,_,hs',rfl,⟨I8.sh,I8.ok,by omega,I8.gt,I8.kp _ _ gk6 nK nkt nkh,by omega,by omega,kno,knd,I8.km,I8.gh,by omega,I8.nH,nth,nkh⟩,λe G9 k9 he gh9=>?_⟩;symm;refine ifF ?_;symm;exact⟨hs'++[e],_,by rw[fu];exact kg hhs',I8.add k9 he gh9,kq.trans k9,rfl⟩
  ·rintro σ G8 ⟨hs',v1,hhs',I8,kq,rfl⟩;symm;refine a2l I8.gh ?_;refine a1n (λi σ G9=>Ex6 λ(v6 v7 v8 v9 v10 v11:Option Z)=>Sm G8 G9/\σ=[some (.scr sa ns),some (.int way),some (.int many),some (.ref ks),some (.ref wsA),some (.ref p),some (.ref tl),some (.ref hl'),v1,v2,v3,v4,v5,v6,v7,v8,v9,v10,v11])
    ⟨_,_,_,_,_,_,Sm.refl _,rfl⟩ (by rintro i σ G9 _ ⟨_,_,_,_,_,_,s,_⟩;exact s _ _ I8.gh) ?_ ?_
   ·rintro i x σ G9 hx ⟨v6,v7,v8,v9,v10,v11,s9,rfl⟩;rw[fm]at hx;cases hx':hs'[i]? with
    | none=>rw[hx']at hx;cases hx
    | some h=>
    rw[hx']at hx;cases hx;have I9:=I8.sm s9;have ho:=I9.hh h (fA hx');obtain⟨dx9,n9,d9,ob9⟩:=a3t I9.sh;have hf:=a2B (m:=8) (by decide) (a5y (a7x (T:=T1.take h.q.toNat) (fun τ h=>I9.ok τ (gw h)) (k:=h.k)) h.m);have hm:=ho.m;refine⟨_,rfl,?_⟩;symm;refine b3y true ?_;symm;refine⟨p,dx9,_,rfl,ob9,a1Q (by decide +kernel) (by decide +kernel),?_⟩;symm;refine⟨true,p,S,T1,.str h.k,.int h.m,h.q,rfl,I9.sh,(λ_=>a5K ho.k),(λ_=>True.intro),by omega,.inl ⟨ho.q,h.k,h.m,rfl,ho.k,rfl,by rw[a4d,decide_eq_true hm.1,decide_eq_true (show h.m<=1000000000000 from hm.2)];rfl,λGa s10=>?_⟩⟩;rw[<- ho.due]at hf ⊢;symm;refine a99 hf hf ?_;rw[decide_eq_true rfl];refine⟨_,rfl,ifF ?_⟩;symm;refine a9I (s10 _ _ ho.a) (s10 _ _ ho.b) ho.f ho.f ?_;rw[decide_eq_true rfl];symm;refine ifF ?_;symm;exact⟨_,_,_,_,_,_,s9.trans s10,rfl⟩
   ·rintro σ G9 ⟨v6,v7,v8,v9,v10,v11,s9,rfl⟩;have I9:=I8.sm s9;obtain⟨dx9,n9,d9,ob9⟩:=a3t I9.sh;symm;refine b3y true ?_;symm;refine⟨p,dx9,_,rfl,ob9,a1Q (by decide +kernel) (by decide +kernel),?_⟩;symm;refine⟨true,p,S,T1,0,rfl,I9.sh,few,.inl ⟨⟨by decide,by omega⟩,λf ts Ga hf sa' gf ka tl3=>?_⟩⟩;rw[b4d ka]at gf;symm;refine⟨lenK rfl,λE hE=>?_⟩;refine a9I (a0l gf hE) a0d rfl rfl ?_;rw[decide_eq_true (show [].map Z.str=[] from rfl)];refine⟨_,rfl,ifT ?_⟩;have I10:=(I9.sm sa').sm (Sm.new (o:=.lst []) hE);obtain⟨dx10,n10,d10,ob10⟩:=a3t I10.sh;symm;refine b3y true ?_;symm;refine⟨p,dx10,_,rfl,ob10,a1Q (by decide +kernel) (by decide +kernel),?_⟩;symm;refine⟨p,rfl,?_⟩;symm;refine ifT ?_;symm;refine c2h ob10 ?_;exact q _
theorem all_mk {l:PySem.W.OpenLaw}{w:World}{K:Fg}{h:Heap}{mg:Str->Option Value}{fa:Addr}(X:K.In h) (G:h.Ns ku mg) (hfa:mg "law"=some (.ref fa))
  {bv a5 a0 aU a1 aR aK aG bw a6 be bf aB bx bG aL aV bH aW bg a7 bW dq cx cy bX cz bY cA bZ ae an ao ap aq dr ah cB bI a8 ds ax ay aH b0 ai aP aE aj dt:Addr}
  {er dC:Option Addr}{es:Array (Option Value)}{et dD dE dF cX dG:Value}
  {bD:Tok}
  {bS:Tok}
  {ac:Addr}
  {aa:Addr}
  (dX:PySem.W.nsIn K ku "Sheet"=some (some (.ref ac))) (dY:PySem.W.plainGet K ac Str.empty=true) (dZ:PySem.W.hasDictIn K ac=true) (d0:PySem.W.plainOver K ac=true) (d1:PySem.W.findIn K (.ref ac) "__setattr__"=some (some (.builtin "object.__setattr__")))
  (d2:PySem.W.makesIn K ac=true) (d3:PySem.W.keepIn K (.ref ac)=true)
  (d4:PySem.W.nsIn K ku "Tiled"=some (some (.ref aa))) (cY:PySem.W.plainGet K aa Str.empty=true) (cZ:PySem.W.hasDictIn K aa=true) (c0:PySem.W.plainOver K aa=true) (c1:PySem.W.findIn K (.ref aa) "__setattr__"=some (some (.builtin "object.__setattr__")))
  (d5:PySem.W.makesIn K aa=true) (d6:PySem.W.keepIn K (.ref aa)=true)
  (ei:PySem.W.findIn K (.ref ac) "last"=some none)
  (d7:PySem.W.findIn K (.ref aa) "last"=some none)
  (ej:PySem.W.findIn K (.ref ac) "kept"=some none)
  (d8:PySem.W.findIn K (.ref aa) "kept"=some none)
  (d9:PySem.W.findIn K (.ref aa) "__class__"=some (some (.builtin "object.__class__"))) (ea:PySem.W.specialIn K (.builtin "object.__class__") "__get__"=some (some (.builtin "getset_descriptor.__get__"))) (eb:PySem.W.takesIn K (.builtin "object.__class__")=some true) (ec:PySem.W.mroIn K aa (.type "object")=some true)
  (cC:PySem.W.kitOne K (.ref aa) (.ref ac)=some true)
  {ag:Addr}
  {ab:Addr}
  {aO:Addr}
  {ad:Addr}
  {bJ:Addr}
  {a4:Addr}
  {cc:Addr}
  {cd:Addr}
  {ce:Addr}
  {bs:Addr}
  (dH:PySem.W.nsIn K ku "NoName"=some (some (.ref ag)))
  (c2:PySem.W.nsIn K ku "NoStretch"=some (some (.ref ab)))
  (c3:PySem.W.nsIn K ku "NoKnowing"=some (some (.ref aO)))
  (cN:PySem.W.nsIn K ku "TimesError"=some (some (.ref ad)))
  (dI:PySem.W.nsIn K ku "Broken"=some (some (.ref bJ)))
  (c4:PySem.W.nsIn K ku "Forgotten"=some (some (.ref a4)))
  (ed:PySem.W.nsIn K ku "NoFit"=some (some (.ref cc)))
  (ee:PySem.W.nsIn K ku "NoLog"=some (some (.ref cd)))
  (ef:PySem.W.nsIn K ku "NoRow"=some (some (.ref ce)))
  (du:PySem.W.nsIn K ku "NoSheet"=some (some (.ref bs)))
  (dJ:PySem.W.excIn K ag veM "ValueError.__new__"=true)
  (c5:PySem.W.excIn K ab veM "ValueError.__new__"=true)
  (c6:PySem.W.excIn K aO veM "ValueError.__new__"=true)
  (bK:PySem.W.subIn K (.ref ad) (.type "BaseException")=some true)
  (bL:PySem.W.typeIn K (.ref ad)=some (.type "type"))
  (bM:PySem.W.subIn K (.ref ag) (.ref ad)=some true)
  (bN:PySem.W.hasDictIn K ad=true)
  (bn:PySem.W.subIn K (.ref ad) (.type "BaseException")=some true)
  (bo:PySem.W.typeIn K (.ref ad)=some (.type "type"))
  (bp:PySem.W.subIn K (.ref ab) (.ref ad)=some true)
  (bq:PySem.W.hasDictIn K ad=true)
  (dK:PySem.W.hasDictIn K ag=true)
  (dL:PySem.W.findIn K (.ref ag) "__getattribute__"=some (some (.builtin "BaseException.__getattribute__")))
  (dM:PySem.W.findIn K (.ref ag) "__getattr__"=some none)
  (dN:PySem.W.findIn K (.ref ag) "__class__"=some (some (.builtin "object.__class__")))
  (dO:PySem.W.specialIn K (.builtin "object.__class__") "__get__"=some (some (.builtin "getset_descriptor.__get__")))
  (dP:PySem.W.takesIn K (.builtin "object.__class__")=some true)
  (dQ:PySem.W.mroIn K ag (.type "object")=some true)
  (dR:PySem.W.mroIn K ag (.type "BaseException")=some true)
  (c7:PySem.W.hasDictIn K ab=true)
  (c8:PySem.W.findIn K (.ref ab) "__getattribute__"=some (some (.builtin "BaseException.__getattribute__")))
  (c9:PySem.W.findIn K (.ref ab) "__getattr__"=some none)
  (da:PySem.W.findIn K (.ref ab) "__class__"=some (some (.builtin "object.__class__")))
  (db:PySem.W.specialIn K (.builtin "object.__class__") "__get__"=some (some (.builtin "getset_descriptor.__get__")))
  (dc:PySem.W.takesIn K (.builtin "object.__class__")=some true)
  (dd:PySem.W.mroIn K ab (.type "object")=some true)
  (de:PySem.W.mroIn K ab (.type "BaseException")=some true)
  (bU:PySem.W.kitOne K (.ref ag) (.ref ab)=some false)
  (bO:PySem.W.kitOne K (.ref ag) (.type "ValueError")=some true)
  (bV:PySem.W.kitOne K (.ref ab) (.ref ag)=some false)
  (br:PySem.W.kitOne K (.ref ab) (.type "ValueError")=some true)
  (dl:PySem.W.kitAny K (.ref ag) [.ref bJ,.ref a4,.ref cc,.ref aO,.ref cd,.ref ce,.ref bs]=some false)
  (cD:PySem.W.kitAny K (.ref ab) [.ref bJ,.ref a4,.ref cc,.ref aO,.ref cd,.ref ce,.ref bs]=some false)
  (dm:PySem.W.nsIn K ku "is_name"=some (some (.ref bv))) (bz:FE K "is_name" "is_name" a2T bv)
  (cO:PySem.W.nsIn K ku "is_moment"=some (some (.ref a5))) (a9:FE K "is_moment" "is_moment" a2U a5)
  (cE:PySem.W.nsIn K ku "is_stretch"=some (some (.ref a0))) (a2:FE K "is_stretch" "is_stretch" a2v a0)
  (cs:PySem.W.nsIn K ku "earlier_end"=some (some (.ref aU))) (aX:FE K "earlier_end" "earlier_end" a2d aU)
  (cF:PySem.W.nsIn K ku "check_name"=some (some (.ref a1))) (a3:FE K "check_name" "check_name" a2w a1)
  (cn:PySem.W.nsIn K ku "check_moment"=some (some (.ref aR))) (aS:FE K "check_moment" "check_moment" a1T aR)
  (cf:PySem.W.nsIn K ku "check_stretch"=some (some (.ref aK))) (aM:FE K "check_stretch" "check_stretch" a1F aK)
  (b1:PySem.W.nsIn K ku "check_in_reach"=some (some (.ref aG))) (aI:FE K "check_in_reach" "check_in_reach" a1s aG)
  (dn:PySem.W.nsIn K ku "is_over"=some (some (.ref bw))) (bA:FE K "is_over" "is_over" a36 bw)
  (cP:PySem.W.nsIn K ku "worths_in"=some (some (.ref a6))) (ba:FE K "worths_in" "worths_in" a2V a6)
  (df:PySem.W.nsIn K ku "worth_in"=some (some (.ref be))) (bh:FE K "worth_in" "worth_in" a3n be)
  (dg:PySem.W.nsIn K ku "ahead_of"=some (some (.ref bf))) (bi:FE K "ahead_of" "ahead_of" a2o bf)
  (bE:PySem.W.nsIn K ku "with_alike_joined"=some (some (.ref aB))) (aC:FE K "with_alike_joined" "with_alike_joined" a1d aB)
  (dp:PySem.W.nsIn K ku "from_on"=some (some (.ref bx))) (bB:FE K "from_on" "from_on" a2W bx)
  (dv:PySem.W.nsIn K ku "put_on"=some (some (.ref bG))) (bP:FE K "put_on" "put_on" a5b bG)
  (cg:PySem.W.nsIn K ku "check_telling"=some (some (.ref aL))) (aN:FE K "check_telling" "check_telling" a1G aL)
  (ct:PySem.W.nsIn K ku "line_behind"=some (some (.ref aV))) (aY:FE K "line_behind" "line_behind" a2e aV)
  (dw:PySem.W.nsIn K ku "run_of"=some (some (.ref bH))) (bQ:FE K "run_of" "run_of" a5c bH)
  (cu:PySem.W.nsIn K ku "is_standing"=some (some (.ref aW))) (aZ:FE K "is_standing" "is_standing" a2f aW)
  (dh:PySem.W.nsIn K ku "tiled_on"=some (some (.ref bg))) (bj:FE K "tiled_on" "tiled_on" a0V bg)
  (cQ:PySem.W.nsIn K ku "stands_at"=some (some (.ref a7))) (bb:FE K "stands_at" "stands_at" a2X a7)
  (dS:PySem.W.nsIn K ku "_law_cell_at"=some (some (.ref bW))) (b2:FE K "_law_cell_at" "_law_cell_at" a6o bW)
  (ex:PySem.W.nsIn K ku "_law_mix"=some (some (.ref dq))) (dx:FE K "_law_mix" "_law_mix" b7C dq)
  (ek:PySem.W.nsIn K ku "_law_parts"=some (some (.ref cx))) (cG:FE K "_law_parts" "_law_parts" a9X cx)
  (el:PySem.W.nsIn K ku "_law_names"=some (some (.ref cy))) (cH:FE K "_law_names" "_law_names" a6p cy)
  (dT:PySem.W.nsIn K ku "_law_telling"=some (some (.ref bX))) (b3:FE K "_law_telling" "_law_telling" a6q bX)
  (em:PySem.W.nsIn K ku "_law_worth"=some (some (.ref cz))) (cI:FE K "_law_worth" "_law_worth" a9Y cz)
  (dU:PySem.W.nsIn K ku "_law_moments"=some (some (.ref bY))) (b4:FE K "_law_moments" "_law_moments" a6r bY)
  (en:PySem.W.nsIn K ku "_law_shown"=some (some (.ref cA))) (cJ:FE K "_law_shown" "_law_shown" a9Z cA)
  (dV:PySem.W.nsIn K ku "_law_is_line"=some (some (.ref bZ))) (b5:FE K "_law_is_line" "_law_is_line" a6s bZ)
  (bF:PySem.W.findIn K (.ref ac) "check_knowing"=some (some (.ref ae))) (aT:PySem.W.isFn K (.ref ae)=true) (af:FE K "check_knowing" "Sheet.check_knowing" a1e ae)
  (bC:PySem.W.findIn K (.ref aa) "check_knowing"=some (some (.ref ae)))
  (b6:PySem.W.findIn K (.ref ac) "known_line"=some (some (.ref an))) (b7:PySem.W.isFn K (.ref an)=true) (ar:FE K "known_line" "Sheet.known_line" a07 an)
  (b8:PySem.W.findIn K (.ref aa) "known_line"=some (some (.ref ao))) (b9:PySem.W.isFn K (.ref ao)=true) (au:FE K "known_line" "Tiled.known_line" a08 ao)
  (cv:PySem.W.findIn K (.ref ac) "line_at"=some (some (.ref ap))) (bt:PySem.W.isFn K (.ref ap)=true) (av:FE K "line_at" "Sheet.line_at" a2g ap)
  (co:PySem.W.findIn K (.ref aa) "line_at"=some (some (.ref ap)))
  (cw:PySem.W.findIn K (.ref ac) "keys_at"=some (some (.ref aq))) (bu:PySem.W.isFn K (.ref aq)=true) (aw:FE K "keys_at" "Sheet.keys_at" a1t aq)
  (cp:PySem.W.findIn K (.ref aa) "keys_at"=some (some (.ref aq)))
  (ey:PySem.W.nsIn K ku "_law_own"=some (some (.ref dr))) (dy:FE K "_law_own" "_law_own" b7D dr)
  (cq:PySem.W.findIn K (.ref ac) "worth_at"=some (some (.ref ah))) (bk:PySem.W.isFn K (.ref ah)=true) (ak:FE K "worth_at" "Sheet.worth_at" a1U ah)
  (ch:PySem.W.findIn K (.ref aa) "worth_at"=some (some (.ref ah)))
  (eo:PySem.W.nsIn K ku "_law_asked"=some (some (.ref cB))) (cK:FE K "_law_asked" "_law_asked" a78 cB)
  (dz:PySem.W.nsIn K ku "_law_bad_name"=some (some (.ref bI))) (bR:FE K "_law_bad_name" "_law_bad_name" a5d bI)
  (cR:PySem.W.nsIn K ku "_law_bad_stretch"=some (some (.ref a8))) (bc:FE K "_law_bad_stretch" "_law_bad_stretch" a2Y a8)
  (ez:PySem.W.nsIn K ku "_law_bad"=some (some (.ref ds))) (dA:FE K "_law_bad" "_law_bad" b7E ds)
  (ci:PySem.W.findIn K (.ref ac) "keep_line"=some (some (.ref ax))) (cj:PySem.W.isFn K (.ref ax)=true) (az:FE K "keep_line" "Sheet.keep_line" a1H ax)
  (ck:PySem.W.findIn K (.ref aa) "keep_line"=some (some (.ref ay))) (cl:PySem.W.isFn K (.ref ay)=true) (aA:FE K "keep_line" "Tiled.keep_line" a1I ay)
  (di:PySem.W.findIn K (.ref ac) "tell"=some (some (.ref aH))) (ca:PySem.W.isFn K (.ref aH)=true) (aJ:FE K "tell" "Sheet.tell" a3o aH)
  (cS:PySem.W.findIn K (.ref aa) "tell"=some (some (.ref aH)))
  (dW:PySem.W.nsIn K ku "_law_refused"=some (some (.ref b0))) (cb:FE K "_law_refused" "_law_refused" a6t b0)
  (bl:PySem.W.findIn K (.ref ac) "__init__"=some (some (.ref ai))) (aD:PySem.W.isFn K (.ref ai)=true) (al:FE K "__init__" "Sheet.__init__" a1V ai)
  (bd:PySem.W.findIn K (.ref aa) "__init__"=some (some (.ref ai)))
  (cT:PySem.W.findIn K (.ref aa) "tiles"=some (some (.ref aP))) (cU:PySem.W.isFn K (.ref aP)=true) (aQ:FE K "tiles" "Tiled.tiles" a2Z aP)
  (cV:PySem.W.findIn K (.ref ac) "first"=some (some (.ref aE))) (bT:PySem.W.isFn K (.ref aE)=true) (aF:FE K "first" "Sheet.first" a20 aE)
  (cL:PySem.W.findIn K (.ref aa) "first"=some (some (.ref aE)))
  (cr:PySem.W.findIn K (.ref ac) "knowings"=some (some (.ref aj))) (bm:PySem.W.isFn K (.ref aj)=true) (am:FE K "knowings" "Sheet.knowings" a1W aj)
  (cm:PySem.W.findIn K (.ref aa) "knowings"=some (some (.ref aj)))
  (eh:PySem.W.nsIn K ku "law"=some (some (.ref dt))) (eA:K.lookup dt=some ⟨et,er,.func (PySem.W.fnOf "law" "law" (a3W a79) (a2s a79) (a0h a79) .none dD dE dF dC cX dG),es⟩) (eB:PySem.W.codeIn K cX "law"=true) (eC:PySem.W.keepIn K (.ref dt)=true)
  (eD:PySem.W.nsIn K ku "all"=some none)
  (dj:PySem.W.nsIn K ku "isinstance"=some none)
  (eE:PySem.W.nsIn K ku "str"=some none)
  (eF:PySem.W.nsIn K ku "len"=some none)
  (eu:PySem.W.nsIn K ku "bool"=some none)
  (eG:PySem.W.nsIn K ku "int"=some none)
  (eH:PySem.W.nsIn K ku "min"=some none)
  (eI:PySem.W.nsIn K ku "max"=some none)
  (ev:PySem.W.nsIn K ku "dict"=some none)
  (ep:PySem.W.nsIn K ku "range"=some none)
  (eg:PySem.W.nsIn K ku "sorted"=some none)
  (ew:PySem.W.nsIn K ku "list"=some none)
  (dB:PySem.W.nsIn K ku "reversed"=some none)
  (eq:PySem.W.nsIn K ku "tuple"=some none)
  (dk:PySem.W.nsIn K ku "ValueError"=some none)
  (cM:PySem.W.nsIn K ku "LONGEST_NAME"=some (some (.int 8 bD)))
  (cW:PySem.W.nsIn K ku "LAST_MOMENT"=some (some (.int 1000000000000 bS))) :
  ∃ fd:kx,(∀ (s:Shared) (v:Value),lH s fd ⟨[v],[]⟩ [("script",v)])/\∀ base:Heap,K.In base->base.Ns ku mg->FnOk l.prog w K mg base CX0 7 fa fd ["script"] (lowP K a9h):=by
 have e:=hfa.symm.trans (PySem.W.mg_of X G eh);cases e;obtain⟨d_p_is_name,bz⟩:=bz;obtain⟨d_p_is_moment,a9⟩:=a9;obtain⟨d_p_is_stretch,a2⟩:=a2;obtain⟨d_p_earlier_end,aX⟩:=aX;obtain⟨d_p_check_name,a3⟩:=a3;obtain⟨d_p_check_moment,aS⟩:=aS;obtain⟨d_p_check_stretch,aM⟩:=aM;obtain⟨d_p_check_in_reach,aI⟩:=aI;obtain⟨d_p_is_over,bA⟩:=bA;obtain⟨d_p_worths_in,ba⟩:=ba;obtain⟨d_p_worth_in,bh⟩:=bh;obtain⟨d_p_ahead_of,bi⟩:=bi;obtain⟨d_p_with_alike_joined,aC⟩:=aC;obtain⟨d_p_from_on,bB⟩:=bB;obtain⟨d_p_put_on,bP⟩:=bP;obtain⟨d_p_check_telling,aN⟩:=aN;obtain⟨d_p_line_behind,aY⟩:=aY;obtain⟨d_p_run_of,bQ⟩:=bQ;obtain⟨d_p_is_standing,aZ⟩:=aZ;obtain⟨d_p_tiled_on,bj⟩:=bj;obtain⟨d_p_stands_at,bb⟩:=bb;obtain⟨d_cell_at,b2⟩:=b2;obtain⟨d_mix,dx⟩:=dx;obtain⟨d_parts,cG⟩:=cG;obtain⟨d_names,cH⟩:=cH;obtain⟨d_telling,b3⟩:=b3;obtain⟨d_worth,cI⟩:=cI;obtain⟨d_moments,b4⟩:=b4;obtain⟨d_shown,cJ⟩:=cJ;obtain⟨d_is_line,b5⟩:=b5;obtain⟨d_Sheet_check_knowing,af⟩:=af;obtain⟨d_Sheet_known_line,ar⟩:=ar;obtain⟨d_Tiled_known_line,au⟩:=au;obtain⟨d_Sheet_line_at,av⟩:=av;obtain⟨d_Sheet_keys_at,aw⟩:=aw;obtain⟨d_own,dy⟩:=dy;obtain⟨d_Sheet_worth_at,ak⟩:=ak;obtain⟨d_asked,cK⟩:=cK;obtain⟨d_bad_name,bR⟩:=bR;obtain⟨d_bad_stretch,bc⟩:=bc;obtain⟨d_bad,dA⟩:=dA;obtain⟨d_Sheet_keep_line,az⟩:=az;obtain⟨d_Tiled_keep_line,aA⟩:=aA;obtain⟨d_Sheet_tell,aJ⟩:=aJ;obtain⟨d_refused,cb⟩:=cb;obtain⟨d_Sheet___init__,al⟩:=al;obtain⟨d_Tiled_tiles,aQ⟩:=aQ;obtain⟨d_Sheet_first,aF⟩:=aF;obtain⟨d_Sheet_knowings,am⟩:=am
 let a:Ad:=⟨bv,d_p_is_name,a5,d_p_is_moment,a0,d_p_is_stretch,aU,d_p_earlier_end,a1,d_p_check_name,aR,d_p_check_moment,aK,d_p_check_stretch,aG,d_p_check_in_reach,bw,d_p_is_over,a6,d_p_worths_in,be,d_p_worth_in,bf,d_p_ahead_of,aB,d_p_with_alike_joined,bx,d_p_from_on,bG,d_p_put_on,aL,d_p_check_telling,aV,d_p_line_behind,bH,d_p_run_of,aW,d_p_is_standing,bg,d_p_tiled_on,a7,d_p_stands_at,bW,d_cell_at,dq,d_mix,cx,d_parts,cy,d_names,bX,d_telling,cz,d_worth,bY,d_moments,cA,d_shown,bZ,d_is_line,ae,d_Sheet_check_knowing,an,d_Sheet_known_line,ao,d_Tiled_known_line,ap,d_Sheet_line_at,aq,d_Sheet_keys_at,dr,d_own,ah,d_Sheet_worth_at,cB,d_asked,bI,d_bad_name,a8,d_bad_stretch,ds,d_bad,ax,d_Sheet_keep_line,ay,d_Tiled_keep_line,aH,d_Sheet_tell,b0,d_refused,ai,d_Sheet___init__,aP,d_Tiled_tiles,aE,d_Sheet_first,aj,d_Sheet_knowings,fa,(PySem.W.fnOf "law" "law" (a3W a79) (a2s a79) (a0h a79) .none dD dE dF dC cX dG),ac,aa,ag,ab,aO,ad,bJ,a4,cc,cd,ce,bs⟩
 have F:Fns K a:=⟨bz,a9,a2,aX,a3,aS,aM,aI,bA,ba,bh,bi,aC,bB,bP,aN,aY,bQ,aZ,bj,bb,b2,dx,cG,cH,b3,cI,b4,cJ,b5,af,ar,au,av,aw,dy,ak,cK,bR,bc,dA,az,aA,aJ,cb,al,aQ,aF,am,b5K (st:=a79) eA eB eC⟩;have T:Txt K mg a:=⟨PySem.W.mg_of X G dm,PySem.W.mg_of X G cO,PySem.W.mg_of X G cE,PySem.W.mg_of X G cs,PySem.W.mg_of X G cF,PySem.W.mg_of X G cn,PySem.W.mg_of X G cf,PySem.W.mg_of X G b1,PySem.W.mg_of X G dn,PySem.W.mg_of X G cP,PySem.W.mg_of X G df,PySem.W.mg_of X G dg,PySem.W.mg_of X G bE,PySem.W.mg_of X G dp,PySem.W.mg_of X G dv,PySem.W.mg_of X G cg,PySem.W.mg_of X G ct,PySem.W.mg_of X G dw,PySem.W.mg_of X G cu,PySem.W.mg_of X G dh,PySem.W.mg_of X G cQ,PySem.W.mg_of X G dS,PySem.W.mg_of X G ex,PySem.W.mg_of X G ek,PySem.W.mg_of X G el,PySem.W.mg_of X G dT,PySem.W.mg_of X G em,PySem.W.mg_of X G dU,PySem.W.mg_of X G en,PySem.W.mg_of X G dV,⟨bF,aT,af.kp⟩,⟨bC,aT,af.kp⟩,⟨b6,b7,ar.kp⟩,⟨b8,b9,au.kp⟩,⟨cv,bt,av.kp⟩,⟨co,bt,av.kp⟩,⟨cw,bu,aw.kp⟩,⟨cp,bu,aw.kp⟩,PySem.W.mg_of X G ey,⟨cq,bk,ak.kp⟩,⟨ch,bk,ak.kp⟩,PySem.W.mg_of X G eo,PySem.W.mg_of X G dz,PySem.W.mg_of X G cR,PySem.W.mg_of X G ez,⟨ci,cj,az.kp⟩,⟨ck,cl,aA.kp⟩,⟨di,ca,aJ.kp⟩,⟨cS,ca,aJ.kp⟩,PySem.W.mg_of X G dW,⟨bl,aD,al.kp⟩,⟨bd,aD,al.kp⟩,⟨cT,cU,aQ.kp⟩,⟨cV,bT,aF.kp⟩,⟨cL,bT,aF.kp⟩,⟨cr,bm,am.kp⟩,⟨cm,bm,am.kp⟩,PySem.W.mg_of X G eh,PySem.W.mg_none_of X G eD,PySem.W.mg_none_of X G dj,PySem.W.mg_none_of X G eE,PySem.W.mg_none_of X G eF,PySem.W.mg_none_of X G eu,PySem.W.mg_none_of X G eG,PySem.W.mg_none_of X G eH,PySem.W.mg_none_of X G eI,PySem.W.mg_none_of X G ev,PySem.W.mg_none_of X G ep,PySem.W.mg_none_of X G eg,PySem.W.mg_none_of X G ew,PySem.W.mg_none_of X G dB,PySem.W.mg_none_of X G eq,PySem.W.mg_none_of X G dk,⟨dY,dZ,d0,d1⟩,PySem.W.mg_of X G dX,⟨d2,bl,aD,d3⟩,⟨cY,cZ,c0,c1⟩,PySem.W.mg_of X G d4,⟨d5,bd,aD,d6⟩,ei,d7,ej,d8,⟨⟨cY,cZ,c0,c1⟩,d9,ea,eb,ec⟩,cC,PySem.W.mg_of X G dH,PySem.W.mg_of X G c2,PySem.W.mg_of X G c3,PySem.W.mg_of X G cN,PySem.W.mg_of X G dI,PySem.W.mg_of X G c4,PySem.W.mg_of X G ed,PySem.W.mg_of X G ee,PySem.W.mg_of X G ef,PySem.W.mg_of X G du,dJ,c5,c6,b58 bK bL bM bN,b58 bn bo bp bq,b57 dK dL dM dN dO dP dQ dR,b57 c7 c8 c9 da db dc dd de,bU,bO,bV,br,dl,cD,⟨bD,PySem.W.mg_of X G cM⟩,⟨bS,PySem.W.mg_of X G cW⟩⟩
 exact⟨a.d49,λs v=>.of_eq rfl,λbase _ _=>c0V F T⟩
theorem walk {l:PySem.W.OpenLaw}{K:Params->Fg}(hn:l.most=some 63) (hdf:d.params.defaults=[])
  (hY:∀ (w:World) (h:Heap),YP w h->(K w.params).In h)
  (F:∀ (w:World) (mg:Str->Option Value) (fa:Addr) (h:Heap),(K w.params).In h->h.Ns ku mg->mg d.name=some (.ref fa) ->
   ∃ fd:kx,(∀ (s:Shared) (u:Value),lH s fd ⟨[u],[]⟩ [("script",u)])/\∀ base:Heap,(K w.params).In base->base.Ns ku mg->FnOk l.prog w (K w.params) mg base CX0 7 fa fd ["script"] (lowP (K w.params) a9h)) :
  PySem.W.WalkO q loose XP YP l.row.toRowW d [] (λf vs=>PySem.call f vs):=
 L2.walk_of hn (by decide) hdf ⟨rfl,by decide,by decide⟩ hY F (λ_ _ a g b e c=>b3z a g b (Fz.of e c)) λ_ _ _ _ _ z=>z
end Lw
end
open PySem PySem.W PyProof.Rows
set_option maxRecDepth 100000 in
set_option maxHeartbeats 0 in
theorem PySem.Challenge.cw_twotimes_k22_whole_tiled_by_tellings_holds : PySem.Challenge.rw_twotimes_k22_whole_tiled_by_tellings.Holds := by
 w_on;o_law;k_head;(case hw=>w_witness2)
 k_fill
 refine Lw.walk (l:=PySem.Challenge.rw_twotimes_k22_whole_tiled_by_tellings) rfl rfl (fun w h Y=>PySem.W.kIn_of Y) ?F
 case F=>
  intro w mg fa h KX G hmg;refine' Lw.all_mk KX G hmg ?aa ?ab ?ac ?ad ?ae ?af ?ag ?ah ?ai ?aj ?ak ?al ?am ?an ?ao ?ap ?aq ?ar ?au ?av ?aw ?ax ?ay ?az ?aA ?aB ?aC ?aD ?aE ?aF ?aG ?aH ?aI ?aJ ?aK ?aL ?aM ?aN ?aO ?aP ?aQ ?aR ?aS ?aT ?aU ?aV ?aW ?aX ?aY ?aZ ?a0 ?a1 ?a2 ?a3 ?a4 ?a5 ?a6 ?a7 ?a8 ?a9 ?ba ?bb ?bc ?bd ?be ?bf ?bg (Lw.fe_mk ?bh ?bi ?bj) ?bk (Lw.fe_mk ?bl ?bm ?bn) ?bo (Lw.fe_mk ?bp ?bq ?br) ?bs (Lw.fe_mk ?bt ?bu ?bv) ?bw (Lw.fe_mk ?bx ?bz ?bA) ?bB (Lw.fe_mk ?bC ?bD ?bE) ?bF (Lw.fe_mk ?bG ?bH ?bI) ?bJ (Lw.fe_mk ?bK ?bL ?bM) ?bN (Lw.fe_mk ?bO ?bP ?bQ) ?bR (Lw.fe_mk ?bS ?bT ?bU) ?bV (Lw.fe_mk ?bW ?bX ?bY) ?bZ (Lw.fe_mk ?b0 ?b1 ?b2) ?b3 (Lw.fe_mk ?b4 ?b5 ?b6) ?b7 (Lw.fe_mk ?b8 ?b9 ?ca) ?cb (Lw.fe_mk ?cc ?cd ?ce) ?cf (Lw.fe_mk ?cg ?ch ?ci) ?cj (Lw.fe_mk ?ck ?cl ?cm) ?cn (Lw.fe_mk ?co ?cp ?cq) ?cr (Lw.fe_mk ?cs ?ct ?cu) ?cv (Lw.fe_mk ?cw ?cx ?cy) ?cz (Lw.fe_mk ?cA ?cB ?cC) ?cD (Lw.fe_mk ?cE ?cF ?cG) ?cH (Lw.fe_mk ?cI ?cJ ?cK) ?cL (Lw.fe_mk ?cM ?cN ?cO) ?cP (Lw.fe_mk ?cQ ?cR ?cS) ?cT (Lw.fe_mk ?cU ?cV ?cW) ?cX (Lw.fe_mk ?cY ?cZ ?c0) ?c1 (Lw.fe_mk ?c2 ?c3 ?c4) ?c5 (Lw.fe_mk ?c6 ?c7 ?c8) ?c9 (Lw.fe_mk ?da ?db ?dc) ?dd ?de (Lw.fe_mk ?df ?dg ?dh) ?di ?dj ?dk (Lw.fe_mk ?dl ?dm ?dn) ?dp ?dq (Lw.fe_mk ?dr ?ds ?dt) ?du ?dv (Lw.fe_mk ?dw ?dx ?dy) ?dz ?dA ?dB (Lw.fe_mk ?dC ?dD ?dE) ?dF ?dG (Lw.fe_mk ?dH ?dI ?dJ) ?dK ?dL (Lw.fe_mk ?dM ?dN ?dO) ?dP ?dQ (Lw.fe_mk ?dR ?dS ?dT) ?dU (Lw.fe_mk ?dV ?dW ?dX) ?dY (Lw.fe_mk ?dZ ?d0 ?d1) ?d2 (Lw.fe_mk ?d3 ?d4 ?d5) ?d6 ?d7 (Lw.fe_mk ?d8 ?d9 ?ea) ?eb ?ec (Lw.fe_mk ?ed ?ee ?ef) ?eg ?eh (Lw.fe_mk ?ei ?ej ?ek) ?el ?em (Lw.fe_mk ?en ?eo ?ep) ?eq ?er (Lw.fe_mk ?es ?et ?eu) ?ev ?ew ?ex (Lw.fe_mk ?ey ?ez ?eA) ?eB ?eC (Lw.fe_mk ?eD ?eE ?eF) ?eG ?eH ?eI (Lw.fe_mk ?eJ ?eK ?eL) ?eM ?eN ?eO ?eP ?eQ ?eR ?eS ?eT ?eU ?eV ?eW ?eX ?eY ?eZ ?e0 ?e1 ?e2 ?e3 ?e4 ?e5 ?e6 ?e7
  all_goals try k_is
  (case ay=>kit_is)
  all_goals try k_is
  (case aJ=>k_exc)
  (case aK=>k_exc)
  (case aL=>k_exc)
  all_goals try k_is
  (case ba=>kit_is)
  (case bb=>kit_is)
  (case bc=>kit_is)
  (case bd=>kit_is)
  (case be=>kit_is)
  (case bf=>kit_is)
  all_goals try k_is
