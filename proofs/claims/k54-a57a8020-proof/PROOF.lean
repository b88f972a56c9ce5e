import PyProof.Rows.All
import Wide.All
import OpenK.AllK
import Wide.FinOn
import Lean
import PyProof.EqAt
import PyProof.EqKinds
import PyProof.TupleCall
import PyProof.CompFree
import PyProof.P3In
import PyProof.RaisesMany
import PyProof.StationsW
import PyProof.ExcClass3
import PyProof.ExcBaseAll.ValueError
import PyProof.RulesTry
import PyProof.RulesAs
import PyProof.NsDelKeeps
import KE.KTryMore
import PyProof.ExcArgs
import KE.RegKIsAll
import PyProof.Rows.EqDataRows
import KE.KLam
import KE.KSortKey
import KE.KNestM
import PyProof.DictItemsLoops
import PyProof.DictValues
import PyProof.DictWalks
import KE.KMinBuiltin
import KE.KEqDict
import KE.KIntText
import KE.KDictOf
import PyProof.StrBlockH
import KE.KWords
import PyProof.CallStr
import PyProof.StrLawsTight
import PyProof.StrLawsChain
import PyProof.AttrMissHeap
import KE.KSortTup
import Wide.Seal
import PySem.Challenge.RW_twotimes_k54_refused_by_a_book
set_option Elab.async false
set_option linter.all false
set_option maxRecDepth 100000
set_option compiler.extract_closed false
set_option bootstrap.genMatcherCode false
noncomputable section
open Lean Parser Tactic in
def pT:Nat->Syntax->MacroM (Array (TSyntax `rcasesPat))
|n+1,s=>do
 let q:=match s with|`(($p,$q,*))=>#[p]++q.getElems|`(⟨$q,*⟩)=>q.getElems|_=>#[]
 if q.size>0 then pure #[<-`(rcasesPat|⟨$(<-q.mapM λx=>do`(rcasesPatLo|$[$(<-pT n x):rcasesPat]|*)),*⟩)]
 else match s with
 |`($x:ident)=>pure #[<-`(rcasesPat|$x:ident)]
 |`(⟨⟩)=>pure #[<-`(rcasesPat|⟨⟩)]
 |`(($p))=>pure #[<-`(rcasesPat|($[$(<-pT n p):rcasesPat]|*))]
 |`($p||$q)=>pure ((<-pT n p)++(<-pT n q))
 |_=>pure #[<-`(rcasesPat|_)]
|_,_=>pure #[]
local macro_rules|`(tactic|let $c:letConfig $d:letDecl)=>`(tactic|have $c:letConfig $d:letDecl)
local macro_rules|`(tactic|let $p:term:=$e)=>do`(tactic|obtain $[$(<-pT 40 p):rcasesPat]|*:=$e)
local macro_rules|`(tactic|show $t)=>`(tactic|refine $t)
local macro_rules|`(tactic|ext $p*)=>`(tactic|rintro $p*)
local macro_rules|`(tactic|cbv)=>`(tactic|omega)
local macro_rules|`(tactic|o_head $t)=>`(tactic|simpa using $t)
local macro_rules|`(($a,$b,*))=>if b.elemsAndSeps.size%2=1 then `(⟨$a,$b,*⟩)else Lean.Macro.throwUnsupported
local macro_rules|`(↑$a)=>`(by simpa using $a)
open List renaming length_map→b7,mem_append→b9,mem_singleton→cc,mem_cons→cf,getElem?_map→cg,length_cons→ci,length_append→cj,mem_map→cm,getElem?_eq_some_iff→cn,map_append→cq,map_cons→cr,getElem?_eq_getElem→cu,mem_of_getElem?→cx,pairwise_append→cy,length_take→cz,lookup_cons→cA,all_cons→cB,append_assoc→cC,append_nil→cE,length→cF,pairwise_cons→cG,map_nil→cI,size_toArray→cN,Perm→cP,mem_map_of_mem→cS,mem_cons_of_mem→cT,filterMap_cons→cW,mem_append_right→cX,length_drop→cY,Pairwise→cZ,find?_cons→da,filter_cons→db,mem_filter→de,mem_cons_self→dg,take_add_one→dh,take_of_length_le→di,map_map→dl,take_length→dr,nodup_cons→dw,all_eq_true→dB,cons→dC,reverse_append→dD,pairwise_map→dE,not_mem_nil→dG,mem_filterMap→dH,reverse_singleton→dI,mem_of_mem_take→dJ,nil_append→dL,cons_append→dM,getElem?_append_right→dP,getElem?_append_left→dQ,reverse_cons→dR,any_cons→dS,length_filterMap_le→dU,length_pos_iff→dW,nodup_append→dX,any_eq_true→dY,map_congr_left→d1,range→d6,getElem?_set_ne→d7,getElem?_of_mem→d9,take_append_drop→ei,getElem?_set_self→en,lookup→eq,replicate→eD,length_singleton→eF,drop_eq_getElem_cons→eN,drop_eq_nil_of_le→eO,mem_of_mem_drop→eP,extract_eq_take_drop→eQ,singleton_append→eS,take_append_of_le_length→eU,map_id→eV,mem_of_find?_eq_some→eW,all_append→eX,mem_append_left→eY,of_mem_zip→e5,take_sublist→e6,length_eq_zero_iff→e9,getElem_mem→ff,pairwise_singleton→fg,getElem?_drop→fh,pairwise_iff_getElem→fi,getElem?_take→fk,drop_append→fu,eraseIdx_cons_succ→fv,ext_getElem?→fw,take_succ_cons→fx,map_eq_nil_iff→fy,find?_eq_none→fz,find?_some→fA,find?_cons_of_neg→fB,getElem?_eq_none_iff→fC,mem_range→fE,getElem_inj→fF,filterMap_map→fJ,length_set→fN,filterMap_append→fO,getD_eq_getElem?_getD→fP,drop_sublist→fR,perm_middle→fS,perm_append_comm→fU,drop_append_of_le_length→fW,flatten_cons→fX,countP_cons→f6,getElem?_eq_none→f7,foldl_append→f9,find?_append→gb,getLast?_eq_none_iff→gg,dropLast_subset→gj,length_nil→gk,cons_lt_cons_iff→gm,rel_of_pairwise_cons→gw,filter_eq_nil_iff→gx,filter_sublist→gy,length_filter_le→gz,find?_isSome→gA,find?_cons_of_pos→gF,perm_singleton→gG,perm_cons→gH
open Nat renaming le_refl→b8,ne_of_lt→cv,le_trans→cw,lt_of_lt_of_le→cH,zero_le→cM,le_of_lt→df,lt_irrefl→du,le_succ→dO,le_of_eq→eC,lt_of_le_of_lt→eI,lt_succ_of_lt→eL,zero_add→eT,ne_of_gt→eZ,lt_trans→e8,add_sub_cancel→fj,add_zero→ft,lt_succ_self→fH,min_le_right→fI,le_of_ble_eq_true→fL,add_assoc→fY
open False renaming elim→cb
open Int renaming le_trans→cD,le_refl→cK,le_of_lt→cQ,eq_ofNat_of_zero_le→d3,not_lt→eR
open Bool renaming false_ne_true→cJ,true_and→cO,and_eq_true→cV,and_false→dy,eq_iff_iff→dN,and_true→d4,and_eq_true_iff→ej,false_eq_true→fq,false_and→ge,or_eq_false_iff→gC,true→jO,false→jP
open Option renaming some→cL,isSome_iff_exists→eE,map_some→eJ,getD_none→e7,isSome_map→fK,bind_some→fM,none→jN
open Array renaming toList_push→cR,getElem?_toList→dk,length_toList→d8,getElem?_eq_some_iff→eK,perm_iff_toList_perm→eM,Perm→fm,append_assoc→fD,mem_toList_iff→fG,mem_of_getElem?→fQ,toList_extract→fV,getElem?_modify→fZ,append_empty→f8,all_eq_true_iff_forall_mem→gq
open Or renaming inr→cU,inl→dA
open PySem renaming sizeLine→gI,wpAny_bind→gK,starEach→gM,Program→gO,compareOp→gQ,wpAny_pure→gS,NameKind→gT,mainGlobals→gU,wpAny_mono→gX,Builtin→gY,binaryOp→gZ,holding→g0,sizeLine_eq→g7,FuncData→g9,standAt→hI,wpAny_holding→ic,sysModules→ie,tupleKind→ig,swapsWith→ii,getMethod→ij,callWith→ik,backToKw→im,keywordEach→io,assignEach→ir,inplaceOp→iu,SetTable→iw,bootBuiltins→iy,wpAny_truthy_bool→iz,PassesOwn→iA,storedH→iB,foldedSetIterable→iC,codeAny→iE,attributeBase→iF,wpAny_execs_nil→iG,behindInMarks→iH,typeIs_str→iI,sliceBounds→iJ,callerA→iK,valueAt→iM,setItem→iN,DictEntry→iO,BindsTo→iP,wpAny_field→iQ,compEnvC→iR,wpAny_passesOwn→iV,wpAny_call→iW,codeAny_mono→iX,wpAny_Call_Name_kw→iY,Keyword→iZ,getItem→i3,tupleKind_room_in1→i6,notedBy→i7,wpAny_rule→ja,wpAny_execs_cons→jc,Operator→jd,release→je,unaryOp→jf,lastMarks→jg,leaving→jh,wpAny_call_entry→ji,call_meetsIn→jk,noteFrame→jl,wpAny_getItem_str_slice→jm,post_val_or_str→jo,GenState→jp,builtinsNs→jq,storeName→jr,wpAny_Name→js,wpAny_standAt→jt,swapsWithSole→ju,swappedStores→jv,letOwnedTupleGo→jw,wpAny_pyIter_list→jx,bindArgs→jy,cellsFrom→jz,wpAny_newObj_type→jA,seqIndex_of→jB,seqIndex_neg→jC,call_meets→jD,compPost→jE,wpAny_attempt→jF,unsupported→jG,wpAny_newList→jK,wpAny_getItem_of→jM
open PyProof.Rows renaming wpS_bind→gJ,wpS_pure→gL,pendingOf→gR,wpS_forRange→g5,wpS_mono→hZ,failedOf→h7,SortKind→h9,wpS_modify→ib,wpS_get→ip,AllBare→iq,pairsOf→iU,IntsAre→i5,reverseSlice'→i8,setPending→i9,subscriptTail_builtinR→jj,mergeAt'→jH,listUpdate_at→jI,seqEpoch_at→jJ,pairsOf_toList→jL
abbrev Fg:=PySem.W.Frag
set_option tactic.hygienic false
namespace PySem.W.Fast
noncomputable def z:=0
def tw102634840482432635:=z
def tw3723924848424742370:=z
def tw12502169282343593282:=z
def tw13281977372896894774:=z
def tw9660149111287107452:=z
def tw6419317927923010061:=z
def tw15488071918200603875:=z
def tw10686829501515392108:=z
def tw8345248739141288728:=z
def tw5058869015731573271:=z
def tw9460145076147424766:=z
def tw12131840335342455445:=z
def tw6616080708625261569:=z
def tw8922210788497177737:=z
def tw15896268684526497312:=z
def tw6154836915673138728:=z
def tw8482869791353499708:=z
def tw14952142476351876989:=z
def tw4450183841294176809:=z
def tw9221457131629605076:=z
def tw13932924943786369624:=z
def tw17783712827146778977:=z
def tw18276326278686065376:=z
def tw2119948110318182852:=z
def tw14873017370170207264:=z
def tw17419020453539242966:=z
def tw8875044107810153713:=z
def tw10445554389165606633:=z
def tw10387427063595301147:=z
def tw880993662947295590:=z
def tw15289058337590817713:=z
def tw9490318735681370955:=z
def tw158809138697040298:=z
def tw4051426380824629577:=z
def tw13275461191608068398:=z
def tw5617584027860326484:=z
def tw5867829931312894380:=z
def tw2131407378557814415:=z
def tw15665066856027125498:=z
def tw15855333271953170205:=z
def tw17574042825175008176:=z
def tw8325377414991452426:=z
def tw6973733867793952812:=z
def tw15724023332919013578:=z
def tw8721570233691792845:=z
def tw2603555392342070439:=z
def tw1838967833247934748:=z
def tw12257696878591680650:=z
def tw9997342856216670615:=z
def tw11374370217392958803:=z
def tw4394965578309233538:=z
def tw11129687064710913026:=z
def tw4155832203890682110:=z
def tw14126245102851800776:=z
def tw5719300071562949751:=z
def tw9775707028341825563:=z
def tw7546254741474557727:=z
def tw5288173802850377469:=z
def tw12895860070624981884:=z
def tw3737851402122026728:=z
def tw9602784160182092122:=z
def tw7965909405273319412:=z
def tw4798002006852240959:=z
def tw4342117522925875254:=z
def tw5365456933330805929:=z
def tw5065092341808535038:=z
def tw8490742204412810792:=z
def tw11623569677597407354:=z
def tw14043257688929522768:=z
def tw2497117536590879363:=z
def tw9894476910701437472:=z
def tw9075580125389337688:=z
def tw6752375354421752543:=z
def tw17992642128773298125:=z
def tw12780236373637464423:=z
def tw13313663929430984889:=z
def tw15059019452271582332:=z
def tw693054815217070779:=z
def tw6922348278668503780:=z
def tw5515604977891384127:=z
def tw12241185866362834523:=z
def tw18345495193953423502:=z
def tw16152214327504600279:=z
def tw7328529215909235386:=z
def tw7578758651527904440:=z
def tw14434704569434708681:=z
def tw9997079382182524380:=z
def tw9625495182132005054:=z
def tw7683103659698012993:=z
def tw2960224048907295139:=z
def tw2630002257832133633:=z
def tw16263317114053966107:=z
def tw10922102224033626690:=z
def tw4623890706779341806:=z
def tw10487350405194608008:=z
def tw10553410953706365807:=z
def tw1257579032720166979:=z
def tw18215880837061727231:=z
def tw6733744868813605338:=z
def tw12877297770768435854:=z
def tw8479305244579374192:=z
def tw9679111554874500728:=z
def tw5777510811958271034:=z
def tw3739267192891344511:=z
def tw12357882674386624996:=z
def tw3084838715660617325:=z
def tw16461297675258044665:=z
def tw14268442186806042809:=z
def tw15809508813253975777:=z
def tw11930839249924590430:=z
def tw9096103500335902940:=z
def tw10150683904618549612:=z
def tw6672214639667604641:=z
def tw3833068304356891795:=z
def tw1586826169375856482:=z
def tw1551725407761626838:=z
def tw6056264615306562978:=z
def tw7961971802637032821:=z
def tw17832025885002236125:=z
def tw2846445388151516810:=z
def tw15138617455031908387:=z
def tw11231526408943144567:=z
def tw8406354200890016545:=z
def tw13463528832711721606:=z
def tw3443688779866153781:=z
def tw1113718421626925927:=z
def tw10393620025356615737:=z
def tw8730453935425156445:=z
def tw3846200445986364243:=z
def tw3777303817262988140:=z
def tw13004002111431441905:=z
def tw10370343699579038479:=z
def tw5662386929400942788:=z
def tw8083291449399796716:=z
def tw3310640368366877101:=z
def tw4628463188891177714:=z
def tw4040048670128100607:=z
def tw3947269742203450902:=z
def tw11030219081119991786:=z
def tw13434699335804074485:=z
def tw3363525588241157933:=z
def tw7542991524577837817:=z
def tw1321460406155795683:=z
def tw13034928984057892259:=z
def tw18045222955902720465:=z
def tw1260901365462904614:=z
def tw7067601107777336023:=z
def tw2987811704320068657:=z
def tw18157533587672520668:=z
def tw8991456827637854115:=z
def tw12402603600019522453:=z
def tw1036474141827537811:=z
def tw5416751754876897397:=z
def tw7283144043371633360:=z
def tw14582099863556260206:=z
def tw13879417692817772169:=z
def tw5835741161204874084:=z
def tw4090540312245832805:=z
def tw1223854704224892908:=z
def tw6278058841680278396:=z
def tw10720440789384137261:=z
def tw9495742338987238609:=z
def tw12943949218715902488:=z
def tw16053730334952826389:=z
def tw2768715505328697628:=z
def tw17626898909503950277:=z
def tw5696840420526323505:=z
def tw4294834549223771522:=z
def tw2086505304921911756:=z
def tw967482085687749132:=z
def tw14991658421098801268:=z
def tw13744462677311205424:=z
def tw16324380950871918966:=z
def tw485300828017706314:=z
def tw431230924975146084:=z
def tw13538571231466861478:=z
def tw7465703185309019080:=z
def tw2917510604151548090:=z
def tw10237115610789050736:=z
def tw10035961277100080823:=z
def tw16447410694285936405:=z
def tw10924514814727434469:=z
def tw12442011105880353881:=z
def tw6781999071502450667:=z
def tw1049414447671919194:=z
def tw17094801266913542264:=z
def tw4888467798057046434:=z
def tw5317501103249200052:=z
def tw5484125365849502212:=z
def tw15569613226953157779:=z
def tw12825688759542522293:=z
def tw14189704720548523742:=z
def tw2370339549693668655:=z
def tw9230240491076043161:=z
def tw5094733391357344586:=z
def tw5128341337463948460:=z
def tw16314605654810149197:=z
def tw15999434957291008707:=z
def tw12457492134844427181:=z
def tw13917105422750372899:=z
def tw4594779314851610829:=z
def tw6026899769132877185:=z
def tw9220790690676823142:=z
def tw15499475901636127035:=z
def tw10893184450235040935:=z
def tw16021126782379358035:=z
def tw3245635318978645146:=z
def tw12912237156124639800:=z
def tw16791032880436381677:=z
def tw12082068196872099636:=z
def tw13310988226107002724:=z
def tw9060723660740866588:=z
def tw7743773090986124738:=z
def tw7818062331211979116:=z
def tw3002871766068173509:=z
def tw18056887568951608781:=z
def tw8506346083743567854:=z
def tw7091879124059544263:=z
def tw4362628827423555969:=z
def tw12063064717724398171:=z
def tw17222224348350117194:=z
def tw12037106562333245437:=z
def tw10685345044777623554:=z
def tw8647306017660345344:=z
def tw306541594988307703:=z
def tw2859371448382131324:=z
def tw11660003682454434776:=z
def tw11374631373238256113:=z
def tw10144605404578780285:=z
def tw17706754804219765832:=z
def tw16250860675634864962:=z
def tw12610521073256312097:=z
def tw3429674935761725133:=z
def tw7286720907229176461:=z
def tw7879764560039326567:=z
def tw5940351344655372201:=z
def tw16712589464108719248:=z
def tw11406484082880841112:=z
def tw7338974070504568734:=z
def tw7992097178550701866:=z
def tw11174433305398648865:=z
def tw9027709975297431896:=z
def tw15261712961599133407:=z
def tw18428585029729454188:=z
def tw12993420275113729629:=z
def tw9926196632699498145:=z
def tw8129379762416875661:=z
def tw4036029892446269310:=z
def tw7370830473467047325:=z
def tw102845721119508440:=z
def tw14343882313194750152:=z
def tw10309925579382625681:=z
def tw2348757333740168182:=z
def tw236280767586105698:=z
def tw14898765625714705171:=z
def tw11053349503469652811:=z
def tw1433206606870603823:=z
def tw16306146192432278103:=z
def tw15857668026476594932:=z
def tw11625623141567324178:=z
def tw17046309328223353964:=z
def tw7903522279848901108:=z
def tw18431054254930505365:=z
def tw15071183387660188939:=z
def tw4477512083946806962:=z
def tw8621394518772649597:=z
def tw14058648511019836379:=z
def tw2600689724516739813:=z
def tw9293670167532010732:=z
def tw8773991481043492507:=z
def tw13758057054159077895:=z
def tw9184268786395392638:=z
def tw2131255411667001128:=z
def tw10070774080710723742:=z
def tw14141038011619900788:=z
def tw10606060435568185924:=z
def tw2777272682275363860:=z
def tw2290754299194850033:=z
def tw9089040872593600126:=z
def tw13454725833532473539:=z
def tw14279641639303519523:=z
def tw14463137449522124055:=z
def tw1055354850694444878:=z
def tw7280877616803755314:=z
def tw15306007586397329906:=z
def tw15433884707008917255:=z
def tw13132682847683292424:=z
def tw4191484276772480021:=z
def tw9069497530625645142:=z
def tw14132767475385581276:=z
def tw9463317045179500590:=z
def tw3832746490078713175:=z
def tw912894269188859780:=z
def tw13091902303161065369:=z
def tw3576605834618403660:=z
def tw374458978417380501:=z
def tw15161351936458459316:=z
def tw11127460273137629758:=z
def tw7124011516608989497:=z
def tw4670674868986642247:=z
def tw15498128147620697767:=z
def tw16259520096274899646:=z
def tw9459145354029667965:=z
def tw7786678895138494919:=z
def tw6974503057575048370:=z
def tw6892703077888130821:=z
def tw16005522826646319146:=z
def tw147692989918328436:=z
def tw12019499251132210427:=z
def tw11665290723641965361:=z
def tw2086321569287968740:=z
def tw12672665824173220037:=z
def tw28409603574722037:=z
def tw9224146114548563938:=z
def tw3071267549117250482:=z
def tw2574185501552667031:=z
def tw16815327165912587762:=z
def tw13618125327178719629:=z
def tw3710059612807313751:=z
def tw15549156806587149289:=z
def tw4625741813442061323:=z
def tw2282922578753823721:=z
def tw13605908436013862319:=z
def tw8305420319921365567:=z
def tw16297363976718225516:=z
def tw12790510277790536341:=z
def tw3515044240629682065:=z
def tw18430214713943016340:=z
def tw11465130396114269696:=z
def tw10829252654536163878:=z
def tw8561108944622264302:=z
def tw10134794601573062607:=z
def tw5820853768246817281:=z
def tw17970037649703673235:=z
def tw15623256580552862726:=z
def tw2505457803456666002:=z
def tw4583505589211010877:=z
def tw13164478658985391744:=z
def tw805664509360573819:=z
def tw9254410283912489908:=z
def tw11005827575909315050:=z
def tw14885543534365642994:=z
def tw5756360628080848696:=z
def tw11889292358114376749:=z
def tw10737338914621903663:=z
def tw1204478616973521681:=z
def tw17543363893094999640:=z
def tw415805707382129865:=z
def tw5250632265382609284:=z
def tw9578031558201170482:=z
def tw15600891523920483293:=z
def tw15729628839196268485:=z
def tw309433033096813701:=z
def tw1528627811085151346:=z
def tw5575364897594006775:=z
def tw6122340903959237152:=z
def tw11392469147218555660:=z
def tw10059362562632879416:=z
def tw8109767407998888337:=z
def tw16928381819317290636:=z
def tw9393501707774842730:=z
def tw7703557789119637704:=z
def tw2683432180282157506:=z
def tw10440597238714428923:=z
def tw6457674893913148531:=z
def tw13713444027840879184:=z
def tw3155959570853434586:=z
def tw17845888135902644462:=z
def tw2702454945831163957:=z
def tw4706431959436630417:=z
def tw16991123202468192385:=z
def tw12311276757515394628:=z
def tw6054329327162477092:=z
def tw14343800320830084041:=z
def tw1352785505919442835:=z
def tw1407149845176098027:=z
def tw4021236412202489786:=z
def tw13471629959153631090:=z
def tw3799099159593197762:=z
def tw8194479242062359060:=z
def tw713055212725952129:=z
def tw12971704150071148342:=z
def tw6623185895413151589:=z
def tw3530623511340387411:=z
def tw3374862532143361981:=z
def tw14631324942289441687:=z
def tw16654766308274628668:=z
def tw12831781605314435152:=z
def tw9218327579247721583:=z
def tw9763747272585535569:=z
def tw5062672606489613593:=z
def tw17469389113882202428:=z
def tw3575317490201947198:=z
def tw15064818773918340895:=z
def tw9701161293443607189:=z
def tw7923850790525739642:=z
def tw16161311012047023457:=z
def tw9290491140230322187:=z
def tw14561831730394512953:=z
def tw13919448975231492030:=z
def tw15236474846051772125:=z
def tw1196246533413643781:=z
def tw15708984745074232088:=z
def tw13369203425596306906:=z
def tw12204184682266754073:=z
def tw8866214842481074532:=z
def tw1897454174871922269:=z
def tw62668874745912853:=z
def tw7819890391620574111:=z
def tw5656623932233578179:=z
def tw9344424600983822576:=z
def tw10369338184388918795:=z
def tw8505210008739727413:=z
def tw1494757373436962912:=z
def tw8444457446342489356:=z
def tw8407632270845697248:=z
def tw14106633022586948326:=z
def tw9911102485507153477:=z
def tw1275582321889090604:=z
def tw10313544578843519760:=z
def tw4019621023796243268:=z
def tw16483326560600287666:=z
def tw7220606595590045502:=z
def tw1562962788477068254:=z
def tw15510432253180467377:=z
def tw4026933850364326240:=z
def tw1459434324293556187:=z
def tw629660359289609207:=z
def tw10056450891623592411:=z
def tw15539750978656933925:=z
def tw15791915254956934583:=z
def tw6959684231050071410:=z
def tw7167651221789316423:=z
def tw2528055619131396746:=z
def tw5636797597481024673:=z
def tw14286170200977566231:=z
def tw7134178396056569812:=z
def tw27173549528348225:=z
def tw972817186847739927:=z
def tw15564871756354989559:=z
def tw6186796733271938136:=z
def tw17311522116712922011:=z
def tw17536628120173370260:=z
def tw14520815401306490674:=z
def tw12640052233041022827:=z
def tw3434715848490461801:=z
def tw5346878856698188236:=z
def tw15260334743075518444:=z
def tw11352228786187000770:=z
def tw13517537876755873115:=z
def tw15912697808391255327:=z
def tw12365128354893909196:=z
def tw5107359568881357354:=z
def tw8439689693978430399:=z
def tw11572800986351276897:=z
def tw17261412962456856590:=z
def tw13318437184839916436:=z
def tw11156509110467925775:=z
def tw15762053545558255041:=z
def tw16593466131023665609:=z
def tw3069354253187819198:=z
def tw16926629216855388451:=z
def tw12778210558116838918:=z
def tw15524673523312871217:=z
def tw13630166238658278604:=z
def tw15152200749230230216:=z
def tw11617474976418468045:=z
def tw2244181322324982415:=z
def tw7423442041194303268:=z
def tw5780783652823860550:=z
def tw264130437714812871:=z
def tw7389263994013463475:=z
def tw1645005048927452766:=z
def tw4999433909734193771:=z
def tw8295014945903064255:=z
def tw7550514304498192827:=z
def tw14766268176380435212:=z
def tw14169108172325160160:=z
def tw9498466170882994368:=z
def tw17055436226038067204:=z
def tw10730139807183030047:=z
def tw16149533806890973610:=z
def tw12982433019110291187:=z
def tw17622057988153581090:=z
def tw4830841668673997228:=z
def tw13923476529331693532:=z
def tw13536696782736462498:=z
def tw10314931747308954296:=z
def tw11772997643212149094:=z
def tw4742830933363156869:=z
def tw16884155599294076053:=z
def tw1653197344647831225:=z
def tw10643355082761212324:=z
def tw16293946249814035032:=z
def tw2378245779618566093:=z
def tw14006450913284708820:=z
def tw1726463217906418829:=z
def tw8250780492853489420:=z
def tw13014797865870130881:=z
def tw7499881302236799170:=z
def tw10704365857968773366:=z
def tw7197953894856561630:=z
def tw4380322067196315137:=z
def tw14717459983576420446:=z
def tw15857659026019921276:=z
def tw207415552273205021:=z
def tw4880259019279567005:=z
def tw1171230963003006165:=z
def tw2816062164578947116:=z
def tw2156772711587568429:=z
def tw13377639519990831527:=z
def tw13388571970582356319:=z
def tw2108719913972097827:=z
def tw6047255402852783611:=z
end PySem.W.Fast
set_option maxHeartbeats 4000000
namespace PySem
noncomputable def a0B(env:Env):List (Str×gT)->List (Str×Addr)->List (Str×Addr)
 |[],cs=>cs
 | (n,k,)::r,cs=>if (k==.free)=jO then a0B env r ((n,(env.cells.lookup n).getD 0,)::cs) else a0B env r cs
def a35(h:∀x∈scope.names,x.2=.free->∃c,env.cells.lookup x.1=cL c):closureFor scope env=pure (a0B env scope.names []):=by
 simp only[closureFor]
 suffices H:∀l b,(∀x∈l,x.2=.free->∃c,env.cells.lookup x.1=cL c) ->
   forIn l b _=pure (a0B env l b) by
  rw[H scope.names [] h];rfl
 ext l
 induction l with
 |nil=>ext b _;rfl
 |cons x l ih=>
  ext b j;let(n,k):=x;let g:=λb=>ih b λy o=>j y (cT _ o);rw[List.forIn_cons]
  by_cases hk:k=.free
  .subst hk;let(c,m):=j _ dg rfl;let f:cellOf env n=pure c:=by unfold cellOf;rw[m]
   rw[if_pos (show (gT.free==gT.free)=jO from rfl),f];let e:a0B env ((n,gT.free,)::l) b=a0B env l ((n,c,)::b):=by
    change (if (gT.free==gT.free)=jO then _ else _)=_
    rw[m];rfl
   rw[e,<- g ((n,c,)::b)]
   rfl
  .let i:(k==gT.free)=jP:=↑hk
   let e:a0B env ((n,k,)::l) b=a0B env l b:=by
    change (if (k==gT.free)=jO then _ else _)=_
    rw[i];rfl
   rw[e,<- g b];rw[i,if_neg cJ]
   rfl
def a36:∀(l:List (Str×gT))(cs:List (Str×Addr)),(∀y∈l,y.2=.free->∃c,env.cells.lookup y.1=cL c)->(∀y c,cs.lookup y=cL c->env.cells.lookup y=cL c) ->
  ∀c,(a0B env l cs).lookup x=cL c->env.cells.lookup x=cL c:=by ext z0;induction z0 with
 |nil=>ext cs _ hc c h;show hc x c h
 |cons q0 r I0=>
  let(n,k):=q0;ext cs hx hc c h;let g:=λy m=>hx y (cT _ m);unfold a0B at h
  split at h
  .rename_i hk
   let f:k=.free:=↑hk
   let(d,j):=hx (n,k,) dg f;show I0 _ g (λy i a=>?_) c h;rw[cA]at a;cases e:y==n with
   |true=>
    rw[e]at a;let o:y=n:=↑e
    subst o;rw[j]at a ⊢;show a
   |false=>rw[e]at a;show hc y i a
  .show I0 cs g hc c h
def a5s:∀(l:List (Str×gT))(cs:List (Str×Addr))(c:Addr),cs.lookup x=cL c->∃c',(a0B env l cs).lookup x=cL c':=by ext z0;induction z0 with
 |nil=>ext cs c h;show(c,h)
 |cons q0 r I0=>
  let(n,k):=q0;ext cs c h;unfold a0B
  split
  .cases e:x==n with
   |true=>show I0 _ _ (by rw[cA,e])
   |false=>show I0 _ c (by rw[cA,e];show h)
  .show I0 cs c h
def a3K:∀(l:List (Str×gT))(cs:List (Str×Addr)),(x,gT.free,)∈l->∃c,(a0B env l cs).lookup x=cL c:=by ext z0;induction z0 with
 |nil=>ext cs h;cases h
 |cons _ r I0=>
  ext cs h;unfold a0B;let e||e:=cf.mp h
  .cases e;show a5s r _ ((env.cells.lookup x).getD 0) (by simp)
  .split
   .show I0 _ e
   .show I0 _ e
def a3v{env:Env}:∀(names:List (Str×gT)),
  (names.map λ(n,k,)=>if (k==gT.free&&env.scope.kind==.function&&env.kindOf n==cL .cell) then (n,gT.cell,) else (n,k,)).lookup x =
   (names.lookup x).map λk=>if (k==gT.free&&env.scope.kind==.function&&env.kindOf x==cL .cell)=jO then gT.cell else k:=by ext z0;induction z0 with
 |nil=>show rfl
 |cons q0 r I0=>
  let(n,k):=q0;let a:=I0
  change eq x ((if _=jO then _ else (n,k,))::_)=_
  cases hx:x==n with
  |true=>
   let e:x=n:=by grind
   subst e
   by_cases hc:(k==gT.free&&env.scope.kind==.function&&env.kindOf x==cL .cell)=jO
   simp only[cA,hx,eJ,if_pos hc];simp only[cA,hx,eJ,if_neg hc]
  |false=>
   by_cases hc:(k==gT.free&&env.scope.kind==.function&&env.kindOf n==cL .cell)=jO
   .rw[if_pos hc];simp only[cA,hx];show a
   .rw[if_neg hc];simp only[cA,hx];show a
def a1M(I:Nat->Shared->Prop)
  (turn:∀n s,I n s->wpAny (model prog w) A (pyNext it) (λr sj=>match r with
   |none=>R (.ok .next) sj
   |some v=>wpAny (model prog w) A (jw target it v) (λ_ sj=>wpAny (model prog w) A (assign target env v) (λ_ sv=>
     wpAny (model prog w) A (forIn ifs jO λc r=>if r=jO then do let ok <- isTrue c env (eval c env);pure (ForInStep.yield ok) else pure (ForInStep.yield r)) (λok sw=>
      if ok=jO then wpAny (model prog w) A (eval elt env) (λx sx=>
       wpAny (model prog w) A (call (.builtin "list.append") [acc,x]) (λ_ sy=>∃m,m<n/\I m sy) (i7 (model prog w) A env λe s'=>R (.error e) s') sx) (i7 (model prog w) A env λe s'=>R (.error e) s') sw
      else ∃m,m<n/\I m sw) (i7 (model prog w) A env λe s'=>R (.error e) s') sv) (i7 (model prog w) A env λe s'=>R (.error e) s') sj) (λ_ _=>False) sj) (λ_ _=>False) s)
  (n:Nat) (h:I n s) :
  iE (model prog w) A (.compLoop (.ListComp elt [(target,iter,ifs,0)] scope pos) 0 it acc env) R s:=by
 show codeAny_loop rfl I (λn s k=>?_) n h;show wpAny_noted (gK (jt (gK (gX (turn n s k) (λr d a=>?_) λ_ _ f=>f.elim))));cases r with
 |none=>show gS a
 |some v=>
  show gK (gX a (λ_ d a=>?_) λ_ _ f=>f.elim);show gK (gX a (λ_ p g=>gK (gX g (λl z b=>?_) λ_ _ f=>f)) λ_ _ f=>f);cases l with
  |false=>show gS (rfl,b)
  |true=>
   show gK (gK (gX b (λx o i=>gK (gX i (λ_ u j=>gS (gS (rfl,j))) λ_ _ f=>f)) λ_ _ f=>f))
end PySem
namespace L2
open PySem PySem.Spec PyProof.Rows
variable{P prog:gO}{w:World}{H H':Hp}{X:Cx}{pins:List (Addr×Obj)}{s:Shared}{pos tpos apos:Pos}{E:Value->Shared->Prop}{A:Around}{dx:Addr}{value:Expr}{es:List Expr}{sp:P3}{m:Str}{to:E3}{κ:KF}
abbrev Key:=Sum (Option Int) Str
noncomputable def b7c:Value->Bool
 |.none=>jO
 |_=>jP
noncomputable def a6K:Key->Value->Bool
 |.inl (cL k),v=>Value.isInt k v
 |.inl jN,v=>b7c v
 |.inr x,v=>Value.isStrOf x v
noncomputable def keyH(w:World):Key->Int
 |.inl (cL k)=>hashInt k
 |.inl jN=>reduceHash 0xFCA86420
 |.inr x=>hashStr w x
theorem a0o:∀{k:Key}{v:Value},a6K k v=jO->(∃i t,k=Sum.inl (cL i)/\v=Value.int i t)\/(∃x t,k=Sum.inr x/\v=Value.str x t)\/(k=Sum.inl jN/\v=Value.none)
 |.inl (cL i),v,h=>by
  let(t,e):=Value.isInt_shape h;show .inl (i,t,rfl,e)
 |.inl jN,v,h=>by
  cases v<;>first |show .inr (.inr (rfl,rfl)) |cases h
 |.inr x,v,h=>by
  let(t,e):=Value.isStrOf_shape h;show .inr (.inl (x,t,rfl,e))
def a7s(i:Int)(t:Tok):a6K (.inl (cL i)) (.int i t)=jO:=by simp[a6K,Value.isInt]
def a7t(x:Str)(t:Tok):a6K (.inr x) (.str x t)=jO:=by simp[a6K,Value.isStrOf]
def b4l(a b:Int):decide ((Sum.inl (cL a):Key)=Sum.inl (cL b))=(a==b):=by
 by_cases e:a=b
 .simp_all
 .simp_all
def b4m(a b:Str):decide ((Sum.inr a:Key)=Sum.inr b)=decide (a=b):=by simp
def a3E{a b:Key}(h:a≠b):decide (a=b)=jP:=decide_eq_false h
noncomputable def a0p(prog:gO)(w:World):PySem.KeyKind prog w Key where
 is:=a6K
 hash:=keyH w
 inj:=λv a b ha hb=>by
  let(i,t,rfl,rfl)||(x,t,rfl,rfl)||(rfl,rfl):=a0o ha
  .let(j,u,rfl,e)||(y,u,rfl,e)||(rfl,e):=a0o hb
   .injection e with e1 _;rw[e1]
   .show nomatch e
   .show nomatch e
  .let(j,u,rfl,e)||(y,u,rfl,e)||(rfl,e):=a0o hb
   .show nomatch e
   .injection e with e1 _;rw[e1]
   .show nomatch e
  .let(j,u,rfl,e)||(y,u,rfl,e)||(rfl,e):=a0o hb
   .show nomatch e
   .show nomatch e
   .rfl
 byValue:=λk v h=>by
  let(i,t,rfl,rfl)||(x,t,rfl,rfl)||(rfl,rfl):=a0o h<;>rfl
 pyHash:=λhv h=>by
  let(i,t,rfl,rfl)||(x,t,rfl,rfl)||(rfl,rfl):=a0o hv
  .show wpAny_pyHash_int h
  .show wpAny_pyHash_str h
  .show PySem.W.pyHash_slot (T:="NoneType") rfl F.slot_NoneType_hash F.entry_NoneType_hash (F.args_NoneType_hash_1 _) (beq_builtin_none _) (.inl rfl) (gK (gS (gK (wpAny_mkInt (gS (_,_,rfl,h))))))
 eqBool:=λhu hv h=>by
  let(i,t,rfl,rfl)||(x,t,rfl,rfl)||(rfl,rfl):=a0o hu
  .let(j,u,rfl,rfl)||(y,u,rfl,rfl)||(rfl,rfl):=a0o hv
   .rw[b4l]at h;show wpAny_eqBool_int h
   .rw[show decide ((Sum.inl (cL i):Key)=Sum.inr y)=jP from a3E (by simp)]at h;show SeqAt.EqAt.int_str i t y u _ _ _ _ h
   .rw[show decide ((Sum.inl (cL i):Key)=Sum.inl jN)=jP from a3E (by simp)]at h;show SeqAt.EqAt.int_none i t _ _ _ _ h
  .let(j,u,rfl,rfl)||(y,u,rfl,rfl)||(rfl,rfl):=a0o hv
   .rw[show decide ((Sum.inr x:Key)=Sum.inl (cL j))=jP from a3E (by simp)]at h;show SeqAt.EqAt.str_int x t j u _ _ _ _ h
   .rw[b4m]at h;show wpAny_eqBool_str h
   .rw[show decide ((Sum.inr x:Key)=Sum.inl jN)=jP from a3E (by simp)]at h;show SeqAt.EqAt.str_none x t _ _ _ _ h
  .let(j,u,rfl,rfl)||(y,u,rfl,rfl)||(rfl,rfl):=a0o hv
   .rw[show decide ((Sum.inl jN:Key)=Sum.inl (cL j))=jP from a3E (by simp)]at h;show SeqAt.EqAt.none_int j u _ _ _ _ h
   .rw[show decide ((Sum.inl jN:Key)=Sum.inr y)=jP from a3E (by simp)]at h;show SeqAt.EqAt.none_str y u _ _ _ _ h
   .rw[decide_eq_true rfl]at h;unfold PySem.eqBool;show ic ?_;show wpAny_ite_split (λ_=>gK (ja (gS h))) λhab=>absurd rfl hab
 «strs»:=λk x t v h=>by
  let(i,u,rfl,e)||(y,u,rfl,e)||(rfl,e):=a0o h
  .show nomatch e
  .injection e with e1 _
   subst e1;cases v<;>rfl
  .show nomatch e
def a5m(prog:gO)(w:World)(i:Int)(t:Tok):(a0p prog w).is (.inl (cL i)) (.int i t)=jO:=a7s i t
def a5n(prog:gO)(w:World)(x:Str)(t:Tok):(a0p prog w).is (.inr x) (.str x t)=jO:=a7t x t
inductive V where
 |non |bl (b:Bool) |int (i:Int) |str (x:Str) |byt (b:Array UInt8) |flt (b:UInt64) |ref (a:Addr) |ty (n:String)
 deriving DecidableEq
def RelV:V->Value->Prop
 |.non,u=>u=Value.none
 |.bl b,u=>u=Value.bool b
 |.int i,u=>∃t,u=Value.int i t
 |.str x,u=>∃t,u=Value.str x t
 |.byt b,u=>∃t,u=Value.bytes b t
 |.flt b,u=>∃t,u=Value.float b t
 |.ref a,u=>u=Value.ref a
 |.ty n,u=>u=Value.type n
abbrev Vals:List V->List Value->Prop:=Paired RelV
def Vals.length(r:Vals xs us):xs.length=us.length:=Paired.length r
theorem Vals.get:∀{xs:List V}{us:List Value}{i:Nat}{x:V},Vals xs us->xs[i]?=cL x->∃u,us[i]?=cL u/\RelV x u
 |_,_,_,_,.nil,e=>by simp at e
 |_,_,0,_,.cons r _,e=>by simp at e;subst e;show(_,rfl,r)
 |_,_,i+1,x,.cons _ t,e=>by
  let(u,b,a):=Vals.get t ↑e;show(u,↑b,a)
theorem Vals.set(r:RelV x u):∀{xs:List V}{us:List Value}(i:Nat),Vals xs us->Vals (xs.set i x) (us.set i u)
 |_,_,_,.nil=>.nil
 |_,_,0,.cons _ t=>.cons r t
 |_,_,i+1,.cons q t=>.cons q (Vals.set r i t)
def Vals.append:∀{xs ys:List V}{us ws:List Value},Vals xs us->Vals ys ws->Vals (xs++ys) (us++ws):=by ext z0 y0 x0 w0 v0;induction v0 with
 |nil=>ext s;show s
 |cons r t I0=>ext s;show .cons r (I0 s)
theorem Vals.take:∀{xs:List V}{us:List Value}(n:Nat),Vals xs us->Vals (xs.take n) (us.take n)
 |_,_,0,_=>.nil
 |_,_,_+1,.nil=>.nil
 |_,_,n+1,.cons r t=>.cons r (Vals.take n t)
theorem Vals.drop:∀{xs:List V}{us:List Value}(n:Nat),Vals xs us->Vals (xs.drop n) (us.drop n)
 |_,_,0,r=>r
 |_,_,_+1,.nil=>.nil
 |_,_,n+1,.cons _ t=>Vals.drop n t
def Vals.none_of:∀{xs:List V}{us:List Value}{i:Nat},Vals xs us->xs[i]?=jN->us[i]?=jN:=λ{a d i} r e=>by
 let b:=r.length;let c:=fC.mp e;show fC.mpr (by lia)
def RelO:Option V->Option Value->Prop
 |some v,cL u=>RelV v u
 |none,jN=>True
 |_,_=>False
def KV{κ:Type}:List (κ×V)->List (κ×Value)->Prop:=Paired λ(p:κ×V) (q:κ×Value)=>p.1=q.1/\RelV p.2 q.2
noncomputable def kV:Key->V
 |.inl (cL i)=>.int i
 |.inl jN=>.non
 |.inr x=>.str x
inductive HO where
 |lst (xs:List V)
 |tup (xs:List V)
 |dK (kvs:List (Key×V)) |dT (kvs:List (List Key×V))
 |set (S:Int->Bool) (n:Nat)
 |ins (C dx:Addr) (fs:List (Str×V))
 |own (x:Addr)
 |xd (fs:List (Str×V))
 |met (f x:Addr)
 |rng (lo hi:Int)
 |frz (o:Obj) (u:HO)
 |tbl (ps:Array Value)
 |ext (φ:Heap->Prop)
abbrev Hp:=Addr->Option HO
noncomputable def upd(H:Hp)(a:Addr)(o:HO):Hp:=λb=>if b=a then cL o else H b
def a0e:upd H a o a=cL o:=by unfold upd;rw[if_pos rfl]
def a0b(h:b≠a):upd H a o b=H b:=by unfold upd;rw[if_neg h]
def b7d{H:Hp}(h:H a=cL o)(h':H b=cL u)(d:o≠u):a≠b:=by
 ext e;subst e;rw[h]at h';show d (cL.inj h')
def a0t{H:Hp}(h:H a=cL o)(h':H b=jN):a≠b:=by
 ext e;subst e;rw[h]at h';cases h'
section
variable(P:gO)(w:World)
def ObjOk(H:Hp)(h:Heap)(a:Addr):HO->Prop
 |.lst xs=>xs.length<=gI/\∃(its:List Value)(n:Nat),Vals xs its/\h.get? a=cL { cls:=.type "list",data:=.seq its.toArray n }
 |.tup xs=>xs.length<=gI/\∃its:List Value,Vals xs its/\IsTup h a its.toArray
 |.dK kvs=>kvs.length<=gI/\(a==ie)=jP/\∃vs,KV kvs vs/\h.DictOf (a0p P w) a vs
 |.dT kvs=>kvs.length<=gI/\(a==ie)=jP/\∃xs:List (List Key×Addr×Value),
   Paired (λ(p:List Key×V) (q:List Key×Addr×Value)=>p.1=q.1/\H q.2.1=cL (.tup (p.1.map kV))/\RelV p.2 q.2.2) kvs xs /\
   ∃o es ep,h.get? a=cL o/\o.ExactDict/\o.data=.dict es ep/\es.toList=xs.map (entryOfKey (ig (a0p P w)))/\(xs.map (·.1)).Nodup
 |.set S n=>h.SetOf (intKind P w) a S n
 |.ins C dx fs=>H dx=cL (.own a)/\fs.length<=1000/\dx≠a/\h.get? a=cL (PySem.W.instObj C dx) /\
   ∃mA,h.Ns1 dx mA/\(∀f,RelO (fs.lookup f) (mA f))/\PySem.Within mA (fs.map (·.1))
 |.own _=>∃o,h.get? a=cL o
 |.xd fs=>∃mA,h.Ns1 a mA/\∀f,RelO (fs.lookup f) (mA f)
 |.rng lo hi=>∃t u v,h.get? a=cL { cls:=.type "range",data:=.fields #[.int lo t,.int hi u,.int 1 v] }
 |.frz o u=>h.get? a=cL o/\ObjOk H h a u
 |.tbl ps=>h.get? a=cL { cls:=.none,data:=.fields ps }
 |.met f x=>h.get? a=cL (PySem.W.methodObj (.ref f) (.ref x))
 |.ext φ=>φ h/\(∃o,h.get? a=cL o)/\∀h1 h2:Heap,φ h1->(∀o,h1.get? a=cL o->h2.get? a=cL o)->φ h2
def HOk(H:Hp)(h:Heap):Prop:=∀a o,H a=cL o->ObjOk P w H h a o
end
section
variable{h h':Heap}{a:Addr}{o:HO}
def ObjOk.lt(x:ObjOk P w H h a o):a<h.objs.size:=by
 cases o with
 |lst xs=>let(_,_,_,_,e):=x;show Heap.lt_size e
 |tup xs=>let(_,_,_,p):=x;show p.lt
 |dK kvs=>let(_,_,_,_,o,_,_,e,_):=x;show Heap.lt_size e
 |dT kvs=>let(_,_,_,_,o,_,_,e,_):=x;show Heap.lt_size e
 |set S n=>let(o,_,_,_,e,_):=x;show Heap.lt_size e
 |ins C dx fs=>let(_,_,_,e,_):=x;show Heap.lt_size e
 |own y=>let(_,e):=x;show Heap.lt_size e
 |xd fs=>let(_,(_,_,_,e,_),_):=x;show Heap.lt_size e
 |rng lo hi=>let(_,_,_,e):=x;show Heap.lt_size e
 |frz ob u=>let(e,_):=x;show Heap.lt_size e
 |tbl ps=>show Heap.lt_size (x)
 |met f y=>show Heap.lt_size (x)
 |ext φ=>let(_,(_,e),_):=x;show Heap.lt_size e
def Paired.mapP{α β:Type}{F G:α->β->Prop}:∀{l₁:List α}{lj:List β},Paired F l₁ lj->(∀a b,F a b->G a b)->Paired G l₁ lj:=by ext z0 y0 x0;induction x0 with
 |nil=>ext _;show .nil
 |cons r t I0=>ext f;show .cons (f _ _ r) (I0 f)
def ObjOk.stay(x:ObjOk P w H h a o)(k:∀b u,(b=a\/H b=cL (.own a))->h.get? b=cL u->h'.get? b=cL u)
  (ho:∀b,H b=cL (.own a)->H' b=cL (.own a)) (ht:∀b xs,H b=cL (.tup xs)->H' b=cL (.tup xs)):ObjOk P w H' h' a o:=by
 induction o with
 |lst s=>let(z,l,n,r,e):=x;show(z,l,n,r,k _ _ (.inl rfl) e)
 |tup s=>let(z,l,r,g,e,c):=x;show(z,l,r,g,k _ _ (.inl rfl) e,c)
 |dK kvs=>let(z,y,F,r,g,i,j,e,c):=x;show(z,y,F,r,g,i,j,k _ _ (.inl rfl) e,c)
 |dT kvs=>
  let(z,y,s,r,g,i,j,e,c):=x;show(z,y,s,Paired.mapP r λp q z=>(z.1,ht _ _ z.2.1,z.2.2),g,i,j,k _ _ (.inl rfl) e,c)
 |set S n=>let(g,i,j,t,e,c):=x;show(g,i,j,t,k _ _ (.inl rfl) e,c)
 |ins C dx fs=>
  let(d,z,D,e,A,(m,i,j,E,c),r):=x;show(ho _ d,z,D,k _ _ (.inl rfl) e,A,(m,i,j,k _ _ (.inr d) E,c),r)
 |own y=>let(g,e):=x;show(g,k _ _ (.inl rfl) e)
 |xd fs=>let(A,(m,i,j,e,c),r):=x;show(A,(m,i,j,k _ _ (.inl rfl) e,c),r)
 |rng lo hi=>let(t,u,v,e):=x;show(t,u,v,k _ _ (.inl rfl) e)
 |frz g u ih=>let(e,q):=x;show(k _ _ (.inl rfl) e,ih q)
 |tbl ps=>
  show k a _ (.inl rfl) x
 |met f y=>
  show k a _ (.inl rfl) x
 |ext φ=>let(p,(o,e),B):=x;show(B _ _ p λo q=>k _ _ (.inl rfl) q,(o,k _ _ (.inl rfl) e),B)
def HOk.lt(x:HOk P w H h)(e:H a=cL o):a<h.objs.size:=(x a o e).lt
def HOk.fresh(x:HOk P w H h)(e:h.objs.size<=a):H a=jN:=by
 cases q:H a with
 |none=>rfl
 |some u=>show absurd (cH (x.lt q) e) (du _)
def HOk.kept(x:HOk P w H h)(k:∀b u,h.get? b=cL u->h'.get? b=cL u):HOk P w H h':=λa o e=>
 (x a o e).stay (λb u _ q=>k b u q) (λ_ q=>q) λ_ _ q=>q
def HOk.laid(x:HOk P w H h)(k:∀b u,h.get? b=cL u->h'.get? b=cL u)(hp:h.objs.size<=a)(new:ObjOk P w (upd H a o) h' a o):HOk P w (upd H a o) h':=λb u e=>by
 let d:=x.fresh hp
 by_cases hb:b=a
 .subst hb;rw[a0e]at e;cases e;show new
 .rw[a0b hb]at e;show (x b u e).stay (λc v _ q=>k c v q) (λc q=>by rw[a0b (a0t q d)];show q) λc f q=>by rw[a0b (a0t q d)];show q
end
def Rd(H:Hp)(a:Addr)(u:HO):Prop:=H a=cL u\/∃o,H a=cL (.frz o u)
def Rd.of(h:H a=cL u):Rd H a u:=.inl h
def Rd.ok(r:Rd H a u)(x:HOk P w H h):ObjOk P w H h a u:=by
 let r||(o,r):=r
 .show x a u r
 .let(_,q):=x a _ r;show q
def Mut:Option HO->Prop
 |some (.lst _)=>True
 |some (.dK _)=>True
 |some (.dT _)=>True
 |some (.set _ _)=>True
 |some (.ins _ _ _)=>True
 |some (.ext _)=>True
 |_=>False
section
variable{h h':Heap}{x e:Addr}{o':HO}
def HOk.write(ok:HOk P w H h)(mu:Mut (H x))(he:e=x\/H e=cL (.own x))(k:∀b u,b≠e->h.get? b=cL u->h'.get? b=cL u)(heo:∃u,h'.get? e=cL u)
  (new:ObjOk P w (upd H x o') h' x o'):HOk P w (upd H x o') h':=λb u q=>by
 let a:∀c y,H c=cL (.own y)->c≠x:=λc y r z=>by subst z;rw[r]at mu;show mu
 let g:∀c d,H c=cL (.tup d)->c≠x:=λc d r z=>by subst z;rw[r]at mu;show mu
 by_cases hb:b=x
 .subst hb;rw[a0e]at q;cases q;show new
 .rw[a0b hb]at q
  by_cases hbe:b=e
  .let i:H b=cL (.own x):=by
    let z||z:=he
    .show absurd (hbe.trans z) hb
    .rw[hbe];show z
   rw[q]at i;cases i;let(v,j):=heo;show(v,by rw[hbe];show j)
  .show (ok b u q).stay (λc v f r=>k c v ?_ r) (λc r=>by rw[a0b (a c b r)];show r) λc d r=>by rw[a0b (g c d r)];show r
   let rfl||f:=f
   .cbv
   .grind
end
structure Un (fs ex:List Addr) (H H':Hp) (h h':Heap):Prop where
 keep:∀b o,h.get? b=cL o->H b=jN->b∉fs->b∉ex->h'.get? b=cL o
 slot:∀b o,h.get? b=cL o->H b=jN->b∈fs->b∉ex->∃sl,h'.get? b=cL { o with slots:=sl }
 free:∀b o,h.get? b=cL o->H b=jN->b∉ex->H' b=jN
 there:∀b o,h.get? b=cL o->b∉ex->∃o',h'.get? b=cL o'
 tups:∀b xs,H b=cL (.tup xs)->H' b=cL (.tup xs)
 frzs:∀b o u,H b=cL (.frz o u)->H' b=cL (.frz o u)
 tbls:∀b ps,H b=cL (.tbl ps)->∃more,H' b=cL (.tbl (ps++more))
section
variable{fs fs' ex ex':List Addr}{H1 H2:Hp}{h h1 h2 h':Heap}{a x e:Addr}{o:HO}
noncomputable def Un.any(u:Un fs ex H H1 h h1)(q:h.get? b=cL ob)(n:H b=jN)(hx:b∉ex):∃sl,h1.get? b=cL { ob with slots:=sl }:=by
 by_cases hb:b∈fs
 .show u.slot b ob q n hb hx
 .show(ob.slots,u.keep b ob q n hb hx)
theorem Un.trans(a:Un fs ex H H1 h h1)(b:Un fs ex H1 H2 h1 h2):Un fs ex H H2 h h2 where
 keep:=λc ob q n hc hx=>b.keep c ob (a.keep c ob q n hc hx) (a.free c ob q n hx) hc hx
 slot:=λc ob q n hc hx=>by
  let(sl,e1):=a.slot c ob q n hc hx;let(sl',e2):=b.slot c _ e1 (a.free c ob q n hx) hc hx;show(sl',e2)
 free:=λc ob q n hx=>by
  let(o',e1):=a.there c ob q hx;show b.free c o' e1 (a.free c ob q n hx) hx
 there:=λc ob q hx=>by
  let(o',e1):=a.there c ob q hx;show b.there c o' e1 hx
 tups:=λc xs q=>b.tups c xs (a.tups c xs q)
 frzs:=λc ob xs q=>b.frzs c ob xs (a.frzs c ob xs q)
 tbls:=λc ps q=>by
  let(m1,e1):=a.tbls c ps q;let(m2,e2):=b.tbls c _ e1;show(m1++m2,by rw[e2,fD])
def Un.kept(k:∀b u,h.get? b=cL u->h'.get? b=cL u):Un fs ex H H h h':=
 (λb a q _ _ _=>k b a q,λb a q _ _ _=>(a.slots,k b a q),λ_ _ _ n _=>n,λb a q _=>(a,k b a q),λ_ _ q=>q,λ_ _ _ q=>q,λ_ c q=>(#[],by rw[q];simp))
def Un.refl:Un fs ex H H h h:=Un.kept λ_ _ q=>q
theorem Un.laid(k:∀b u,h.get? b=cL u->h'.get? b=cL u)(hp:h.objs.size<=a)(hn:H a=jN):Un fs ex H (upd H a o) h h' where
 keep:=λb u q _ _ _=>k b u q
 slot:=λb u q _ _ _=>(u.slots,k b u q)
 free:=λb u q n _=>by rw[a0b (cv (cH (Heap.lt_size q) hp))];show n
 there:=λb u q _=>(u,k b u q)
 tups:=λb xs q=>by rw[a0b (a0t q hn)];show q
 frzs:=λb u xs q=>by rw[a0b (a0t q hn)];show q
 tbls:=λb ps q=>(#[],by rw[a0b (a0t q hn),q];simp)
def Un.write(mu:Mut (H x))(he:e=x\/H e=cL (.own x))(k:∀b u,b≠e->h.get? b=cL u->h'.get? b=cL u)(heo:∃u,h'.get? e=cL u):Un fs ex H (upd H x o) h h':=by
 let d:∀b,H b=jN->b≠x:=λb n z=>by subst z;rw[n]at mu;show mu
 let c:∀b,H b=jN->b≠e:=λb n z=>by simp_all
 let a:∀b u,H b=cL u->¬ Mut (cL u)->b≠x:=λb u q g z=>by subst z;rw[q]at mu;show g mu
 show(λb u q n _ _=>k b u (c b n) q,λb u q n _ _=>(u.slots,k b u (c b n) q),λb u q n _=>by rw[a0b (d b n)];show n,λb u q _=>?_,
  λb f q=>by rw[a0b (a b _ q λz=>z)];show q,λb u f q=>by rw[a0b (a b _ q λz=>z)];show q,λb i q=>(#[],by rw[a0b (a b _ q λz=>z),q];simp))
 by_cases hbe:b=e
 .grind
 .show(u,k b u hbe q)
def Un.mono(u:Un fs ex H H1 h h1)(hs:∀b∈fs,b∈fs')(hx:∀b∈ex,b∈ex'):Un fs' ex' H H1 h h1:=
 (λb c q n d a=>u.keep b c q n (λz=>d (hs b z)) λz=>a (hx b z),λ_ _ q n _ a=>u.any q n λz=>a (hx _ z),λb c q n a=>u.free b c q n λz=>a (hx b z),λb c q a=>u.there b c q λz=>a (hx b z),u.tups,u.frzs,u.tbls)
end
noncomputable def trk(h:Heap)(H:Hp):List Addr:=(d6 h.objs.size).filter λa=>(H a).isSome
noncomputable def hidT(h:Heap)(H:Hp):Heap:=PySem.W.hideAll h (trk h H)
def a7u(h:Heap)(H:Hp):(hidT h H).objs.size=h.objs.size:=PySem.W.hideAll_size _ _
def a91(e:h.get? b=cL o)(n:H b=jN):(hidT h H).get? b=cL o:=
 PySem.W.hideAll_get _ e λa=>by
  let q:=(de.mp a).2;rw[n]at q;simp at q
def b2m(e:(hidT h H).get? b=cL o):h.get? b=cL o/\H b=jN:=by
 let a:=PySem.W.of_hideAll _ e;show(a,?_);cases q:H b with
 |none=>rfl
 |some x=>
  let c:b∈trk h H:=de.mpr (fE.mpr (Heap.lt_size a),by simp[q]);let z:(hidT h H).get? b=jN:=PySem.W.hideAll_none _ c;rw[z]at e;cases e
noncomputable def b2n(g h:Heap)(L:Addr):List (Addr×Obj):=(d6 h.objs.size).filterMap λa=>if a=L\/(g.get? a).isSome=jO then jN else (h.get? a).map λo=>(a,o,)
noncomputable def rest(g h:Heap)(L d:Addr):List (Addr×Obj):=(b2n g h L).filter λp=>decide (p.1≠d)
structure Mod (K:Fg) (mg:Str->Option Value) (base:Heap):Prop where
 kin:K.In base
 glob:base.Ns gU mg
 blt:∃mb,base.Ns jq mb/\∀x:Str,x≠"__name__"->mb x=iy x
 nolimit:base.NoLimit
structure Cx where
 prog:gO
 w:World
 K:Fg
 mg:Str->Option Value
 base:Heap
 A:Around
 N:List Str
 s₀:Shared
 H₀:Hp
 env:Env
 outer:List Env
 stack:List Env
 ex:List Addr
 fn:Str->Bool
 calm:Bool
 pn:List (Addr×Obj)
 xe:Value->Shared->Prop
noncomputable def frs(l:List Env):List Addr:=l.filterMap (·.frame)
abbrev Cx.fs(X:Cx):List Addr:=frs X.outer
def Vis(sc:Scope)(x:Str):Prop:=sc.names.lookup x=cL .local\/sc.names.lookup x=cL .cell\/sc.names.lookup x=cL .free
def Loc(sc:Scope)(x:Str):Prop:=sc.names.lookup x=cL .local\/sc.names.lookup x=cL .cell
def Look(env:Env)(h:Heap)(m:Str->Option Value)(x:Str)(u:Value):Prop:=
 (env.kindOf x=cL .local/\m x=cL u)\/((env.kindOf x=cL .cell\/env.kindOf x=cL .free)/\∃c,env.cells.lookup x=cL c/\h.IsCell c (cL u))
structure Cx.Ok (X:Cx):Prop where
 mod:Mod X.K X.mg X.base
 kind:X.env.scope.kind=.function
 glob:X.env.globals=gU
 blt:X.env.builtins=jq
 above:X.s₀.heap.objs.size<=X.env.locals
 inj:∀x y c,X.env.cells.lookup x=cL c->X.env.cells.lookup y=cL c->x=y
 has:∀x,(X.env.kindOf x=cL .cell\/X.env.kindOf x=cL .free)->∃c,X.env.cells.lookup x=cL c
 cab:∀x c,X.fn x=jO->X.env.cells.lookup x=cL c->X.s₀.heap.objs.size<=c
 hd:X.calm=jO->X.A.handled=jN
 frames:X.A.frames=cL X.stack
 stk:X.stack=X.outer\/(X.stack=X.env::X.outer/\X.env.frame=cL X.env.locals)
 exf:∀b∈X.ex,b≠X.env.locals/\∀x c,X.env.cells.lookup x=cL c->c≠b
 bs:∀b o,X.base.get? b=cL o->X.s₀.heap.get? b=cL o/\X.H₀ b=jN
 bsz:X.base.objs.size<=X.s₀.heap.objs.size
 noex:∀b o,X.base.get? b=cL o->b∉X.ex
 exfs:∀b∈X.ex,b∉X.fs
 funs:X.s₀.heap.FunFrames X.base X.outer
 frf:∀b∈X.fs,X.H₀ b=jN
structure Inv (X:Cx) (pins:List (Addr×Obj)) (σ:List (Option V)) (H:Hp) (s:Shared):Prop where
 ok:X.Ok
 os:s.os=X.s₀.os
 bare:iq s.gens
 base:Un X.fs X.ex X.H₀ H X.s₀.heap s.heap
 loc:∃m,s.heap.Ns X.env.locals m/\∀(i:Nat)(x:Str)(v:V),X.N[i]?=cL x->σ[i]?=cL (cL v)->Vis X.env.scope x->∃u,RelV v u/\Look X.env s.heap m x u
 cell:∀x c,X.env.cells.lookup x=cL c->∃v,s.heap.IsCell c v
 free:H X.env.locals=jN
 freeC:∀x c,X.env.cells.lookup x=cL c->H c=jN
 pin:∀p∈X.pn++pins,s.heap.get? p.1=cL p.2/\H p.1=jN/\p.1≠X.env.locals/\p.1∉X.fs/\∀v,p.2.data≠.cell v
 hok:HOk X.prog X.w H s.heap
 len:σ.length=X.N.length
section
variable{σ:List (Option V)}{h':Heap}
def Cx.Ok.nofr(ok:X.Ok)(e:X.base.get? b=cL o):b∉X.fs:=λa=>by
 let:=(ok.funs.mem a).1
 rw[e]at this;cases this
def Inv.bs(I:Inv X pins σ H s):∀b o,X.base.get? b=cL o->s.heap.get? b=cL o/\H b=jN:=λb o e=>
 (I.base.keep b o (I.ok.bs b o e).1 (I.ok.bs b o e).2 (I.ok.nofr e) (I.ok.noex b o e),I.base.free b o (I.ok.bs b o e).1 (I.ok.bs b o e).2 (I.ok.noex b o e))
def Inv.bk(I:Inv X pins σ H s):∀b o,X.base.get? b=cL o->s.heap.get? b=cL o:=λb o e=>(I.bs b o e).1
def Inv.mod(I:Inv X pins σ H s):Mod X.K X.mg X.base:=I.ok.mod
def Inv.kIn(I:Inv X pins σ H s):X.K.In s.heap:=I.ok.mod.kin.keeps I.bk
def Inv.nolimit(I:Inv X pins σ H s):s.heap.NoLimit:=I.ok.mod.nolimit.keeps I.bk
def Inv.fr(I:Inv X pins σ H s):∃m,Fr X.base X.env.locals s.heap m:=
 let (m,hn,_):=I.loc
 (m,hn,I.bk,cw I.ok.bsz I.ok.above)
def Inv.lt(I:Inv X pins σ H s):X.env.locals<s.heap.objs.size:=let (_,hn,_):=I.loc;hn.lt
def Inv.sz(I:Inv X pins σ H s):X.s₀.heap.objs.size<=s.heap.objs.size:=cw I.ok.above (df I.lt)
def Inv.nofs(I:Inv X pins σ H s)(h:s.heap.objs.size<=a):a∉X.fs:=λc=>by
 let(_,o,b,_):=I.ok.funs.mem c;show absurd (cH (Heap.lt_size b) (cw I.sz h)) (du _)
def Inv.cne(I:Inv X pins σ H s):∀x c,X.env.cells.lookup x=cL c->c≠X.env.locals:=λx c e z=>by
 let(v,o,d,b):=I.cell x c e;let(m,(i,g,h,a,f,_),_):=I.loc;rw[z,a]at d;cases d;rw[f]at b;cases b
def Inv.funs(I:Inv X pins σ H s):s.heap.FunFrames X.base X.outer:=by
 let g:∀l,(∀b∈frs l,b∈X.fs)->X.s₀.heap.FunFrames X.base l->s.heap.FunFrames X.base l:=by
  ext l
  induction l with
  |nil=>ext _ _;trivial
  |cons env r ih=>
   ext f h;let(k,(L,o,c,n,m,j),i):=h;let d:=f L (by unfold frs;rw[cW,c];show dg);let(p,e):=I.base.slot L o m (I.ok.frf L d) d λz=>I.ok.exfs L z d;show(k,(L,_,c,n,e,j),ih (λb a=>f b (by unfold frs;rw[cW,c];show cT _ a)) i)
 show g X.outer (λ_ a=>a) I.ok.funs
def Inv.stack(I:Inv X pins σ H s):s.heap.FunFrames X.base X.stack:=by
 let e||(e,hf):=I.ok.stk
 .rw[e];show I.funs
 .rw[e];let(m,a,_):=I.loc;show .cons (by rw[I.ok.kind];decide) hf a ?_ I.funs;show Heap.get?_none_of_le (cw I.ok.bsz I.ok.above)
def Inv.stkSub(I:Inv X pins σ H s):∀b∈frs X.stack,b∈X.env.locals::X.fs:=λb a=>by
 let e||(e,hf):=I.ok.stk
 .rw[e]at a;show cT _ a
 .rw[e]at a;unfold frs at a;rw[cW,hf]at a;show a
def Inv.stkFree(I:Inv X pins σ H s):∀b∈frs X.stack,H b=jN:=λb a=>by
 let e||a:=cf.mp (I.stkSub b a)
 .rw[e];show I.free
 .let(_,o,c,_):=I.ok.funs.mem a;show I.base.free b o c (I.ok.frf b a) λz=>I.ok.exfs b z a
def Inv.step{ch:List Addr}(I:Inv X pins σ H s)
  (hch:∀b∈ch,(b∈X.ex\/X.s₀.heap.objs.size<=b)/\b≠X.env.locals/\(∀x c,X.env.cells.lookup x=cL c->c≠b)/\∀p∈X.pn++pins,p.1≠b)
  (keep:∀b o,b≠X.env.locals->b∉X.fs->b∉ch->s.heap.get? b=cL o->H b=jN->h'.get? b=cL o)
  (slot:∀b o,b≠X.env.locals->b∈X.fs->b∉ch->s.heap.get? b=cL o->H b=jN->∃sl,h'.get? b=cL { o with slots:=sl }) (free:∀b o,b∉ch->s.heap.get? b=cL o->H b=jN->H' b=jN)
  (there:∀b o,b∉ch->s.heap.get? b=cL o->∃o',h'.get? b=cL o')
  (tups:∀b xs,H b=cL (.tup xs)->H' b=cL (.tup xs)) (frzs:∀b o u,H b=cL (.frz o u)->H' b=cL (.frz o u)) (tbls:∀b ps,H b=cL (.tbl ps)->∃more,H' b=cL (.tbl (ps++more)))
  (ns:∀m,s.heap.Ns X.env.locals m->h'.Ns X.env.locals m) (hok:HOk X.prog X.w H' h') (hg:iq g') :
  Inv X pins σ H' { s with heap:=h',gens:=g',drawn:=d',toks:=t' }:=by
 let C:∀b o,X.s₀.heap.get? b=cL o->b≠X.env.locals:=λb o e=>cv (cH (Heap.lt_size e) I.ok.above);let j:∀b o,X.s₀.heap.get? b=cL o->b∉X.ex->b∉ch:=λb o e a h=>by
  let z||z:=(hch b h).1
  .grind
  .show absurd (cH (Heap.lt_size e) z) (du _)
 let t:∀x c,X.env.cells.lookup x=cL c->∀v,s.heap.IsCell c v->h'.IsCell c v:=by
  ext x c e v ⟨o,y,E⟩;let g:=λz=>(hch c z).2.2.1 x c e rfl
  by_cases hc:c∈X.fs
  .let(S,q):=slot c o (I.cne x c e) hc g y (I.freeC x c e);show(_,q,E)
  .show(o,keep c o (I.cne x c e) hc g y (I.freeC x c e),E)
 show(I.ok,I.os,hg,(λb o e n h a=>(keep b o (C b o e) h (j b o e a) (I.base.keep b o e n h a) (I.base.free b o e n a)),λb o e n h a=>?_,λb o e n a=>?_,λb o e a=>?_,λb B e=>tups b B (I.base.tups b B e),λb o B e=>frzs b o B (I.base.frzs b o B e),λb Q e=>?_),?_,λx c e=>?_,?_,λx c e=>?_,λp L=>?_,hok,I.len)
 .let(S,f):=I.base.slot b o e n h a;let(F,A):=slot b _ (C b o e) h (j b o e a) f (I.base.free b o e n a);show(F,A)
 .let(D,f):=I.base.there b o e a;show free b D (j b o e a) f (I.base.free b o e n a)
 .let(D,f):=I.base.there b o e a;show there b D (j b o e a) f
 .let(N,f):=I.base.tbls b Q e;let(U,A):=tbls b _ f;show(N++U,by rw[A,fD])
 .let(m,T,M):=I.loc;show(m,ns m T,λi x v f A R=>?_);let(u,r,l):=M i x v f A R;show(u,r,?_);let l||(k,c,e,z):=l
  .show .inl l
  .show .inr (k,c,e,t x c e _ z)
 .let(v,z):=I.cell x c e;show(v,t x c e v z)
 .let(m,(o,_,_,y,_),_):=I.loc;show free _ o (λz=>(hch _ z).2.1 rfl) y I.free
 .let(v,o,y,E):=I.cell x c e;show free c o (λz=>(hch c z).2.2.1 x c e rfl) y (I.freeC x c e)
 .let(e,n,G,J,d):=I.pin p L;let g:=λz=>(hch p.1 z).2.2.2 p L rfl;show(keep p.1 p.2 G J g e n,free p.1 p.2 g e n,G,J,d)
def Inv.un(I:Inv X pins σ H s)(u:Un X.fs [] H H' s.heap h')(hok:HOk X.prog X.w H' h'):Inv X pins σ H' { s with heap:=h',toks:=t' }:=by
 let(m,(o,k,q,g,r),_):=id I.loc;let(l,j):=u.any g I.free (by simp);show I.step (ch:=[]) (λ_ z=>nomatch z) (λb o _ c _ e n=>u.keep b o e n c (by simp)) (λb o _ c _ e n=>u.slot b o e n c (by simp)) (λb o _ e n=>u.free b o e n (by simp)) (λb o _ e=>u.there b o e (by simp)) u.tups u.frzs u.tbls (λt h=>by
  let(p,d,f,a,i):=h;rw[g]at a;cases a;show(_,d,f,j,i)) hok I.bare
def Inv.call(I:Inv X pins σ H s)(u:Un (frs X.stack) ch H H' s.heap h')(hok:HOk X.prog X.w H' h')(hg:iq g')
  (hch:∀b∈ch,(b∈X.ex\/X.s₀.heap.objs.size<=b)/\b≠X.env.locals/\(∀x c,X.env.cells.lookup x=cL c->c≠b)/\∀p∈X.pn++pins,p.1≠b) :
  Inv X pins σ H' { s with heap:=h',gens:=g',drawn:=d',toks:=t' }:=by
 let(m,(o,q,y,i,r),_):=id I.loc;let(t,f):=u.any i I.free λz=>(hch _ z).2.1 rfl;show I.step hch (λb o f l a e n=>u.keep b o e n (λz=>(cf.mp (I.stkSub b z)).elim f l) a) (λb o _ _ a e n=>u.any e n a) (λb o a e n=>u.free b o e n a) (λb o a e=>u.there b o e a) u.tups u.frzs u.tbls (λA j=>by
  let(v,g,h,d,k):=j;rw[i]at d;cases d;show(_,g,h,f,k)) hok hg
def Inv.turned(I:Inv X pins σ H s)(k:∀b o,b≠it->s.heap.get? b=cL o->h'.get? b=cL o)(hn:H it=jN)(hL:it≠X.env.locals)
  (h1:it∈X.ex\/X.s₀.heap.objs.size<=it) (h2:∀x c,X.env.cells.lookup x=cL c->c≠it) (h3:∀p∈X.pn++pins,p.1≠it):Inv X pins σ H { s with heap:=h',toks:=t' }:=by
 let d:∀b u,H b=cL u->b≠it:=λb u e z=>by rw[z,hn]at e;cases e
 show I.step (ch:=[it]) (λb i=>?_) (λb o _ _ a e _=>k b o (λz=>a (by simp[z])) e) (λb o _ _ a e _=>(o.slots,k b o (λz=>a (by simp[z])) e)) (λ_ _ _ _ n=>n)
  (λb o a e=>(o,k b o (λz=>a (by simp[z])) e)) (λ_ _ e=>e) (λ_ _ _ e=>e) (λb l e=>(#[],by rw[e];simp)) (λm h=>?_) (λb u e=>?_) I.bare
 .let e:b=it:=↑i
  subst e;show(h1,hL,h2,h3)
 .let(o,f,j,g,r):=h;show(o,f,j,k _ o (Ne.symm hL) g,r)
 .show (I.hok b u e).stay (λc v a q=>k c v ?_ q) (λ_ q=>q) λ_ _ q=>q;let z||z:=a
  .rw[z];show d b u e
  .show d c _ z
def Inv.tok(I:Inv X pins σ H s)(t:Nat):Inv X pins σ H { s with toks:=t }:=I.un Un.refl I.hok
def Inv.kept(I:Inv X pins σ H s)(k:∀b u,s.heap.get? b=cL u->h'.get? b=cL u):Inv X pins σ H { s with heap:=h',toks:=t' }:=I.un (Un.kept k) (I.hok.kept k)
def Inv.laid(I:Inv X pins σ H s)(k:∀b u,s.heap.get? b=cL u->h'.get? b=cL u)(hp:s.heap.objs.size<=a)(new:ObjOk X.prog X.w (upd H a o) h' a o) :
  Inv X pins σ (upd H a o) { s with heap:=h',toks:=t' }:=I.un (Un.laid k hp (I.hok.fresh hp)) (I.hok.laid k hp new)
def Inv.write(I:Inv X pins σ H s)(mu:Mut (H x))(he:e=x\/H e=cL (.own x))(k:∀b u,b≠e->s.heap.get? b=cL u->h'.get? b=cL u)(heo:∃u,h'.get? e=cL u)
  (new:ObjOk X.prog X.w (upd H x o) h' x o):Inv X pins σ (upd H x o) { s with heap:=h',toks:=t' }:=I.un (Un.write mu he k heo) (I.hok.write mu he k heo new)
def Inv.weak(I:Inv X pins σ H s)(hl:σ'.length=σ.length)(w:∀(i:Nat) v,σ'[i]?=cL (cL v)->σ[i]?=cL (cL v)):Inv X pins σ' H s:=
 (I.ok,I.os,I.bare,I.base,by let(m,hn,hl'):=I.loc;show(m,hn,λi x v b c a=>hl' i x v b (w i v c) a),I.cell,I.free,I.freeC,I.pin,I.hok,hl.trans I.len)
def Inv.pins_of(I:Inv X pins σ H s)(h:∀p∈pins',s.heap.get? p.1=cL p.2/\H p.1=jN/\p.1≠X.env.locals/\p.1∉X.fs/\∀v,p.2.data≠.cell v):Inv X pins' σ H s:=
 (I.ok,I.os,I.bare,I.base,I.loc,I.cell,I.free,I.freeC,λp a=>(b9.mp a).elim (λz=>I.pin p (eY _ z)) (h p),I.hok,I.len)
def a52{N:List Str}(hN:N.Nodup){i j:Nat}(a:N[i]?=cL x)(b:N[j]?=cL x):i=j:=by
 let(f,c):=cn.mp a;let(e,d):=cn.mp b;show (fF hN).mp (c.trans d.symm)
def a4B(I:Inv X pins σ H s)(hN:X.N.Nodup)(hi:X.N[i]?=cL x)(hx:Loc X.env.scope x)(r:RelV v u)
  (h:∀s',Inv X pins (σ.set i (cL v)) H s'->(∃a,Heap.SameBut a s.heap s'.heap/\(a=X.env.locals\/X.env.cells.lookup x=cL a))->Q () s') (hf:X.fn x=jO\/X.env.scope.names.lookup x=cL .local):wpAny M A (jr X.env x u) Q E s:=by
 let(m,hn,hl):=id I.loc;let hcls:(X.env.scope.kind==.class||(X.env.scope.kind==.module&&X.env.locals != X.env.globals))=jP:=by rw[I.ok.kind];rfl
 let U:i<σ.length:=I.len▸(cn.mp hi).1;let J:=I.cne;let B:∀{a:Addr}{G:Heap},(∃o,s.heap.get? a=cL o/\H a=jN)->Heap.SameBut a s.heap G->HOk X.prog X.w H G:=λ{a G} ha f b ob e=>by
  let(_,_,F):=ha;show (I.hok b ob e).stay (λc R l q=>(f.2 c ?_).trans q) (λ_ q=>q) λ_ _ q=>q;ext rfl;let rfl||l:=l
  .rw[F]at e;cases e
  .rw[F]at l;cases l
 let hk||hk:=hx
 .show wpAny_storeName_local hk hn (λG hn' f=>?_) hcls;let(oL,_,_,hoL,_):=id hn;show h _ (I.ok,I.os,I.bare,(λb o e n D hx=>((f.2 b (cv (cH (Heap.lt_size e) I.ok.above))).trans (I.base.keep b o e n D hx)),λb o e n D hx=>?_,I.base.free,λb o e hx=>?_,I.base.tups,I.base.frzs,I.base.tbls),(_,hn',λj y v' g C e3=>?_),λy c e=>?_,I.free,I.freeC,λp hp=>?_,B (oL,hoL,I.free) f,↑I.len) (_,f,.inl rfl)
  .let(sl,g):=I.base.slot b o e n D hx;show(sl,(f.2 b (cv (cH (Heap.lt_size e) I.ok.above))).trans g)
  .let(o',g):=I.base.there b o e hx;show(o',(f.2 b (cv (cH (Heap.lt_size e) I.ok.above))).trans g)
  .by_cases hj:j=i
   .subst hj;rw[hi]at g;cases g;rw[en U]at C;cases C;show(u,r,.inl (hk,by simp))
   .rw[d7 (Ne.symm hj)]at C;let(u',r',q):=hl j y v' g C e3;show(u',r',?_);let(k,e)||(k,c,e,z):=q
    .show .inl (k,?_)
     let:y≠x:=λe=>hj (a52 hN g (e▸hi))
     simp[this,e]
    .show .inr (k,c,e,z.sameBut f (J y c e))
  .let(R,z):=I.cell y c e;show(R,z.sameBut f (J y c e))
  .let(e,n,S,nf,d):=I.pin p hp;show((f.2 p.1 S).trans e,n,S,nf,d)
 .let L:X.fn x=jO:=by
   let z||z:=hf
   .show z
   .rw[z]at hk;cases hk
  let(c,l):=I.ok.has x (.inl hk);let(R,z):=I.cell x c l;show wpAny_storeName_cell I.ok.kind hk l z (λG Y f=>?_);let(oc,W,hocd):=id z;show h { s with heap:=G } (I.ok,I.os,I.bare,(λb o e n D hx=>((f.2 b (cv (cH (Heap.lt_size e) (I.ok.cab x c L l)))).trans (I.base.keep b o e n D hx)),λb o e n D hx=>?_,I.base.free,λb o e hx=>?_,I.base.tups,I.base.frzs,I.base.tbls),(m,hn.sameBut f (Ne.symm (J x c l)),λj y v' g C e3=>?_),λy T e=>?_,I.free,I.freeC,λp hp=>?_,B (oc,W,I.freeC x c l) f,↑I.len) (c,f,.inr l)
  .let(sl,g):=I.base.slot b o e n D hx;show(sl,(f.2 b (cv (cH (Heap.lt_size e) (I.ok.cab x c L l)))).trans g)
  .let(o',g):=I.base.there b o e hx;show(o',(f.2 b (cv (cH (Heap.lt_size e) (I.ok.cab x c L l)))).trans g)
  .by_cases hj:j=i
   .subst hj;rw[hi]at g;cases g;rw[en U]at C;cases C;show(u,r,.inr (.inl hk,c,l,Y))
   .rw[d7 (Ne.symm hj)]at C;let(u',r',q):=hl j y v' g C e3;show(u',r',?_);let q||(k,T,e,z'):=q
    .show .inl q
    .show .inr (k,T,e,z'.sameBut f ?_);ext rfl;show hj (a52 hN g (I.ok.inj _ _ _ e l▸hi))
  .by_cases hcc:T=c
   .subst hcc;show(_,Y)
   .let(w2,z2):=I.cell y T e;show(w2,z2.sameBut f hcc)
  .let(e,n,S,nf,d):=I.pin p hp;show((f.2 p.1 ?_).trans e,n,S,nf,d);ext q;rw[q,W]at e;show d R ((cL.inj e)▸hocd)
def a2V(I:Inv X pins σ H s)(hN:X.N.Nodup)(hi:X.N[i]?=cL x)(hx:Loc X.env.scope x)(r:RelV v u)
  (h:∀s',Inv X pins (σ.set i (cL v)) H s'->Q () s') (hf:X.fn x=jO\/X.env.scope.names.lookup x=cL .local):wpAny M A (jr X.env x u) Q E s:=
 a4B I hN hi hx r (λa b _=>h a b) hf
def Inv.call'(I:Inv X pins σ H s)(ho:s'.os=s.os)(u:Un (frs X.stack) ch H H' s.heap s'.heap)(hok:HOk X.prog X.w H' s'.heap)(hg:iq s'.gens)
  (hch:∀b∈ch,(b∈X.ex\/X.s₀.heap.objs.size<=b)/\b≠X.env.locals/\(∀x c,X.env.cells.lookup x=cL c->c≠b)/\∀p∈X.pn++pins,p.1≠b):Inv X pins σ H' s':=by
 let(h',g',d',t',g):=s';let e:=ho;subst e;show I.call u hok hg hch
end
abbrev XK:=Value->Option Addr->Hp->Prop
abbrev St:=List (Option V)
abbrev VK:=V->Hp->Prop
abbrev TE:=St->Hp->VK->Prop
abbrev TT:=St->Hp->(Bool->Hp->Prop)->Prop
abbrev TA:=St->Hp->(List V->Hp->Prop)->Prop
structure Ends where
 nx:St->Hp->Prop
 rt:VK
 bk:St->Hp->Prop:=λ_ _=>False
 ct:St->Hp->Prop:=λ_ _=>False
abbrev TS:=Ends->St->Hp->Prop
def EP(X:Cx)(pins:List (Addr×Obj))(σ:St)(Q:VK)(u:Value)(s':Shared):Prop:=∃v H',Inv X pins σ H' s'/\RelV v u/\Q v H'
def TP(X:Cx)(pins:List (Addr×Obj))(σ:St)(Q:Bool->Hp->Prop)(b:Bool)(s':Shared):Prop:=∃H',Inv X pins σ H' s'/\Q b H'
def AP(X:Cx)(pins:List (Addr×Obj))(σ:St)(Q:List V->Hp->Prop)(us:List Value)(s':Shared):Prop:=∃vs H',Inv X pins σ H' s'/\Vals vs us/\Q vs H'
def SP(X:Cx)(pins:List (Addr×Obj))(D:Ends)(f:Flow)(s':Shared):Prop:=
 match f with
 |.next=>∃σ' H',Inv X pins σ' H' s'/\D.nx σ' H'
 |.brk=>∃σ' H',Inv X pins σ' H' s'/\D.bk σ' H'
 |.cont=>∃σ' H',Inv X pins σ' H' s'/\D.ct σ' H'
 |.ret u=>∃v σ' H',Inv X pins σ' H' s'/\RelV v u/\D.rt v H'
def PE(X:Cx)(e:Expr)(t:TE):Prop:=
 ∀(pins:List (Addr×Obj))(s:Shared)(σ:St)(H:Hp)(Q:VK),Inv X pins σ H s->t σ H Q->wpAny (model X.prog X.w) X.A (eval e X.env) (EP X pins σ Q) X.xe s
def PT(X:Cx)(e:Expr)(t:TT):Prop:=
 ∀(pins:List (Addr×Obj))(s:Shared)(σ:St)(H:Hp)(Q:Bool->Hp->Prop),Inv X pins σ H s->t σ H Q->wpAny (model X.prog X.w) X.A (isTrue e X.env (eval e X.env)) (TP X pins σ Q) X.xe s
def PW(X:Cx)(e:Expr)(t:TT):Prop:=
 ∀(whole:Sem Value)(pins:List (Addr×Obj))(s:Shared)(σ:St)(H:Hp)(Q:Bool->Hp->Prop),Inv X pins σ H s->t σ H Q->wpAny (model X.prog X.w) X.A (isTrue e X.env whole) (TP X pins σ Q) X.xe s
def PW.pt(h:PW X e t):PT X e t:=h _
def PA(X:Cx)(es:List Expr)(t:TA):Prop:=
 ∀(pos:Pos)(pins:List (Addr×Obj))(s:Shared)(σ:St)(H:Hp)(Q:List V->Hp->Prop),Inv X pins σ H s->t σ H Q->wpAny (model X.prog X.w) X.A (spliced (backTo pos (gM es X.env))) (AP X pins σ Q) X.xe s
def PS(X:Cx)(st:Stmt)(t:TS):Prop:=
 ∀(pins:List (Addr×Obj))(s:Shared)(σ:St)(H:Hp)(D:Ends),Inv X pins σ H s->t D σ H->wpAny (model X.prog X.w) X.A (exec st X.env) (SP X pins D) X.xe s
def PSs(X:Cx)(st:List Stmt)(t:TS):Prop:=
 ∀(pins:List (Addr×Obj))(s:Shared)(σ:St)(H:Hp)(D:Ends),Inv X pins σ H s->t D σ H->wpAny (model X.prog X.w) X.A (execs st X.env) (SP X pins D) X.xe s
def thn{α:Type}{t:Sem α}{Q Q':α->Shared->Prop}(h:wpAny M A t Q E s)(hQ:∀a s,Q a s->Q' a s):wpAny M A t Q' E s:=gX h hQ λ_ _ x=>x
section
def tVar(i:Nat):TE:=fun σ H Q=>∃v,σ[i]?=cL (cL v)/\Q v H
def tC(v:V):TE:=λ_ H Q=>Q v H
def a7v(hN:X.N[i]?=cL x)(hv:Vis X.env.scope x)(hd:(x==("__debug__":Str))=jP:=by decide)(hcd:(x==("__classdict__":Str))=jP:=by decide):PE X (.Name x pos) (tVar i):=by
 ext b s σ H Q I h;let(v,e,h):=h;let(m,f,d):=I.loc;let(u,r,l):=d i x v hN e hv;let a:EP X b σ Q u s:=(v,H,I,r,h);let(hk,hm)||(hk,c,hc,hcell):=l
 .show js (wpAny_loadName_local I.ok.kind hk f hm a) hd
 .let hk||hk:=hk
  .show js (wpAny_loadName_cell I.ok.kind hk hc hcell a) hd
  .show js (wpAny_loadName_free I.ok.kind hk hc hcell a hcd) hd
def b4n:PE X (.Constant (.int i) j pos) (tC (.int i)):=λ_ _ _ H _ I h=>wpAny_Constant_int (.int i,H,I.tok _,(_,rfl),h)
def b7e:PE X (.Constant (.bool b) j pos) (tC (.bl b)):=λ_ _ _ H _ I h=>Constant_bool (.bl b,H,I,rfl,h)
def b4o:PE X (.Constant .none j pos) (tC .non):=λ_ _ _ H _ I h=>Constant_none (.non,H,I,rfl,h)
def b4p:PE X (.Constant (.str x) j pos) (tC (.str x)):=λ_ _ _ H _ I h=>Calls.Constant_str (.str x,H,I.tok _,(_,rfl),h)
def Gl(X:Cx)(x:Str):Prop:=X.env.kindOf x=cL .globalImplicit
def a2k(I:Inv X pins σ H s)(hg:Gl X x)(hm:X.mg x=cL u)(h:Q u s)
  (hd:(x==("__debug__":Str))=jP:=by decide):wpAny (model X.prog X.w) X.A (eval (.Name x pos) X.env) Q E s:=
 Calls.Name_function_global I.ok.kind hg (Calls.loadGlobal_global (I.ok.glob▸I.mod.glob.keeps I.bk) hm h) hd
def a4C(I:Inv X pins σ H s)(hg:Gl X x)(hm:X.mg x=jN)(hv:iy x=cL u)(h:Q u s)
  (hn:x≠"__name__":=by decide) (hd:(x==("__debug__":Str))=jP:=by decide):wpAny (model X.prog X.w) X.A (eval (.Name x pos) X.env) Q E s:=by
 let(c,b,a):=I.mod.blt;show Calls.Name_function_global I.ok.kind hg (Calls.loadGlobal_builtin (I.ok.glob▸I.mod.glob.keeps I.bk) hm (I.ok.blt▸b.keeps I.bk) ((a x hn).trans hv) h) hd
def a7w(hg:Gl X x)(hm:X.mg x=cL u)(r:RelV v u)(hd:(x==("__debug__":Str))=jP):PE X (.Name x pos) (tC v):=
 λ_ _ _ H _ I h=>a2k I hg hm (v,H,I,r,h) hd
def a1J(hg:Gl X x)(hm:X.mg x=jN)(hv:iy x=cL u)(r:RelV v u)(hn:x≠"__name__":=by decide)(hd:(x==("__debug__":Str))=jP:=by decide):PE X (.Name x pos) (tC v):=
 λ_ _ _ H _ I h=>a4C I hg hm hv (v,H,I,r,h) hn hd
variable{a b:Expr}{ta tb:TE}
def PC(X:Cx)(op:CmpOp)(a b:Expr)(t:TE):Prop:=
 ∀(pins:List (Addr×Obj))(s:Shared)(σ:St)(H:Hp)(Q:VK),Inv X pins σ H s->t σ H Q ->
  wpAny (model X.prog X.w) X.A (eval a X.env) (λv sj=>wpAny (model X.prog X.w) X.A (eval b X.env) (λu sv=>wpAny (model X.prog X.w) X.A (gQ op v u) (EP X pins σ Q) X.xe sv) X.xe sj) X.xe s
noncomputable def tB(t:TE):TT:=fun σ H Q=>t σ H λx H1=>∃c,x=.bl c/\Q c H1
def b4q(h:PE X e t)(he:∀whole,isTrue e X.env whole=(do let v <- whole;hI e.pos;g0 [v] (truthy v)):=by ext _;rfl):PT X e (tB t):=by
 ext a s σ H Q I f;show isTrue_plain (thn (h a s σ H _ I f) λv j (x,b,i,g,c)=>?_) (he _);let(d,rfl,q):=c;cases g;show iz (b,i,q)
variable{tA tB':TT}{rest:List Expr}
def tAnd(t u:TT):TT:=fun σ H Q=>t σ H λc H1=>if c=jO then u σ H1 Q else Q jP H1
def tOr(t u:TT):TT:=fun σ H Q=>t σ H λc H1=>if c=jO then Q jO H1 else u σ H1 Q
def tNot(t:TT):TT:=fun σ H Q=>t σ H λc H1=>Q (!c) H1
def b2o(ha:PT X a tA):PW X (.BoolOp .And [a] pos) tA:=by
 ext f b s σ H Q I h;show isTrue_and (thn (ha b s σ H Q I h) λc d e=>?_);cases c with
 |true=>show isTrue_and_nil e
 |false=>show e
def b4r(ha:PT X a tA):PW X (.BoolOp .Or [a] pos) tA:=by
 ext f b s σ H Q I h;show isTrue_or (thn (ha b s σ H Q I h) λc d e=>?_);cases c with
 |false=>show isTrue_or_nil e
 |true=>show e
def b4s(ha:PT X a tA)(hb:PW X (.BoolOp .And (b::rest) pos) tB'):PW X (.BoolOp .And (a::b::rest) pos) (tAnd tA tB'):=by
 ext j d s σ H Q I h;show isTrue_and (thn (ha d s σ H _ I h) λc i Y=>Y.elim λe Y=>Y.elim λg f=>?_);cases c with
 |true=>show hb j d i σ e Q g f
 |false=>show(e,g,f)
def b7f(ha:PT X a tA)(hb:PW X (.BoolOp .Or (b::rest) pos) tB'):PW X (.BoolOp .Or (a::b::rest) pos) (tOr tA tB'):=by
 ext j d s σ H Q I h;show isTrue_or (thn (ha d s σ H _ I h) λc i Y=>Y.elim λg Y=>Y.elim λe f=>?_);cases c with
 |true=>show(g,e,f)
 |false=>show hb j d i σ g Q e f
def b4t(ha:PT X a tA):PT X (.UnaryOp .Not a pos) (tNot tA):=λb s σ H Q I h=>isTrue_not (ha b s σ H _ I h)
def b7g(ta tb:TE):TE:=fun σ H Q=>ta σ H λx H1=>∃c,x=.bl c/\if c=jO then tb σ H1 Q else Q (.bl jP) H1
def tOrV(ta tb:TE):TE:=fun σ H Q=>ta σ H λx H1=>∃c,x=.bl c/\if c=jO then Q (.bl jO) H1 else tb σ H1 Q
def b7h(ta:TE):TE:=fun σ H Q=>ta σ H λx H1=>∃c,x=.bl c/\Q (.bl (!c)) H1
def b4u(h:PE X a t):PE X (.BoolOp op [a] pos) t:=λb s σ H Q I c=>BoolOp_one (h b s σ H Q I c)
def b4v(ha:PE X a ta)(hb:PE X (.BoolOp .And (b::rest) pos) tb):PE X (.BoolOp .And (a::b::rest) pos) (b7g ta tb):=by
 ext d s σ H Q I h;show BoolOp_and (thn (ha d s σ H _ I h) λv j (x,f,g,i,e)=>?_);let(c,rfl,e):=e;cases i;show iz ?_;cases c with
 |true=>show hb d j σ f Q g e
 |false=>show(.bl jP,f,g,rfl,e)
def b7i(ha:PE X a ta)(hb:PE X (.BoolOp .Or (b::rest) pos) tb):PE X (.BoolOp .Or (a::b::rest) pos) (tOrV ta tb):=by
 ext d s σ H Q I h;show BoolOp_or (thn (ha d s σ H _ I h) λv i (x,g,f,j,e)=>?_);let(c,rfl,e):=e;cases j;show iz ?_;cases c with
 |false=>show hb d i σ g Q f e
 |true=>show(.bl jO,g,f,rfl,e)
def b4w(ha:PE X a ta):PE X (.UnaryOp .Not a pos) (b7h ta):=by
 ext b s σ H Q I h;show UnaryOp_ (thn (ha b s σ H _ I h) λv i (x,g,f,e,d)=>?_);let(c,rfl,d):=d;cases e;show not_of (iz (.bl (!c),g,f,rfl,d))
def tIf(t:TT)(ta tb:TE):TE:=fun σ H Q=>t σ H λc H1=>if c=jO then ta σ H1 Q else tb σ H1 Q
def a92(hc:PT X c tA)(ha:PE X a ta)(hb:PE X b tb):PE X (.IfExp c a b pos) (tIf tA ta tb):=by
 ext e s σ H Q I h;show wpAny_IfExp (thn (hc e s σ H _ I h) λd j Y=>Y.elim λi Y=>Y.elim λf g=>?_);cases d with
 |true=>show ha e j σ i Q f g
 |false=>show hb e j σ i Q f g
end
def SqL(K:Fg)(H:Hp)(a:Addr)(xs:List V):Prop:=
 Rd H a (.lst xs) \/
  ∃(o:Obj)(its:Array Value)(n:Nat),K.lookup a=cL o/\o.cls=.type "list"/\o.dict=jN/\o.data=.seq its n/\its.size<=gI/\Vals xs its.toList
def SqT(K:Fg)(H:Hp)(a:Addr)(xs:List V):Prop:=
 Rd H a (.tup xs) \/
  ∃(o:Obj)(its:Array Value)(n:Nat),K.lookup a=cL o/\o.cls=.type "tuple"/\o.data=.seq its n/\its.size<=gI/\Vals xs its.toList
noncomputable def absV:Value->Option V
 |.none=>cL .non
 |.bool b=>cL (.bl b)
 |.int i _=>cL (.int i)
 |.str x _=>cL (.str x)
 |.bytes b _=>cL (.byt b)
 |.float b _=>cL (.flt b)
 |.ref a=>cL (.ref a)
 |.type n=>cL (.ty n)
 |_=>jN
def RelV.abs(r:RelV x u):absV u=cL x:=by
 cases x with
 |non=>cases r;rfl
 |bl _=>cases r;rfl
 |int _=>let(t,rfl):=r;rfl
 |str _=>let(t,rfl):=r;rfl
 |byt _=>let(t,rfl):=r;rfl
 |flt _=>let(t,rfl):=r;rfl
 |ref _=>cases r;rfl
 |ty _=>cases r;rfl
def RelV.inj(r:RelV x u)(q:RelV y u):x=y:=cL.inj (r.abs.symm.trans q.abs)
def Vals.inj:∀{xs ys:List V}{us:List Value},Vals xs us->Vals ys us->xs=ys:=by
 ext xs ys us h
 induction h generalizing ys with
 |nil=>ext k;cases k;rfl
 |cons r t ih=>
  ext k;cases k with
  |cons r' t'=>rw[r.inj r',ih t']
section
variable{σ:St}{a:Addr}{xs ys:List V}
def SqL.of{K:Fg}(h:H a=cL (.lst xs)):SqL K H a xs:=.inl (.inl h)
def SqT.of{K:Fg}(h:H a=cL (.tup xs)):SqT K H a xs:=.inl (.inl h)
def Inv.list(I:Inv X pins σ H s)(h:SqL X.K H a xs):∃its:List Value,Vals xs its/\PlainL s.heap a its.toArray/\xs.length<=sizeLine:=by
 let h||(o,b,n,hk,hc,hd,hs,hz,r):=h
 .let(z,b,n,r,e):=h.ok I.hok;show(b,r,(_,n,e,rfl,rfl,rfl),z)
 .show(b.toList,r,(o,n,I.kIn a o hk,hc,hd,↑hs),?_);let e:=r.length;simp at e
  lia
def Inv.tuple(I:Inv X pins σ H s)(h:SqT X.K H a xs):∃its:List Value,Vals xs its/\IsTup s.heap a its.toArray/\xs.length<=sizeLine:=by
 let h||(o,b,n,hk,hc,hs,hz,r):=h
 .let(z,b,r,p):=h.ok I.hok;show(b,r,p,z)
 .show(b.toList,r,(o,I.kIn a o hk,hc,n,↑hs),?_);let e:=r.length;simp at e
  lia
def Inv.list_inj(I:Inv X pins σ H s)(h:SqL X.K H a xs)(h':SqL X.K H a ys):xs=ys:=by
 let(f,r,(o,n,e,_,_,d),_):=I.list h;let(b,i,(j,k,c,_,_,g),_):=I.list h'
 let:f=b:=by grind
 subst this;show r.inj i
def Inv.tuple_inj(I:Inv X pins σ H s)(h:SqT X.K H a xs)(h':SqT X.K H a ys):xs=ys:=by
 let(f,r,(o,e,_,n,d),_):=I.tuple h;let(b,i,(j,c,_,k,g),_):=I.tuple h'
 let:f=b:=by grind
 subst this;show r.inj i
end
abbrev Cx.wish(X:Cx)(E:Value->Shared->Prop):Cx:={ X with xe:=E }
abbrev Cx.nox(X:Cx):Cx:=X.wish λ_ _=>False
noncomputable def Cx.Ok.wish{X:Cx}(ok:X.Ok)(E:Value->Shared->Prop):(X.wish E).Ok:=
 (ok.mod,ok.kind,ok.glob,ok.blt,ok.above,ok.inj,ok.has,ok.cab,ok.hd,ok.frames,ok.stk,ok.exf,ok.bs,ok.bsz,ok.noex,ok.exfs,ok.funs,ok.frf)
def Cx.Ok.unwish{X:Cx}(ok:(X.wish E).Ok):X.Ok:=
 (ok.mod,ok.kind,ok.glob,ok.blt,ok.above,ok.inj,ok.has,ok.cab,ok.hd,ok.frames,ok.stk,ok.exf,ok.bs,ok.bsz,ok.noex,ok.exfs,ok.funs,ok.frf)
section
variable{σ:St}
noncomputable def Inv.wish(I:Inv X pins σ H s)(E:Value->Shared->Prop):Inv (X.wish E) pins σ H s:=(I.ok.wish E,I.os,I.bare,I.base,I.loc,I.cell,I.free,I.freeC,I.pin,I.hok,I.len)
def Inv.unwish(I:Inv (X.wish E) pins σ H s):Inv X pins σ H s:=(I.ok.unwish,I.os,I.bare,I.base,I.loc,I.cell,I.free,I.freeC,I.pin,I.hok,I.len)
def SP.unwish(h:SP (X.wish E) pins D f s'):SP X pins D f s':=by
 cases f with
 |next=>let(σ',H',I,q):=h;show(σ',H',I.unwish,q)
 |brk=>let(σ',H',I,q):=h;show(σ',H',I.unwish,q)
 |cont=>let(σ',H',I,q):=h;show(σ',H',I.unwish,q)
 |ret u=>let(v,σ',H',I,r,q):=h;show(v,σ',H',I.unwish,r,q)
noncomputable def PE.nox(h:PE X.nox e t):PE X e t:=λa s σ H Q I d=>
 gX (h a s σ H Q (I.wish _) d) (by ext _ _ ⟨v,b,c,r,q⟩;show(v,b,c.unwish,r,q)) λ_ _ z=>cb z
noncomputable def PT.nox(h:PT X.nox e t):PT X e t:=λa s σ H Q I d=>
 gX (h a s σ H Q (I.wish _) d) (by ext _ _ ⟨c,b,q⟩;show(c,b.unwish,q)) λ_ _ z=>cb z
noncomputable def PSs.nox{st:List Stmt}(h:PSs X.nox st t):PSs X st t:=λa s σ H D I b=>
 gX (h a s σ H D (I.wish _) b) (λ_ _ q=>q.unwish) λ_ _ z=>cb z
end
section
variable{st:Stmt}{rest:List Stmt}{t u:TS}{e:Expr}{te:TE}
def b4x:TS:=λD σ H=>D.nx σ H
def tSeq(t u:TS):TS:=λD σ H=>t { D with nx:=u D } σ H
def b2p:PSs X [] b4x:=λ_ _ σ H _ I h=>iG (σ,H,I,h)
def a53(h1:PS X st t)(h2:PSs X rest u):PSs X (st::rest) (tSeq t u):=by
 ext a s σ H D I h;show jc (thn (h1 a s σ H { D with nx:=u D } I h) λf b q=>?_);cases f with
 |next=>
  let(σ',H',I',q):=q;show h2 a b σ' H' D I' q
 |ret v=>show q
 |brk=>show q
 |cont=>show q
def b2q(h1:PS X st t):PSs X [st] t:=by
 ext a s σ H D I h;show jc (thn (h1 a s σ H D I h) λf b q=>?_);cases f with
 |next=>show iG q
 |ret v=>show q
 |brk=>show q
 |cont=>show q
def b4y:TS:=λD σ H=>D.bk σ H
def b7j:TS:=λD σ H=>D.ct σ H
def b2r:PS X (.Pass pos) b4x:=λ_ _ σ H _ I h=>wpAny_Pass (σ,H,I,h)
def a93:PS X (.Break pos) b4y:=λ_ _ σ H _ I h=>wpAny_Break (σ,H,I,h)
def a5o:PS X (.Continue pos) b7j:=λ_ _ σ H _ I h=>wpAny_Continue (σ,H,I,h)
def Inv.quiet(I:Inv X pins σ H s):interactive X.env=jP:=by simp[interactive,I.ok.kind]
def b7k(te:TE):TS:=λD σ H=>te σ H λ_ H1=>D.nx σ H1
def b2s(he:PE X e te)(hs:ii e jN pos.line X.env=pure jP):PS X (.Expr e pos) (b7k te):=λa s σ H D I h=>wpAny_Expr_any (thn (he a s σ H _ I h) λv f (x,d,c,g,b)=>(σ,d,c,b)) I.quiet hs
def tRet(te:TE):TS:=λD σ H=>te σ H D.rt
def b4z(he:PE X e te):PS X (.Return (cL e) pos) (tRet te):=λa s σ H D I h=>wpAny_Return_some (thn (he a s σ H _ I h) λv g (x,c,b,f,d)=>(x,σ,c,b,f,d))
def b7l:TS:=λD _ H=>D.rt .non H
def b2t:PS X (.Return jN pos) b7l:=λ_ _ σ H _ I h=>wpAny_Return_none (.non,σ,H,I,rfl,h)
def tIfS(c:TT)(t u:TS):TS:=λD σ H=>c σ H λb H1=>if b=jO then t D σ H1 else u D σ H1
def b7m(hc:PT X c tc)(ha:PSs X a t)(hb:PSs X b u):PS X (.If c a b pos) (tIfS tc t u):=by
 ext e s σ H D I h;show wpAny_If (thn (hc e s σ H _ I h) λd f Y=>Y.elim λg Y=>Y.elim λi j=>?_);cases d with
 |true=>show ha e f σ g D i j
 |false=>show hb e f σ g D i j
end
abbrev TG:=V->St->Hp->(St->Hp->Prop)->Prop
abbrev TGs:=List V->St->Hp->(St->Hp->Prop)->Prop
def PG(X:Cx)(target:Expr)(t:TG):Prop:=
 ∀(pins:List (Addr×Obj))(s:Shared)(σ:St)(H:Hp)(v:V)(u:Value)(Q:St->Hp->Prop),Inv X pins σ H s->RelV v u->t v σ H Q ->
  wpAny (model X.prog X.w) X.A (assign target X.env u) (λ_ s'=>∃σ' H',Inv X pins σ' H' s'/\Q σ' H') X.xe s
def PGs(X:Cx)(ts:List Expr)(t:TGs):Prop:=
 ∀(pins:List (Addr×Obj))(s:Shared)(σ:St)(H:Hp)(vs:List V)(us:List Value)(Q:St->Hp->Prop),Inv X pins σ H s->Vals vs us->t vs σ H Q ->
  wpAny (model X.prog X.w) X.A (assignInOrder ((ir ts X.env).map (·.2)) us) (λ_ s'=>∃σ' H',Inv X pins σ' H' s'/\Q σ' H') X.xe s
abbrev TSet:=V->V->V->Hp->(Hp->Prop)->Prop
def PSet(X:Cx)(t:TSet):Prop:=
 ∀(pins:List (Addr×Obj))(s:Shared)(σ:St)(H:Hp)(o i v:V)(ov iv u:Value)(Q:Hp->Prop),Inv X pins σ H s->RelV o ov->RelV i iv->RelV v u->t o i v H Q ->
  wpAny (model X.prog X.w) X.A (iN ov iv u) (λ_ s'=>∃H',Inv X pins σ H' s'/\Q H') X.xe s
abbrev TIp:=V->V->Hp->VK->Prop
def PIp(X:Cx)(op:jd)(t:TIp):Prop:=
 ∀(pins:List (Addr×Obj))(s:Shared)(σ:St)(H:Hp)(x y:V)(v u:Value)(Q:VK),Inv X pins σ H s->RelV x v->RelV y u->t x y H Q ->
  wpAny (model X.prog X.w) X.A (iu op v u) (EP X pins σ Q) X.xe s
def a7x(i:Nat):TG:=λv σ H Q=>Q (σ.set i (cL v)) H
def a7y(hN:X.N.Nodup)(hi:X.N[i]?=cL x)(hx:Loc X.env.scope x)(hf:X.fn x=jO\/X.env.scope.names.lookup x=cL .local):PG X (.Name x pos) (a7x i):=λb s σ H v u Q I r h=>wpAny_assign_Name (a2V I hN hi hx r (λc a=>(_,H,a,h)) hf)
def gNil:TGs:=λvs σ H Q=>vs=[]/\Q σ H
def b4A(t:TG)(u:TGs):TGs:=λvs σ H Q=>∃v r,vs=v::r/\t v σ H fun σ' H'=>u r σ' H' Q
def b2u:PGs X [] gNil:=by
 ext a s σ H b c Q I r h;let(e,h):=h;subst e;show assignInOrder_nil (σ,H,I,h)
def a94(h1:PG X e t)(h2:PGs X es u)
  (hs:(ir (e::es) X.env).map (·.2)=assign e X.env::(ir es X.env).map (·.2):=by rfl):PGs X (e::es) (b4A t u):=by
 ext a s σ H k i Q I r h;let(v,j,g,h):=h;subst g;cases r with
 |cons r rr=>
  rw[hs];show assignInOrder_cons (thn (h1 a s σ H _ _ _ I r h) λ_ f (σ1,d,b,c)=>(h2 a f σ1 d _ _ Q b rr c))
def gTup(K:Fg)(n:Nat)(t:TGs):TG:=λv σ H Q=>∃a xs,v=.ref a/\SqT K H a xs/\xs.length=n/\t xs σ H Q
def b4B(hc:X.calm=jO)(h:PGs X es t)
  (hn:(ir es X.env).length=n) (hst:(ir es X.env).findIdx? (·.1)=jN):PG X (.Tuple es k pos) (gTup X.K n t):=by
 ext c s σ H v u Q I r d;let(a,i,q,m,l,d):=d;subst q;cases r;let(x,f,p,y):=I.tuple m;show assign_Tuple_tuple (I.ok.hd hc) p (by simp[hn,<- l,f.length]) hst λw j=>(h c _ σ H i _ Q (I.kept (t':=s.toks) λb o e=>j b o (cv (Heap.lt_size e)) e) (by cbv) d)
def gSub(to ti:TE)(t:TSet):TG:=λv σ H Q=>to σ H λo H1=>ti σ H1 λi H2=>t o i v H2 λH3=>Q σ H3
def b4C(ho:PE X o jQ)(hi:PE X i ti)(hs:PSet X t)
  (ha:∀v,assign (.Subscript o i pos) X.env v=(do
   let ov <- g0 [v] (eval o X.env)
   let iv <- g0 [v,ov] (eval i X.env)
   hI pos
   g0 [v,ov,iv] (iN ov iv v)
   je [v,ov,iv] []):=by ext _;rfl):PG X (.Subscript o i pos) (gSub jQ ti t):=by
 ext a s σ H v u Q I r h;rw[ha];show gK (ic (thn (ho a s σ H _ I h) λl n (x,c,e,g,p)=>(gK (ic (thn (hi a n σ c _ e p) λm q (y,f,w,b,k)=>(gK (jt (gK (ic (thn (hs a q σ f x y v l m u _ w g b r k) λ_ A Y=>Y.elim λj Y=>Y.elim λz d=>(wpAny_release (σ,j,z,d))))))))))))
def tAsg(te:TE)(g:TG):TS:=λD σ H=>te σ H λx H1=>g x σ H1 D.nx
def b1B(he:PE X e te)(hg:PG X tg g)(hs:ju [tg] e pos.line X.env=pure jP)(hw:jv [tg] e X.env=pure jN)
  (h1:(ir [tg] X.env).map (·.2)=[assign tg X.env]):PS X (.Assign [tg] e pos) (tAsg te g):=by
 ext a s σ H D I h;show wpAny_Assign_stores (thn (he a s σ H _ I h) λv c (x,d,b,i,f)=>?_) hs hw;rw[h1];show thn (hg a c σ d x v _ b i f) λ_ j q=>q
def b4D(hN:X.N.Nodup)(hi:X.N[i]?=cL x)(hx:Loc X.env.scope x)(he:PE X e te)(hs:ii e (cL (.Name x pos')) pos.line X.env=pure jP)(hf:X.fn x=jO\/X.env.scope.names.lookup x=cL .local) :
  PS X (.Assign [.Name x pos'] e pos) (tAsg te (a7x i)):=by
 ext a s σ H D I h;show wpAny_Assign_Name (thn (he a s σ H _ I h) λv j (y,f,d,c,g)=>?_) hs;show a2V d hN hi hx c (λk b=>(_,f,b,g)) hf
def tAug(i:Nat)(te:TE)(ti:TIp):TS:=λD σ H=>∃x,σ[i]?=cL (cL x)/\te σ H λy H1=>ti x y H1 λz H2=>D.nx (σ.set i (cL z)) H2
def b4E(hN:X.N.Nodup)(hi:X.N[i]?=cL x)(hx:Loc X.env.scope x)(he:PE X e te)(ho:PIp X op ti)(hf:X.fn x=jO\/X.env.scope.names.lookup x=cL .local) :
  PS X (.AugAssign (.Name x pos') op e pos) (tAug i te ti):=by
 ext a s σ H D I h;let(v,f,h):=h;let(m,g,j):=I.loc;let b:Vis X.env.scope x:=by let k||k:=hx;show .inl k;show .inr (.inl k)
 let(u,r,l):=j i x v hi f b;show wpAny_AugAssign_Name ?_;let d:wpAny (model X.prog X.w) X.A (eval e X.env) (λw B=>wpAny (model X.prog X.w) X.A (iu op u w) (λr G=>wpAny (model X.prog X.w) X.A (jr X.env x r) (λ_=>SP X a D .next) X.xe G) X.xe B) X.xe s:=by
  show thn (he a s σ H _ I h) λw C (y,n,p,F,t)=>(thn (ho a C σ n v y u w _ p r F t) λz Q (M,E,o,L,J)=>(a2V o hN hi hx L (λR q=>(_,E,q,J)) hf))
 let(hk,hm)||(hk,c,hc,hcell):=l
 .show wpAny_loadName_local I.ok.kind hk g hm d
 .let hk||hk:=hk
  .show wpAny_loadName_cell I.ok.kind hk hc hcell d
  .let k||k:=hx
   .let:X.env.scope.names.lookup x=cL .free:=hk
    rw[k]at this;cases this
   .let:X.env.scope.names.lookup x=cL .free:=hk
    rw[k]at this;cases this
structure It where
 go:Nat->Hp->Prop
 yld:Nat->Hp->V->Hp->Prop
 stop:Nat->Hp->Prop
def FpOk(X:Cx)(pins:List (Addr×Obj))(H:Hp)(b:Addr):Prop:=
 H b=jN/\b≠X.env.locals/\b∉X.fs/\(b∈X.ex\/X.s₀.heap.objs.size<=b)/\(∀x c,X.env.cells.lookup x=cL c->c≠b)/\∀p∈X.pn++pins,p.1≠b
def Inv.fpOk(I:Inv X pins σ H s)(hb:s.heap.objs.size<=b)(hn:H' b=jN):FpOk X pins H' b:=by
 show(hn,eZ (cH I.lt hb),I.nofs hb,.inr (cw I.sz hb),λx c e z=>?_,λp a z=>(absurd (cH (Heap.lt_size (I.pin p a).1) (by simp_all)) (du _)))
 .let(v,q):=I.cell x c e;show absurd (cH q.lt (by simp_all)) (du _)
structure Turn (P:gO) (w:World) (K:Fg) (tg:Expr) (J:It) (fp:List Addr) (it:Addr) (tn:Nat->Heap->Prop):Prop where
 mem:it∈fp
 obj:∀i h,tn i h->∀b∈fp,∃o,h.get? b=cL o/\∀v,o.data≠.cell v
 keep:∀i h h',tn i h->(∀b∈fp,∀o,h.get? b=cL o->h'.get? b=cL o)->tn i h'
 item:∀(X:Cx),X.prog=P->X.w=w->X.K=K->X.calm=jO->∀(i:Nat)(pins:List (Addr×Obj))(s:Shared)(σ:St)(H:Hp)(E:Value->Shared->Prop),Inv X pins σ H s->(∀b∈fp,FpOk X pins H b)->tn i s.heap->J.go i H ->
  wpAny (model P w) X.A (pyNext (.ref it)) (λr s1=>∃u,r=cL u /\
   wpAny (model P w) X.A (jw tg (.ref it) u) (λ_ s2=>∃x H',Inv X pins σ H' s2/\RelV x u/\J.yld i H x H'/\tn (i+1) s2.heap/\∀b∈fp,H' b=jN) E s1) E s
 done:∀(X:Cx),X.prog=P->X.w=w->X.K=K->X.calm=jO->∀(i:Nat)(pins:List (Addr×Obj))(s:Shared)(σ:St)(H:Hp)(E:Value->Shared->Prop),Inv X pins σ H s->(∀b∈fp,FpOk X pins H b)->tn i s.heap->J.stop i H ->
  wpAny (model P w) X.A (pyNext (.ref it)) (λr s1=>r=jN/\Inv X pins σ H s1) E s
 self:∀(A:Around)(i:Nat)(s:Shared)(Q:Value->Shared->Prop)(E:Value->Shared->Prop),tn i s.heap->Q (.ref it) s->wpAny (model P w) A (pyIter (.ref it)) Q E s
abbrev TI:=St->Hp->(It->Hp->Prop)->Prop
def PIE(X:Cx)(pins:List (Addr×Obj))(σ:St)(tg:Expr)(R:It->Hp->Prop)(itv:Value)(s2:Shared):Prop:=
 ∃(it:Addr)(fp:List Addr)(tn:Nat->Heap->Prop)(J:It)(H':Hp),itv=.ref it/\Inv X pins σ H' s2/\Turn X.prog X.w X.K tg J fp it tn/\tn 0 s2.heap/\(∀b∈fp,FpOk X pins H' b)/\R J H'
def PI(X:Cx)(tg iter:Expr)(wi:TI):Prop:=
 ∀(pins:List (Addr×Obj))(s:Shared)(σ:St)(H:Hp)(R:It->Hp->Prop),Inv X pins σ H s->wi σ H R ->
  wpAny (model X.prog X.w) X.A (eval iter X.env) (λv s1=>wpAny (model X.prog X.w) X.A (pyIter v) (PIE X pins σ tg R) X.xe s1) X.xe s
def a7z(ho:s.heap.get? it=cL o)(hc:o.cls=.type n)(hd:o.data=.fields vs)
    (hn:["enumerate","zip","dict_itemiterator","dict_reverseitemiterator","odict_iterator","itertools.zip_longest","itertools.pairwise"].contains n=jP) (hQ:Q () s):wpAny M A (jw tg (.ref it) u) Q E s:=by
  cases tg<;>first
    |show gS hQ
    | (cases u<;>first
        |show gS hQ
        | (show gK (wpAny_load ho ?_)
           rw[hc,hd]
           change wpAny M A (if _=jO then _ else _) Q E s
           rw[if_neg (by grind)];show gS hQ))
noncomputable def Itl(K:Fg)(a:Addr):It:=
 (λi H=>∃xs x,SqL K H a xs/\xs[i]?=cL x,λi H x H'=>H'=H/\∀xs,SqL K H a xs->xs[i]?=cL x,λi H=>∃xs,SqL K H a xs/\xs.length<=i)
noncomputable def Itt(K:Fg)(a:Addr):It:=
 (λi H=>∃xs x,SqT K H a xs/\xs[i]?=cL x,λi H x H'=>H'=H/\∀xs,SqT K H a xs->xs[i]?=cL x,λi H=>∃xs,SqT K H a xs/\xs.length<=i)
noncomputable def Itr(lo:Int)(n:Nat):It:=(λi _=>i<n,λi H x H'=>H'=H/\x=.int (lo+i),λi _=>n<=i)
theorem a7A{P:gO}{w:World}{K:Fg}{tg:Expr}(a it:Addr):Turn P w K tg (Itl K a) [it] it (λi h=>h.IsListIter it a i) where
 mem:=by simp
 obj:=λi h st b hb=>by
  let e:b=it:=↑hb
  subst e;let(o,e,c,d):=st;show(o,e,λv z=>by rw[d]at z;cases z)
 keep:=λi h h' st k=>st.at λo e=>k it (by simp) o e
 item:=by
  ext X hP hw hK hc i pins s σ H E I hf st hg;subst hP hw hK;let(xs,x,hq,hx):=hg;let(its,rv,p,hz):=I.list hq;let(u,hu,ru):=rv.get hx;let(f0,f1,f2,f3,f4,f5):=hf it (by simp);show wpAny_pyNext_list_item st p.isList (x:=u) ↑hu λh' st' sb=>?_;let I1:Inv X pins σ H { s with heap:=h' }:=I.turned (t':=s.toks) (λb o hb e=>(sb.2 b hb).trans e) f0 f1 f3 f4 f5;let(o,e,c,d):=id st';show(u,rfl,a7z (s:={ s with heap:=h' }) e c d (by decide) (x,H,I1,ru,(rfl,λys hy=>by rw[I.list_inj hy hq];show hx),st',λb hb=>(hf b hb).1))
 done:=by
  ext X hP hw hK hc i pins s σ H E I hf st hg;subst hP hw hK;let(xs,hq,hx):=hg;let(its,rv,p,hz):=I.list hq;let(f0,f1,f2,f3,f4,f5):=hf it (by simp);let hl:=rv.length;show wpAny_pyNext_list_end (I.ok.hd hc) st p.isList (by simp;cbv) λh' eb=>(rfl,I.turned (t':=s.toks) (λb o hb e=>eb b o hb e) f0 f1 f3 f4 f5)
 self:=λ_ _ _ _ _ st h=>wpAny_pyIter_listiter st h
theorem a6L{P:gO}{w:World}{K:Fg}{tg:Expr}(a it:Addr):Turn P w K tg (Itt K a) [it] it (λi h=>h.IsTupleIter it a i) where
 mem:=by simp
 obj:=λi h st b hb=>by
  let e:b=it:=↑hb
  subst e;let(o,e,c,d):=st;show(o,e,λv z=>by rw[d]at z;cases z)
 keep:=λi h h' st k=>st.at λo e=>k it (by simp) o e
 item:=by
  ext X hP hw hK hc i pins s σ H E I hf st hg;subst hP hw hK;let(xs,x,hq,hx):=hg;let(its,rv,p,hz):=I.tuple hq;let(u,hu,ru):=rv.get hx;let(f0,f1,f2,f3,f4,f5):=hf it (by simp);show wpAny_pyNext_tuple_item st (show s.heap.IsTuple a its.toArray from p) (x:=u) ↑hu λh' st' sb=>?_;let I1:Inv X pins σ H { s with heap:=h' }:=I.turned (t':=s.toks) (λb o hb e=>(sb.2 b hb).trans e) f0 f1 f3 f4 f5;let(o,e,c,d):=id st';show(u,rfl,a7z (s:={ s with heap:=h' }) e c d (by decide) (x,H,I1,ru,(rfl,λys hy=>by rw[I.tuple_inj hy hq];show hx),st',λb hb=>(hf b hb).1))
 done:=by
  ext X hP hw hK hc i pins s σ H E I hf st hg;subst hP hw hK;let(xs,hq,hx):=hg;let(its,rv,p,hz):=I.tuple hq;let(f0,f1,f2,f3,f4,f5):=hf it (by simp);let hl:=rv.length;show wpAny_pyNext_tuple_end (I.ok.hd hc) st (show s.heap.IsTuple a its.toArray from p) (by simp;cbv) λh' eb=>(rfl,I.turned (t':=s.toks) (λb o hb e=>eb b o hb e) f0 f1 f3 f4 f5)
 self:=λ_ _ _ _ _ st h=>wpAny_pyIter_tupleiter st h
theorem a6M{P:gO}{w:World}{K:Fg}{tg:Expr}(it:Addr)(lo:Int)(n:Nat):Turn P w K tg (Itr lo n) [it] it (λi h=>IsRangeIter h it (lo+(i:Nat)*1) ((n:Int)-(i:Nat)) 1) where
 mem:=by simp
 obj:=λi h st b hb=>by
  let e:b=it:=↑hb
  subst e;show(_,st,λv z=>by
   let z':Data.fields _=Data.cell v:=z;cases z')
 keep:=λi h h' st k=>k it (by simp) _ st
 item:=by
  ext X hP hw hK hc i pins s σ H E I hf st hg;subst hP hw hK;let(f0,f1,f2,f3,f4,f5):=hf it (by simp);let W:=Walks.range (prog:=X.prog) (w:=X.w) (I.ok.hd hc) it lo 1 n;show W.item i s _ _ hg st λv h' tk hv st' kk=>?_;let(t,rfl):=hv;let I1:Inv X pins σ H { s with heap:=h',toks:=tk }:=I.turned (λb o hb e=>kk b o ↑hb e) f0 f1 f3 f4 f5;show(_,rfl,a7z (s:={ s with heap:=h',toks:=tk }) (n:="range_iterator") st' rfl rfl (by decide) (.int (lo+i),H,I1,(t,?_),(rfl,rfl),st',λb hb=>(hf b hb).1));rw[Int.mul_one]
 done:=by
  ext X hP hw hK hc i pins s σ H E I hf st hg;subst hP hw hK;let(f0,f1,f2,f3,f4,f5):=hf it (by simp);show wpAny_pyNext_range_end (I.ok.hd hc) st (by let:n<=i:=hg;cbv) λh' eb=>(rfl,I.turned (t':=s.toks) (λb o hb e=>eb b o hb e) f0 f1 f3 f4 f5)
 self:=λ_ _ _ _ _ st h=>wpAny_pyIter_rangeiter st h
section
variable{tg:Expr}
def b7n(K:Fg)(tl:TE):TI:=fun σ H R=>tl σ H λx H1=>∃a,x=.ref a/\(∃xs,SqL K H1 a xs)/\R (Itl K a) H1
def iTup(K:Fg)(tl:TE):TI:=fun σ H R=>tl σ H λx H1=>∃a,x=.ref a/\(∃xs,SqT K H1 a xs)/\R (Itt K a) H1
def b2v(hl:PE X l tl):PI X tg l (b7n X.K tl):=by
 ext f s σ H R I h;show thn (hl f s σ H _ I h) λv d (x,m,c,g,i)=>?_;let(a,e,(r,j),q):=i;subst e;cases g;let(n,u,p,t):=c.list j;show jx p.isList (d.heap.objs.size,[d.heap.objs.size],_,_,m,rfl,c.kept λb o e=>Heap.get?_push_of_some _ e,a7A a _,(_,Heap.get?_push_size _ rfl,rfl,rfl),λb k=>?_,q);let e:b=d.heap.objs.size:=by simp_all
 subst e;show c.fpOk (b8 _) (c.hok.fresh (b8 _))
def b4F(hl:PE X l tl):PI X tg l (iTup X.K tl):=by
 ext f s σ H R I h;show thn (hl f s σ H _ I h) λv c (x,m,d,k,j)=>?_;let(a,e,(u,n),q):=j;subst e;cases k;let(g,t,p,r):=d.tuple n;show wpAny_pyIter_tuple (p) (c.heap.objs.size,[c.heap.objs.size],_,_,m,rfl,d.kept λb o e=>Heap.get?_push_of_some _ e,a6L a _,(_,Heap.get?_push_size _ rfl,rfl,rfl),λb i=>?_,q);let e:b=c.heap.objs.size:=by simp_all
 subst e;show d.fpOk (b8 _) (d.hok.fresh (b8 _))
def a95{lo hi:Int}(I:Inv X pins σ H s)(h1:-(2 ^ 62)<=lo)(h2:lo<2 ^ 62)(h3:-(2 ^ 62)<=hi)(h4:hi<2 ^ 62)
  (q:R (Itr lo (hi-lo).toNat) H):wpAny (model X.prog X.w) X.A (pyIter (.ref s.heap.objs.size)) (PIE X pins σ tg R) E { s with heap:=s.heap.push { cls:=.type "range",data:=.fields #[.int lo t,.int hi u,.int 1 v] },toks:=tk }:=by
 show wpAny_pyIter_range (IsRange.new ..) (small_one h1 h2 h3 h4) ?_;let a:Inv X pins σ H { s with heap:=s.heap.push { cls:=.type "range",data:=.fields #[.int lo t,.int hi u,.int 1 v] },toks:=tk }:=I.kept λb o e=>Heap.get?_push_of_some _ e;show((s.heap.push { cls:=.type "range",data:=.fields #[.int lo t,.int hi u,.int 1 v] }).objs.size,[(s.heap.push { cls:=.type "range",data:=.fields #[.int lo t,.int hi u,.int 1 v] }).objs.size],_,_,H,rfl,
  a.kept λb o e=>Heap.get?_push_of_some _ e,a6M _ lo (hi-lo).toNat,?_,λb d=>?_,q)
 .let c:lo+((0:Nat))*1=lo:=by simp
  let f:(((hi-lo).toNat))-((0:Nat))=gY.Range.rangeSize lo hi 1:=by rw[rangeSize_one];split<;>lia
  rw[c,f];show Heap.get?_push_size _ rfl
 .let e:b=(s.heap.push { cls:=.type "range",data:=.fields #[.int lo t,.int hi u,.int 1 v] }).objs.size:=↑d
  subst e;show a.fpOk (b8 _) (a.hok.fresh (b8 _))
def b4G(ta:TA):TI:=fun σ H R=>ta σ H λvs H1=>∃j:Int,vs=[.int j]/\-(2 ^ 62)<=j/\j<2 ^ 62/\R (Itr 0 j.toNat) H1
def a7B(hg:Gl X "range")(hm:X.mg "range"=jN)(ha:PA X [a] ta)(hs:gM [a] X.env=[(jP,eval a X.env,)]):PI X tg (.Call (.Name "range" p) [a] [] pos) (b4G ta):=by
 ext b s σ H R I h;show Call_ (a4C I hg hm boot_range (PyProof.Rows.callWith_type1 (thn (ha pos b s σ H _ I h) λl k (i,m,d,f,c)=>?_) hs rfl));let(j,e,c,g,q):=c;subst e;cases f with
 |cons r rr=>
  cases rr;let(t,rfl):=r;show call_range_1 (a95 d (by simp) (by simp) c g (by grind))
def tFor(wi:TI)(g:TG)(tb:TS):TS:=λD σ H=>wi σ H λJ H1=>∃W:Nat->Nat->St->Hp->Prop,(∃m,W 0 m σ H1)/\∀i m σ H,W i m σ H ->
 (J.stop i H/\D.nx σ H)\/(J.go i H/\∃N:St->Hp->Prop,(∀σ' H',N σ' H'->∃m',m'<m/\W (i+1) m' σ' H')/\∀x H',J.yld i H x H'->g x σ H' fun σ2 H2=>tb { D with nx:=N,ct:=N,bk:=D.nx } σ2 H2)
noncomputable def a54(fp:List Addr)(h:Heap):List (Addr×Obj):=fp.filterMap λb=>(h.get? b).map λo=>(b,o,)
def a1y(hb:b∈fp)(e:h.get? b=cL o):(b,o,)∈a54 fp h:=dH.mpr (b,hb,by rw[e];rfl)
def a7C(hp:p∈a54 fp h):p.1∈fp/\h.get? p.1=cL p.2:=by
 let(b,a,e):=dH.mp hp;cases q:h.get? b with
 |none=>rw[q]at e;cases e
 |some o=>
  rw[q]at e;let c:=cL.inj e;subst c;show(a,q)
def Inv.pinned(I:Inv X pins σ H s)(hf:∀b∈fp,FpOk X pins H b)(ho:∀b∈fp,∃o,s.heap.get? b=cL o/\∀v,o.data≠.cell v):Inv X (pins++a54 fp s.heap) σ H s:=
 I.pins_of λp h=>(b9.mp h).elim (λz=>I.pin p (cX _ z)) λz=>by
  let(a,e):=a7C z;let(g,f,i,_):=hf p.1 a;let(o,c,d):=ho p.1 a;rw[e]at c;cases c;show(e,g,f,i,d)
def Inv.unpinned(I:Inv X (pins++pl) σ H s):Inv X pins σ H s:=I.pins_of λp a=>I.pin p (cX _ (eY _ a))
def b4H(hp:iA (model X.prog X.w) X.A X.env X.xe)(hc:X.calm=jO)(hi:PI X tg iter wi)(hg:PG X tg g)(hb:PSs X body tb)
  (hs:∀x,iC iter X.env x=pure x:=by ext _;rfl):PS X (.For tg iter body [] pos) (tFor wi g tb):=by
 ext a s σ H D I h;show wpAny_For (thn (hi a s σ H _ I h) λv s1 h1=>thn h1 λitv s2 h2=>?_) hs;let(it,z,Q,J,H2,e,I2,T,st2,S,W,(m0,w0),F):=h2;subst e;let p:∀{H':Hp},(∀b∈z,H' b=jN)->∀b∈z,FpOk X a H' b:=λhn b hb=>(hn b hb,(S b hb).2);show codeAny_forLoop_any (λn Y=>∃i σ' H',Inv X a σ' H' Y/\Q i Y.heap/\(∀b∈z,H' b=jN)/\W i n σ' H') ?_ m0 (0,σ,H2,I2,st2,λb hb=>(S b hb).1,w0);ext n U ⟨i,σ3,B,R,E,C,w3⟩;let(stop,qn)||(go,N,hN,step):=F i n σ3 B w3
 .show iV hp (thn (T.done X rfl rfl rfl hc i a U σ3 B X.xe R (p C) E stop) λr s4 Y=>Y.elim λG I4=>?_);subst G;show iG (σ3,B,I4,qn)
 .show iV hp (thn (T.item X rfl rfl rfl hc i a U σ3 B X.xe R (p C) E go) λr s4 Y=>Y.elim λu Y=>Y.elim λG h4=>?_);subst G;show iV hp (thn h4 λ_ s5 (x,H5,I5,r5,y5,y,M)=>(iV hp (thn (hg _ s5 σ3 H5 x u _ (I5.pinned (p M) (T.obj _ _ y)) r5 (step x H5 y5)) λ_ s6 (σ6,H6,I6,q6)=>(iV hp (thn (hb _ s6 σ6 H6 _ I6 q6) λf L l=>?_)))));let q:∀{σ7:St}{j:Hp},Inv X _ σ7 j L->N σ7 j->∃m,m<n/\∃i σ' H',Inv X a σ' H' L/\Q i L.heap/\(∀b∈z,H' b=jN)/\W i m σ' H':=λ{σ7 j} c t=>by
   let(m',hm,w7):=hN σ7 j t;show(m',hm,i+1,σ7,j,c.unpinned,T.keep _ _ _ y λb hb o e=>(c.pin _ (cX _ (cX _ (a1y hb e)))).1,λb hb=>?_,w7);let(o,e,d):=T.obj _ _ y b hb;show (c.pin _ (cX _ (cX _ (a1y hb e)))).2.1
  cases f with
  |next=>let(σ7,j,c,t):=l;show q c t
  |cont=>let(σ7,j,c,t):=l;show q c t
  |brk=>let(σ7,j,c,l):=l;show(σ7,j,c.unpinned,l)
  |ret v=>let(x7,σ7,j,c,r7,l):=l;show(x7,σ7,j,c.unpinned,r7,l)
end
abbrev R2:=V->V->Hp->VK->Prop
def OpR(X:Cx)(f:Value->Value->Sem Value)(r:R2):Prop:=
 ∀(pins:List (Addr×Obj))(s:Shared)(σ:St)(H:Hp)(x y:V)(v u:Value)(Q:VK),Inv X pins σ H s->RelV x v->RelV y u->r x y H Q ->
  wpAny (model X.prog X.w) X.A (f v u) (EP X pins σ Q) X.xe s
def UnR(X:Cx)(f:Value->Sem Value)(r:V->Hp->VK->Prop):Prop:=
 ∀(pins:List (Addr×Obj))(s:Shared)(σ:St)(H:Hp)(x:V)(v:Value)(Q:VK),Inv X pins σ H s->RelV x v->r x H Q ->
  wpAny (model X.prog X.w) X.A (f v) (EP X pins σ Q) X.xe s
def CallR(X:Cx)(f:Value)(r:List V->Hp->VK->Prop):Prop:=
 ∀(pins:List (Addr×Obj))(s:Shared)(σ:St)(H:Hp)(xs:List V)(us:List Value)(Q:VK),Inv X pins σ H s->Vals xs us->r xs H Q ->
  wpAny (model X.prog X.w) X.A (call f us) (EP X pins σ Q) X.xe s
def TruR(X:Cx)(r:V->Hp->(Bool->Hp->Prop)->Prop):Prop:=
 ∀(pins:List (Addr×Obj))(s:Shared)(σ:St)(H:Hp)(x:V)(v:Value)(Q:Bool->Hp->Prop),Inv X pins σ H s->RelV x v->r x H Q ->
  wpAny (model X.prog X.w) X.A (truthy v) (TP X pins σ Q) X.xe s
def tOp(r:R2)(ta tb:TE):TE:=fun σ H Q=>ta σ H λx H1=>tb σ H1 λy H2=>r x y H2 Q
def tUn(r:V->Hp->VK->Prop)(ta:TE):TE:=fun σ H Q=>ta σ H λx H1=>r x H1 Q
def rI(C:Int->Int->Prop)(g:Int->Int->V):R2:=λx y H Q=>∃i j,x=.int i/\y=.int j/\C i j/\Q (g i j) H
def rI0(g:Int->Int->V):R2:=λx y H Q=>∃i j,x=.int i/\y=.int j/\Q (g i j) H
def rU(g:Int->V):V->Hp->VK->Prop:=λx H Q=>∃i,x=.int i/\Q (g i) H
section
variable{a b c:Expr}{ta tb:TE}
def binT(ha:PE X a ta)(hb:PE X b tb){R:V->V->Hp->Prop}(I:Inv X pins σ H s)
  (h:ta σ H λx H1=>tb σ H1 λy H2=>R x y H2) {f:Value->Value->Sem Value}
  (hf:∀v u s2 x y H2,Inv X pins σ H2 s2->RelV x v->RelV y u->R x y H2->wpAny (model X.prog X.w) X.A (f v u) Q X.xe s2) :
  wpAny (model X.prog X.w) X.A (eval a X.env) (λv sj=>wpAny (model X.prog X.w) X.A (eval b X.env) (λu sv=>wpAny (model X.prog X.w) X.A (f v u) Q X.xe sv) X.xe sj) X.xe s:=by
 show thn (ha pins s σ H _ I h) λv c (x,j,i,g,n)=>(thn (hb pins c σ j _ i n) λu e (y,m,d,k,l)=>(hf v u e x y m d g k l))
def b7o(ho:OpR X (gZ op) r)(ha:PE X a ta)(hb:PE X b tb):PE X (.BinOp a op b pos) (tOp r ta tb):=λc s σ H Q I h=>wpAny_BinOp (binT ha hb I h λv u i x y f e d g q=>ho c i σ f x y v u Q e d g q)
def b7p(ho:UnR X (jf op) r)(ha:PE X a ta):PE X (.UnaryOp op a pos) (tUn r ta):=λb s σ H Q I h=>UnaryOp_ (thn (ha b s σ H _ I h) λv d (x,e,c,g,f)=>ho b d σ e x v Q c g f)
def opI{g:Int->Int->Int}
  (rule:∀(i j:Int)(t u:Tok)(s:Shared)(Q:Value->Shared->Prop)(E:Value->Shared->Prop),C i j->Q (.int (g i j) s.toks) { s with toks:=s.toks+1 }->wpAny (model X.prog X.w) X.A (f (.int i t) (.int j u)) Q E s) :
  OpR X f (rI C λi j=>.int (g i j)):=by
 ext b s σ H x y v u Q I a d h;let(i,j,rfl,rfl,e,q):=h;let(t,rfl):=a;let(c,rfl):=d;show rule i j t c s _ _ e (.int _,H,I.tok _,(_,rfl),q)
def opI0{g:Int->Int->Int}
  (rule:∀(i j:Int)(t u:Tok)(s:Shared)(Q:Value->Shared->Prop)(E:Value->Shared->Prop),Q (.int (g i j) s.toks) { s with toks:=s.toks+1 }->wpAny (model X.prog X.w) X.A (f (.int i t) (.int j u)) Q E s) :
  OpR X f (rI0 λi j=>.int (g i j)):=by
 ext a s σ H x y v u Q I d b h;let(i,j,rfl,rfl,q):=h;let(t,rfl):=d;let(c,rfl):=b;show rule i j t c s _ _ (.int _,H,I.tok _,(_,rfl),q)
def opB0{g:Int->Int->Bool}
  (rule:∀(i j:Int)(t u:Tok)(s:Shared)(Q:Value->Shared->Prop)(E:Value->Shared->Prop),Q (.bool (g i j)) s->wpAny (model X.prog X.w) X.A (f (.int i t) (.int j u)) Q E s) :
  OpR X f (rI0 λi j=>.bl (g i j)):=by
 ext d s σ H x y v u Q I c a h;let(i,j,rfl,rfl,q):=h;let(t,rfl):=c;let(b,rfl):=a;show rule i j t b s _ _ (.bl _,H,I,rfl,q)
def CPow(i j:Int):Prop:=0<=j/\j<=1000000/\i.natAbs<2 ^ 64
def CMul(i j:Int):Prop:=(-(2 ^ 64)<i/\i<2 ^ 64)\/(-(2 ^ 64)<j/\j<2 ^ 64)
def CMul.ok(h:CMul i j):IntMulOk i j:=by
 let(h1,h2)||(h1,h2):=h
 .show .of_left (intBits_le_64 h1 h2)
 .show .of_right (intBits_le_64 h1 h2)
def op_add:OpR X (gZ .Add) (rI0 λi j=>.int (i+j)):=opI0 λ_ _ _ _ _ _ _ q=>add_int q
def b4I:OpR X (gZ .Sub) (rI0 λi j=>.int (i-j)):=opI0 λ_ _ _ _ _ _ _ q=>sub_int q
def b4J:OpR X (gZ .Mult) (rI CMul λi j=>.int (i*j)):=opI λ_ _ _ _ _ _ _ a q=>mul_int q a.ok
def b4K:OpR X (gZ .Mod) (rI (λ_ j=>0<j) λi j=>.int (i % j)):=opI λi j _ _ _ _ _ a q=>by
 let b:(0:Int)<j:=a;show mod_int' (by lia) (by rw[Int.fmod_eq_emod_of_nonneg i (by lia)];show q)
def b4L:OpR X (gZ .Pow) (rI CPow λi j=>.int (i ^ j.toNat)):=opI λ_ _ _ _ _ _ _ a q=>pow_int_small a.1 a.2.1 a.2.2 q
def b2w:OpR X (iu .Add) (rI0 λi j=>.int (i+j)):=opI0 λ_ _ _ _ _ _ _ q=>iadd_int q
def unI{g:Int->Int}
  (rule:∀(i:Int)(t:Tok)(s:Shared)(Q:Value->Shared->Prop)(E:Value->Shared->Prop),Q (.int (g i) s.toks) { s with toks:=s.toks+1 }->wpAny (model X.prog X.w) X.A (f (.int i t)) Q E s) :
  UnR X f (rU λi=>.int (g i)):=by
 ext b s σ H x v Q I a h;let(i,rfl,q):=h;let(t,rfl):=a;show rule i t s _ _ (.int _,H,I.tok _,(_,rfl),q)
def b4M:UnR X (jf .USub) (rU λi=>.int (-i)):=unI λ_ _ _ _ _ q=>neg_int q
end
noncomputable def scal:V->V->Bool
 |.non,.non=>jO |.non,.int _=>jO |.int _,.non=>jO |.non,.bl _=>jO |.bl _,.non=>jO |.non,.str _=>jO |.str _,.non=>jO
 |.int _,.int _=>jO |.bl _,.bl _=>jO |.str _,.str _=>jO |.byt _,.byt _=>jO
 |.int _,.str _=>jO |.str _,.int _=>jO |.bl _,.str _=>jO |.str _,.bl _=>jO
 |_,_=>jP
def rEq:R2:=λx y H Q=>scal x y=jO/\Q (.bl (decide (x=y))) H
def rNe:R2:=λx y H Q=>scal x y=jO/\Q (.bl (!decide (x=y))) H
def a7D:decide (V.int i=V.int j)=(i==j):=by
 rw[dN];simp
def a7E:decide (V.bl i=V.bl j)=(i==j):=by
 rw[dN];simp
def a7F:decide (V.str i=V.str j)=(i==j):=by
 rw[dN];simp
def a7G:decide (V.byt i=V.byt j)=(i.toList==j.toList):=by
 rw[dN];cases i;cases j;simp
section
variable{a b c:Expr}{ta tb tc:TE}
def a0n(I:Inv X pins σ H s)(q:Q (.bl k) H)(e:k=k'):EP X pins σ Q (.bool k') s:=by
 subst e;show(.bl k,H,I,rfl,q)
def op_eq:OpR X (gQ .Eq) rEq:=by
 ext pins s σ H x y v u Q I rx ry h;let(hs,q):=h;cases x with
 |non=>
  cases rx;cases y with
  |non=>cases ry;show PySem.EqNone.eq_none_none (a0n I q (by simp))
  |bl j=>cases ry;show PySem.EqNone.eq_none_bool (a0n I q (by simp))
  |int j=>let(t',rfl):=ry;show PySem.EqNone.eq_none_int (a0n I q (by simp))
  |str j=>let(t',rfl):=ry;show PySem.EqNone.eq_none_str (a0n I q (by simp))
  |_=>show absurd (show jP=jO from hs) cJ
 |bl i=>
  cases rx;cases y with
  |non=>cases ry;show PySem.EqNone.eq_bool_none (a0n I q (by simp))
  |bl j=>cases ry;show eq_bool (a0n I q a7E)
  |str j=>let(t',rfl):=ry;show PySem.EqMixed.eq_bool_str (a0n I q (by simp))
  |_=>show absurd (show jP=jO from hs) cJ
 |int i=>
  let(t,rfl):=rx;cases y with
  |non=>cases ry;show PySem.EqNone.eq_int_none (a0n I q (by simp))
  |int j=>let(t',rfl):=ry;show eq_int (a0n I q a7D)
  |str j=>let(t',rfl):=ry;show PySem.EqMixed.eq_int_str (a0n I q (by simp))
  |_=>show absurd (show jP=jO from hs) cJ
 |str i=>
  let(t,rfl):=rx;cases y with
  |non=>cases ry;show PySem.EqNone.eq_str_none (a0n I q (by simp))
  |bl j=>cases ry;show PySem.EqMixed.eq_str_bool (a0n I q (by simp))
  |int j=>let(t',rfl):=ry;show PySem.EqMixed.eq_str_int (a0n I q (by simp))
  |str j=>let(t',rfl):=ry;show eq_str (a0n I q a7F)
  |_=>show absurd (show jP=jO from hs) cJ
 |byt i=>
  let(t,rfl):=rx;cases y with
  |byt j=>let(t',rfl):=ry;show PySem.W.eq_bytes (a0n I q a7G)
  |_=>show absurd (show jP=jO from hs) cJ
 |_=>cases y<;>show absurd (show jP=jO from hs) cJ
def op_ne:OpR X (gQ .NotEq) rNe:=by
 ext e s σ H x y v u Q I d a h;let(c,q):=h;cases x with
 |non=>
  cases d;cases y with
  |non=>cases a;show PySem.EqNone.ne_none_none (a0n I q (by simp))
  |bl j=>cases a;show PySem.EqNone.ne_none_bool (a0n I q (by simp))
  |int j=>let(b,rfl):=a;show PySem.EqNone.ne_none_int (a0n I q (by simp))
  |str j=>let(b,rfl):=a;show PySem.EqNone.ne_none_str (a0n I q (by simp))
  |_=>show absurd (show jP=jO from c) cJ
 |bl i=>
  cases d;cases y with
  |non=>cases a;show PySem.EqNone.ne_bool_none (a0n I q (by simp))
  |bl j=>cases a;show ne_bool (a0n I q (congrArg not a7E))
  |str j=>let(b,rfl):=a;show PySem.EqMixed.ne_bool_str (a0n I q (by simp))
  |_=>show absurd (show jP=jO from c) cJ
 |int i=>
  let(t,rfl):=d;cases y with
  |non=>cases a;show PySem.EqNone.ne_int_none (a0n I q (by simp))
  |int j=>let(b,rfl):=a;show ne_int (a0n I q (congrArg not a7D))
  |str j=>let(b,rfl):=a;show PySem.EqMixed.ne_int_str (a0n I q (by simp))
  |_=>show absurd (show jP=jO from c) cJ
 |str i=>
  let(t,rfl):=d;cases y with
  |non=>cases a;show PySem.EqNone.ne_str_none (a0n I q (by simp))
  |bl j=>cases a;show PySem.EqMixed.ne_str_bool (a0n I q (by simp))
  |int j=>let(b,rfl):=a;show PySem.EqMixed.ne_str_int (a0n I q (by simp))
  |str j=>let(b,rfl):=a;show ne_str (a0n I q (congrArg not a7F))
  |_=>show absurd (show jP=jO from c) cJ
 |byt i=>
  let(t,rfl):=d;cases y with
  |byt j=>let(b,rfl):=a;show PySem.W.ne_bytes (a0n I q (congrArg not a7G))
  |_=>show absurd (show jP=jO from c) cJ
 |_=>cases y<;>show absurd (show jP=jO from c) cJ
def b7q:OpR X (gQ .Lt) (rI0 λi j=>.bl (decide (i<j))):=opB0 λ_ _ _ _ _ _ _ q=>lt_int q
def b7r:OpR X (gQ .LtE) (rI0 λi j=>.bl (decide (i<=j))):=opB0 λ_ _ _ _ _ _ _ q=>le_int q
def b7s:OpR X (gQ .Gt) (rI0 λi j=>.bl (decide (j<i))):=opB0 λ_ _ _ _ _ _ _ q=>gt_int q
def a7H:OpR X (gQ .Lt) (λx y H Q=>∃i j,x=.str i/\y=.str j/\Q (.bl (decide (i.cps.toList<j.cps.toList))) H):=by
 ext b s σ H x y v u Q I a c h;let(i,j,rfl,rfl,q):=h;let(t,rfl):=a;let(d,rfl):=c;show lt_str (a0n I q rfl)
def op_isN:OpR X (gQ .Is) (λx y H Q=>y=.non/\Q (.bl (decide (x=.non))) H):=by
 ext b s σ H x y v u Q I a c h;let(rfl,q):=h;cases c;show is_none_gen (a0n I q ?_);cases x<;>first
  | (cases a;rfl)
  | (let(t,rfl):=a;rfl)
def b2x:OpR X (gQ .IsNot) (λx y H Q=>y=.non/\Q (.bl (!decide (x=.non))) H):=by
 ext c s σ H x y v u Q I a b h;let(rfl,q):=h;cases b;show isnot_none_gen (a0n I q ?_);cases x<;>first
  | (cases a;rfl)
  | (let(t,rfl):=a;rfl)
def op_notin_str:OpR X (gQ .NotIn) (λx y H Q=>∃i j,x=.str i/\y=.str j/\Q (.bl (!(!(gY.Str.occurrences j i 0 j.length 1).isEmpty))) H):=by
 ext c s σ H x y v u Q I b a h;let(i,j,rfl,rfl,q):=h;let(t,rfl):=b;let(d,rfl):=a;show notIn_str (a0n I q rfl)
def OpR.or(h:OpR X f r)(h':OpR X f r'):OpR X f (λx y H Q=>r x y H Q\/r' x y H Q):=by
 ext a s σ H x y v u Q I c b q;let q||q:=q
 .show h a s σ H x y v u Q I c b q
 .show h' a s σ H x y v u Q I c b q
def a55(b:Expr)(h:op≠.In:=by decide)(h2:op≠.NotIn:=by decide):iH op b=jP:=by
 let a:(op==CmpOp.In)=jP:=by grind
 let c:(op==CmpOp.NotIn)=jP:=by grind
 cases b<;>simp[iH,a,c]
def b2y(ho:OpR X (gQ op) r)(ha:PE X a ta)(hb:PE X b tb)(hm:iH op b=jP):PE X (.Compare a [op] [b] pos) (tOp r ta tb):=λc s σ H Q I h=>wpAny_Compare1 (binT ha hb I h λv u d x y f g i e q=>ho c d σ f x y v u Q g i e q) hm
def b4N(t:TE):TT:=fun σ H Q=>t σ H λx H'=>∃k,x=.bl k/\Q k H'
def b2z(ho:OpR X (gQ op) r)(ha:PE X a ta)(hb:PE X b tb)(hm:iH op b=jP):PT X (.Compare a [op] [b] pos) (b4N (tOp r ta tb)):=by
 ext d s σ H Q I h;show wpAny_isTrue_Compare1 (thn (ha d s σ H _ I h) λv l (x,w,f,n,B)=>thn (hb d l σ w _ f B) λu t (y,m,i,j,A)=>
  thn (ho d t σ m x y v u _ i n j A) λc C (z,q,p,o,k,e,g)=>?_) hm
 subst e;cases o;show iz (q,p,g)
def a7I(r r':R2)(ta tb tc:TE):TE:=fun σ H Q=>ta σ H λx H1=>tb σ H1 λy H2=>r x y H2 λz H3=>∃k,z=.bl k /\
 (if k=jO then tc σ H3 λw' H4=>r' y w' H4 Q else Q (.bl jP) H3)
def a96(ho:OpR X (gQ op) r)(ho':OpR X (gQ op') r')(ha:PE X a ta)(hb:PE X b tb)(hc:PE X c tc)
  (hm:jg [op,op'] [b,c]=jP:=by with_unfolding_all rfl):PE X (.Compare a [op,op'] [b,c] pos) (a7I r r' ta tb tc):=by
 ext f s σ H Q I h;show Compare_chain (thn (ha f s σ H _ I h) λv m (x,t,J,p,N)=>chain_link (thn (hb f m σ t _ J N) λu o (y,C,F,j,L)=>
  thn (ho f o σ C x y v u _ F p j L) λd A (z,i,g,n,k,e,l)=>?_)) hm
 subst e;cases n;show iz ?_;cases k with
 |false=>show ite_ff (.bl jP,i,g,rfl,l)
 |true=>show ite_tt (chain_last (thn (hc f A σ i _ g l) λM w (D,q,B,G,E)=>ho' f w σ q y D u M Q B j G E))
def a97(ho:OpR X (gQ op) r)(ho':OpR X (gQ op') r')(ha:PE X a ta)(hb:PE X b tb)(hc:PE X c tc)
  (hm:jg [op,op'] [b,c]=jP:=by with_unfolding_all rfl):PT X (.Compare a [op,op'] [b,c] pos) (b4N (a7I r r' ta tb tc)):=by
 ext f s σ H Q I h;show isTrue_chain (thn (ha f s σ H _ I h) λv B (x,G,p,D,R)=>test_link (thn (hb f B σ G _ p R) λu q (y,V,J,l,Y)=>
  thn (ho f q σ V x y v u _ J D l Y) λd S (z,j,i,T,k,e,g)=>?_)) hm
 subst e;cases T;show iz ?_;cases k with
 |false=>
  let(k',t,w):=g;cases t;show ite_ff (j,i,w)
 |true=>
  show ite_tt (test_last (thn (hc f S σ j _ i g) λN F (U,o,C,L,m)=>thn (ho' f F σ o y U u N _ C l L m) λd' s5 (z2,A,W,n,k2,M,E)=>?_));subst M;cases n;show iz (A,W,E)
def TruV(K:Fg)(x:V)(H:Hp)(k:Bool):Prop:=
 match x with
 |.non=>k=jP
 |.bl b=>k=b
 |.int i=>k=(i != 0)
 |.str y=>y.length<=gI/\k=((y.length:Int) != 0)
 |.byt y=>y.size<=gI/\k=((y.size:Int) != 0)
 |.ref p=>(∃xs,SqL K H p xs/\k=!xs.isEmpty)\/(∃xs,SqT K H p xs/\k=!xs.isEmpty)\/∃kvs,H p=cL (.dK kvs)/\k=!kvs.isEmpty
 |_=>False
def a6N{κ:Type}{kvs:List (κ×V)}{vs:List (κ×Value)}(r:KV kvs vs):(!vs.isEmpty)=!kvs.isEmpty:=by
 cases r<;>rfl
def a3F(r:Vals xs its):(!its.toArray.isEmpty)=!xs.isEmpty:=by
 cases r<;>simp
def a4D:(gI:Nat)<2 ^ 63:=by rw[g7];decide
def b4O:TruR X (λx H Q=>∃k,TruV X.K x H k/\Q k H):=by
 ext u s σ H x v Q I c h;let(k,e,q):=h;let z:=a4D;let A:gI=16777216:=g7;cases x with
 |non=>
  cases c;let a:k=jP:=e;subst a;show truthy_none (H,I,q)
 |bl b=>
  cases c;let a:k=b:=e;subst a;show iz (H,I,q)
 |int i=>
  let(t,rfl):=c;let a:k=(i != 0):=e;subst a;show PySem.P.truthy_int (H,I,q)
 |str y=>
  let(t,rfl):=c;let(o,a):=e;subst a;show PySem.P.truthy_str (by lia) (H,I.tok _,q)
 |byt y=>
  let(t,rfl):=c;obtain⟨o,a⟩:y.size<=gI/\k=((y.size:Int) != 0):=e;subst a;show PySem.W.truthy_bytes (by lia) (H,I.tok _,q)
 |ref p=>
  cases c;let a:=e;let(xs,hx,a)||(xs,hx,a)||(kvs,hx,a):=a
  .subst a;let(l,r,g,j):=I.list hx;let d:=r.length;show wpAny_truthy_list g.isList (by simp only[cN];lia) (H,I.tok _,by rw[a3F r];show q)
  .subst a;let(l,r,g,j):=I.tuple hx;let d:=r.length;show truthy_tuple g (by simp only[cN];lia) (H,I.tok _,by rw[a3F r];show q)
  .subst a;let(j,n,f,r,m):=I.hok p _ hx;let d:kvs.length=f.length:=Paired.length r;show wpAny_truthy_dict n m (by lia) (H,I.tok _,by rw[a6N r];show q)
 |_=>show (show False from e).elim
def a98(ha:PE X a ta)(he:∀whole,isTrue a X.env whole=(do let v <- whole;hI a.pos;g0 [v] (truthy v))) :
  PT X a (fun σ H Q=>ta σ H λx H'=>∃k,TruV X.K x H' k/\Q k H'):=λb s σ H Q I h=>isTrue_plain (thn (ha b s σ H _ I h) λv e (x,f,d,g,c)=>b4O b e σ f x v Q d g c) (he _)
def op_add_str:OpR X (gZ .Add) (λx y H Q=>∃i j,x=.str i/\y=.str j/\i.length+j.length<=gI/\Q (.str (i++j)) H):=by
 ext b s σ H x y v u Q I a d h;let(i,j,rfl,rfl,e,q):=h;let(t,rfl):=a;let(c,rfl):=d;show add_str (λc f=>(.str (i++j),H,I.tok _,(_,rfl),q)) e
def a2C(r:Vals [x] us):∃u,us=[u]/\RelV x u:=by
 cases r with
 |cons r1 r2=>cases r2;show(_,rfl,r1)
def a7J(r:Vals [x,y] us):∃u w',us=[u,w']/\RelV x u/\RelV y w':=by
 cases r with
 |cons r1 r2=>
  cases r2 with
  |cons r3 r4=>cases r4;show(_,_,rfl,r1,r3)
def a7K(hc:X.calm=jO):CallR X (.builtin "max") (λxs H Q=>∃i j,xs=[.int i,.int j]/\Q (.int (if j > i then j else i)) H):=by
 ext a s σ H d e Q I r h;let(i,j,rfl,q):=h;let(u,f,rfl,(t,rfl),(b,rfl)):=a7J r;show max_two_ints (I.ok.hd hc) λg c k=>(_,H,I.kept k,?_,q)
 by_cases hj:j > i
 .rw[if_pos hj,if_pos hj];show(_,rfl)
 .rw[if_neg hj,if_neg hj];show(_,rfl)
def a7L(hc:X.calm=jO):CallR X (.builtin "min") (λxs H Q=>∃i j,xs=[.int i,.int j]/\Q (.int (if j<i then j else i)) H):=by
 ext a s σ H d f Q I r h;let(i,j,rfl,q):=h;let(u,g,rfl,(t,rfl),(c,rfl)):=a7J r;show min_two_ints (I.ok.hd hc) λb e k=>(_,H,I.kept k,?_,q)
 by_cases hj:j<i
 .rw[if_pos hj,if_pos hj];show(_,rfl)
 .rw[if_neg hj,if_neg hj];show(_,rfl)
def LenV(K:Fg)(x:V)(H:Hp)(n:Nat):Prop:=
 match x with
 |.str y=>y.length<=gI/\n=y.length
 |.byt y=>y.size<=gI/\n=y.size
 |.ref p=>(∃xs,SqL K H p xs/\n=xs.length)\/∃xs,SqT K H p xs/\n=xs.length
 |_=>False
def a99:CallR X (.builtin "len") (λxs H Q=>∃x n,xs=[x]/\LenV X.K x H n/\Q (.int n) H):=by
 ext j s σ H a v Q I r h;let(x,n,rfl,e,q):=h;let(u,rfl,d):=a2C r;let o:=g7;cases x with
 |str y=>
  let(t,rfl):=d;let(k,b):=e;subst b;show len_str (by lia) (.int _,H,I.tok _,(_,rfl),q)
 |byt y=>
  let(t,rfl):=d;let(k,b):=e;subst b;show PySem.W.len_bytes (by lia) (.int _,H,I.tok _,(_,rfl),q)
 |ref p=>
  cases d;let b:=e;let(a,hx,b)||(a,hx,b):=b
  .subst b;let(i,g,f,l):=I.list hx;let c:=g.length;show Calls.call_len_list f.isList (by grind) (.int a.length,H,I.tok _,(_,by simp only[cN];rw[c]),q)
  .subst b;let(i,g,f,l):=I.tuple hx;let c:=g.length;show len_tuple f (by grind) (.int a.length,H,I.tok _,(_,by simp only[cN];rw[c]),q)
 |_=>show (e).elim
end
structure ObjM (h:Heap) (x dx C:Addr) (mA:Str->Option Value):Prop where
 obj:h.get? x=cL (PySem.W.instObj C dx)
 ns:h.Ns1 dx mA
 ne:dx≠x
def a7M{h:Heap}(n:h.Ns1 dx mA):∃od,h.get? dx=cL od/\∀name,PySem.W.lookIn name od=cL (mA name):=by
 let(o,d,m,l,j,f,_,g):=n;show(o,l,λc=>?_);let e:=g c;unfold nsFind findBy at e;rw[<- Array.find?_toList]at e;unfold PySem.W.lookIn;rw[j];dsimp only
 split
 .simp_all
 .rename_i q
  rw[q]at e;let a:d.toList.any (·.refKey)=jP:=by
   rw[List.any_eq_false];ext y k;let(z,t,b):=f y (fG.mp k);simp[iO.refKey,b]
  let i:¬ d.toList.any (·.refKey)=jO:=a▸cJ;rw[if_neg i];show congrArg cL e
def ObjM.look(I:ObjM h x dx C mA):∃od,PySem.W.InstAt h x (PySem.W.instObj C dx) C (cL od)/\∀name,PySem.W.lookIn name od=cL (mA name):=
 let (od,ho,hl):=a7M I.ns
 (od,(I.obj,rfl,rfl,ho),hl)
section
variable{K:Fg}{x C f:Addr}{mA:Str->Option Value}{name:Str}{v:Value}
def b2A(X:K.In s.heap)(I:ObjM s.heap x dx C mA)(hg:PySem.W.plainGet K C name=jO)(hh:PySem.W.hasDictIn K C=jO)
  (ha:PySem.W.findIn K (.ref C) name=cL jN) (hv:mA name=cL v) (hv':PySem.W.handedIn v=jO) (h:Q v { s with toks:=s.toks+1 }) :
  wpAny (model prog w) A (getAttr (.ref x) name expr) Q E s:=by
 let(b,J,a):=I.look;show PySem.W.get_value X J (PySem.W.plainGet_of hg).1 (PySem.W.findObj_own hh ha rfl (by simp_all)) hv' h
def b0a(X:K.In s.heap)(I:ObjM s.heap x dx C mA)(hg:PySem.W.plainGet K C name=jO)
  (hf:PySem.W.findIn K (.ref C) name=cL (cL (.ref f))) (ht:PySem.W.isFn K (.ref f)=jO) (hv:mA name=jN) (h:Q (.ref f,[.ref x],) s) :
  wpAny (model prog w) A (ij (.ref x) name pl) Q E s:=by
 let(b,J,a):=I.look;show PySem.W.method_fn X J (PySem.W.plainGet_of hg).1 (PySem.W.plainGet_of hg).2 hf (beq_iff_eq.mp ht) (by change (PySem.W.lookIn name b).map _=cL jP;rw[a,hv];rfl) h
def b2B(X:K.In s.heap)(I:ObjM s.heap x dx C mA)
  (hs:PySem.W.findIn K (.ref C) "__setattr__"=cL (cL (.builtin "object.__setattr__"))) (hp:PySem.W.plainOver K C=jO) (ht:PySem.W.takerIn K C name=cL jN) (hh:PySem.W.hasDictIn K C=jO)
  (hw:PySem.Within mA ns) (hsz:ns.length<=gI)
  (h:∀h',ObjM h' x dx C (λy=>if y=name then cL v else mA y)->Heap.SameBut dx s.heap h'->Q () { s with heap:=h',toks:=s.toks+2 }) :
  wpAny (model prog w) A (setAttr (.ref x) name v) Q E s:=by
 let(p,J,n):=I.look;show PySem.W.set_plain X J hs (PySem.W.osa_open X J hp ht λb=>?_);let(o,j,i):=PySem.W.any_some hh;show gK (gS (gK (gK (wpAny_loadPart I.obj (gK (PySem.W.Looks.here (PySem.W.looks_clsIn X j) ?_))))));rw[i];show gS (gK (gS (gK (wpAny_nsSet1 I.ns λt d c=>?_))));let(q,l,m,f,g,e):=d.count (PySem.Within.cons name v hw);show gK (wpAny_lookBehind f (g▸pastItsLine_dict (cw e (by grind))) (gS (h _ ((c.2 _ (Ne.symm I.ne)).trans I.obj,d,I.ne) c)))
def b0b(X:K.In s.heap)(hm:PySem.W.makesIn K C=jO)
  (hi:PySem.W.findIn K (.ref C) "__init__"=cL (cL (.ref f))) (hf:PySem.W.typeIn K (.ref f)=cL (.type "function"))
  (h:iE (model prog w) (A.under (.builtin "type.__call__" (.ref C::vs,kw))) (.call (.ref f) (.ref (s.heap.objs.size+1)::vs,kw)) (PySem.W.InitBack (s.heap.objs.size+1) R)
   { s with heap:=(s.heap.push PySem.W.emptyDict).push (PySem.W.instObj C s.heap.objs.size) }) :
  iE (model prog w) A (.call (.ref C) (vs,kw)) R s:=PySem.W.make_core (PySem.W.makes_of X hm) (PySem.W.looks_findIn X hi) (λa=>PySem.W.bind_fn X a hf) (.inl rfl) h
end
noncomputable def putF(f:Str)(v:V):List (Str×V)->List (Str×V)
 |[]=>[(f,v,)]
 | (g,x,)::r=>if g=f then (g,v,)::r else (g,x,)::putF f v r
def a5p(f g:Str)(v:V):∀fs:List (Str×V),(putF f v fs).lookup g=if g=f then cL v else fs.lookup g:=by ext z0;induction z0 with
 |nil=>
  change eq g [_]=_
  by_cases h:g=f
  .simp_all
  .simp_all
 |cons q0 r I0=>
  let(k,x):=q0;rw[show putF f v _=(if k=f then _::r else (k,x,)::putF f v r) from rfl]
  by_cases hk:k=f
  .rw[if_pos hk]
   by_cases h:g=k
   .simp_all
   .let a:=beq_eq_false_iff_ne.mpr h;simp only[eq,a,if_neg (λe:g=f=>h (e.trans hk.symm))]
  .rw[if_neg hk]
   by_cases h:g=k
   .simp_all
   .let a:=beq_eq_false_iff_ne.mpr h;simp only[eq,a];show (I0)
def a4E(f:Str)(v:V):∀fs:List (Str×V),f∈(putF f v fs).map (·.1)/\∀g,g∈fs.map (·.1)->g∈(putF f v fs).map (·.1):=by ext z0;induction z0 with
 |nil=>show(by simp[putF],λg h=>by simp at h)
 |cons q0 r I0=>
  let(k,x):=q0;let(a,b):=I0;rw[show putF f v _=(if k=f then _::r else (k,x,)::putF f v r) from rfl]
  by_cases hk:k=f
  .grind
  .rw[if_neg hk];show(?_,λg h=>?_)
   .rw[cr];show cT _ a
   .rw[cr]at h ⊢;let e||e:=cf.mp h
    .show cf.mpr (.inl e)
    .show cT _ (b g e)
def a5q(f:Str)(v:V):∀fs:List (Str×V),(putF f v fs).length<=fs.length+1:=by ext z0;induction z0 with
 |nil=>simp[putF]
 |cons q0 r I0=>
  let(k,x):=q0;let a:=I0;rw[show putF f v _=(if k=f then _::r else (k,x,)::putF f v r) from rfl]
  by_cases hk:k=f
  .grind
  .grind
def RelO.some_of(r:RelO (cL v) o):∃u,o=cL u/\RelV v u:=by
 cases o with
 |none=>show (r).elim
 |some u=>show(u,rfl,r)
def RelO.none_of(r:RelO jN o):o=jN:=by
 cases o with
 |none=>rfl
 |some u=>show (r).elim
def a7N(r:RelV v u):PySem.W.handedIn u=jO:=by
 cases v with
 |non=>cases (r);rfl
 |bl b=>cases (r);rfl
 |int i=>let(t,e):=(r);cases e;rfl
 |str x=>let(t,e):=(r);cases e;rfl
 |byt b=>let(t,e):=(r);cases e;rfl
 |flt b=>let(t,e):=(r);cases e;rfl
 |ref a=>cases (r);rfl
 |ty n=>cases (r);rfl
section
variable{h:Heap}{a C:Addr}{fs:List (Str×V)}
def a3X(hok:HOk P w H h)(e:H a=cL (.ins C dx fs)):∃mA,ObjM h a dx C mA/\(∀f,RelO (fs.lookup f) (mA f))/\PySem.Within mA (fs.map (·.1))/\fs.length<=1000/\H dx=cL (.own a):=by
 let(d,z,c,g,b,n,r,q):=(hok a _ e);show(b,(g,n,c),r,q,z,d)
end
structure Cls (K:Fg) (C:Addr):Prop where
 pg:PySem.W.plainGet K C Str.empty=jO
 hd:PySem.W.hasDictIn K C=jO
 po:PySem.W.plainOver K C=jO
 sa:PySem.W.findIn K (.ref C) "__setattr__"=cL (cL (.builtin "object.__setattr__"))
def Cls.get{K:Fg}(c:Cls K C)(f:Str):PySem.W.plainGet K C f=jO:=c.pg
def NoAttr(K:Fg)(C:Addr)(f:Str):Prop:=PySem.W.findIn K (.ref C) f=cL jN
def NoAttr.taker{K:Fg}(n:NoAttr K C f):PySem.W.takerIn K C f=cL jN:=by
 unfold PySem.W.takerIn;rw[n]
 rfl
structure Meth (K:Fg) (C:Addr) (m:Str) (f:Addr):Prop where
 at_:PySem.W.findIn K (.ref C) m=cL (cL (.ref f))
 fn:PySem.W.isFn K (.ref f)=jO
 kp:PySem.W.keepIn K (.ref f)=jO
section
variable{σ:St}{a C:Addr}{fs:List (Str×V)}{f:Str}{v:V}
def a3G(I:Inv X pins σ H s)(e:H a=cL (.ins C dx fs))(c:Cls X.K C)(n:NoAttr X.K C f)(l:fs.lookup f=cL v)
  (h:∀u s',Inv X pins σ H s'->RelV v u->Q u s'):wpAny (model X.prog X.w) A (getAttr (.ref a) f b) Q E s:=by
 let(i,O,r,_,_,_):=a3X I.hok e;let(u,g,d):=RelO.some_of (l▸r f);show b2A I.kIn O (c.get f) c.hd n g (a7N d) (h u _ (I.tok _) d)
def a2l(I:Inv X pins σ H s)(e:H a=cL (.ins C dx fs))(c:Cls X.K C)(k:Meth X.K C m g)(l:fs.lookup m=jN)
  (h:Q (.ref g,[.ref a],) s):wpAny (model X.prog X.w) A (ij (.ref a) m pl) Q E s:=by
 let(b,O,r,_,_,_):=a3X I.hok e;let d:=RelO.none_of (l▸r m);show b0a I.kIn O (c.get m) k.at_ k.fn d h
def a3H(I:Inv X pins σ H s)(e:H a=cL (.ins C dx fs))(c:Cls X.K C)(n:NoAttr X.K C f)(hl:fs.length<1000)(ry:RelV y u)
  (h:∀s',Inv X pins σ (upd H a (.ins C dx (putF f y fs))) s'->Q () s'):wpAny (model X.prog X.w) A (setAttr (.ref a) f u) Q E s:=by
 let(i,O,r,j,_,k):=a3X I.hok e;let v:(fs.map (·.1)).length<=sizeLine:=by rw[b7,g7];lia
 show b2B I.kIn O c.sa c.po n.taker c.hd j v λm d l=>h _ ?_;let t:∃o,m.get? dx=cL o:=by let(o,_,_,e',_):=d.ns;show(o,e')
 show I.write (e▸True.intro) (.inr k) (λb q p z=>(l.2 b p).trans z) t (by rw[a0b O.ne];show k,?_,O.ne,d.obj,_,d.ns,λg=>?_,λg B=>?_)
 .let:=a5q f y fs;lia
 .change RelO _ _
  rw[a5p]
  by_cases q:g=f
  .rw[if_pos q,if_pos q];show ry
  .simp_all
 .by_cases q:g=f
  .rw[q];show (a4E f y fs).1
  .show (a4E f y fs).2 g (j g λz=>B ?_)
   change (if g=f then cL u else i g)=jN
   rw[if_neg q];show z
def Inv.made(I:Inv X pins σ H s):Inv X pins σ (upd (upd H s.heap.objs.size (.own (s.heap.objs.size+1))) (s.heap.objs.size+1) (.ins C s.heap.objs.size []))
  { s with heap:=(s.heap.push PySem.W.emptyDict).push (PySem.W.instObj C s.heap.objs.size) }:=by
 let c:(s.heap.push PySem.W.emptyDict).get? s.heap.objs.size=cL PySem.W.emptyDict:=Heap.get?_push_size s.heap rfl;let i:((s.heap.push PySem.W.emptyDict).push (PySem.W.instObj C s.heap.objs.size)).get? (s.heap.objs.size+1)=cL (PySem.W.instObj C s.heap.objs.size):=by
  let:=Heap.get?_push_size (s.heap.push PySem.W.emptyDict) (o:=PySem.W.instObj C s.heap.objs.size) rfl
  rwa [Heap.size_push]at this
 let g:(s.heap.push PySem.W.emptyDict).Ns s.heap.objs.size _:=(PySem.W.emptyDict,#[],_,c,rfl,(λe h=>absurd h (by simp)),λ_=>rfl);show (I.laid (o:=.own (s.heap.objs.size+1)) (t':=s.toks) (λb u q=>Heap.get?_push_of_some _ q) (b8 _) (_,c)).laid (t':=s.toks) (λb u q=>Heap.get?_push_of_some _ q) (eC (Heap.size_push _ _)) ?_;let d:s.heap.objs.size≠s.heap.objs.size+1:=cv (fH _);show(by rw[a0b d,a0e],cM _,d,i,λ_=>jN,(Heap.Ns1.of_empty g).at λo q=>Heap.get?_push_of_some _ q,λ_=>True.intro,λy f=>absurd rfl f)
def b2C(hb:iF e f env (eval e env)=eval e env)
  (h:wpAny (model prog w) A (eval e env) (λo sj=>wpAny (model prog w) A (getAttr o f jO) Q E sj) E s):wpAny (model prog w) A (eval (.Attribute e f pos) env) Q E s:=
 Attribute_any_ h (by rw[arm_eval_Attribute,hb])
end
def tFld(K:Fg)(ta:TE)(f:Str):TE:=fun σ H Q=>ta σ H λx H1=>∃a C dx fs v,x=.ref a/\H1 a=cL (.ins C dx fs)/\Cls K C/\NoAttr K C f/\fs.lookup f=cL v/\Q v H1
def sFld(K:Fg)(ta tv:TE)(f:Str):TS:=λD σ H=>tv σ H λy H1=>ta σ H1 λx H2=>∃a C dx fs,x=.ref a/\H2 a=cL (.ins C dx fs)/\Cls K C/\NoAttr K C f/\fs.length<1000 /\
 D.nx σ (upd H2 a (.ins C dx (putF f y fs)))
def InOp(X:Cx)(op:jd)(rd:V->V->Hp->VK->Prop):Prop:=
 ∀(pins:List (Addr×Obj))(s:Shared)(σ:St)(H:Hp)(x y:V)(u v:Value)(Q:VK),Inv X pins σ H s->RelV x u->RelV y v->rd x y H Q->wpAny (model X.prog X.w) X.A (iu op u v) (EP X pins σ Q) X.xe s
def b2D(K:Fg)(ta tv:TE)(rd:V->V->Hp->VK->Prop)(f:Str):TS:=λD σ H=>ta σ H λx H1=>∃a C dx fs v,x=.ref a/\H1 a=cL (.ins C dx fs)/\Cls K C/\NoAttr K C f/\fs.lookup f=cL v /\
 tv σ H1 λy H2=>rd v y H2 λz H3=>∃dx' fs',H3 a=cL (.ins C dx' fs')/\fs'.length<1000/\D.nx σ (upd H3 a (.ins C dx' (putF f z fs')))
section
variable{o e:Expr}{f:Str}{pos':Pos}{ta tv:TE}
def b4P(he:PE X e ta)(hb:iF e f X.env (eval e X.env)=eval e X.env):PE X (.Attribute e f pos) (tFld X.K ta f):=by
 ext b s σ H Q I h;show b2C hb (thn (he b s σ H _ I h) λu p (x,d,i,j,a,C,r,w,v,g,m,c,n,l,q)=>?_);subst g;obtain rfl:u=Value.ref a:=j;show a3G i m c n l λy t o k=>(v,d,o,k,q)
def b4Q(ha:PE X o ta)(hv:PE X value tv)(hs:ii value (cL (.Attribute o f pos')) pos.line X.env=pure jP):PS X (.Assign [.Attribute o f pos'] value pos) (sFld X.K ta tv f):=by
 ext b s σ H D I h;show plainObj_wpAny_Assign_Attribute (thn (hv b s σ H _ I h) λu g (y,d,k,v,q)=>thn (ha b g σ d _ k q) λj A (x,B,r,p,a,C,z,E,i,t,c,n,l,m)=>?_) hs;subst i;obtain rfl:j=Value.ref a:=p;show a3H r t c n l v λw e=>(σ,_,e,m)
def a7O(ha:PE X o ta)(hv:PE X value tv)(hop:InOp X op rd):PS X (.AugAssign (.Attribute o f tpos) op value pos) (b2D X.K ta tv rd f):=by
 ext b s σ H D I h;show wpAny_AugAssign_AttributeAny (thn (ha b s σ H _ I h) λj T (x,e,k,M,a,C,dx,fs,v,B,p,c,n,l,q)=>?_);subst B;obtain rfl:j=Value.ref a:=M;show a3G k p c n l λu J r m=>thn (hv b J σ e _ r q) λi E (y,t,g,w,L)=>thn (hop b E σ t v y u i _ g m w L) λU Y (z,H3,N,A,R,S,d,Q,F)=>(a3H N d c n Q A λW G=>(σ,_,G,F))
end
section
variable{σ:St}{Q:Value->Shared->Prop}{c:Value}{b:Bool}
inductive TyOf (K:Fg) (H:Hp):V->Value->Prop where
 |non:TyOf K H .non (.type "NoneType")
 |bl (x:Bool):TyOf K H (.bl x) (.type "bool")
 |int (i:Int):TyOf K H (.int i) (.type "int")
 |str (x:Str):TyOf K H (.str x) (.type "str")
 |flt (x:UInt64):TyOf K H (.flt x) (.type "float")
 |lst {a:Addr} {xs:List V} (e:H a=cL (.lst xs)):TyOf K H (.ref a) (.type "list")
 |frz {a:Addr} {o:Obj} {xs:List V} (e:H a=cL (.frz o (.lst xs))):TyOf K H (.ref a) (.type "list")
 |tup {a:Addr} {xs:List V} (e:H a=cL (.tup xs)):TyOf K H (.ref a) (.type "tuple")
 |dK {a:Addr} {kvs:List (Key×V)} (e:H a=cL (.dK kvs)):TyOf K H (.ref a) (.type "dict")
 |dT {a:Addr} {kvs:List (List Key×V)} (e:H a=cL (.dT kvs)):TyOf K H (.ref a) (.type "dict")
 |ins {a C dx:Addr} {fs:List (Str×V)} (e:H a=cL (.ins C dx fs)) (cl:Cls K C) (ha:PySem.W.findIn K (.ref C) "__class__"=cL (cL (.builtin "object.__class__")))
   (hn:PySem.W.specialIn K (.builtin "object.__class__") "__get__"=cL (cL (.builtin "getset_descriptor.__get__"))) (htk:PySem.W.takesIn K (.builtin "object.__class__")=cL jO)
   (hm:PySem.W.mroIn K C (.type "object")=cL jO):TyOf K H (.ref a) (.ref C)
def a7P(I:Inv X pins σ H s)(rx:RelV x u)(ty:TyOf X.K H x t)(e:PySem.W.kitOne X.K t c=cL b)(h:∀tk,Q (.bool b) { s with toks:=tk }) :
  wpAny (model X.prog X.w) A (call (.builtin "isinstance") [u,c]) Q E s:=by
 cases ty with
 |non=>cases (rx);show PySem.W.kia_one PySem.W.kitx_none I.kIn True.intro e (λz=>nomatch z) h
 |bl y=>cases (rx);show PySem.W.kia_one PySem.W.kitx_bool I.kIn True.intro e (λz=>nomatch z) h
 |int i=>let(t,q):=(rx);cases q;show PySem.W.kia_one PySem.W.kitx_int I.kIn True.intro e (λz=>nomatch z) h
 |str y=>let(t,q):=(rx);cases q;show PySem.W.kia_one PySem.W.kitx_str I.kIn True.intro e (λz=>nomatch z) h
 |flt y=>let(t,q):=(rx);cases q;show PySem.W.kia_one PySem.W.kitx_float I.kIn True.intro e (λz=>nomatch z) h
 | @lst a f ea=>
  cases (rx);let(_,_,n,_,d):=(I.hok a _ ea);show PySem.W.kia_one PySem.W.kitx_list I.kIn (_,d,rfl) e (λz=>nomatch z) h
 | @frz a ob f ea=>
  cases (rx);let(_,_,_,n,_,d):=(I.hok a _ ea);show PySem.W.kia_one PySem.W.kitx_list I.kIn (_,d,rfl) e (λz=>nomatch z) h
 | @tup a f ea=>
  cases (rx);let(_,_,_,p):=(I.hok a _ ea);let(o,d,g,_):=p;show PySem.W.kia_one PySem.W.kitx_tuple I.kIn (o,d,g) e (λz=>nomatch z) h
 | @dK a kvs ea=>
  cases (rx);let(_,_,l,_,p):=(I.hok a _ ea);let(o,j,k,d,g,_):=p;show PySem.W.kia_one PySem.W.kitx_dict I.kIn (o,d,g.1) e (λz=>nomatch z) h
 | @dT a kvs ea=>
  cases (rx);let(_,_,f,_,o,j,k,d,g,_):=(I.hok a _ ea);show PySem.W.kia_one PySem.W.kitx_dict I.kIn (o,d,g.1) e (λz=>nomatch z) h
 | @ins a C dx fs ea cl ha hn htk hm=>
  cases (rx);let(r,O,_):=a3X I.hok ea;let(m,J,_):=O.look;show PySem.W.kia_one (PySem.W.kitx_own (cl.get _) cl.hd ha hn htk hm) I.kIn J e (λz=>nomatch z) h
end
structure Room (k:Nat) (A:Around):Prop where
 hd:A.handled=jN
 dp:A.depth+3*k+5<recursionLimit
 un:A.units+16*k+200<cLine
def Room.mono(r:Room k A)(h:j<=k):Room j A:=(r.hd,by let:=r.dp;lia,by let:=r.un;lia)
def Room.deeper(r:Room (k+1) A)(env:Env):Room k (A.deeper env):=
 (r.hd,by let:=r.dp;change A.depth+1+3*k+5<_;lia,by let:=r.un;change A.units+3+16*k+200<_;lia)
def Room.in1(r:Room (k+1) A):Room k A.in1:=
 (r.hd,by let:=r.dp;change A.depth+3*k+5<_;lia,by let:=r.un;change A.units+1+16*k+200<_;lia)
def a6O{A:Around}:(A.under (.builtin "type.__call__" (.ref C::us,kw))).depth=A.depth+1:=rfl
def a6P{A:Around}:(A.under (.builtin "type.__call__" (.ref C::us,kw))).units=A.units+1:=rfl
def Room.make(r:Room (k+1) A)(C:Addr)(us:List Value)(kw:List (Str×Value)):Room k (A.under (.builtin "type.__call__" (.ref C::us,kw))):=
 (r.hd,by let:=r.dp;rw[a6O];lia,by let:=r.un;rw[a6P];lia)
def Room.depth(r:Room k A):A.depth<recursionLimit:=by let:=r.dp;lia
def Room.units(r:Room k A):A.units+64<cLine:=by let:=r.un;lia
def tNil:TA:=λ_ H Q=>Q [] H
def b7t(ta:TE)(tr:TA):TA:=fun σ H Q=>ta σ H λx H1=>tr σ H1 λxs H2=>Q (x::xs) H2
section
variable{e:Expr}{te:TE}{t:TA}
def b1C:PA X [] tNil:=λ_ _ _ _ H Q I h=>Calls.spliced_nil ([],H,I,.nil,h)
def a7Q(ha:PE X e te)(hr:PA X es t)(hs:gM (e::es) X.env=(jP,eval e X.env,)::gM es X.env):PA X (e::es) (b7t te t):=by
 ext b a s σ H Q I h;rw[hs];show Calls.spliced_cons (thn (ha a s σ H _ I h) λu j (x,d,k,c,g)=>(thn (hr b a j σ d _ k g) λp o (i,f,l,m,n)=>(x::i,f,l,.cons c m,n)))
def tTup(t:TA):TE:=fun σ H Q=>t σ H λxs H1=>xs.length<=gI/\∀p,H1 p=jN->Q (.ref p) (upd H1 p (.tup xs))
def tLst(t:TA):TE:=fun σ H Q=>t σ H λxs H1=>xs.length<=gI/\∀p,H1 p=jN->Q (.ref p) (upd H1 p (.lst xs))
def b4R(h:PA X es t):PE X (.Tuple es x1 pos) (tTup t):=by
 ext c s σ H Q I i;show wpAny_Tuple_spliced (thn (h pos c s σ H _ I i) λk a (g,d,f,r,z,q)=>(by rw[<- r.length];show z,?_));let j:=f.hok.fresh (b8 _);show(.ref a.heap.objs.size,upd d a.heap.objs.size _,f.laid (λb u e=>Heap.get?_push_of_some _ e) (b8 _) ?_,rfl,q _ j);show(z,k,r,(_,Heap.get?_push_size _ rfl,rfl,_,rfl))
def b4S(h:PA X es t):PE X (.List es pos) (tLst t):=by
 ext c s σ H Q I j;show wpAny_List_spliced (thn (h pos c s σ H _ I j) λi a (k,d,f,r,z,q)=>(by rw[<- r.length];show z,?_));let g:=f.hok.fresh (b8 _);show(.ref a.heap.objs.size,upd d a.heap.objs.size _,f.laid (λb u e=>Heap.get?_push_of_some _ e) (b8 _) ?_,rfl,q _ g);show(z,i,0,r,Heap.get?_push_size _ rfl)
end
abbrev Sp:=List V->Hp->VK->XK->Prop
abbrev CXT:=List Env->Hp->Shared->XK->Value->Shared->Prop
structure Env0 (P:gO) (w:World) (K:Fg) (mg:Str->Option Value) (base:Heap) (A:Around) (outer:List Env) (s:Shared) (H:Hp):Prop where
 frames:A.frames=cL outer
 mod:Mod K mg base
 bs:∀b o,base.get? b=cL o->s.heap.get? b=cL o/\H b=jN
 bsz:base.objs.size<=s.heap.objs.size
 funs:s.heap.FunFrames base outer
 frf:∀b∈frs outer,H b=jN
 hok:HOk P w H s.heap
 bare:iq s.gens
def CE(outer:List Env)(P:gO)(w:World)(H:Hp)(s:Shared)(Q:VK)(u:Value)(s':Shared):Prop:=
 ∃v H',s'.os=s.os/\iq s'.gens/\Un (frs outer) [] H H' s.heap s'.heap/\HOk P w H' s'.heap/\RelV v u/\Q v H'
def CR(CX:CXT)(outer:List Env)(P:gO)(w:World)(H:Hp)(s:Shared)(Q:VK)(E:XK)(r:Result)(s':Shared):Prop:=
 match r with
 |.ok (.ret u)=>CE outer P w H s Q u s'
 |.ok _=>False
 |.error e=>CX outer H s E e s'
structure FnOk (P:gO) (w:World) (K:Fg) (mg:Str->Option Value) (base:Heap) (CX:CXT) (k:Nat) (f:Addr) (fd:g9) (ps:List Str) (sp:Sp):Prop where
 len:∀vs H Q E,sp vs H Q E->vs.length=ps.length
 run:∀(A:Around)(outer:List Env)(s:Shared)(H:Hp)(args:Args)(us:List Value)(vs:List V)(Q:VK)(E:XK),Room k A->Env0 P w K mg base A outer s H->iP s fd args (ps.zip us)->Vals vs us->sp vs H Q E ->
  iE (model P w) A (.call (.ref f) args) (CR CX outer P w H s Q E) s
def FnOk.mono{K:Fg}(F:FnOk P w K mg base CX j f fd ps jQ)(h:j<=k) :
  FnOk P w K mg base CX k f fd ps jQ:=(F.len,λA a s H b c e Q E d=>F.run A a s H b c e Q E (d.mono h))
def FnOk.imp{K:Fg}(F:FnOk P w K mg base CX k f fd ps jQ)
  (h:∀vs H Q E,sp' vs H Q E->jQ vs H Q E):FnOk P w K mg base CX k f fd ps sp':=
 (λb H Q E q=>F.len b H Q E (h _ _ _ _ q),λA a s H c d b Q E j i g l e=>F.run A a s H c d b Q E j i g l (h _ _ _ _ e))
def Env0.make{K:Fg}(e:Env0 P w K mg base A outer s H)(C:Addr)(us:List Value)(kw:List (Str×Value)) :
  Env0 P w K mg base (A.under (.builtin "type.__call__" (.ref C::us,kw))) outer s H:=(by first |show e.frames | (o_head e.frames),e.mod,e.bs,e.bsz,e.funs,e.frf,e.hok,e.bare)
def Env0.in1{K:Fg}(e:Env0 P w K mg base A outer s H) :
  Env0 P w K mg base A.in1 outer s H:=(e.frames,e.mod,e.bs,e.bsz,e.funs,e.frf,e.hok,e.bare)
section
variable{σ:St}{s':Shared}
def Inv.env0(I:Inv X pins σ H s):Env0 X.prog X.w X.K X.mg X.base X.A X.stack s H:=
 (I.ok.frames,I.ok.mod,I.bs,cw I.ok.bsz I.sz,I.stack,I.stkFree,I.hok,I.bare)
def Inv.after(I:Inv X pins σ H s)(h:CE X.stack X.prog X.w H s Q u s'):EP X pins σ Q u s':=by
 let(v,H',j,a,f,c,r,q):=h;let(i,g,d,t,e):=s';obtain rfl:e=s.os:=j;show(v,H',I.call f c a (λb z=>absurd z (by simp)),r,q)
end
def b7u(sp:Sp)(dvs:List V)(E:XK)(t:TA):TE:=fun σ H Q=>t σ H λvs H1=>sp (vs++dvs) H1 Q E
def b0c(C:Addr)(m:Str)(sp:Sp)(dvs:List V)(E:XK)(ta:TE)(t:TA):TE:=fun σ H Q=>ta σ H λx H1=>∃a dx fs,x=.ref a/\H1 a=cL (.ins C dx fs)/\fs.lookup m=jN /\
 t σ H1 λvs H2=>sp (x::(vs++dvs)) H2 Q E
def b4T(C:Addr)(sp:Sp)(dvs:List V)(E:XK)(t:TA):TE:=fun σ H Q=>t σ H λvs H1=>∀x dx,H1 x=jN->H1 dx=jN->dx≠x ->
 sp (.ref x::(vs++dvs)) (upd (upd H1 dx (.own x)) x (.ins C dx [])) (λv H2=>v=.non/\Q (.ref x) H2) E
def Binds(K:Fg)(fd:g9)(ps:List Str)(ds:List Value):Prop:=
 ∀(s:Shared)(us:List Value),K.In s.heap->(us++ds).length=ps.length->iP s fd (us,[]) (ps.zip (us++ds))
def Binds.all{K:Fg}(h:∀us:List Value,us.length=ps.length->jy fd (us,[])=pure (ps.zip us)):Binds K fd ps []:=λs b _ a=>by
 rw[cE]at a ⊢;show .of_eq (h b a)
def a0V(CX:CXT)(X:Cx)(E:XK):Prop:=∀(pins:List (Addr×Obj))(σ:St)(H:Hp)(s:Shared)(e:Value)(s':Shared),Inv X pins σ H s->CX X.stack H s E e s'->X.xe e s'
section
variable{CX:CXT}{k:Nat}{f C:Addr}{fd:g9}{ps:List Str}{sp:Sp}{dvs:List V}{ds:List Value}{E:XK}{x:Str}{p:Pos}{e o:Expr}{ta:TE}{t:TA}
def a7R(F:FnOk X.prog X.w X.K X.mg X.base CX k f fd ps sp)(hr:Room k X.A)(hb:Binds X.K fd ps ds)(hd:Vals dvs ds)(hx:a0V CX X E)
  (I:Inv X pins σ H s) (r:Vals vs us) (h:sp (vs++dvs) H Q E):wpAny (model X.prog X.w) X.A (call (.ref f) us) (EP X pins σ Q) X.xe s:=by
 let b:=r.append hd;let d:(us++ds).length=ps.length:=b.length▸F.len _ _ _ _ h;show iW (iX (F.run X.A X.stack s H (us,[]) (us++ds) _ Q E hr I.env0 (hb s us I.kIn d) b h) λr c a=>?_);cases r with
 |error e=>show hx pins σ H s e c I a
 |ok fl=>
  cases fl with
  |ret u=>show I.after a
  |next=>show cb a
  |brk=>show cb a
  |cont=>show cb a
def a7S(F:FnOk X.prog X.w X.K X.mg X.base CX k f fd ps sp)(hr:Room k X.A)(hg:Gl X x)(hm:X.mg x=cL (.ref f))(hk:PySem.W.keepIn X.K (.ref f)=jO)(hb:Binds X.K fd ps ds)(hd:Vals dvs ds)(hx:a0V CX X E)
  (ha:PA X (e::es) t) (hdb:(x==("__debug__":Str))=jP) (he:gM (e::es) X.env=(jP,eval e X.env,)::gM es X.env) (hpl:(backTo pos (gM es X.env)).any (·.1)=jP) :
  PE X (.Call (.Name x p) (e::es) [] pos) (b7u sp dvs E t):=by
 ext a s σ H Q I h;show iY (a2k I hg hm ?_ hdb);show PySem.W.callWith_K I.ok.mod.kin hk (thn (ha pos a s σ H _ I h) λi d (c,g,b,r,q)=>(b.kIn,?_)) he hpl;show a7R F hr hb hd hx b r q
def a7T(he:PE X o ta)(c:Cls X.K C)(hm:Meth X.K C m f)(F:FnOk X.prog X.w X.K X.mg X.base CX k f fd ps sp)(hr:Room k X.A)(hb:Binds X.K fd ps ds)(hd:Vals dvs ds)(hx:a0V CX X E)(ha:PA X (e::es) t)
  (hst:gM (e::es) X.env=(jP,eval e X.env,)::gM es X.env) (hpl:(backTo pos (gM es X.env)).any (·.1)=jP)
  (ht:eval (.Call (.Attribute o m apos) (e::es) [] pos) X.env=(do
   let ov <- eval o X.env
   hI apos.atName
   let (f,first,) <- g0 [ov] (ij ov m pl)
   ik pos f first (backTo pos (gM (e::es) X.env)) (im pos (io [] X.env)))) :
  PE X (.Call (.Attribute o m apos) (e::es) [] pos) (b0c C m sp dvs E ta t):=by
 ext b s σ H Q I h;show PySem.W.methodCall_KW (thn (he b s σ H _ I h) λu z (x,p,i,n,a,dx,fs,v,y,l,q)=>?_) ht;subst v;obtain rfl:u=Value.ref a:=n;show a2l i y c hm l (PySem.W.callWith_K I.ok.mod.kin hm.kp (thn (ha pos b z σ p _ i q) λus s2 (vs,H2,g,r,B)=>(g.kIn,?_)) hst hpl);show a7R (vs:=.ref a::vs) F hr hb hd hx g (.cons rfl r) B
def b0d(he:PE X o ta)(c:Cls X.K C)(hm:Meth X.K C m f)(F:FnOk X.prog X.w X.K X.mg X.base CX k f fd ps sp)(hr:Room k X.A)(hb:Binds X.K fd ps ds)(hd:Vals dvs ds)(hx:a0V CX X E)
  (ht:eval (.Call (.Attribute o m apos) [] [] pos) X.env=(do
   let ov <- eval o X.env
   hI apos.atName
   let (f,first,) <- g0 [ov] (ij ov m pl)
   ik pos f first (backTo pos (gM [] X.env)) (im pos (io [] X.env)))) :
  PE X (.Call (.Attribute o m apos) [] [] pos) (b0c C m sp dvs E ta tNil):=by
 ext b s σ H Q I h;show PySem.W.methodCall_KW (thn (he b s σ H _ I h) λu j (x,r,d,i,a,p,n,g,e,l,q)=>?_) ht;subst g;obtain rfl:u=Value.ref a:=i;show a2l d e c hm l (PySem.W.callWith_K0 d.kIn hm.kp (a7R (vs:=[.ref a]) F hr hb hd hx d (.cons rfl .nil) q))
structure Mk (K:Fg) (C f:Addr):Prop where
 makes:PySem.W.makesIn K C=jO
 init:PySem.W.findIn K (.ref C) "__init__"=cL (cL (.ref f))
 fn:PySem.W.isFn K (.ref f)=jO
 kp:PySem.W.keepIn K (.ref C)=jO
def a56(M:Mk X.K C f)(F:FnOk X.prog X.w X.K X.mg X.base CX k f fd ps sp)(hr:Room (k+1) X.A)(hb:Binds X.K fd ps ds)(hd:Vals dvs ds)
  (hx:a0V CX X E) (I:Inv X pins σ H s) (r:Vals vs us)
  (h:∀x dx,H x=jN->H dx=jN->dx≠x->sp (.ref x::(vs++dvs)) (upd (upd H dx (.own x)) x (.ins C dx [])) (λv H2=>v=.non/\Q (.ref x) H2) E) :
  wpAny (model X.prog X.w) X.A (call (.ref C) us) (EP X pins σ Q) X.xe s:=by
 let d:=h _ s.heap.objs.size (I.hok.fresh (dO _)) (I.hok.fresh (b8 _)) (cv (fH _));let b:=Inv.made (C:=C) I;let c:Vals (V.ref (s.heap.objs.size+1)::_) _:=.cons rfl (r.append hd);let g:(Value.ref (s.heap.objs.size+1)::us++ds).length=ps.length:=by
  let e:=c.length;rw[F.len _ _ _ _ d]at e;show e.symm
 show iW (b0b I.kIn M.makes M.init (beq_iff_eq.mp M.fn) (iX (F.run _ X.stack _ _ (Value.ref (s.heap.objs.size+1)::us,[]) _ _ _ E (hr.make C us [])
  (b.env0.make C us []) (hb _ _ b.kIn g) c d) λr m a=>?_))
 cases r with
 |error e=>show hx pins σ _ _ e m b a
 |ok fl=>
  cases fl with
  |ret u=>
   let(v,H',I3,j,l,i):=b.after a;subst l;show(j,(V.ref (s.heap.objs.size+1),H',I3,rfl,i))
  |next=>show cb a
  |brk=>show cb a
  |cont=>show cb a
def b2E(M:Mk X.K C f)(F:FnOk X.prog X.w X.K X.mg X.base CX k f fd ps sp)(hr:Room (k+1) X.A)(hg:Gl X x)(hm:X.mg x=cL (.ref C))(hb:Binds X.K fd ps ds)(hd:Vals dvs ds)(hx:a0V CX X E)
  (ha:PA X (e::es) t) (hdb:(x==("__debug__":Str))=jP:=by decide) (he:gM (e::es) X.env=(jP,eval e X.env,)::gM es X.env:=by rfl) (hpl:(backTo pos (gM es X.env)).any (·.1)=jP:=by rfl) :
  PE X (.Call (.Name x p) (e::es) [] pos) (b4T C sp dvs E t):=by
 ext a s σ H Q I h;show iY (a2k I hg hm ?_ hdb);show PySem.W.callWith_K I.ok.mod.kin M.kp (thn (ha pos a s σ H _ I h) λi d (c,g,b,r,q)=>(b.kIn,?_)) he hpl;show a56 M F hr hb hd hx b r q
def b0e(M:Mk X.K C f)(F:FnOk X.prog X.w X.K X.mg X.base CX k f fd ps sp)(hr:Room (k+1) X.A)(hg:Gl X x)(hm:X.mg x=cL (.ref C))(hb:Binds X.K fd ps ds)(hd:Vals dvs ds)(hx:a0V CX X E)
  (hdb:(x==("__debug__":Str))=jP):PE X (.Call (.Name x p) [] [] pos) (b4T C sp dvs E tNil):=by
 ext a s σ H Q I h;show iY (a2k I hg hm ?_ hdb);show PySem.W.callWith_K0 I.kIn M.kp (a56 M F hr hb hd hx I .nil h)
end
structure FnScope (N P:List Str) (sc:Scope):Prop where
 kind:sc.kind=.function
 co:sc.isCoroutine=jP
 gen:sc.isGenerator=jP
 nd:N.Nodup
 pre:N.take P.length=P
 par:∀x∈P,sc.names.lookup x=cL .local\/sc.names.lookup x=cL .cell
 nofree:∀y∈sc.names,y.2≠.free
def a7U{kindOf:Str->Option gT}:∀{binds:List (Str×Value)}{m:Str->Option Value},(∀v,(x,v,)∉binds)->bindL kindOf binds m x=m x:=by ext z0;induction z0 with
 |nil=>ext _ _;show rfl
 |cons q0 r I0=>
  let(n,v):=q0;ext m h;unfold bindL;rw[I0 λw a=>h w (cT _ a)]
  split
  .let:x≠n:=by ext rfl;show h v dg
   simp[this]
  .rfl
def a7V{kindOf:Str->Option gT}:∀{binds:List (Str×Value)}{m:Str->Option Value},(∀v,(x,v,)∉binds)->bindC kindOf binds m x=m x:=by ext z0;induction z0 with
 |nil=>ext _ _;show rfl
 |cons q0 r I0=>
  let(n,v):=q0;ext m h;unfold bindC;rw[I0 λw a=>h w (cT _ a)]
  split
  .rfl
  .let:x≠n:=by ext rfl;show h v dg
   simp[this]
theorem a4F{kindOf:Str->Option gT}:∀{P:List Str}{vs:List Value}{i:Nat}{m:Str->Option Value},P.Nodup->P[i]?=cL x->vs[i]?=cL v->kindOf x=cL .local ->
  bindL kindOf (P.zip vs) m x=cL v
 |[],_,_,_,_,h,_,_=>by simp at h
 |_::_,[],_,_,_,_,h,_=>by simp at h
 |p::P,w::vs,0,m,nd,h1,h2,hk=>by
  simp at h1 h2;subst h1;subst h2
  change bindL kindOf (_::P.zip vs) m p=_
  unfold bindL;rw[a7U λv a=>(dw.mp nd).1 (e5 a).1,if_pos hk];simp
 |p::P,w::vs,i+1,m,nd,h1,h2,hk=>by
  unfold bindL;show a4F (dw.mp nd).2 ↑h1 (by simp_all) hk
theorem a4G{kindOf:Str->Option gT}:∀{P:List Str}{vs:List Value}{i:Nat}{m:Str->Option Value},P.Nodup->P[i]?=cL x->vs[i]?=cL v->kindOf x≠cL .local ->
  bindC kindOf (P.zip vs) m x=cL v
 |[],_,_,_,_,h,_,_=>by simp at h
 |_::_,[],_,_,_,_,h,_=>by simp at h
 |p::P,w::vs,0,m,nd,h1,h2,hk=>by
  simp at h1 h2;subst h1;subst h2
  change bindC kindOf (_::P.zip vs) m p=_
  unfold bindC;rw[a7V λv a=>(dw.mp nd).1 (e5 a).1,if_neg hk];simp
 |p::P,w::vs,i+1,m,nd,h1,h2,hk=>by
  unfold bindC;show a4G (dw.mp nd).2 ↑h1 (by simp_all) hk
noncomputable def start(N:List Str)(vs:List V):St:=vs.map cL++eD (N.length-vs.length) jN
noncomputable def cxOf(CX:CXT)(P:gO)(w:World)(K:Fg)(mg:Str->Option Value)(base:Heap)(N:List Str)(qual:Str)(scope:Scope)(f:Addr)(cd:Value)(A:Around)(outer:List Env)(s:Shared)(H:Hp)(E:XK):Cx where
 prog:=P
 w:=w
 K:=K
 mg:=mg
 base:=base
 A:=A.deeper (envOfC qual scope s.heap.objs.size f cd)
 N:=N
 s₀:=s
 H₀:=H
 env:=envOfC qual scope s.heap.objs.size f cd
 outer:=outer
 stack:=envOfC qual scope s.heap.objs.size f cd::outer
 ex:=[]
 calm:=jO
 fn:=λ_=>jO
 pn:=[]
 xe:=λe s'=>wpAny (model P w) (A.deeper (envOfC qual scope s.heap.objs.size f cd)) (jh (envOfC qual scope s.heap.objs.size f cd) e) (λ_ s''=>CX outer H s E e s'') (λe' s''=>CX outer H s E e' s'') s'
def a57{sc:Scope}(h:sc.names.lookup x=cL .cell):∃c,(jz n sc.names []).lookup x=cL c:=by
 show eE.mp (PySem.W.cellsFrom_some sc.names n [] (.inl h))
def a7W{K:Fg}
  (S:FnScope N ps scope) (hd:A.handled=jN) (e0:Env0 P w K mg base A outer s H) (hl:vs.length=ps.length) (r:Vals vs us)
  (x:InCallC s s.heap.objs.size (bindL (envOfC qual scope s.heap.objs.size f cd).kindOf (ps.zip us) λ_=>jN) (jz (s.heap.objs.size+1) scope.names []) (bindC (envOfC qual scope s.heap.objs.size f cd).kindOf (ps.zip us) λ_=>jN) s1) :
  Inv (cxOf CX P w K mg base N qual scope f cd A outer s H jQ) [] (start N vs) H s1:=by
 let G:ps.length<=N.length:=by let:=congrArg cF S.pre;rw[cz]at this;lia
 let(m,J,rfl,C):=x.done;let l:∀b:Addr,b∉(cxOf CX P w K mg base N qual scope f cd A outer s H jQ).ex:=λb z=>absurd (show b∈([]) from z) (by simp);show((e0.mod,S.kind,rfl,rfl,b8 _,λy z c m d=>?_,λy g=>?_,λy c _ h=>?_,λ_=>hd,Around.frames_deeper e0.frames,.inr (rfl,rfl),λb z=>absurd z (l b),e0.bs,e0.bsz,λb _ _=>l b,λb z=>absurd z (l b),e0.funs,e0.frf),
  rfl,e0.bare,Un.kept C,(_,x.toInCall.ns,λi y v m d I=>?_),λy c h=>(_,x.cell y c h),e0.hok.fresh (b8 _),λy c h=>?_,λp j=>absurd (show p∈([]) from j) (by simp),e0.hok.kept C,?_)
 .show name_of_addr x.apart (PySem.mem_of_lookup m) (PySem.mem_of_lookup d)
 .let g:=g;let g||g:=g
  .show a57 g
  .show absurd rfl (S.nofree _ (PySem.mem_of_lookup g))
 .show df (x.above y c (PySem.mem_of_lookup h))
 .let o:i<vs.length:=by
   unfold start at d
   by_cases o:i<vs.length
   .show o
   .rw[dP (by simp_all)]at d;rw[List.getElem?_replicate]at d
    split at d<;>cases d
  let F:vs[i]?=cL v:=by
   unfold start at d;rw[dQ ↑o,cg]at d;cases e:vs[i]? with
   |none=>rw[e]at d;cases d
   |some a=>rw[e]at d;cases d;rfl
  let(u,B,D):=r.get F;let j:ps[i]?=cL y:=by
   rw[<- S.pre,List.getElem?_take_of_lt (by lia)];show m
  let t:ps.Nodup:=S.pre▸S.nd.sublist (e6 _ _);show(u,D,?_);let k||k:=S.par y (cx j)
  .show .inl (k,a4F t j B k)
  .let(c,e):=a57 k;show .inr (.inl k,c,e,?_);let q:=x.cell y c e;rw[a4G t j B (by change scope.names.lookup y≠_;rw[k];decide)]at q;show q
 .show e0.hok.fresh (df (x.above y c (PySem.mem_of_lookup h)))
 .unfold start
  change _=N.length
  rw[cj,b7,List.length_replicate]
  lia
def b4U{K:Fg}{dV kV doc pm cdv ct oc:Value}
 (lk:K.lookup f=cL (oc,od,.func (PySem.W.fnOf name qual params body scope dV kV doc pm an cdv ct),osl)) (hcd:PySem.W.codeIn K cdv qual=jO) (S:FnScope N ps scope)
    (len:∀vs H Q E,jQ vs H Q E->vs.length=ps.length)
    (hbody:∀(A:Around)(outer:List Env)(s:Shared)(H:Hp)(vs:List V)(Q:VK)(E:XK),Room k (A.deeper (envOfC qual scope s.heap.objs.size f cdv))->jQ vs H Q E ->
      ∃t,PSs (cxOf CX P w K mg base N qual scope f cdv A outer s H E) body t/\t { nx:=λ_ H'=>Q .non H',rt:=Q } (start N vs) H) :
    FnOk P w K mg base CX (k+1) f (PySem.W.fnOf name qual params body scope dV kV doc pm an cdv ct) ps jQ:=by
  show(len,λA a s H L F m Q E z g R r i=>?_);let C:=g.mod.kin.keeps λb o e=>(g.bs b o e).1;let h:∀y∈ps.zip F,scope.names.lookup y.1=cL .local\/(scope.names.lookup y.1=cL .cell/\((jz (s.heap.objs.size+1) scope.names []).lookup y.1).isSome=jO):=by
    ext⟨n,v⟩ G;let q||q:=S.par n (e5 G).1
    . show .inl q
    . show .inr (q,PySem.W.cellsFrom_some _ _ _ (.inl q))
  show codeAny_call_function z.depth (C _ _ lk) rfl S.co S.gen rfl (PySem.W.codeRec_of C hcd) (R _ _ _ _ (wpAny_newFunctionEnv_cells S.kind h λaa Y B x=>?_));subst Y;show((g.mod.nolimit.keeps λb o e=>(g.bs b o e).1).keeps x.toInCall.keep,codeAny_func ?_);let(t,T,U):=hbody A a s H m Q E (z.deeper _) i;let I:Inv (cxOf CX P w K mg base N qual scope f cdv A a s H E) [] _ H B:=a7W S z.hd g (len _ _ _ _ i) r x;show gX (T [] B _ H _ I U) (λX p c=>?_) λe p c=>c;let j:∀{σ':St}{d:Hp}{v:V}{u:Value},Inv (cxOf CX P w K mg base N qual scope f cdv A a s H E) [] σ' d p->RelV v u->Q v d->CE a P w H s Q u p:=
    λ{σ' d v u} J l q=>(v,d,J.os,J.bare,J.base,J.hok,l,q)
  cases X with
  |ret u=>
    let(v,σ',d,J,l,q):=c;show j J l q
  |next=>
    let(σ',d,J,q):=c;show j (v:=V.non) J rfl q
  |brk=>
    let(_,_,_,q):=c;show cb q
  |cont=>
    let(_,_,_,q):=c;show cb q
section
variable{x:Str}{p:Pos}{e:Expr}{t:TA}{id T:String}{r:List V->Hp->VK->Prop}
def tCB(r:List V->Hp->VK->Prop)(t:TA):TE:=fun σ H Q=>t σ H λvs H1=>r vs H1 Q
def a58(hc:CallR X (.builtin id) r)(hg:Gl X x)(hm:X.mg x=jN)(hv:iy x=cL (.builtin id))(ha:PA X (e::es) t)(hn:x≠"__name__")(hdb:(x==("__debug__":Str))=jP)
  (he:gM (e::es) X.env=(jP,eval e X.env,)::gM es X.env) (hpl:(backTo pos (gM es X.env)).any (·.1)=jP):PE X (.Call (.Name x p) (e::es) [] pos) (tCB r t):=by
 ext a s σ H Q I h;show iY (a4C I hg hm hv ?_ hn hdb);show PyProof.Rows.callWith_builtin1 (thn (ha pos a s σ H _ I h) λg c (b,f,i,d,j)=>hc a c σ f b g Q i d j) he hpl
def a7X(hc:CallR X (.type T) r)(hg:Gl X x)(hm:X.mg x=jN)(hv:iy x=cL (.type T))(ha:PA X (e::es) t)(hn:x≠"__name__")(hdb:(x==("__debug__":Str))=jP)
  (he:gM (e::es) X.env=(jP,eval e X.env,)::gM es X.env) (hpl:(backTo pos (gM es X.env)).any (·.1)=jP):PE X (.Call (.Name x p) (e::es) [] pos) (tCB r t):=by
 ext a s σ H Q I h;show iY (a4C I hg hm hv ?_ hn hdb);show PyProof.Rows.callWith_type1 (thn (ha pos a s σ H _ I h) λj f (b,g,d,i,c)=>hc a f σ g b j Q d i c) he hpl
end
namespace HT
def cat_tup(ht:IsTup s.heap t vs.toArray)(hb:IsTup s.heap b ws.toArray)(hv:vs≠[])
  (h1:ws=[]->Q (.ref t) s) (h2:ws≠[]->Q (.ref s.heap.objs.size) { s with heap:=s.heap.push { cls:=.type "tuple",data:=.seq (vs++ws).toArray } })
  (hsz:vs.length+ws.length<=gI):wpAny (model prog w) A (gZ .Add (.ref t) (.ref b)) Q E s:=by
 let((r,j,p,k),c,l,n,m):=id ht;let((q,f,o,h),a,g,i,d):=id hb;subst l m g d;let e:vs.toArray++ws.toArray=(vs++ws).toArray:=by simp
 by_cases hw:ws=[]
 .show concat_meets (_,c,rfl) (_,a,rfl) noFill_tuple_add seq_tuple_add PySem.F.slot_tuple_add PySem.F.entry_tuple_add (PySem.F.args_tuple_add_2 _ _)
   (tuple_addW1 t b vs.toArray ws.toArray n i j f k h (by simp_all) (by grind)) (c,a,h1 hw)
 .show concat_meets (_,c,rfl) (_,a,rfl) noFill_tuple_add seq_tuple_add PySem.F.slot_tuple_add PySem.F.entry_tuple_add (PySem.F.args_tuple_add_2 _ _)
   (tuple_addW2 t b vs.toArray ws.toArray n i j f k h (by simp_all) (by simp_all) (by cbv)) (c,a,?_)
  rw[e];show h2 hw
noncomputable def sIx(n d:Nat):Option Int->Nat
 |none=>d
 |some v=>if v<0 then (v+(n:Int)).toNat else min v.toNat n
def sIx_none(n d:Nat):sIx n d jN=d:=rfl
def sIx_nat(n d k:Nat):sIx n d (cL (k:Int))=min k n:=rfl
def b80(n d:Nat)(hd:d<=n)(o:Option Int):sIx n d o<=n:=by
 cases o with
 |none=>show hd
 |some v=>
  change (if v<0 then (v+n).toNat else min v.toNat n)<=n
  by_cases hv:v<0
  .grind
  .rw[if_neg hv];show fI _ _
def a7Y(v:Int)(n d:Nat):(if v<0 then max (v+(n:Int)) 0 else min v (n:Int))=((sIx n d (cL v):Nat):Int):=by grind [sIx]
def a6Q(lo hi:Option Int)(n:Nat):gY.Slice.sliceAdjust lo hi 1 (n:Int)=(((sIx n 0 lo:Nat):Int),((sIx n n hi:Nat):Int),):=by
 unfold gY.Slice.sliceAdjust;show Prod.ext ?_ ?_
 .cases lo with
  |none=>rfl
  |some v=>show a7Y v n 0
 .cases hi with
  |none=>rfl
  |some v=>show a7Y v n n
def a6R(i j:Nat):gY.Slice.slicePlaces (i:Int) (j:Int) 1=j-i:=by
 unfold gY.Slice.slicePlaces;simp
 split<;>lia
def a3I(p:IsPart v o)(h:Q o s):wpAny (model prog w) A (gY.Slice.slicePartIndex v) Q E s:=by
 cases p with
 |none=>show slicePart_none h
 |int i t=>show slicePart_int h
def a2D{lo hi:Option Int}{n:Nat}(hs:s.heap.IsSliceOf sl vl vu .none)(pl:IsPart vl lo)(pu:IsPart vu hi)
  (h:Q (((sIx n 0 lo:Nat):Int),1,sIx n n hi-sIx n 0 lo,) s):wpAny (model prog w) A (gY.Slice.sliceApplied (.ref sl) (pure (n:Int))) Q E s:=by
 let(d,a,c,b):=id hs;show gK (gK (iQ a b rfl (gK (iQ a b rfl (gK (iQ a b rfl (gS (gK (slicePart_none (gK (a3I pl (gK (a3I pu (gK (gS ?_)))))))))))))))
 change wpAny _ _ (match gY.Slice.sliceAdjust lo hi 1 n with | (lo,hi,)=>pure (lo,_,gY.Slice.slicePlaces lo hi 1,)) _ _ s
 rw[a6Q lo hi n]
 change wpAny _ _ (pure _) _ _ s
 rw[a6R];show gS h
def b0f(xs:Array Value)(i k:Nat):((d6 k).filterMap λ(m:Nat)=>xs[((i:Int)+(m:Int)*1).toNat]?).toArray=((xs.toList.drop i).take k).toArray:=by
 let e:(λ(m:Nat)=>xs[(i+(m:Int)*1).toNat]?)=λm=>xs[i+m]?:=by
  funext m
  let:(i+(m:Int)*1).toNat=i+m:=by lia
  rw[this]
 rw[e]
 let:=pick_run xs i k
 rw[fJ]at this;let a:(_∘λx=>i+x)=λm=>xs[i+m]?:=rfl;rw[a]at this;rw[this]
def getItem_tuple_cut{lo hi:Option Int}(ht:IsTup s.heap t items)(hs:s.heap.IsSliceOf sl vl vu .none)(pl:IsPart vl lo)(pu:IsPart vu hi)
  (hw:¬ (sIx items.size 0 lo=0/\sIx items.size items.size hi=items.size))
  (h:Q (.ref s.heap.objs.size) { s with heap:=s.heap.push { cls:=.type "tuple",data:=.seq ((items.toList.drop (sIx items.size 0 lo)).take (sIx items.size items.size hi-sIx items.size 0 lo)).toArray } })
  (hsz:items.size<=gI):wpAny (model prog w) A (i3 (.ref t) (.ref sl)) Q E s:=by
 let a:sizeOk (.seq ((items.toList.drop (sIx items.size 0 lo)).take (sIx items.size items.size hi-sIx items.size 0 lo)).toArray):=by
  change ((items.toList.drop (sIx items.size 0 lo)).take (sIx items.size items.size hi-sIx items.size 0 lo)).toArray.size<=gI
  rw[cN,cz,cY,d8];cbv
 let(f,d,e,g):=id hs;let b:s.TypeIs (.ref sl) "slice":=(f,d,e);unfold i3
 try with_reducible show ic ?_
 show gK (wpAny_sequenceKey ht.typeIs (by decide) ?_);show gK (wpAny_callSpecial?_slot ht.typeIs PyProof.Rows.slot_tuple_getitem
  (ji PyProof.Rows.slot_tuple_getitem ht.typeIs entry_tuple_getitem ?_ (args_tuple_getitem _ _)))
 change wpAny _ _ (gY.Tuple.tupleItemsOf _ >>= _) _ _ s
 show gK (tupleItemsOf_ ht (gK (wpAny_typeOf b (gK (a2D hs pl pu ?_)))));let c:¬ ((((sIx items.size 0 lo):Int)==0&&(1:Int)==1&&(sIx items.size items.size hi-sIx items.size 0 lo)==items.size)=jO):=by grind
 change wpAny _ _ (if (((sIx items.size 0 lo):Int)==0&&(1:Int)==1&&(sIx items.size items.size hi-sIx items.size 0 lo)==items.size)=jO then _ else _) _ _ s
 rw[if_neg c,b0f]
 first
  |show gK (jA (gS (_,rfl,gS h)) a)
  |show gK _
  |show gK _
  |show gK _
end HT
abbrev TO:=St->Hp->(Option Int->Hp->Prop)->Prop
def PO(X:Cx)(e:Option Expr)(t:TO):Prop:=
 ∀(pins:List (Addr×Obj))(s:Shared)(σ:St)(H:Hp)(Q:Option Int->Hp->Prop),Inv X pins σ H s->t σ H Q ->
  wpAny (model X.prog X.w) X.A (evalPart e X.env) (λu s'=>∃o H',Inv X pins σ H' s'/\IsPart u o/\Q o H') X.xe s
def b2F:TO:=λ_ H Q=>Q jN H
def b7v(t:TE):TO:=fun σ H Q=>t σ H λx H1=>∃i,x=.int i/\Q (cL i) H1
section
variable{e:Expr}{te:TE}{lo hi:Option Expr}{tl th:TO}{p2:Pos}
def b2G:PO X jN b2F:=λa s σ H Q I h=>gS (jN,H,I,.none,h)
def b2H(h:PE X e te):PO X (cL e) (b7v te):=by
 ext a s σ H Q I b;show thn (h a s σ H _ I b) λu j (x,d,f,c,g)=>?_;let(i,rfl,q):=g;let(t,rfl):=c;show(cL i,d,f,.int i t,q)
def SlR(X:Cx)(r:V->Option Int->Option Int->Hp->VK->Prop):Prop:=
 ∀(pins:List (Addr×Obj))(s:Shared)(σ:St)(H:Hp)(x:V)(v vl vu:Value)(lo hi:Option Int)(sl:Addr)(Q:VK),Inv X pins σ H s->RelV x v->s.heap.IsSliceOf sl vl vu .none->IsPart vl lo->IsPart vu hi->r x lo hi H Q ->
  ∃T id,typeLookup (.type T) "__getitem__"=pure (cL (.builtin id))/\s.TypeIs v T/\wpAny (model X.prog X.w) X.A (i3 v (.ref sl)) (EP X pins σ Q) X.xe s
def SlR.or(h:SlR X r)(h':SlR X r'):SlR X (λx lo hi H Q=>r x lo hi H Q\/r' x lo hi H Q):=by
 ext a s σ H x v b k d j c Q I g i e f q;let q||q:=q
 .show h a s σ H x v b k d j c Q I g i e f q
 .show h' a s σ H x v b k d j c Q I g i e f q
def tSl(r:V->Option Int->Option Int->Hp->VK->Prop)(te:TE)(tl th:TO):TE:=fun σ H Q=>te σ H λx H1=>tl σ H1 λl H2=>th σ H2 λu H3=>r x l u H3 Q
def b0g(hr:SlR X r)(he:PE X e te)(hl:PO X lo tl)(hu:PO X hi th):PE X (.Subscript e (.Slice lo hi jN p2) pos) (tSl r te tl th):=by
 ext a s σ H Q I h;show Subscript_ (thn (he a s σ H _ I h) λv o (x,D,j,t,J)=>(wpAny_Slice (thn (hl a o σ D _ j J) λf B (l,p,m,n,G)=>thn (hu a B σ p _ m G) λd c (u,g,y,z,k)=>(gS ?_))));let C:Inv X a σ g { c with heap:=c.heap.push { cls:=.type "slice",data:=.fields #[f,d,.none] } }:=y.kept λb L q=>Heap.get?_push_of_some _ q;let(T,M,F,E,i):=hr a { c with heap:=c.heap.push { cls:=.type "slice",data:=.fields #[f,d,.none] } } σ g x v f d l u c.heap.objs.size Q C t (Heap.IsSliceOf.new ..) n z k;show tail_any E F i (by with_unfolding_all rfl)
noncomputable def cutV(xs:List V)(lo hi:Option Int):List V:=(xs.drop (HT.sIx xs.length 0 lo)).take (HT.sIx xs.length xs.length hi-HT.sIx xs.length 0 lo)
def a26(xs:List V)(lo hi:Option Int):(cutV xs lo hi).length<=xs.length:=by
 unfold cutV;rw[cz,cY]
 lia
def rSlT(K:Fg):V->Option Int->Option Int->Hp->VK->Prop:=λx lo hi H Q=>∃a xs,x=.ref a/\SqT K H a xs /\
 ¬ (HT.sIx xs.length 0 lo=0/\HT.sIx xs.length xs.length hi=xs.length)/\∀p,H p=jN->Q (.ref p) (upd H p (.tup (cutV xs lo hi)))
def sl_tup:SlR X (rSlT X.K):=by
 ext p s σ H x v A w e f z Q I k m l t h;let(a,d,rfl,n,u,q):=h;cases k;let(j,r,g,i):=I.tuple n;let c:j.toArray.size=d.length:=cN▸r.length.symm;show("tuple",_,PyProof.Rows.slot_tuple_getitem.lookup,g.typeIs,?_);show HT.getItem_tuple_cut g m l t (c▸u) ?_ (by simp_all);rw[c];show(.ref s.heap.objs.size,_,I.laid (λb y q=>Heap.get?_push_of_some _ q) (b8 _) ?_,rfl,q _ (I.hok.fresh (b8 _)));show(cw (a26 d e f) i,_,(r.drop _).take _,IsTup.new _ _)
def b7w(K:Fg):R2:=λx y H Q=>∃a b xs ys,x=.ref a/\y=.ref b/\SqT K H a xs/\SqT K H b ys/\xs≠[]/\xs.length+ys.length<=gI /\
 (ys=[]->Q (.ref a) H)/\(ys≠[]->∀p,H p=jN->Q (.ref p) (upd H p (.tup (xs++ys))))
def Vals.nil_iff(r:Vals xs us):us=[]↔xs=[]:=by
 cases r with
 |nil=>simp
 |cons _ _=>simp
def op_catT:OpR X (gZ .Add) (b7w X.K):=by
 ext r s σ H x y v u Q I p B h;let(a,b,k,j,rfl,rfl,t,g,f,e,m,n):=h;cases p;cases B;let(C,d,i,_):=I.tuple t;let(l,c,A,_):=I.tuple g;show HT.cat_tup i A (λz=>f (d.nil_iff.mp z)) (λz=>(.ref a,H,I,rfl,m (c.nil_iff.mp z))) (λz=>?_) (by rw[<- d.length,<- c.length];show e);show(.ref s.heap.objs.size,_,I.laid (λb D q=>Heap.get?_push_of_some _ q) (b8 _) ?_,rfl,n (λw=>z (c.nil_iff.mpr w)) _ (I.hok.fresh (b8 _)));show(by rw[cj];show e,_,d.append c,IsTup.new _ _)
end
noncomputable def ixN(n:Nat)(i:Int):Option Nat:=if 0<=i then (if i<n then cL i.toNat else jN) else if -(n:Int)<=i then cL (i+n).toNat else jN
noncomputable def atI{α:Type}(xs:List α)(i:Int):Option α:=(ixN xs.length i).bind λj=>xs[j]?
def a7Z(h:ixN n i=cL j):seqIndex? i n=cL j/\j<n/\-(n:Int)<=i/\i<n:=by
 unfold ixN at h
 by_cases h0:0<=i
 .rw[if_pos h0]at h
  by_cases h1:i<n
  .rw[if_pos h1]at h;let e:=cL.inj h;show(by rw[jB h0 h1,e],by lia,by lia,h1)
  .simp_all
 .rw[if_neg h0]at h
  by_cases h1:-n<=i
  .rw[if_pos h1]at h;let e:=cL.inj h;show(by rw[jC (by lia) h1,e],by lia,h1,by lia)
  .simp_all
def a5r{α:Type}{xs:List α}{v:α}(h:atI xs i=cL v):∃j,seqIndex? i xs.length=cL j/\xs[j]?=cL v/\j<xs.length/\-(xs.length:Int)<=i/\i<xs.length:=by
 unfold atI at h;cases e:ixN xs.length i with
 |none=>rw[e]at h;cases h
 |some j=>
  rw[e]at h;let(d,c,b,a):=a7Z e;show(j,d,h,c,b,a)
def a1K{α:Type}{xs:List α}{j:Nat}{v:α}(h:xs[j]?=cL v):atI xs (j:Int)=cL v:=by
 let a:=(cn.mp h).1;let e:ixN xs.length j=cL j:=by
  unfold ixN;rw[if_pos (by simp),if_pos (by lia)];simp
 unfold atI;rw[e];show h
def a70(b:Expr):Prop:=∀o i,subscripted b jP o i=operate [o,i] (i3 o i)
def IxR(X:Cx)(r:R2):Prop:=
 ∀(value slice:Expr)(pins:List (Addr×Obj))(s:Shared)(σ:St)(H:Hp)(x y:V)(v u:Value)(Q:VK),Inv X pins σ H s->RelV x v->RelV y u->r x y H Q ->
  subscripted slice jP v u=operate [v,u] (i3 v u)->wpAny (model X.prog X.w) X.A (subscriptTail value slice v u) (EP X pins σ Q) X.xe s
def MtR(X:Cx)(id:String)(r:V->List V->Hp->VK->Prop):Prop:=
 ∀(pins:List (Addr×Obj))(s:Shared)(σ:St)(H:Hp)(x:V)(xs:List V)(v:Value)(us:List Value)(Q:VK),Inv X pins σ H s->RelV x v->Vals xs us->r x xs H Q ->
  wpAny (model X.prog X.w) X.A (call (.builtin id) (v::us)) (EP X pins σ Q) X.xe s
section
variable{a b:Expr}{ta tb:TE}
def IxR.or(h:IxR X r)(h':IxR X r'):IxR X (λx y H Q=>r x y H Q\/r' x y H Q):=by
 ext b a c s σ H x y v u Q I e f q d;let q||q:=q
 .show h b a c s σ H x y v u Q I e f q d
 .show h' b a c s σ H x y v u Q I e f q d
def MtR.or{id:String}(h:MtR X id r)(h':MtR X id r'):MtR X id (λx xs H Q=>r x xs H Q\/r' x xs H Q):=by
 ext a s σ H x e v b Q I c d q;let q||q:=q
 .show h a s σ H x e v b Q I c d q
 .show h' a s σ H x e v b Q I c d q
def b7x(hr:IxR X r)(ha:PE X a ta)(hb:PE X b tb)(hs:a70 b):PE X (.Subscript a b pos) (tOp r ta tb):=λc s σ H Q I h=>Subscript_ (binT ha hb I h λv u d x y f g i e q=>hr a b c d σ f x y v u Q g i e q (hs _ _))
def rIxL(K:Fg):R2:=λx y H Q=>∃p xs i v,x=.ref p/\y=.int i/\SqL K H p xs/\atI xs i=cL v/\Q v H
def rIxT(K:Fg):R2:=λx y H Q=>∃p xs i v,x=.ref p/\y=.int i/\SqT K H p xs/\atI xs i=cL v/\Q v H
def rIxS:R2:=λx y H Q=>∃z i c,x=.str z/\y=.int i/\z.length<=gI/\atI z.cps.toList i=cL c/\Q (.str ⟨#[c]⟩) H
def ix_list:IxR X (rIxL X.K):=by
 ext n m a s σ H x y v u Q I F o h f;let(p,M,i,z,rfl,rfl,C,J,q):=h;cases F;let(t,rfl):=o;let(l,r,d,R):=I.list C;let(j,b,B,L,D,A):=a5r J;let(w,g,k):=r.get B;let G:=r.length;let N:=a4D;let c:EP X a σ Q w s:=(z,H,I,k,q)
 by_cases h0:0<=i
 .let e:i.toNat=j:=by
   rw[jB h0 A]at b;show cL.inj b
  show item_listR d.isList h0 (by lia) (by rw[e];o_head g) c f
 .let e:(i+(l.toArray.size:Int)).toNat=j:=by
   rw[jC (by lia) D]at b;rw[cN,<- G];show cL.inj b
  show jj d.isList.typeIs slot_list_getitem.lookup
   (wpAny_getItem_list_neg d.isList (by lia) (by simp_all) (by lia) (by rw[e];o_head g) (rfl,c)) f
def ix_tup:IxR X (rIxT X.K):=by
 ext f e a s σ H x y v u Q I A D h k;let(p,J,i,z,rfl,rfl,B,C,q):=h;cases A;let(t,rfl):=D;let(E,r,d,M):=I.tuple B;let(j,l,g,G,F,L):=a5r C;let(w,m,c):=r.get g;let N:=a4D;let b:EP X a σ Q w s:=(z,H,I,c,q);show jj d.typeIs slot_tuple_getitem.lookup
  (getItem_tuple d (by lia) (by lia) (by rw[cN,<- r.length];show l) (by simp_all) (rfl,b)) k
def b4V:IxR X rIxS:=by
 ext b d r s σ H x y v u Q I o f h p;let(z,i,c,rfl,rfl,A,n,q):=h;let(t,rfl):=o;let(C,rfl):=f;let(j,a,l,D,g,w):=a5r n;let k:z.cps.toList.length=z.length:=by simp[Str.length]
 rw[k]at a g w;let B:=a4D;show tail_any (iI s z t) slot_str_getitem.lookup (getItem_str (by grind) (by rw[a];o_head l) (.str ⟨#[c]⟩,H,I.tok _,(_,rfl),q)) p
def rIx(K:Fg):R2:=λx y H Q=>rIxL K x y H Q\/rIxT K x y H Q\/rIxS x y H Q
def b4W:IxR X (rIx X.K):=ix_list.or (ix_tup.or b4V)
def a6S(its:List Value)(n j:Nat)(u:Value):Obj.mapSeq (·.setIfInBounds j u) { cls:=.type "list",data:=.seq its.toArray n }={ cls:=.type "list",data:=.seq (its.set j u).toArray n }:=by
 simp[Obj.mapSeq]
def Inv.lst{pins:List (Addr×Obj)}{σ:St}{H:Hp}{s:Shared}{p:Addr}{xs:List V}(I:Inv X pins σ H s)(h:H p=cL (.lst xs)) :
  ∃(its:List Value)(n:Nat),Vals xs its/\s.heap.get? p=cL { cls:=.type "list",data:=.seq its.toArray n }/\xs.length<=sizeLine:=by
 let(z,a,n,r,e):=I.hok p _ h;show(a,n,r,e,z)
def Inv.lstUpd{its its':List Value}(I:Inv X pins σ H s)(h:H p=cL (.lst xs))
  (ho:s.heap.get? p=cL { cls:=.type "list",data:=.seq its.toArray n }) (hf:f { cls:=.type "list",data:=.seq its.toArray n }={ cls:=.type "list",data:=.seq its'.toArray n' }) (r:Vals ys its') (hz:ys.length<=gI) (t:Nat) :
  Inv X pins σ (upd H p (.lst ys)) { s with heap:=s.heap.update p f,toks:=t }:=by
 let e:(s.heap.update p f).get? p=cL { cls:=.type "list",data:=.seq its'.toArray n' }:=by
  rw[Heap.get?_update_self f ho (by rw[hf]<;>rfl),hf]
 show I.write (by rw[h];trivial) (.inl rfl) (λb u a q=>(Heap.get?_update_other _ _ (Ne.symm a)).trans q) (_,e) ?_;show(hz,its',n',r,e)
def b7y:V->V->V->Hp->(Hp->Prop)->Prop:=λo i v H Q=>∃p xs k j,o=.ref p/\i=.int k/\H p=cL (.lst xs)/\ixN xs.length k=cL j/\Q (upd H p (.lst (xs.set j v)))
def b0h:PSet X b7y:=by
 ext d s σ H o i v D F u Q I x z C h;let(p,y,k,j,rfl,rfl,g,B,q):=h;cases x;let(t,rfl):=z;let(b,n,r,f,A):=I.lst g;let(a,E,m,w):=a7Z B;let e:=r.length;let G:=a4D;let l:=
  I.lstUpd g f (a6S b n j u) (r.set C j) (by simp_all) s.toks
 by_cases h0:0<=k
 .let c:k.toNat=j:=by
   rw[jB h0 w]at a;show cL.inj a
  show PySem.W.ki_setAt f h0 (by lia) (by simp_all) (c▸(_,l,q))
 .let c:(k+(b.toArray.size)).toNat=j:=by
   rw[jC (by lia) m]at a;rw[cN,<- e];show cL.inj a
  show PySem.W.ki_setBack f (by lia) (by simp_all) (by lia) (c▸(_,l,q))
def a4H(lo hi:Option Int)(n:Nat):(iJ lo hi jN n).1=((HT.sIx n 0 lo:Nat):Int)/\(iJ lo hi jN n).2.1=((HT.sIx n n hi:Nat):Int)/\(iJ lo hi jN n).2.2=1:=by
 show(?_,?_,rfl)
 .cases lo with
  |none=>simp[iJ,HT.sIx]
  |some i=>
   simp only[iJ,HT.sIx,e7]
   by_cases h:i<0
   .grind
   .grind
 .cases hi with
  |none=>simp[iJ,HT.sIx]
  |some i=>
   simp only[iJ,HT.sIx,e7]
   by_cases h:i<0
   .grind
   .grind
def a3Y(its:List Value)(lo hi:Option Int):slicePick its.toArray lo hi jN=((its.drop (HT.sIx its.length 0 lo)).take (HT.sIx its.length its.length hi-HT.sIx its.length 0 lo)).toArray:=by
 let(a,c,b):=a4H lo hi its.toArray.size;unfold slicePick;rw[a,c,b];simp only[sliceRange_one,pick_run]<;>rfl
def rSlL(K:Fg):V->Option Int->Option Int->Hp->VK->Prop:=λx lo hi H Q=>∃a xs,x=.ref a/\SqL K H a xs/\∀p,H p=jN->Q (.ref p) (upd H p (.lst (cutV xs lo hi)))
def sl_list:SlR X (rSlL X.K):=by
 ext p s σ H x v u w d e y Q I m i n j h;let(a,c,rfl,k,q):=h;cases m;let(t,r,g,l):=I.list k;let f:=r.length;show("list",_,slot_list_getitem.lookup,g.isList.typeIs,?_);show wpAny_getItem_list_slice g.isList i n j .none (by simp) ?_ (by grind);rw[a3Y,<- f];show(.ref s.heap.objs.size,_,I.laid (λb z q=>Heap.get?_push_of_some _ q) (b8 _) ?_,rfl,q _ (I.hok.fresh (b8 _)));show(cw (a26 c d e) l,_,0,(r.drop _).take _,Heap.get?_push_size _ rfl)
def CallR.or(h:CallR X f r)(h':CallR X f r'):CallR X f (λxs H Q=>r xs H Q\/r' xs H Q):=by
 ext a s σ H c d Q I b q;let q||q:=q
 .show h a s σ H c d Q I b q
 .show h' a s σ H c d Q I b q
def a4I:CallR X (.type "list") (λxs H Q=>∃p ys,xs=[.ref p]/\(SqL X.K H p ys\/SqT X.K H p ys)/\∀l,H l=jN->Q (.ref l) (upd H l (.lst ys))):=by
 ext z s σ H C D Q I r h;let(p,v,rfl,j,q):=h;let(u,rfl,B):=a2C r;cases B;let k:∀a,Vals v a->v.length<=gI->∀c f,_ ->
   c.get? s.heap.objs.size=cL { cls:=.type "list",dict:=jN,data:=.seq a.toArray f,slots:=#[] }->EP X z σ Q _ { s with heap:=c }:=λa d g c f i e=>
  (.ref s.heap.objs.size,_,I.laid i (b8 _) (show ObjOk X.prog X.w _ c _ (.lst v) from (g,a,f,d,e)),rfl,q _ (I.hok.fresh (b8 _)))
 let j||j:=j
 .let(a,d,y,g):=I.list j;let t:=d.length;let(o,x,A,n,m):=y.isList;show call_list_seq p (.inl rfl) x A m (λc f i e=>k a d g c f i e) (by grind)
 .let(a,d,y,g):=I.tuple j;let t:=d.length;let(o,x,A,n,m):=y;show call_list_seq p (.inr rfl) x A m (λc f i e=>k a d g c f i e) (by grind)
def a3Z:CallR X (.type "tuple") (λxs H Q=>∃p ys,xs=[.ref p]/\((SqL X.K H p ys/\∀l,H l=jN->Q (.ref l) (upd H l (.tup ys)))\/(SqT X.K H p ys/\Q (.ref p) H))):=by
 ext c s σ H x y Q I r h;let(p,j,rfl,h):=h;let(u,rfl,n):=a2C r;cases n;let(hq,q)||(hq,q):=h
 .let(a,f,g,k):=I.list hq;let m:=f.length;show call_tuple_list g.isList (λd t=>?_) (by grind);let i:Inv X c σ H { s with heap:=d }:=I.kept t;let v:Inv X c σ (upd H d.objs.size (.tup j)) { s with heap:=d.push { cls:=.type "tuple",data:=.seq a.toArray } }:=
   i.laid (λb o e=>Heap.get?_push_of_some _ e) (b8 _) ((k,a,f,IsTup.new _ _))
  show(.ref d.objs.size,_,v,rfl,q _ (i.hok.fresh (b8 _)))
 .let(a,f,g,k):=I.tuple hq;show call_tuple_same g (.ref p,H,I,rfl,q)
def tyV(K:Fg)(T:String)(x:V)(H:Hp):Prop:=match x with
 |.str _=>T="str"
 |.int _=>T="int"
 |.ref p=>(T="list"/\∃xs,SqL K H p xs)\/(T="tuple"/\∃o,K.lookup p=cL o/\o.cls=.type "tuple"/\o.dict=jN) \/
   (T="dict"/\((∃kvs,H p=cL (.dK kvs))\/(∃kvs,H p=cL (.dT kvs))\/∃ob kvs,H p=cL (.frz ob (.dK kvs))))\/(T="set"/\∃S n,H p=cL (.set S n))
 |_=>False
def b4X(I:Inv X pins σ H s)(r:RelV x v)(ty:tyV X.K T x H) :
  s.TypeIs v T/\∀a,v=.ref a->∃ob,s.heap.get? a=cL ob/\ob.dict=jN:=by
 cases x with
 |str z=>
  let(t,rfl):=r;cases (ty);show(iI s z t,λ_ e=>nomatch e)
 |int i=>
  let(t,rfl):=r;cases (ty);show(typeIs_int s i t,λ_ e=>nomatch e)
 |ref p=>
  cases r;let(rfl,xs,hq)||(rfl,o,hk,hc,f)||(rfl,hk)||(rfl,S,n,hk):=ty
  .let(h,_,g,_):=I.list hq;show(g.isList.typeIs,λa e=>?_);cases e;let(o,n,e,c,f,_):=g;show(o,e,f)
  .show((o,I.kIn p o hk,hc),λa e=>?_);cases e;show(o,I.kIn _ o hk,f)
  .let z:∃o,s.heap.get? p=cL o/\o.ExactDict:=by
    let(kvs,hk)||(kvs,hk)||(ob,kvs,hk):=hk
    .let(_,_,_,_,o,_,_,e,b,_):=I.hok p _ hk;show(o,e,b)
    .let(_,_,_,_,o,_,_,e,b,_):=I.hok p _ hk;show(o,e,b)
    .let(_,_,_,_,_,o,_,_,e,b,_):=I.hok p _ hk;show(o,e,b)
   let(o,e,b):=z;show((o,e,b.1),λa d=>?_);cases d;show(o,e,b.2.1)
  .let(o,_,_,_,e,b,_):=I.hok p _ hk;show((o,e,b.1),λa d=>?_);cases d;show(o,e,b.2.1)
 |_=>show cb ty
def tBM(K:Fg)(T:String)(r:V->List V->Hp->VK->Prop)(to:TE)(t:TA):TE:=fun σ H Q=>to σ H λx H1=>tyV K T x H1/\t σ H1 λxs H2=>r x xs H2 Q
variable{o e:Expr}{to:TE}{t:TA}{name:Str}{cpos:Pos}{T id:String}{r:V->List V->Hp->VK->Prop}
def b7z(pa:PlainAttrs T)(slot:Slot T name id)(hty:typeOf (.builtin id)=pure (.type "method_descriptor"))(hm:MtR X id r)(ho:PE X o to)(ha:PA X (e::es) t)
  (hbase:iF o name X.env (eval o X.env)=eval o X.env)
  (hfew:((backTo cpos (gM (e::es) X.env)).all (λx=>!x.1)&&(im cpos (io [] X.env)).all (λx=>x.1.isSome)
   && decide ((e::es).length+([]:List iZ).length+(if ([]:List iZ).isEmpty then 0 else 1)<30))=jO)
  (hline:(apos.endLine==cpos.line)=jO) (hs:gM (e::es) X.env=(jP,eval e X.env,)::gM es X.env) (hplain:(backTo cpos (gM es X.env)).any (·.1)=jP) :
  PE X (.Call (.Attribute o name apos) (e::es) [] cpos) (tBM X.K T r to t):=by
 ext a s σ H Q I h;show wpAny_Call_method_late hbase hfew hline rfl (thn (ho a s σ H _ I h) λv k (x,w,b,c,u,j)=>?_);let(g,n):=b4X b c u;show(T,id,pa,slot,hty,g,n,?_);let d:=ha cpos a k σ w _ b j;rw[hs]at d ⊢;show Calls.callWith_builtin (by change (jP||(backTo cpos _).any _)=jP;rw[hplain]<;>rfl) (Calls.evalArgs_plain (thn d λi m (q,l,y,f,p)=>hm a m σ l x q v i Q y c f p))
end
def MtM(X:Cx)(id:String)(r:V->List V->Hp->VK->Prop):Prop:=
 ∀(pins:List (Addr×Obj))(s:Shared)(σ:St)(H:Hp)(x:V)(xs:List V)(v:Value)(us:List Value)(Q:VK),Inv X pins σ H s->RelV x v->Vals xs us->r x xs H Q ->
  wpAny (model X.prog X.w) X.A (call (.builtin id) (v::us)) (EP X pins σ Q) X.xe s
def Vals.one:∀{x:V}{us:List Value},Vals [x] us->∃u,us=[u]/\RelV x u:=by
 ext x us h;cases h with
 |cons r h=>cases h;show(_,rfl,r)
def Vals.two:∀{x y:V}{us:List Value},Vals [x,y] us->∃u v,us=[u,v]/\RelV x u/\RelV y v:=by
 ext x y a h;cases h with
 |cons r h=>cases h with
  |cons q h=>cases h;show(_,_,rfl,r,q)
def Vals.zero:∀{us:List Value},Vals [] us->us=[]:=by
 ext us h;cases h;rfl
def Vals.dropLast(h:Vals xs us):Vals xs.dropLast us.dropLast:=by
 induction h with
 |nil=>show .nil
 |cons r t ih=>
  cases t with
  |nil=>show .nil
  |cons q t'=>show .cons r ih
theorem Vals.eraseIdx:∀{xs:List V}{us:List Value}(i:Nat),Vals xs us->Vals (xs.eraseIdx i) (us.eraseIdx i)
 |_,_,_,.nil=>.nil
 |_,_,0,.cons _ t=>t
 |_,_,i+1,.cons r t=>.cons r (Vals.eraseIdx i t)
def Vals.reverse(h:Vals xs us):Vals xs.reverse us.reverse:=by
 induction h with
 |nil=>show .nil
 |cons r t ih=>rw[dR,dR];show Vals.append ih (.cons r .nil)
section
variable{σ:St}{l b:Addr}{xs ys:List V}
def Inv.lset{its its':List Value}(I:Inv X pins σ H s)(hH:H l=cL (.lst xs))
  (e:s.heap.get? l=cL { cls:=.type "list",data:=.seq its.toArray n }) (hf:f its.toArray=its'.toArray) (hv:Vals ys its') (hz:ys.length<=gI) :
  Inv X pins σ (upd H l (.lst ys)) { s with heap:=s.heap.update l (Obj.mapSeq f),toks:=t' }:=by
 let q:=PySem.IsL.update e f;rw[hf]at q;show I.write (hH▸trivial) (.inl rfl) (λc u a b=>(Heap.get?_update_other s.heap _ (Ne.symm a)).trans b) (_,q) ?_;show(hz,its',_,hv,q)
def Inv.lnew(I:Inv X pins σ H s)(hv:Vals ys its)(hz:ys.length<=gI) :
  Inv X pins σ (upd H s.heap.objs.size (.lst ys)) { s with heap:=s.heap.push { cls:=.type "list",data:=.seq its.toArray },toks:=t' }:=
 I.laid (λ_ _ q=>Heap.get?_push_of_some _ q) (b8 _) (hz,its,0,hv,Heap.get?_push_size _ rfl)
def Inv.fresh(I:Inv X pins σ H s):H s.heap.objs.size=jN:=I.hok.fresh (b8 _)
def Inv.lstM(I:Inv X pins σ H s)(hH:H l=cL (.lst xs)):xs.length<=gI/\∃(its:List Value)(n:Nat),Vals xs its/\xs.length=its.length/\s.heap.get? l=cL { cls:=.type "list",data:=.seq its.toArray n }:=by
 let(z,a,n,r,e):=I.hok l _ hH;show(z,a,n,r,r.length,e)
def b0i(h:n<=gI):gY.List.listTooLong n=jP:=decide_eq_false (by lia)
end
def b2I:V->List V->Hp->VK->Prop:=λx vs H Q=>∃l xs y,x=.ref l/\vs=[y]/\H l=cL (.lst xs)/\xs.length<gI/\Q .non (upd H l (.lst (xs++[y])))
def a4J:MtM X "list.append" b2I:=by
 ext c s σ H x k v o Q I f d h;let(l,j,y,rfl,rfl,b,i,q):=h;cases f;let(u,rfl,g):=d.one;let(z,a,n,r,m,e):=I.lstM b;show jD F.slot_list_append (_,e,rfl) F.entry_list_append (F.args_list_append_2 _ _) (PySem.list_append l a.toArray n u (by grind)) (e,?_);show(.non,_,I.lset b e (by simp) (r.append (.cons g .nil)) ?_,rfl,q);rw[cj,eF]
 lia
def b2J:V->List V->Hp->VK->Prop:=λx vs H Q=>∃l b xs zs,x=.ref l/\vs=[.ref b]/\H l=cL (.lst xs)/\H b=cL (.lst zs)/\xs.length+zs.length<=gI/\Q .non (upd H l (.lst (xs++zs)))
def a71:MtM X "list.extend" b2J:=by
 ext k s σ H x A v C Q I i j h;let(l,b,B,E,rfl,rfl,f,t,G,q):=h;cases i;let(u,rfl,p):=j.one;cases p;let(z,c,n,r,D,e):=I.lstM f;let(J,a,w,m,y,o):=I.lstM t;let g:c.toArray.size+a.toArray.size<=sizeLine:=by grind
 let d:¬ (!c.toArray.isEmpty&&gY.List.listTooLong (c.toArray.size+a.toArray.size))=jO:=by
  rw[b0i g,dy];show cJ
 show jD F.slot_list_extend (_,e,rfl) F.entry_list_extend (F.args_list_extend_2 _ _)
  (AutoSeq1.list_extend_list_list_0 l c.toArray n b a.toArray w d (by grind) (by lia)) (e,o,?_)
 show(.non,_,I.lset f e (by simp) (r.append m) ?_,rfl,q);rw[cj]
 lia
def rCat:R2:=λx y H Q=>∃l b xs zs,x=.ref l/\y=.ref b/\H l=cL (.lst xs)/\H b=cL (.lst zs)/\xs.length+zs.length<=gI/\∀p,H p=jN->Q (.ref p) (upd H p (.lst (xs++zs)))
def b4Y:OpR X (gZ .Add) rCat:=by
 ext i s σ H x y v u Q I f k h;let(l,b,C,w,rfl,rfl,m,d,A,q):=h;cases f;cases k;let(z,c,n,r,t,e):=I.lstM m;let(B,a,D,o,p,g):=I.lstM d;show PySem.P.add_list e g ?_ (by grind);let j:c.toArray++a.toArray=(c++a).toArray:=by simp
 rw[j];show(.ref _,_,I.lnew (r.append o) (by grind),rfl,q _ I.fresh)
namespace Att
open PySem PySem.W PySem.Calls PyProof.Rows
def a27:∀(ns:List Int)(vs:List Value),WellAll jQ h vs (ns.map WData.int)->i5 vs ns:=by
 ext c
 induction c with
 |nil=>
  ext d w;cases w;show .nil
 |cons n c ih=>
  ext d w;cases w with
  |cons a b=>
   cases a;show .cons _ _ (ih _ b)
def a72{l:OpenLaw}(hn:l.most=cL n)
  (hpre:l.row.toRowW.claim.pre args=jO) (hwl:WellAll jQ h vals args) :
  ∃a vs ns,vals=[Value.ref a]/\args=[WData.list (ns.map WData.int)]/\h.get? a=cL { cls:=.type "list",data:=.seq vs.toArray }/\i5 vs ns/\ns.length<=n:=by
 let i:=(pre_splitW hpre).1;let g:l.pre.holds [] { args:=args }=jO:=(pre_splitW hpre).2;let(d,r,rfl,j,m):=hasAllW_cons i;obtain rfl:=hasAllW_nil m;let(p,rfl,o):=hasW_list j;let(b,rfl):=items_int o;let f:b.length<=n:=by
  let c:(WTm.not (.lt (.lit (.int n)) (.len (.arg 0)))).holds [] { args:=[.list (b.map .int)] }=jO:=by
   let c:=(holds_andW g).1;rw[hn]at c;show c
  let e:=condW_of c (w_not (w_lt w_lit (w_len_list (w_arg rfl))))
  first
   | (rw[decide_eq_true k]at e;show absurd e (by simp))
   | (simp at e;cbv)
 cases hwl with
 |cons w1 w2=>
  cases w2;cases w1 with
  |list ho hall=>show(_,_,b,rfl,rfl,ho,a27 b _ hall,f)
def a73(l:OpenLaw)(args:List WData):l.row.toRowW.claim.post args (.bool jO) args=jO:=
 postW_of
  (show WShape.has [] _ .bool=jO by first |rfl |decide |simp)
  (w_eq_bool (w_res rfl) w_lit) rfl
def attach_call{l:OpenLaw}
  (hn:l.most=cL n) (hdf:d.params.defaults=[])
  (call:∀(w:World)(s₀ sj:Shared)(mg mb:Str->Option Value)(fa:Addr)(o:Obj)(pm cd doc:Value)(a:Addr)(vs:List Value)(ns:List Int),
   Ground q loose [] XP w s₀ mg mb sj.heap->YP w sj.heap ->
   sj.heap.get? fa=cL o->o.data=.func (docDef d.name d.params d.body d.scope pm cd doc)->sj.heap.CodeRec cd d.name->mg d.name=cL (.ref fa) ->
   sj.heap.get? a=cL { cls:=.type "list",data:=.seq vs.toArray }->i5 vs ns->ns.length<=n->sj.gens=#[] ->
   iE (model l.prog w) iK (.call (.ref fa) ([.ref a],[])) (λr s'=>r=.ok (.ret (.bool jO))/\OldK sj.heap s'.heap/\s'.os=sj.os/\iq s'.gens) sj) :
  WalkO q loose XP YP l.row.toRowW d [] (λf vs=>PySem.call f vs):=by
 ext w C s D y G Y x o F v i Q H L B k h j N u J U c A S m T;obtain rfl:Q=.none:=Dflts.none h hdf;obtain rfl:H=.none:=Dflts.noKw h;let(a,I,E,rfl,rfl,g,b,e):=a72 hn c m;show enter_call (iX (call w C s D y x o F v i a I E G Y L (fd_plain B) k j g b e N) λr V R=>?_);let(rfl,t,z,M):=R;show(.inl (.bool jO,.bool jO,[],rfl,λ_=>rfl,.bool jO,a73 l _,λ_=>(cZ.nil,λ_ p=>(nomatch p))),t,z,M)
end Att
def a74:∀{vs:List Value}{ns:List Int},i5 vs ns->Vals (ns.map V.int) vs:=by ext z0 y0 x0;induction x0 with
 |nil=>show .nil
 |cons n t h I0=>show .cons (t,rfl) (I0)
def Only(H:Hp):Prop:=∀b,H b=jN\/∃o xs,H b=cL (.frz o (.lst xs))
def b0j{K:Fg}
  (KX:K.In sj.heap) (hns:sj.heap.Ns gU mg) (hb:sj.heap.Ns jq mb) (hbb:∀x:Str,x≠"__name__"->mb x=iy x) (hlim:sj.heap.NoLimit) (hg:sj.gens=#[])
  (ha:sj.heap.get? a=cL { cls:=.type "list",data:=.seq vs.toArray }) (hi:i5 vs ns) (hl:ns.length<=gI) (hr:Room k iK)
  (F:∀base:Heap,K.In base->base.Ns gU mg->FnOk P w K mg base CX k fa fd [x] jQ) (hbind:∀(s:Shared)(u:Value),iP s fd ([u],[]) [(x,u,)])
  (hsp:∀H:Hp,Only H->SqL K H a (ns.map V.int)->jQ [.ref a] H (λv _=>v=.bl jO) λ_ _ _=>False)
  (hCX:∀H e s',CX [] H sj (λ_ _ _=>False) e s'->False) :
  iE (model P w) iK (.call (.ref fa) ([.ref a],[])) (λr s'=>r=.ok (.ret (.bool jO))/\OldK sj.heap s'.heap/\s'.os=sj.os/\iq s'.gens) sj:=by
 let L:=a74 hi;let p:∀H:Hp,Only H->SqL K H a (ns.map V.int)->HOk P w H sj.heap->(∀b,H b≠jN->b=a)->(H a≠jN->K.lookup a=jN) ->
   iE (model P w) iK (.call (.ref fa) ([.ref a],[])) (λr j=>r=.ok (.ret (.bool jO))/\OldK sj.heap j.heap/\j.os=sj.os/\iq j.gens) sj:=by
  ext H I R y G X;let f:∀{b:Addr}{o:Obj},sj.heap.get? b=cL o->H b=jN->(hidT sj.heap H).get? b=cL o:=λe n=>a91 e n;let N:∀{b:Addr}{o:Obj}{i:Array iO}{l:Nat},sj.heap.get? b=cL o->o.data=.dict i l->H b=jN:=λ{b o i l} e d=>by grind
  let g:∀{b:Addr}{m:Str->Option Value},sj.heap.Ns b m->(hidT sj.heap H).Ns b m:=λ{b m} (o,i,l,e,d,r)=>(o,i,l,f e (N e d),d,r);let A:=λb o e=>f (KX b o e) (by grind);let T:Mod K mg (hidT sj.heap H):=(A,g hns,(mb,g hb,hbb),by let(mc,h1,h2):=hlim;show(mc,g h1,h2));let U:Env0 P w K mg (hidT sj.heap H) iK [] sj H:=(rfl,T,λb o e=>b2m e,eC (a7u _ _),trivial,λb hb=>absurd (show b∈([]) from hb) (by simp),y,.of_eq hg);show iX ((F _ A (g hns)).run iK [] sj H ([.ref a],[]) [.ref a] [.ref a] _ _ hr U (hbind sj (.ref a)) (.cons rfl .nil) (hsp H I R)) λr j h=>?_;cases r with
  |error e=>show (hCX H e j h).elim
  |ok fl=>
   cases fl with
   |next=>show cb h
   |brk=>show cb h
   |cont=>show cb h
   |ret u=>
    let(v,H',Q,C,J,B,S,q):=h;let q':=q;subst q';obtain rfl:u=Value.bool jO:=S;show(rfl,OldK.of_keep λb o e=>?_,Q,C);cases q:H b with
    |none=>show J.keep b o e q (by ext z;show absurd (show b∈([]) from z) (by simp)) (by simp)
    |some u=>
     let z||(ob,xs,z):=I b
     .rw[q]at z;cases z
     .let z2:=J.frzs b ob _ z;let(M,_):=y b _ z;let(Y,_):=B b _ z2;rw[e]at M;cases M;show Y
 cases hk:K.lookup a with
 |some o=>
  let e:=KX a o hk;rw[ha]at e;cases e;show p _ (λ_=>.inl rfl) (.inr (_,vs.toArray,_,hk,rfl,rfl,rfl,by rw[cN,hi.length];show hl,↑L)) (λb u z=>by let t:=z;cases t) (λb z=>absurd rfl z) λz=>absurd rfl z
 |none=>
  show p (λb=>if b=a then cL _ else jN) (λb=>?_) (.inl (.inr ({ cls:=.type "list",data:=.seq vs.toArray },if_pos rfl))) (λb u z=>?_) (λb z=>?_) λ_=>hk
  .grind
  .by_cases hb:b=a
   .let t:=(if_pos hb).symm.trans z;cases t;subst hb;show(ha,by rw[b7];show hl,vs,_,L,ha)
   .let t:=(if_neg hb).symm.trans z;cases t
  .by_cases hb:b=a
   .show hb
   .show absurd (if_neg hb) z
def walk_of{l:PySem.W.OpenLaw}{K:Params->Fg}{CX:World->CXT}{sp:World->Sp}
  (hn:l.most=cL n) (hn2:n<=gI) (hdf:d.params.defaults=[]) (hr:Room k iK)
  (hY:∀(w:World)(h:Heap),YP w h->(K w.params).In h)
  (F:∀(w:World)(mg:Str->Option Value)(fa:Addr)(h:Heap),(K w.params).In h->h.Ns gU mg->mg d.name=cL (.ref fa) ->
   ∃fd:g9,(∀(s:Shared)(u:Value),iP s fd ([u],[]) [(x,u,)]) /\
    ∀base:Heap,(K w.params).In base->base.Ns gU mg->FnOk l.prog w (K w.params) mg base (CX w) k fa fd [x] (sp w))
  (hsp:∀(w:World)(H:Hp)(a:Addr)(ns:List Int),ns.length<=n->Only H->SqL (K w.params) H a (ns.map V.int)->sp w [.ref a] H (λv _=>v=.bl jO) λ_ _ _=>False)
  (hCX:∀(w:World)(H:Hp)(s:Shared)(e:Value)(s':Shared),CX w [] H s (λ_ _ _=>False) e s'->False) :
  PySem.W.WalkO q loose XP YP l.row.toRowW d [] (λf vs=>PySem.call f vs):=by
 show Att.attach_call hn hdf λw N r y U B o R Q J a S z G Y X M L p j i c D=>?_;let m:=hY w _ Y;let(fd,C,A):=F w y B _ m G.T.g p;show b0j m G.T.g G.T.b G.T.builtins G.T.nolimit D j i (cw c hn2) hr A C (λH I E=>hsp w H a z c I E) λH e t=>hCX w H r e t
noncomputable def a30(s:Stmt)(j:Nat):Stmt:=match s with
 |.ClassDef _ _ _ body _ _ _ _ _ _ _=>body.getD j (.Pass (0,0,0,0))
 |_=>.Pass (0,0,0,0)
noncomputable def a1L(s:Stmt):Arguments:=match s with
 |.FunctionDef _ a _ _ _ _ _ _ _ _=>a
 |_=>{ posonlyargs:=[],args:=[],vararg:=jN,kwonlyargs:=[],kw_defaults:=[],kwarg:=jN,defaults:=[] }
noncomputable def a0M(s:Stmt):List Stmt:=match s with
 |.FunctionDef _ _ b _ _ _ _ _ _ _=>b
 |_=>[]
noncomputable def a0h(s:Stmt):Scope:=match s with
 |.FunctionDef _ _ _ _ _ _ sc _ _ _=>sc
 |_=>{ kind:=.function,names:=[],isGenerator:=jP,isCoroutine:=jP }
abbrev CX0:CXT:=λ_ _ _ _ _ _=>False
abbrev E0:XK:=λ_ _ _=>False
def a75:a0V CX0 X E0:=λ_ _ _ _ _ _ _ h=>h.elim
structure Fun (K:Fg) (x qual:Str) (st:Stmt) (f:Addr) (fd:g9):Prop where
 ex:∃(oc:Value)(od:Option Addr)(kV doc pm:Value)(an:Option Addr)(cdv ct:Value)(osl:Array (Option Value)),
  fd=PySem.W.fnOf x qual (a1L st) (a0M st) (a0h st) .none kV doc pm an cdv ct/\K.lookup f=cL (oc,od,.func fd,osl)/\PySem.W.codeIn K cdv qual=jO
 kp:PySem.W.keepIn K (.ref f)=jO
section
variable{K:Fg}{mg:Str->Option Value}{base:Heap}
def Fun.ok{st:Stmt}(F:Fun K x qual st f fd)(S:FnScope N ps (a0h st))(len:∀vs H Q E,jQ vs H Q E->vs.length=ps.length)
  (hbody:∀(cdv:Value)(A:Around)(outer:List Env)(s:Shared)(H:Hp)(vs:List V)(Q:VK)(E:XK),Room k (A.deeper (envOfC qual (a0h st) s.heap.objs.size f cdv))->jQ vs H Q E ->
   ∃t,PSs (cxOf CX0 P w K mg base N qual (a0h st) f cdv A outer s H E).nox (a0M st) t/\t { nx:=λ_ H'=>Q .non H',rt:=Q } (start N vs) H):FnOk P w K mg base CX0 (k+1) f fd ps jQ:=by
 let(n,u,r,l,m,o,c,p,j,rfl,i,d):=F.ex;show b4U i d S len λA a s H g Q E e b=>?_;let(t,h,q):=hbody c A a s H g Q E e b;show(t,h.nox,q)
def Fun.binds{st:Stmt}(F:Fun K x qual st f fd)
  (h:∀(kV doc pm:Value)(an:Option Addr)(cdv ct:Value)(us:List Value),us.length=ps.length->jy (PySem.W.fnOf x qual (a1L st) (a0M st) (a0h st) .none kV doc pm an cdv ct) (us,[])=pure (ps.zip us)):Binds K fd ps []:=by
 let(k,l,g,a,e,d,b,c,i,rfl,m,j):=F.ex;show .all (h g a e d b c)
def b1D{st:Stmt}{kV doc pm cdv ct:Value}(l:K.lookup f=cL (oc,od,.func (PySem.W.fnOf x qual (a1L st) (a0M st) (a0h st) .none kV doc pm an cdv ct),osl))
  (c:PySem.W.codeIn K cdv qual=jO) (k:PySem.W.keepIn K (.ref f)=jO):Fun K x qual st f (PySem.W.fnOf x qual (a1L st) (a0M st) (a0h st) .none kV doc pm an cdv ct):=((oc,od,kV,doc,pm,an,cdv,ct,osl,rfl,l,c),k)
end
def a0l(h:n<=1000):n<sizeLine:=eI h (by decide)
def pv(i:Nat)(hN:X.N[i]?=cL x:=by rfl)(hv:Vis X.env.scope x:=by first |show dA rfl |show cU (dA rfl) |show cU (cU rfl))(hd:(x==("__debug__":Str))=jP:=by decide)
  (hcd:(x==("__classdict__":Str))=jP:=by decide):PE X (.Name x pos) (tVar i):=a7v hN hv hd hcd
def Same(H H':Hp):Prop:=∀b o,H b=cL o->H' b=cL o
def Same.refl(H:Hp):Same H H:=λ_ _ h=>h
def Same.trans(a:Same H H1)(b:Same H1 H2):Same H H2:=λc o h=>b c o (a c o h)
def Same.free(e:Same H H')(h:H' l=Option.none):H l=Option.none:=by
 cases q:H l with
 |none=>rfl
 |some o=>
  rw[e l o q]at h;cases h
def Same.seq{K:Fg}(e:Same H H')(h:SqL K H a xs):SqL K H' a xs:=by
 let(h||(o,h))||h:=h
 .show .inl (.inl (e _ _ h))
 .show .inl (.inr (o,e _ _ h))
 .show .inr h
section
variable{κ:Type}[DecidableEq κ]
noncomputable def valV(kvs:List (κ×V))(k:κ):Option V:=(kvs.find? λkv=>decide (kv.1=k)).map (·.2)
noncomputable def putK(kvs:List (κ×V))(k:κ)(v:V):List (κ×V):=
 if (kvs.any λkv=>decide (kv.1=k))=jO then kvs.map (λkv=>if kv.1=k then (kv.1,v,) else kv) else kvs++[(k,v,)]
noncomputable def b4Z(kvs:List (κ×V))(k:κ):List (κ×V):=kvs.filter λkv=>decide (kv.1≠k)
def a31{k:κ}(e:p.1=k):valV (p::r) k=cL p.2:=by simp[valV,da,e]
def a32{k:κ}(e:¬ p.1=k):valV (p::r) k=valV r k:=by simp[valV,da,e]
def a59(k:κ):∀kvs:List (κ×V),(kvs.any λkv=>decide (kv.1=k))=(valV kvs k).isSome:=by ext z0;induction z0 with
 |nil=>show rfl
 |cons p r I0=>
  rw[dS]
  by_cases e:p.1=k
  .simp only[a31 e,decide_eq_true e,Bool.true_or,Option.isSome_some]
  .rw[a32 e,decide_eq_false e,Bool.false_or];show I0
def a08(kvs:List (κ×V))(k:κ)(v:V):(putK kvs k v).length<=kvs.length+1:=by grind [putK]
def RelO.isSome_eq(r:RelO o u):o.isSome=u.isSome:=by
 cases o with
 |none=>cases u with
  |none=>rfl
  |some _=>show (r).elim
 |some _=>cases u with
  |none=>show (r).elim
  |some _=>rfl
def RelO.getD(r:RelO o u)(rd:RelV d d'):RelV (o.getD d) (u.getD d'):=by
 cases o with
 |none=>cases u with
  |none=>show rd
  |some _=>show (r).elim
 |some _=>cases u with
  |none=>show (r).elim
  |some _=>show r
noncomputable def KV.val(r:KV kvs vs)(k:κ):RelO (valV kvs k) (iM vs k):=by
 induction r with
 |nil=>show True.intro
 | @cons p q ps qs h t ih=>
  let(c,d):=h
  by_cases e:p.1=k
  .let a:=c.symm.trans e;let b:iM (q::qs) k=cL q.2:=by simp[iM,a]
   rw[a31 e,b];show d
  .let a:¬ q.1=k:=λz=>e (c.trans z);let b:iM (q::qs) k=iM qs k:=by simp[iM,a]
   rw[a32 e,b];show ih
noncomputable def KV.any(r:KV kvs vs)(k:κ):(kvs.any λkv=>decide (kv.1=k))=vs.any λkv=>decide (kv.1=k):=by
 induction r with
 |nil=>rfl
 |cons h t ih=>rw[dS,dS,ih,h.1]
def KV.repl(r:KV kvs vs)(k:κ)(ry:RelV y u) :
  KV (kvs.map λkv=>if kv.1=k then (kv.1,y,) else kv) (vs.map λkv=>if kv.1=k then (kv.1,u,) else kv):=by
 induction r with
 |nil=>show .nil
 | @cons p q ps qs h t ih=>
  rw[cr,cr];show .cons ?_ ih;let(a,b):=h
  by_cases e:p.1=k
  .rw[if_pos e,if_pos (a.symm.trans e)];show(a,ry)
  .rw[if_neg e,if_neg (λz=>e (a.trans z))];show(a,b)
noncomputable def KV.put(r:KV kvs vs)(k:κ)(ry:RelV y u):KV (putK kvs k y) (stored vs k u):=by
 unfold putK stored;rw[r.any k]
 by_cases e:(vs.any λkv=>decide (kv.1=k))=jO
 .rw[if_pos e,if_pos e];show r.repl k ry
 .rw[if_neg e,if_neg e];show Paired.snoc r (rfl,ry)
def KV.drop(r:KV kvs vs)(k:κ):KV (b4Z kvs k) (without vs k):=by
 unfold b4Z without
 induction r with
 |nil=>show .nil
 | @cons p q ps qs h t ih=>
  let(c,d):=h;rw[db,db]
  by_cases e:p.1=k
  .simp_all
  .let f:¬ q.1=k:=λz=>e (c.trans z);let a:decide (p.1≠k)=jO:=by simp[e]
   let b:decide (q.1≠k)=jO:=by simp[f]
   rw[if_pos a,if_pos b];show .cons (c,d) ih
theorem KV.keys{kvs:List (κ×V)}(r:KV kvs vs):kvs.map (·.1)=vs.map (·.1):=by
 induction r with
 |nil=>rfl
 |cons h t ih=>rw[cr,cr,ih,h.1]
def KV.length(r:KV kvs vs):kvs.length=vs.length:=Paired.length r
end
def a33(r:RelV (kV k) u):(a0p P w).is k u=jO:=by
 match k,r with
 |.inl (cL i),r=>let(t,e):=(r);subst e;show a5m P w i t
 |.inl jN,r=>rw[r];rfl
 |.inr x,r=>let(t,e):=(r);subst e;show a5n P w x t
def a76:∀{ks:List Key}{us:List Value},Vals (ks.map kV) us->ItemsAre (a0p P w) ks us:=by ext z0;induction z0 with
 |nil=>ext _ r;rw[cI]at r;cases r;show .nil
 |cons k ks I0=>
  ext _ r;cases r with
  |cons h t=>show .cons (a33 h) (I0 t)
abbrev KT(H:Hp):List (List Key×V)->List (List Key×Addr×Value)->Prop:=Paired λp q=>p.1=q.1/\H q.2.1=cL (.tup (p.1.map kV))/\RelV p.2 q.2.2
noncomputable def KT.val(r:KT H kvs xs)(k:List Key):RelO (valV kvs k) ((atKey xs k).map (·.2)):=by
 induction r with
 |nil=>show True.intro
 | @cons p q ps qs h t ih=>
  let(c,_,d):=h
  by_cases e:p.1=k
  .let a:=c.symm.trans e;let b:atKey (q::qs) k=cL q.2:=by simp[atKey,a]
   rw[a31 e,b];show d
  .let a:¬ q.1=k:=λz=>e (c.trans z);let b:atKey (q::qs) k=atKey qs k:=by simp[atKey,a]
   rw[a32 e,b];show ih
def KT.repl(r:KT H kvs xs)(k:List Key)(ry:RelV y u) :
  KT H (kvs.map λkv=>if kv.1=k then (kv.1,y,) else kv) (xs.map (putAt k u)):=by
 induction r with
 |nil=>show .nil
 | @cons p q ps qs h t ih=>
  rw[cr,cr];show .cons ?_ ih;let(a,b,c):=h;unfold putAt
  by_cases e:p.1=k
  .rw[if_pos e,if_pos (a.symm.trans e)];show(a,b,ry)
  .rw[if_neg e,if_neg (λz=>e (a.trans z))];show(a,b,c)
noncomputable def KT.put(r:KT H kvs xs)(k:List Key)(hb:H b=cL (.tup (k.map kV)))(ry:RelV y u) :
  KT H (putK kvs k y) (iB xs k b u):=by
 let e:(kvs.any λa=>decide (a.1=k))=(atKey xs k).isSome:=by
  rw[a59,(r.val k).isSome_eq,fK]
 unfold putK iB;rw[e]
 by_cases q:(atKey xs k).isSome=jO
 .rw[if_pos q,if_pos q];show r.repl k ry
 .rw[if_neg q,if_neg q];show Paired.snoc r (rfl,hb,ry)
def KT.keeps(r:KT H kvs xs)(ht:∀b ys,H b=cL (.tup ys)->H' b=cL (.tup ys)):KT H' kvs xs:=
 Paired.mapP r λ_ _ z=>(z.1,ht _ _ z.2.1,z.2.2)
section
variable{h:Heap}{a:Addr}
def b40(ok:HOk P w H h)(e:Rd H a u):ObjOk P w H h a u:=e.ok ok
def a77(ok:HOk P w H h)(e:Rd H a (.dK kvs)):kvs.length<=gI/\(a==ie)=jP/\∃vs,KV kvs vs/\h.DictOf (a0p P w) a vs:=
 b40 ok e
def a78(ok:HOk P w H h)(e:H a=cL (.dK kvs)):kvs.length<=gI/\(a==ie)=jP/\∃vs,KV kvs vs/\h.DictOf (a0p P w) a vs:=a77 ok (.inl e)
def a3J(ok:HOk P w H h)(e:H a=cL (.tup (ks.map kV))):(ig (a0p P w)).is h ks a:=by
 let(_,b,r,o,d,c,n,f):=(ok a _ e);show(o,b.toArray,n,d,c,f,↑(a76 r))
def b0k(ok:HOk P w H h)(e:Rd H a (.dT kvs)):kvs.length<=gI/\(a==ie)=jP /\
  ∃xs,KT H kvs xs/\h.DictOfH (ig (a0p P w)) a xs:=by
 let(z,y,g,r,o,d,s,j,k,f,n,i):=(b40 ok e);show(z,y,g,r,o,d,s,j,k,f,n,λx b=>?_,i);let c:∀{l:List _}{m:List _},KT H l m->∀x∈m,(ig (a0p P w)).is h x.1 x.2.1:=by
  ext l m q
  induction q with
  |nil=>ext x b;show nomatch b
  | @cons p q ps qs hq t ih=>
   ext x b;let e||b:=cf.mp b
   .subst e;show a3J ok (by simp_all)
   .show ih x b
 show c r x b
def b7A(ok:HOk P w H h)(e:H a=cL (.dT kvs)):kvs.length<=gI/\(a==ie)=jP /\
  ∃xs,KT H kvs xs/\h.DictOfH (ig (a0p P w)) a xs:=b0k ok (.inl e)
end
def DGet(H:Hp)(a:Addr)(y:V)(r:Option V):Prop:=
 (∃kvs k,Rd H a (.dK kvs)/\y=kV k/\r=valV kvs k)\/∃kvs k b,Rd H a (.dT kvs)/\y=.ref b/\H b=cL (.tup (k.map kV))/\r=valV kvs k
def DPut(H:Hp)(a:Addr)(y v:V)(H':Hp):Prop:=
 (∃kvs k,H a=cL (.dK kvs)/\y=kV k/\kvs.length<gI/\H'=upd H a (.dK (putK kvs k v))) \/
 ∃kvs k b,H a=cL (.dT kvs)/\y=.ref b/\H b=cL (.tup (k.map kV))/\kvs.length<gI/\H'=upd H a (.dT (putK kvs k v))
def DGet.k{k:Key}(e:H a=cL (.dK kvs)):DGet H a (kV k) (valV kvs k):=.inl (kvs,k,.inl e,rfl,rfl)
def DGet.t{k:List Key}(e:H a=cL (.dT kvs))(eb:H b=cL (.tup (k.map kV))):DGet H a (.ref b) (valV kvs k):=.inr (kvs,k,b,.inl e,rfl,eb,rfl)
def DPut.k{k:Key}(e:H a=cL (.dK kvs))(hl:kvs.length<gI):DPut H a (kV k) v (upd H a (.dK (putK kvs k v))):=.inl (kvs,k,e,rfl,hl,rfl)
def DPut.t{k:List Key}(e:H a=cL (.dT kvs))(eb:H b=cL (.tup (k.map kV)))(hl:kvs.length<gI) :
  DPut H a (.ref b) v (upd H a (.dT (putK kvs k v))):=.inr (kvs,k,b,e,rfl,eb,hl,rfl)
section
variable{σ:St}{a:Addr}{y v:V}{u r:Value}{o:Option V}
def Inv.big(I:Inv X pins σ H s):ie<s.heap.objs.size:=by
 let h:=(I.mod.glob.keeps I.bk).lt;show e8 (by decide) h
def b2K(hu:A.units+1<cLine)(I:Inv X pins σ H s)(g:DGet H a y o)(ry:RelV y u)(h:∀s',Inv X pins σ H s'->Q (.bool (!o.isSome)) s') :
  wpAny (model X.prog X.w) A (gQ .NotIn u (.ref a)) Q E s:=by
 let(kvs,k,e,ey,l)||(kvs,k,b,e,ey,eb,l):=g
 .subst ey;let(z,f,i,c,d):=a77 I.hok e;show wpAny_notIn_of (a33 ry) f d.mapOf ?_;rw[<- (c.val k).isSome_eq,<- l];show h _ (I.tok _)
 .subst ey;cases (ry);let(z,f,j,c,d):=b0k I.hok e;show wpAny_notIn_heap (i6 hu) (a3J I.hok eb) f d ?_;let q:=(c.val k).isSome_eq;rw[fK]at q;rw[<- q,<- l];show h _ (I.tok _)
def a79(I:Inv X pins σ H s)(mu:Mut (H a))(hs:Heap.SameBut a s.heap h')(he:∃q,h'.get? a=cL q)(new:ObjOk X.prog X.w (upd H a ob) h' a ob) :
  Inv X pins σ (upd H a ob) { s with heap:=h',toks:=t' }:=
 I.write mu (.inl rfl) (λb q c z=>(hs.2 b c).trans z) he new
def b41(z:kvs.length<=gI)(hd:(a==ie)=jP)(rel:KV kvs vs)(dd:h'.DictOf (a0p P w) a vs) :
  ObjOk P w H' h' a (.dK kvs):=(z,hd,vs,rel,dd)
def a8a(hu:A.units+1<cLine)(I:Inv X pins σ H s)(g:DPut H a y v H')(ry:RelV y u)(rv:RelV v r)(h:∀s',Inv X pins σ H' s'->Q () s') :
  wpAny (model X.prog X.w) A (iN (.ref a) u r) Q E s:=by
 let(kvs,k,e,ey,l,eH)||(kvs,k,b,e,ey,eb,l,eH):=g
 .subst ey eH;let(z,m,F,d,p):=a78 I.hok e;let o:F.length<=sizeLine:=d.length▸z;let n:(putK kvs k v).length<=sizeLine:=by let:=a08 kvs k v;lia
  show wpAny_setItem_pairs (a33 ry) p λx f j=>h _ ?_;let L:∃q,x.get? a=cL q:=by let(q,_,_,i,_):=f;show(q,i)
  show a79 I (e▸True.intro) j L (b41 n m (d.put k rv) f)
 .subst ey eH;cases (ry);let(z,m,D,d,p):=b7A I.hok e;let o:D.length<=sizeLine:=(Paired.length d)▸z;let n:(putK kvs k v).length<=sizeLine:=by let:=a08 kvs k v;lia
  show wpAny_setItem_heap (hsz:=o) (i6 hu) (a3J I.hok eb) p λx f j=>h _ ?_;let(q,C,M,i,J,N,B,_,G):=f;show a79 I (e▸True.intro) j (q,i) (n,m,_,(d.put k eb rv).keeps λc R t=>?_,q,C,M,i,J,N,B,G);rw[a0b (b7d t e (λz=>nomatch z))];show t
end
def a34(h:Heap)(hb:ie<h.objs.size):ObjOk P w H (h.push { cls:=.type "dict",data:=.dict #[] }) h.objs.size (.dK []):=
 (cM _,beq_eq_false_iff_ne.mpr (Ne.symm (cv hb)),[],.nil,Heap.DictOf.new h)
def b42:TE:=λ_ H Q=>∀p,H p=jN->Q (.ref p) (upd H p (.dK []))
def b0l:PE X (.Dict [] [] pos) b42:=λb s σ H Q I h=>
 wpAny_Dict_empty (.ref s.heap.objs.size,_,I.laid (λ_ _ q=>Heap.get?_push_of_some _ q) (b8 _) (a34 s.heap I.big),rfl,h _ (I.hok.fresh (b8 _)))
noncomputable def b43(kvs more:List (Key×V)):List (Key×V):=more.foldl (λacc kv=>putK acc kv.1 kv.2) kvs
def KV.merge:∀{more:List (Key×V)}{rs:List (Key×Value)}{kvs:List (Key×V)}{vs:List (Key×Value)},KV more rs->KV kvs vs->KV (b43 kvs more) (merged vs rs):=by
 ext d f a b r
 induction r generalizing a b with
 |nil=>ext q;show q
 | @cons p q ps qs h t ih=>
  ext c;let e:KV (putK a p.1 p.2) (stored b q.1 q.2):=by
   let:=c.put p.1 h.2
   rw[<- h.1];show this
  show ih e
section
variable{σ:St}{a:Addr}{y d:V}{u r:Value}{o:Option V}
def b44(hu:A.units+1<cLine)(I:Inv X pins σ H s)(g:DGet H a y o)(ry:RelV y u)(h:∀w' s',Inv X pins σ H s'->RelV (o.getD .non) w'->Q w' s') :
  wpAny (model X.prog X.w) A (call (.builtin "dict.get") [.ref a,u]) Q E s:=by
 let(kvs,k,e,ey,l)||(kvs,k,b,e,ey,eb,l):=g
 .subst ey;let(z,f,j,d,c):=a77 I.hok e;show jk PySem.F.slot_dict_get c.typeIs PySem.F.entry_dict_get (PySem.F.args_dict_get_2 _ _) (meets_dict_get _ a (a33 ry) f) (_,c.mapOf,h _ _ (I.tok _) ?_);rw[l];show (d.val k).getD rfl
 .subst ey;cases (ry);let(z,f,i,d,c):=b0k I.hok e;show jk PySem.F.slot_dict_get c.typeIs PySem.F.entry_dict_get (PySem.F.args_dict_get_2 _ _) (meetsH_dict_get _ a b f) (i6 hu,k,i,a3J I.hok eb,c,h _ _ (I.tok _) ?_);rw[l];show (d.val k).getD rfl
def b45(hu:A.units+1<cLine)(I:Inv X pins σ H s)(g:DGet H a y o)(ry:RelV y u)(rd:RelV d r)(h:∀w' s',Inv X pins σ H s'->RelV (o.getD d) w'->Q w' s') :
  wpAny (model X.prog X.w) A (call (.builtin "dict.get") [.ref a,u,r]) Q E s:=by
 let(kvs,k,e,ey,l)||(kvs,k,b,e,ey,eb,l):=g
 .subst ey;let(z,i,m,f,c):=a77 I.hok e;show jk PySem.F.slot_dict_get c.typeIs PySem.F.entry_dict_get (PySem.F.args_dict_get_3 _ _ _) (meets_dict_get_default _ a (a33 ry) i r) (_,c.mapOf,h _ _ (I.tok _) ?_);rw[l];show (f.val k).getD rd
 .subst ey;cases (ry);let(z,i,j,f,c):=b0k I.hok e;show jk PySem.F.slot_dict_get c.typeIs PySem.F.entry_dict_get (PySem.F.args_dict_get_3 _ _ _) (meetsH_dict_get_default _ a b i r) (i6 hu,k,j,a3J I.hok eb,c,h _ _ (I.tok _) ?_);rw[l];show (f.val k).getD rd
end
noncomputable def a2m(cap:List (Option Nat))(σ:St):St:=cap.map λo=>o.bind λj=>(σ[j]?).join
def a09:St->St->Prop
 |[],[]=>True
 |none::a,_::b=>a09 a b
 |some x::a,y::b=>y=cL x/\a09 a b
 |_,_=>False
theorem a2n:∀{a b:St},a09 a b->a.length=b.length/\∀(i:Nat) v,a[i]?=cL (cL v)->b[i]?=cL (cL v)
 |[],[],_=>(rfl,λi v h=>by simp at h)
 |none::a,y::b,h=>by
  let c:=a2n (b:=b) h;show(by simp[c.1],λi v e=>?_);cases i with
  |zero=>simp at e
  |succ i=>o_head c.2 i v (by simp_all)
 |some x::a,y::b,h=>by
  let(d,h):=(h);let c:=a2n (b:=b) h;show(by simp[c.1],λi v e=>?_);cases i with
  |zero=>rw[d];o_head e
  |succ i=>o_head c.2 i v ↑e
 |[],_::_,h=>cb h
 |none::_,[],h=>cb h
 |some _::_,[],h=>cb h
theorem a1o:∀a:St,a09 a a
 |[]=>True.intro
 |none::a=>a1o a
 |some _::a=>(rfl,a1o a)
noncomputable def capB(N:List Str)(so sc:Scope)(N':List Str)(cap:List (Option Nat)):Bool:=
 decide (sc.kind=.function)&&decide N'.Nodup&&decide (cap.length=N'.length)&&(sc.names.all λy=>decide (y.2≠.cell)) &&
 (sc.names.all λy=>decide (y.2=.local->sc.names.lookup y.1=cL .local)) &&
 (sc.names.all λy=>decide (y.2=.free->so.names.lookup y.1=cL .cell\/so.names.lookup y.1=cL .free)) &&
 ((N'.zip cap).all λy=>match y.2 with |none=>jO |some j=>decide (N[j]?=cL y.1)&&decide (sc.names.lookup y.1=cL .free))
structure CapOk (N:List Str) (so sc:Scope) (N':List Str) (cap:List (Option Nat)):Prop where
 kind:sc.kind=.function
 nd:N'.Nodup
 len:cap.length=N'.length
 nocell:∀y∈sc.names,y.2≠.cell
 nms:∀y∈sc.names,y.2=.local->sc.names.lookup y.1=cL .local
 fre:∀y∈sc.names,y.2=.free->so.names.lookup y.1=cL .cell\/so.names.lookup y.1=cL .free
 cap:∀(i:Nat) x j,N'[i]?=cL x->cap[i]?=cL (cL j)->N[j]?=cL x/\sc.names.lookup x=cL .free
def a8b(h:capB N so sc N' cap=jO):CapOk N so sc N' cap:=by
 unfold capB at h;simp only[cV,decide_eq_true_eq,dB]at h;let((((((f,k),d),g),b),l),e):=h;show(f,k,d,g,b,l,λi x j c a=>?_);let m:(N'.zip cap)[i]?=cL (x,cL j,):=by rw[List.getElem?_zip_eq_some];show(c,a)
 o_head (e (x,cL j,) (cx m))
structure Lk (fr:List Addr) (ex:Addr->Prop) (h h':Heap):Prop where
 keep:∀b o,h.get? b=cL o->b∉fr->¬ ex b->h'.get? b=cL o
 slot:∀b o,h.get? b=cL o->¬ ex b->∃sl,h'.get? b=cL { o with slots:=sl }
 size:h.objs.size<=h'.objs.size
def Lk.refl{fr:List Addr}{ex:Addr->Prop}{h:Heap}:Lk fr ex h h:=(λ_ _ q _ _=>q,λ_ o q _=>(o.slots,q),b8 _)
def Lk.trans{fr:List Addr}{ex ex2:Addr->Prop}{h h1 h2:Heap}(a:Lk fr ex h h1)(b:Lk fr ex2 h1 h2)(i:∀x,ex2 x->ex x\/h.objs.size<=x):Lk fr ex h h2:=by
 let n:∀{x o},h.get? x=cL o->¬ ex x->¬ ex2 x:=λ{x o} q n z=>by
  let z||z:=i x z
  .show n z
  .show absurd (Heap.lt_size q) (Nat.not_lt.mpr z)
 show(λx o q f z=>b.keep x o (a.keep x o q f z) f (n q z),λx o q z=>?_,cw a.size b.size);let(sl,e):=a.slot x o q z;let(sl2,e2):=b.slot x _ e (n q z);show(sl2,e2)
theorem Lk.funs(k:Lk fr ex h h'):∀{l:List Env},(∀b∈frs l,¬ ex b)->h.FunFrames base l->h'.FunFrames base l
 |[],_,_=>True.intro
 |env::rest,hx,(hk,(L,o,hf,hn,ho,hd),hr)=>by
  let a:L∈frs (env::rest):=by change L∈(env::rest).filterMap _;rw[cW,hf];show .head _
  let(d,e):=k.slot L o ho (hx L a);show(hk,(L,_,hf,hn,e,hd),k.funs (λb c=>hx b (by change b∈(env::rest).filterMap _;rw[cW,hf];show .tail _ c)) hr)
def FlyT(e:Addr)(cls:Value)(T:Addr)(fl:Value)(h:Heap):Prop:=∃oe vs oT ts,h.get? e=cL oe/\(oe.cls=cls/\oe.dict=jN)/\oe.data=.fields vs/\vs[1]?=cL (.ref T)/\T≠e/\h.get? T=cL oT/\oT.data=.fields ts/\ts[3]?=cL fl
section
variable{M:Model}{base:Heap}{env:Env}{outer:List Env}{L e T:Addr}{cls fl:Value}{Q:Unit->Shared->Prop}
def a3w(f:Array Value->Array Value)(o:Obj):(o.mapFields f).dict=o.dict:=by
 unfold Obj.mapFields
 split<;>rfl
def b1E(hfr:A.frames=cL (env::outer))(hl:s.heap.FunFrames base (env::outer))(hf:env.frame=cL L)(he:s.heap.get? e=cL oe)(hn0:oe.dict=jN)(hd:oe.data=.fields vs)(hz:1<vs.size)
  (q:∀h' T',Lk (frs (env::outer)) (·=e) s.heap h'->FlyT e oe.cls T' (rawInt L) h'->s.heap.objs.size<=T'->Q () { s with heap:=h' }) :
  wpAny M A (do let a <- frameOf env;let pl <- entryPlaceOf L hn;let b <- EntryCells.newEntry head a .none (rawInt L) .none pl;setField (.ref e) 1 b) Q E s:=by
 let t:e∉frs _:=λD=>by
  let(_,F,i,C):=hl.mem D;rw[he]at i;cases i;show C vs hd
 show gK (wpAny_frameOf_fun hfr hl hf λc g=>gK (wpAny_entryPlaceOf λl m=>?_));unfold EntryCells.newEntry;show gK (jA ?_ (m.sizeOk5 _ _ _ _ _));generalize ht:([head,Value.ref L,.none,rawInt L,.none]++_).toArray=ts;let w:ts[3]?=cL (rawInt L):=by rw[<- ht];simp
 let p:=(g.2.1 e t).trans he;let z:=Heap.lt_size p;let j:=eZ z;let k:=Heap.get?_push_of_some { cls:=.type "traceback",dict:=jN,data:=.fields ts } p;let r:=Obj.data_mapFields hd (·.setIfInBounds 1 (Value.ref c.objs.size));let y:=(Heap.get?_update_other (c.push { cls:=.type "traceback",dict:=jN,data:=.fields ts }) (Obj.mapFields (·.setIfInBounds 1 (Value.ref c.objs.size))) (Ne.symm j)).trans (Heap.get?_push_size c rfl);show wpAny_setField k hd hz (q _ c.objs.size ?_ (_,_,_,_,(Heap.get?_update_self _ k (Obj.isFreed_of_fields r)),(Obj.cls_mapFields _ _,(a3w _ _).trans hn0),r,by simp[hz],j,y,rfl,w) (eC g.1.symm));let n:∀b o,b≠e->c.get? b=cL o->((c.push { cls:=.type "traceback",dict:=jN,data:=.fields ts }).update e (Obj.mapFields (·.setIfInBounds 1 (Value.ref c.objs.size)))).get? b=cL o:=λb o d f=>by
  rw[Heap.get?_update_other _ _ (Ne.symm d)];show Heap.get?_push_of_some _ f
 show(λb o f x d=>n b o d ((g.2.1 b x).trans f),λb o f d=>?_,?_)
 .let(v,B):=g.2.2 b o f;show(v,n b _ d B)
 .rw[Heap.size_update,<- g.1];show df (by simp)
def a8c(hT:FlyT e cls T fl s.heap)(q:∀h',(∀fr,Lk fr (·=T) s.heap h')->FlyT e cls T x h'->Q () { s with heap:=h' }):wpAny M A (setField (.ref T) 3 x) Q E s:=by
 let(l,m,oT,ts,r,p,j,k,i,hT,c,t):=hT;let h:=(eK.mp t).1;show wpAny_setField hT c h (q _ (λfr=>?_) ?_)
 all_goals let d:∀b,b≠T->(s.heap.update T (Obj.mapFields (·.setIfInBounds 3 x))).get? b=s.heap.get? b:=λb a=>Heap.get?_update_other _ _ (Ne.symm a)
 all_goals let n:=Heap.get?_update_self (Obj.mapFields (·.setIfInBounds 3 x)) hT (Obj.isFreed_of_fields (Obj.data_mapFields c _))
 .show(λb o a _ g=>(d b g).trans a,λb o a g=>(o.slots,(d b g).trans a),by rw[Heap.size_update];show b8 _)
 .show(l,m,_,_,(d e (Ne.symm i)).trans r,p,j,k,i,n,Obj.data_mapFields c _,by simp[h])
def FlyT.field{Q:Value->Shared->Prop}(h:FlyT e cls T fl s.heap)(q:Q (.ref T) s):wpAny M A (field (.ref e) 1) Q E s:=by
 let(_,_,_,_,a,_,b,c,_):=h;show iQ a b c q
def FlyT.mark{Q:Value->Shared->Prop}(h:FlyT e cls T fl s.heap)(q:Q fl s):wpAny M A (PySem.field (.ref T) 3) Q E s:=by
 let(_,_,_,_,_,_,_,_,_,a,c,b):=h;show iQ a c b q
def b0m(hT:FlyT e cls T fl s.heap)(q:∀h',(∀fr,Lk fr (·=T) s.heap h')->FlyT e cls T (fo.elim .none λf=>rawInt f) h'->Q () { s with heap:=h' }):wpAny M A (setFlight (.ref e) fo) Q E s:=by
 show gK (hT.field (a8c hT q))
def b0n(hfr:A.frames=cL (env::outer))(hl:s.heap.FunFrames base (env::outer))(hf:env.frame=cL L)(he:s.heap.get? e=cL oe)(hn0:oe.dict=jN)(hd:oe.data=.fields vs)(h1:vs[1]?=cL .none)
  (q:∀h' T',Lk (frs (env::outer)) (·=e) s.heap h'->FlyT e oe.cls T' (rawInt L) h'->s.heap.objs.size<=T'->Q () { s with heap:=h' }):wpAny M A (jl (.ref e) env) Q E s:=by
 unfold jl;simp only[hf];show gK (iQ he hd h1 (b1E hfr hl hf he hn0 hd (eK.mp h1).1 q))
def b1F(hfr:A.frames=cL (env::outer))(hl:s.heap.FunFrames base (env::outer))(hf:env.frame=cL L)(hT:FlyT e cls T fl s.heap)
  (q:∀h' T',Lk (frs (env::outer)) (λb=>b=e\/b=T) s.heap h'->FlyT e cls T' (rawInt L) h'->T'=T\/s.heap.objs.size<=T'->Q () { s with heap:=h' }):wpAny M A (jl (.ref e) env) Q E s:=by
 unfold jl;simp only[hf];show gK (hT.field (gK (hT.mark ?_)))
 by_cases c:(fl==rawInt L)=jO
 .rw[if_pos c];rw[show fl=rawInt L by o_head c]at hT;show gS (q s.heap T .refl hT (.inl rfl))
 .rw[if_neg c];show gK (a8c hT λh a B=>?_);let l:=(a []).funs (λb v z=>by
   let(_,I,g,u):=hl.mem v;let(_,_,_,i,_,_,_,_,_,d,j,_):=hT;rw[z,d]at g;cases g;show u i j) hl
  let(D,G,F,i,C,p,t,r,H,d,j,J):=B;show b1E hfr l hf C p.2 t (eK.mp r).1 λy w k f z=>q y w ?_ (p.1▸f) (.inr (cw (a []).size z));let m:Lk (frs (env::outer)) (λb=>b=e\/b=T) s.heap h:=(λb o q f n=>(a _).keep b o q f λz=>n (.inr z),λb o q n=>(a []).slot b o q λz=>n (.inr z),(a []).size);show m.trans k λx z=>.inl (.inl z)
def b0o(hfr:A.frames=cL (env::outer))(hl:s.heap.FunFrames base (env::outer))(hf:env.frame=cL L)(he:s.heap.get? e=cL oe)(hn0:oe.dict=jN)(hd:oe.data=.fields vs)(h1:vs[1]?=cL .none)
  (q:∀h' T',Lk (frs (env::outer)) (·=e) s.heap h'->FlyT e oe.cls T' .none h'->s.heap.objs.size<=T'->Q () { s with heap:=h' }):wpAny M A (jh env (.ref e)) Q E s:=
 gK (b0n hfr hl hf he hn0 hd h1 λ_ b k f z=>b0m f λa d c=>q a b (k.trans (d _) λx w=>.inr (w▸z)) c z)
def b46(hfr:A.frames=cL (env::outer))(hl:s.heap.FunFrames base (env::outer))(hf:env.frame=cL L)(hT:FlyT e cls T fl s.heap)
  (q:∀h' T',Lk (frs (env::outer)) (λb=>b=e\/b=T) s.heap h'->FlyT e cls T' .none h'->T'=T\/s.heap.objs.size<=T'->Q () { s with heap:=h' }):wpAny M A (jh env (.ref e)) Q E s:=
 gK (b1F hfr hl hf hT λ_ c k f z=>b0m f λa g d=>q a c (k.trans (g _) λx w=>by
  rw[w];let z||z:=z
  .show .inl (.inr z)
  .show .inr z) d z)
end
def Un.lk(u:Un fs ex0 H0 H h0 h)(v:Lk fr ex h h')(hf:∀b∈fr,b∈fs\/h0.get? b=jN)(hx:∀b,ex b->b∈ex0\/h0.get? b=jN):Un fs ex0 H0 H h0 h':=by
 let g:∀{b o},h0.get? b=cL o->b∉ex0->¬ ex b:=λ{b o} q n z=>by
  let z||z:=hx b z
  .grind
  .grind
 show(λb o q n c a=>?_,λb o q n c a=>?_,u.free,λb o q a=>?_,u.tups,u.frzs,u.tbls)
 .show v.keep b o (u.keep b o q n c a) (λz=>?_) (g q a);let z||z:=hf b z
  .grind
  .grind
 .let(j,f):=u.slot b o q n c a;let(d,e):=v.slot b _ f (g q a);show(d,e)
 .let(i,f):=u.there b o q a;let(d,e):=v.slot b _ f (g q a);show(_,e)
def Un.gone(u:Un fs ex H0 H h0 h)(n:h.get? b=jN):b∈ex\/h0.get? b=jN:=by
 cases q:h0.get? b with
 |none=>show .inr rfl
 |some o=>
  by_cases c:b∈ex
  .show .inl c
  .let(a,e):=u.there b o q c;rw[n]at e;cases e
def Un.gone0(u:Un fs [] H0 H h0 h)(n:h.get? b=jN):h0.get? b=jN:=(u.gone n).resolve_left (by simp)
def ObjOk.is(x:ObjOk P w H h a o):∃ob,h.get? a=cL ob:=by
 cases o with
 |lst xs=>let(_,_,_,_,e):=x;show(_,e)
 |tup xs=>let(_,_,_,b,e,_):=x;show(_,e)
 |dK kvs=>let(_,_,_,_,o,_,_,e,_):=x;show(_,e)
 |dT kvs=>let(_,_,_,_,o,_,_,e,_):=x;show(_,e)
 |set S n=>let(o,_,_,_,e,_):=x;show(_,e)
 |ins C dx fs=>let(_,_,_,e,_):=x;show(_,e)
 |own y=>let(_,e):=x;show(_,e)
 |xd fs=>let(_,(_,_,_,e,_),_):=x;show(_,e)
 |rng lo hi=>let(_,_,_,e):=x;show(_,e)
 |frz b u=>let(e,_):=x;show(_,e)
 |tbl ps=>show(_,x)
 |met f y=>show(_,x)
 |ext φ=>let(_,(_,e),_):=x;show(_,e)
def HOk.gone(x:HOk P w H h)(n:h.get? a=jN):H a=jN:=by
 cases q:H a with
 |none=>rfl
 |some u=>let(b,e):=(x a u q).is;rw[n]at e;cases e
def HOk.lk(x:HOk P w H h)(l:Lk fr ex h h')(hf:∀b∈fr,H b=jN)(he:∀b,ex b->H b=jN):HOk P w H h':=λa o q=>
 (x a o q).stay (λb u c r=>by
  let d:H b≠jN:=by
   let rfl||c:=c
   .simp_all
   .simp_all
  show l.keep b u r (λz=>d (hf b z)) λz=>d (he b z)) (λ_ q=>q) λ_ _ q=>q
structure Fly (N:Addr->Prop) (H:Hp) (fl:Value) (e:Addr) (cls:Value) (h:Heap):Prop where
 at_:∃T,FlyT e cls T fl h/\N T/\H T=jN
 old:N e
 free:H e=jN
def CXx(P:gO)(w:World):CXT:=λouter H s E ev s'=>∃e C H',ev=.ref e/\s'.os=s.os/\iq s'.gens/\Un (frs outer) [] H H' s.heap s'.heap/\HOk P w H' s'.heap/\Fly (λb=>s.heap.get? b=jN) H' .none e (.ref C) s'.heap/\E (.ref C) jN H'
structure TKs (H H':Hp):Prop where
 tup:∀b xs,H b=cL (.tup xs)->H' b=cL (.tup xs)
 frz:∀b o u,H b=cL (.frz o u)->H' b=cL (.frz o u)
def since(H:Hp)(E:XK):XK:=λc d H'=>TKs H H'->E c d H'
structure Outs (X:Cx) (E:XK):Prop where
 xe:∀ev s',wpAny (model X.prog X.w) X.A (jh X.env ev) (λ_ s''=>CXx X.prog X.w X.outer X.H₀ X.s₀ E ev s'') (λe' s''=>CXx X.prog X.w X.outer X.H₀ X.s₀ E e' s'') s'->X.xe ev s'
 stk:X.stack=X.env::X.outer
 frm:X.env.frame=cL X.env.locals
 ex:X.ex=[]
def Outs.of{P:gO}{w:World}{K:Fg}{mg:Str->Option Value}{base:Heap}{N:List Str}{qual:Str}{scope:Scope}{f:Addr}{cd:Value}{A:Around}{outer:List Env}{s:Shared}{H:Hp}{E:XK}:Outs (cxOf (CXx P w) P w K mg base N qual scope f cd A outer s H E) E:=(λ_ _ h=>h,rfl,rfl,rfl)
section
variable{E:XK}{σ:St}
def Outs.frames(O:Outs X E)(I:Inv X pins σ H s):X.A.frames=cL (X.env::X.outer):=by rw[<- O.stk];show I.ok.frames
def Outs.sub(O:Outs X E)(I:Inv X pins σ H s):∀b∈frs (X.env::X.outer),b∈X.fs\/X.s₀.heap.get? b=jN:=λb a=>by
 rw[<- O.stk]at a;let z||z:=cf.mp (I.stkSub b a)
 .rw[z];show .inr (Heap.get?_none_of_le I.ok.above)
 .show .inl z
def Outs.funs(O:Outs X E)(I:Inv X pins σ H s):s.heap.FunFrames X.base (X.env::X.outer):=by rw[<- O.stk];show I.stack
def Outs.free(O:Outs X E)(I:Inv X pins σ H s):∀b∈frs (X.env::X.outer),H b=jN:=by rw[<- O.stk];show I.stkFree
def Outs.base(O:Outs X E)(I:Inv X pins σ H s):Un X.fs [] X.H₀ H X.s₀.heap s.heap:=by let:=I.base;rw[O.ex]at this;show this
def Outs.fin(O:Outs X E)(I:Inv X pins σ H s){e C T:Addr}{ex:Addr->Prop}{h':Heap}(k:Lk (frs (X.env::X.outer)) ex s.heap h')(f:FlyT e (.ref C) T .none h')(hx:∀b,ex b->X.s₀.heap.get? b=jN/\H b=jN)(he:ex e)(hT:ex T\/s.heap.objs.size<=T)(q:since X.H₀ E (.ref C) jN H) :
  CXx X.prog X.w X.outer X.H₀ X.s₀ E (.ref e) { s with heap:=h' }:=
 (e,C,H,rfl,I.os,I.bare,(O.base I).lk k (O.sub I) (λb hb=>.inr (hx b hb).1),I.hok.lk k (O.free I) λb hb=>(hx b hb).2,((T,f,by
  let z||z:=hT
  .show hx T z
  .show(Heap.get?_none_of_le (cw I.sz z),I.hok.fresh z)),(hx e he).1,(hx e he).2),q (I.base.tups,I.base.frzs))
def b0p(O:Outs X E)(I:Inv X pins σ H s)(hm:Heap.MadeExcOf s.heap h' e (.ref C) vs)(q:since X.H₀ E (.ref C) jN H):X.xe (.ref e) { s with heap:=h' }:=by
 let(t,d,g,_):=hm.there;let a:Inv X pins σ H { s with heap:=h' }:=I.kept hm.keeps;show O.xe _ _ (b0o (O.frames I) (O.funs a) O.frm d rfl rfl (by simp) λh T l f z=>(O.fin a l f (λb c=>by rw[c];show((O.base I).gone0 hm.new,I.hok.gone hm.new)) rfl (.inr z) q))
def a1Y(O:Outs X E):a0V (CXx X.prog X.w) X (since X.H₀ E):=by
 intro a σ H s t k I (e,C,o,r,i,c,n,g,((T,f,m,d),old,fe),q);subst r;let h:=I.call' i n g c λ_ z=>nomatch z;show O.xe _ _ (b46 (O.frames I) (O.funs h) O.frm f λv u l p z=>?_);show O.fin h l p (λb j=>?_) (.inl rfl) (by
  let z||z:=z
  .simp_all
  .show .inr z) q
 let rfl||rfl:=j
 .show((O.base I).gone0 old,fe)
 .show((O.base I).gone0 m,d)
end
def ExC(X:Cx)(E:XK)(C:Addr)(s:Shared)(H:Hp)(fp:List Addr)(ev:Value)(s':Shared):Prop:=
 ∃e Cl H',ev=.ref e/\s'.os=s.os/\iq s'.gens/\Un (frs X.stack) fp H H' s.heap s'.heap/\HOk X.prog X.w H' s'.heap/\Fly (λb=>b∈fp\/s.heap.get? b=jN) H' .none e (.ref Cl) s'.heap/\(∃m,s'.heap.Ns C m)/\H' C=jN/\C≠e/\E (.ref Cl) jN H'
def a37(X:Cx)(EW:XK)(sc:Scope):Prop:=∀(pins:List (Addr×Obj))(σ:St)(H:Hp)(s:Shared)(C:Addr)(fp:List Addr)(use:Option (Value->Sem Unit))(Fin:Value->Shared->Prop)(acc:Value),Inv X pins σ H s->(∀b∈fp,FpOk X pins H b)->C=s.heap.objs.size ->
 ∀ev s',ExC X EW C s H fp ev s'->i7 (model X.prog X.w) X.A (iR sc (a0B X.env sc.names []) C X.env) (λe s''=>jE (model X.prog X.w) X.A X.xe use Fin acc C (.error e) s'') ev s'
def a6a:a37 X (λ_ _ _=>False) sc:=by
 ext a σ H s C g d c b _ _ _ e f ⟨_,_,_,_,_,_,_,_,_,_,_,_,q⟩;show q.elim
noncomputable def cxC(X:Cx)(EW:XK)(N':List Str)(sc:Scope)(C:Addr)(s:Shared)(H:Hp)(fp:List Addr):Cx:=
 { X with N:=N',s₀:=s,H₀:=H,env:=iR sc (a0B X.env sc.names []) C X.env,outer:=X.stack,stack:=X.stack,ex:=fp,fn:=λ_=>jP,pn:=[],xe:=ExC X EW C s H fp }
def PIfs(X:Cx)(ifs:List Expr)(t:TT):Prop:=
 ∀(pins:List (Addr×Obj))(s:Shared)(σ:St)(H:Hp)(Q:Bool->Hp->Prop),Inv X pins σ H s->t σ H Q ->
  wpAny (model X.prog X.w) X.A (forIn ifs jO λc r=>if r=jO then do let ok <- isTrue c X.env (eval c X.env);pure (ForInStep.yield ok) else pure (ForInStep.yield r)) (TP X pins σ Q) X.xe s
def tTT:TT:=λ_ H Q=>Q jO H
def b0q:PIfs X [] tTT:=λ_ _ _ H _ I h=>wpAny_tests_nil (H,I,h)
def b0r(h:PT X c t):PIfs X [c] t:=λa s σ H Q I q=>wpAny_tests_one (h a s σ H Q I q)
def LcB(J:It)(cap:List (Option Nat))(g:TG)(tt:TT)(te:TE)(σ:St)(Q:VK)(D:Addr)(H1:Hp):Prop:=
 ∃W:Nat->Nat->List V->Hp->Prop,(∃m,W 0 m [] (upd H1 D (.lst [])))/\∀i m ys H2,W i m ys H2 ->
  (J.stop i H2/\Q (.ref D) H2) \/
  (J.go i H2/\∃N:List V->Hp->Prop,(∀ys' H',N ys' H'->∃m',m'<m/\W (i+1) m' ys' H')/\∀x H',J.yld i H2 x H' ->
   g x (a2m cap σ) H' fun σ2 H3=>a09 (a2m cap σ) σ2/\tt σ2 H3 λb H4=>if b=jO then te σ2 H4 λy H5=>∃zs,H5 D=cL (.lst zs)/\zs.length<gI/\N (zs++[y]) (upd H5 D (.lst (zs++[y]))) else N ys H4)
def tLC(wi:TI)(cap:List (Option Nat))(g:TG)(tt:TT)(te:TE):TE:=fun σ H Q=>wi σ H λJ H1=>∀D,H1 D=jN->LcB J cap g tt te σ Q D H1
structure CFree (X:Cx) (pins:List (Addr×Obj)) (H:Hp) (C:Addr):Prop where
 free:H C=jN
 loc:C≠X.env.locals
 old:X.s₀.heap.objs.size<=C
 cell:∀x c,X.env.cells.lookup x=cL c->c≠C
 pin:∀p∈X.pn++pins,p.1≠C
section
variable{σ:St}{N':List Str}{sc:Scope}{cap:List (Option Nat)}{C:Addr}{fp:List Addr}{EW:XK}
def a8d(I:Inv X pins σ H s)(ck:CapOk X.N X.env.scope sc N' cap):∀x∈sc.names,x.2=.free->∃c,X.env.cells.lookup x.1=cL c:=λx a b=>
 I.ok.has x.1 (ck.fre x a b)
def a28(I:Inv X pins σ H s)(ck:CapOk X.N X.env.scope sc N' cap)(h:(a0B X.env sc.names []).lookup x=cL c):X.env.cells.lookup x=cL c:=
 a36 sc.names [] (a8d I ck) (λy c h=>by simp at h) c h
def a8e(env:Env)(x:Str):(iR sc (a0B X.env sc.names []) C env).kindOf x=(sc.names.lookup x).map λk=>if (k==gT.free&&env.scope.kind==.function&&env.kindOf x==cL .cell)=jO then gT.cell else k:=
 a3v sc.names
def a04{l:List (Str×gT)}(h:l.lookup x=cL k):(x,k,)∈l:=PySem.mem_of_lookup h
def b7B(I:Inv X pins σ H s)(ck:CapOk X.N X.env.scope sc N' cap)(hf:∀b∈fp,FpOk X pins H b)(hlt:∀b∈fp,b<s.heap.objs.size)(hC:C=s.heap.objs.size):(cxC X EW N' sc C s H fp).Ok:=by
 let g:∀{x:Str}{c:Addr},(a0B X.env sc.names []).lookup x=cL c->X.env.cells.lookup x=cL c:=λh=>a28 I ck h;show(I.ok.mod,ck.kind,I.ok.glob,I.ok.blt,by rw[hC];show b8 _,λx y c j m=>I.ok.inj x y c (g j) (g m),λx n=>?_,λx c h _=>(by cases h),I.ok.hd,I.ok.frames,.inl rfl,λb a=>(?_,λx c h=>?_),I.bs,cw I.ok.bsz I.sz,λb o e a=>?_,λb a l=>?_,I.stack,I.stkFree)
 .let d:(sc.names.lookup x).map (λk=>if (k==gT.free&&X.env.scope.kind==.function&&X.env.kindOf x==cL .cell)=jO then gT.cell else k)=cL .cell \/
    (sc.names.lookup x).map (λk=>if (k==gT.free&&X.env.scope.kind==.function&&X.env.kindOf x==cL .cell)=jO then gT.cell else k)=cL .free:=by
   rw[<- a8e X.env x];show n
  cases e:sc.names.lookup x with
  |none=>rw[e]at d;let z||z:=d<;>cases z
  |some k=>
   let i:=a04 e;let f:k=.free:=by
    rw[e]at d
    by_cases f:k=.free
    .grind
    .let a:(k==gT.free)=jP:=↑f
     simp only[eJ,a,cL.injEq]at d;let z||z:=d
     .show absurd z (ck.nocell _ i)
     .simp_all
   subst f;show a3K sc.names [] i
 .change b≠C
  rw[hC];show cv (hlt b a)
 .show (hf b a).2.2.2.2.1 x c (g h)
 .let(_,_,_,z,_):=hf b a;let z||z:=z
  .show I.ok.noex b o e z
  .show absurd (cH (Heap.lt_size e) (cw I.ok.bsz z)) (du _)
 .let z||z:=cf.mp (I.stkSub b l)
  .show (hf b a).2.1 z
  .show (hf b a).2.2.1 z
def b47(I:Inv X pins σ H s)(ck:CapOk X.N X.env.scope sc N' cap)(hf:∀b∈fp,FpOk X pins H b)(hlt:∀b∈fp,b<s.heap.objs.size)(hC:C=s.heap.objs.size)
  (hn:hjv.Ns C jQ) (hk:∀b o,s.heap.get? b=cL o->hjv.get? b=cL o):Inv (cxC X EW N' sc C s H fp) [] (a2m cap σ) H { s with heap:=hjv,toks:=t' }:=by
 show(b7B I ck hf hlt hC,rfl,I.bare,Un.kept hk,(jQ,hn,λi x v M a S=>?_),λx c h=>?_,?_,λx c h=>I.freeC x c (a28 I ck h),λp D=>absurd (show p∈([]) from D) (by simp),I.hok.kept hk,?_)
 .let A:=M;unfold a2m at a;rw[cg]at a;cases ec:cap[i]? with
  |none=>rw[ec]at a;cases a
  |some o=>
   rw[ec]at a;cases o with
   |none=>simp at a
   |some j=>
    let d:(σ[j]?).join=cL v:=by simp_all
    let l:σ[j]?=cL (cL v):=by
     cases q:σ[j]? with
     |none=>rw[q]at d;cases d
     |some w=>rw[q]at d;rw[show w=cL v from d]
    let(J,n):=ck.cap i x j A ec;let f:=ck.fre _ (a04 n) rfl;let(R,_,L):=I.loc;let(u,Q,B):=L j x v J l (.inr f);show(u,Q,.inr (?_,?_))
    .change (iR sc _ C X.env).kindOf x=cL .cell\/(iR sc _ C X.env).kindOf x=cL .free
     rw[a8e,n];simp only[eJ,beq_self_eq_true,cO]
     by_cases hc:(X.env.scope.kind==ScopeKind.function&&X.env.kindOf x==cL gT.cell)=jO
     .simp_all
     .rw[if_neg hc];show .inr rfl
    .let(E,g):=a3K sc.names [] (a04 n);let G:=a28 I ck g;let(k,_)||(_,c,ec',z):=B
     .let F:X.env.scope.names.lookup x=cL .local:=k;let e:=f;rw[F]at e;let q||q:=e<;>cases q
     .rw[G]at ec';cases ec';let(y,r,t):=z;show(E,g,y,hk _ _ r,t)
 .let(v,y,r,t):=I.cell x c (a28 I ck h);show(v,y,hk _ _ r,t)
 .change H C=jN
  rw[hC];show I.hok.fresh (b8 _)
 .change (a2m cap σ).length=N'.length
  unfold a2m;rw[b7];show ck.len
def b2L(I:Inv X pins σ H s)(hf:∀b∈fp,FpOk X pins H b)(J:Inv (cxC X EW N' sc C s H fp) pins' σ' H' s'):Inv X pins σ H' s':=
 I.call' J.os J.base J.hok J.bare λb a=>((hf b a).2.2.2.1,(hf b a).2.1,(hf b a).2.2.2.2.1,(hf b a).2.2.2.2.2)
def b0s(I:Inv X pins σ H s)(hC:C=s.heap.objs.size)(J:Inv (cxC X EW N' sc C s H fp) pins' σ' H' s'):CFree X pins H' C:=by
 show(J.free,by rw[hC];show eZ I.lt,by rw[hC];show I.sz,λx c e z=>?_,λp a z=>(absurd (Heap.lt_size (I.pin p a).1) (by simp_all)))
 .let(v,q):=I.cell x c e;show absurd q.lt (by simp_all)
def CFree.after(F:CFree X pins H C)(I:Inv X pins σ H s)(k:∀b o,b≠C->s.heap.get? b=cL o->h'.get? b=cL o):Inv X pins σ H { s with heap:=h',toks:=t' }:=
 I.turned k F.free F.loc (.inr F.old) F.cell F.pin
end
section
variable{elt tg iter:Expr}{ifs:List Expr}{sc:Scope}{wi:TI}{g:TG}{tt:TT}{te:TE}{N':List Str}{cap:List (Option Nat)}{EW:XK}
def a8f(hc:X.calm=jO)(hE:a37 X EW sc)(ck:CapOk X.N X.env.scope sc N' cap)(hi:PI X tg iter wi)
    (hg:∀C s H fp,PG (cxC X EW N' sc C s H fp) tg g) (ht:∀C s H fp,PIfs (cxC X EW N' sc C s H fp) ifs tt) (he:∀C s H fp,PE (cxC X EW N' sc C s H fp) elt te)
    (hs:∀x,iC iter X.env x=pure x) {Fin:Value->Shared->Prop}
 (I:Inv X pins σ H s) (h:tLC wi cap g tt te σ H Q)
    (fin:∀D s' C m H',Inv X pins σ H' s'->Q (.ref D) H'->s'.heap.Ns C m->CFree X pins H' C->jE (model X.prog X.w) X.A X.xe use Fin (.ref D) C (.ok .next) s') :
    wpAny (model X.prog X.w) X.A (comprehension (.ListComp elt [(tg,iter,ifs,0)] sc pos) sc X.env pos' (newList []) jP (eval iter X.env) use) Fin X.xe s:=by
  show wpAny_comprehension_free rfl hs (a35 (a8d I ck)) ck.kind ck.nms ?_;show thn (hi pins s σ H _ I h) λv s1 h1=>thn h1 λitv j h2=>?_;let(it,f,tn,J,H2,e,I2,T,st2,f2,h2):=h2;subst e;let hD:=I2.hok.fresh (b8 _);let(W,(m0,w0),turn):=h2 j.heap.objs.size hD;show jA ?_;let t:=I2.lnew (t':=j.toks) .nil (cM _);generalize hs3:({ j with heap:=j.heap.push { cls:=.type "list",data:=.seq ([]:List Value).toArray } }:Shared)=s3 at t;generalize hH3:upd H2 j.heap.objs.size (.lst [])=H3 at t w0;let ac:∀b∈f,b<j.heap.objs.size:=λb a=>by
    let(o,e,_):=T.obj _ _ st2 b a;show Heap.lt_size e
  let sz3:s3.heap.objs.size=j.heap.objs.size+1:=by rw[<- hs3];show Heap.size_push _ _
  let Y:∀b∈f,b<s3.heap.objs.size:=λb a=>by rw[sz3];show eL (ac b a)
  let B:∀b∈f,FpOk X pins H3 b:=λb a=>by
    show(?_,(f2 b a).2);rw[<- hH3,a0b (cv (ac b a))];show (f2 b a).1
  let st3:tn 0 s3.heap:=T.keep _ _ _ st2 λb _ o e=>by rw[<- hs3];show Heap.get?_push_of_some _ e
  show wpAny_newFunctionEnv ck.nocell (by ext y hy;simp at hy) (λhjv hjj hjq=>?_) ck.kind;let hk:=λb o e=>hjq.extBut b o (cv (Heap.lt_size e)) (Heap.get?_push_of_some _ e);let I4:=b47 (EW:=EW) (t':=s3.toks+([]:List (Str×Value)).length) t ck B Y rfl hjj hk;generalize hs4:({ s3 with heap:=hjv,toks:=s3.toks+([]:List (Str×Value)).length }:Shared)=s4 at I4 ⊢;let st4:tn 0 s4.heap:=T.keep _ _ _ st3 λb _ o e=>by rw[<- hs4];show hk b o e
  let G:∀{k:Hp}{l:List (Addr×Obj)},(∀p∈l,p.1∉f)->(∀b∈f,k b=jN)->∀b∈f,FpOk (cxC X EW N' sc s3.heap.objs.size s3 H3 f) l k b:=λ{k l} E hn b a=>
    (hn b a,cv (Y b a),λz=>by
      let z||z:=cf.mp (t.stkSub b z)
      . show (B b a).2.1 z
      . show (B b a).2.2.1 z,.inl a,λx c e=>(B b a).2.2.2.2.1 x c (a28 t ck e),λp hp' z=>E p hp' (by rw[z];show a))
  let hx:=hE pins σ H3 s3 s3.heap.objs.size f use Fin (.ref j.heap.objs.size) t B rfl;let ab:iE (model X.prog X.w) X.A (.compLoop (.ListComp elt [(tg,iter,ifs,0)] sc pos) 0 (.ref it) (.ref j.heap.objs.size) (iR sc (a0B X.env sc.names []) s3.heap.objs.size X.env))
      (jE (model X.prog X.w) X.A X.xe use Fin (.ref j.heap.objs.size) s3.heap.objs.size) s4:=by
    show a1M (λn s'=>∃i ys σ' k,Inv (cxC X EW N' sc s3.heap.objs.size s3 H3 f) [] σ' k s'/\a09 (a2m cap σ) σ'/\tn i s'.heap/\(∀b∈f,k b=jN)/\W i n ys k) ?_ m0
      (0,[],a2m cap σ,H3,I4,a1o _,st4,λb a=>(B b a).1,w0)
    ext n s5 ⟨i,ys,σ5,H5,I5,k5,st5,fr5,w5⟩;let kk:=a2n k5;let I5:=I5.weak kk.1 kk.2;let(stop,q)||(go,N,hN,step):=turn i n ys H5 w5
    . show thn (T.done (cxC X EW N' sc s3.heap.objs.size s3 H3 f) rfl rfl rfl hc i [] s5 _ H5 _ I5 (G (λp E=>by cases E) fr5) st5 stop) λr s6 Y=>Y.elim λhr I6=>?_
      subst hr;let(m6,n6,_):=I6.loc;show fin _ s6 _ m6 H5 (b2L t B I6) q n6 (b0s t rfl I6)
    . show thn (T.item (cxC X EW N' sc s3.heap.objs.size s3 H3 f) rfl rfl rfl hc i [] s5 _ H5 _ I5 (G (λp E=>by cases E) fr5) st5 go) λr s6 Y=>Y.elim λu Y=>Y.elim λhr h6=>?_
      subst hr;show thn h6 λ_ s7 (x,H7,I7,r7,y7,aa,fr7)=>?_;let I7':=I7.pinned (G (λp E=>by cases E) fr7) (T.obj _ _ aa);let M:∀{σ9:St}{F:Hp}{S:Shared}{L:List V},Inv (cxC X EW N' sc s3.heap.objs.size s3 H3 f) ([]++a54 f s7.heap) σ9 F S->a09 (a2m cap σ) σ9->N L F ->
          ∃m,m<n/\∃i ys σ' k,Inv (cxC X EW N' sc s3.heap.objs.size s3 H3 f) [] σ' k S/\a09 (a2m cap σ) σ'/\tn i S.heap/\(∀b∈f,k b=jN)/\W i m ys k:=λ{σ9 F S L} U k9 n9=>by
        let(m',hm,w9):=hN L F n9;show(m',hm,i+1,L,σ9,F,U.unpinned,k9,T.keep _ _ _ aa λb a o e=>(U.pin (b,o,) (cX _ (cX _ (a1y a e)))).1,λb a=>?_,w9);let(o,e,d):=T.obj _ _ aa b a;show (U.pin (b,o,) (cX _ (cX _ (a1y a e)))).2.1
      show gX (hg _ _ _ _ _ s7 _ H7 x u _ I7' r7 (step x H7 y7)) (λ_ s8 (σ8,H8,I8,k8,q8)=>?_) hx;show gX (ht _ _ _ _ _ s8 σ8 H8 _ I8 q8) (λb S Y=>Y.elim λF Y=>Y.elim λU q9=>?_) hx;cases b with
      |false=>
        show M U k8 q9
      |true=>
        rw[if_pos rfl]at q9 ⊢;show gX (he _ _ _ _ _ S σ8 F _ U q9) (λy s10 (vy,H10,I10,r10,zs,hacc,hsz,q10)=>?_) hx;show gX (a4J (X:=cxC X EW N' sc s3.heap.objs.size s3 H3 f) _ s10 σ8 H10 (.ref j.heap.objs.size) [vy] (.ref j.heap.objs.size) [y] (λ_ k=>N (zs++[vy]) k) I10 rfl (.cons r10 .nil) (_,zs,vy,rfl,rfl,hacc,hsz,q10)) (λ_ s11 (_,H11,I11,_,q11)=>?_) hx;show M I11 k8 q11
  show codeAny_compStart_list ab (T.self _ 0 _ _ _ st4 ab)
def b7C(hc:X.calm=jO)(hE:a37 X EW sc)(hNN:X.N=Nj)(hso:X.env.scope=so)(ck:capB Nj so sc N' cap=jO)(hi:PI X tg iter wi)
  (hg:∀C s H fp,PG (cxC X EW N' sc C s H fp) tg g) (ht:∀C s H fp,PIfs (cxC X EW N' sc C s H fp) ifs tt) (he:∀C s H fp,PE (cxC X EW N' sc C s H fp) elt te)
  (hs:∀x,iC iter X.env x=pure x:=by ext _;rfl):PE X (.ListComp elt [(tg,iter,ifs,0)] sc pos) (tLC wi cap g tt te):=by
 ext f s σ H Q I h;subst hNN hso;show a8f hc hE (a8b ck) hi hg ht he hs I h λD d C m i c q k F=>(m,k,λl a=>(.ref D,i,F.after c (λb o j e=>a.extBut b o j e),rfl,q))
def b0t(hN:X.N.Nodup)(hx:X.N[i]?=cL x)(hl:X.env.scope.names.lookup x=cL .local)(hc:X.calm=jO)(hE:a37 X EW sc)(hNN:X.N=Nj)(hso:X.env.scope=so)(ck:capB Nj so sc N' cap=jO)(hi:PI X tg iter wi)
  (hg:∀C s H fp,PG (cxC X EW N' sc C s H fp) tg g) (ht:∀C s H fp,PIfs (cxC X EW N' sc C s H fp) ifs tt) (he:∀C s H fp,PE (cxC X EW N' sc C s H fp) elt te)
  (hsw:ii (.ListComp elt [(tg,iter,ifs,0)] sc pos) (cL (.Name x pos')) spos.line X.env=pure jO)
  (hs:∀x,iC iter X.env x=pure x):PS X (.Assign [.Name x pos'] (.ListComp elt [(tg,iter,ifs,0)] sc pos) spos) (tAsg (tLC wi cap g tt te) (a7x i)):=by
 subst hNN hso;ext f s σ H D I h;rw[exec_Assign_Name_used _ _ _ _ hsw];show gK (jt (gK (gK (gX (a8f hc hE (a8b ck) hi hg ht he hs I h λd c C m w t q E F=>?_) (λ_ c u=>gS (gS u)) λ_ _ e=>e))));show wpAny_assign_Name (a4B t hN hx (.inl hl) (v:=.ref d) rfl (λj n y=>?_) (.inr hl));let(a,p,r):=y;let l:C≠a:=by
  let z||z:=r
  .rw[z];show F.loc
  .show Ne.symm (F.cell _ _ z)
 show(m,E.sameBut p l,λG k=>(_,w,F.after n (λb o B e=>k.extBut b o B e),q))
end
mutual
def DV(H:Hp):PyData->V->Prop
 |.none,x=>x=.non
 |.bool b,x=>x=.bl b
 |.int i,x=>x=.int i
 |.str s,x=>x=.str s
 |.list ds,x=>∃a vs,x=.ref a/\H a=cL (.lst vs)/\DVs H ds vs
 |.tuple ds,x=>∃a vs,x=.ref a/\H a=cL (.tup vs)/\DVs H ds vs
 |.dict _,_=>False
def DVs(H:Hp):List PyData->List V->Prop
 |[],vs=>vs=[]
 |d::ds,vs=>∃v r,vs=v::r/\DV H d v/\DVs H ds r
end
mutual
theorem DV.reads{P:gO}{w:World}{H:Hp}{h:Heap}(ok:HOk P w H h):∀{d:PyData}{x:V}{u:Value},DV H d x->RelV x u->∃as,Reads h u d as
 |.none,x,u,q,r=>by
  unfold DV at q;subst q;cases (show u=Value.none from r);show(_,.none)
 |.bool b,x,u,q,r=>by
  unfold DV at q;subst q;cases (show u=Value.bool b from r);show(_,.bool b)
 |.int i,x,u,q,r=>by
  unfold DV at q;subst q;let(t,e):=(show ∃t,u=Value.int i t from r);subst e;show(_,.int i t)
 |.str s,x,u,q,r=>by
  unfold DV at q;subst q;let(t,e):=(show ∃t,u=Value.str s t from r);subst e;show(_,.str s t)
 |.list ds,x,u,q,r=>by
  unfold DV at q;let(a,vs,e,ha,q):=q;subst e;cases (show u=Value.ref a from r);let(_,its,n,rv,e):=ok a _ ha;let(as,rd):=DVs.reads ok q rv;show(_,.list e rfl rfl ↑rd)
 |.tuple ds,x,u,q,r=>by
  unfold DV at q;let(a,vs,e,ha,q):=q;subst e;cases (show u=Value.ref a from r);let(_,its,rv,o,e,c,n,d):=ok a _ ha;let(as,rd):=DVs.reads ok q rv;show(_,.tuple e c d ↑rd)
 |.dict _,x,u,q,r=>by unfold DV at q;show q.elim
theorem DVs.reads{P:gO}{w:World}{H:Hp}{h:Heap}(ok:HOk P w H h):∀{ds:List PyData}{vs:List V}{us:List Value},DVs H ds vs->Vals vs us->∃as,ReadsAll h us ds as
 |[],vs,us,q,r=>by
  unfold DVs at q;subst q;cases r;show(_,.nil)
 |d::ds,vs,us,q,r=>by
  unfold DVs at q;let(v,rr,e,q1,q2):=q;subst e;cases r with
  |cons r1 r2=>
   let(as,h1):=DV.reads ok q1 r1;let(bs,h2):=DVs.reads ok q2 r2;show(_,.cons h1 h2)
end
def rEqD:R2:=λx y H Q=>∃d e,DV H d x/\DV H e y/\SeqAt.shaped d=jO/\SeqAt.shaped e=jO/\Q (.bl (PyData.eqv d e)) H
def rNeD:R2:=λx y H Q=>∃d e,DV H d x/\DV H e y/\SeqAt.shaped d=jO/\SeqAt.shaped e=jO/\Q (.bl (!PyData.eqv d e)) H
def b1G(hu:X.A.units+66<cLine):OpR X (gQ .Eq) rEqD:=by
 ext i s σ H x y v u Q I g k h;let(d,e,b,f,l,a,q):=h;let(m,j):=b.reads I.hok g;let(n,c):=f.reads I.hok k;show eq_dataH j c l a (by lia) (.bl _,H,I,rfl,q)
def b1H(hu:X.A.units+66<cLine):OpR X (gQ .NotEq) rNeD:=by
 ext b s σ H x y v u Q I j c h;let(d,e,a,g,l,i,q):=h;let(n,f):=a.reads I.hok j;let(m,k):=g.reads I.hok c;show ne_dataH f k l i (by lia) (.bl _,H,I,rfl,q)
def rInD(neg:Bool):R2:=λx y H Q=>∃d p ds vs,DV H d x/\y=.ref p/\(H p=cL (.lst vs)\/H p=cL (.tup vs))/\DVs H ds vs/\SeqAt.shaped d=jO/\SeqAt.shaped (.list ds)=jO /\
 Q (.bl (if neg then !(ds.any λy=>PyData.eqv y d) else ds.any λy=>PyData.eqv y d)) H
def a8g(hu:X.A.units+66<cLine):OpR X (gQ .NotIn) (rInD jO):=by
 ext r s σ H x y v u Q I o g h;let(d,p,a,n,z,e,b,j,m,w,q):=h;subst e;let(C,f):=z.reads I.hok o;let i:PyData.canLayAll0 a=jO:=by let:=SeqAt.canLay_of_shaped w;simpa[PyData.canLay0]using this
 let l:=SeqAt.canLay_of_shaped m;let t:=SeqAt.depth_of_shaped m;let k:X.A.units+1+min (PyData.depthAll a) d.depth<cLine:=by let:=fI (PyData.depthAll a) d.depth;lia
 let b||b:=b
 .let(B,c):=(show DV H (.list a) _ by unfold DV;show(p,n,rfl,b,j)).reads I.hok g;show SeqAt.notIn_list_reads c f i l k (.bl _,H,I,rfl,q)
 .let(B,c):=(show DV H (.tuple a) _ by unfold DV;show(p,n,rfl,b,j)).reads I.hok g;show SeqAt.notIn_tuple_reads c f i l k (.bl _,H,I,rfl,q)
def b48(_ j:Int):Prop:=0<j/\j<2 ^ 64
def b0u:OpR X (gZ .FloorDiv) (rI b48 λi j=>.int (i / j)):=opI λi j _ _ _ _ _ a q=>by
 let c:(0:Int)<j:=a.1;let d:j<2 ^ 64:=a.2;show floordiv_int (by lia) ?_ (.inl (PyProof.noPylong_of_log2 ?_))
 .rw[Int.fdiv_eq_ediv_of_nonneg i (by lia)];show q
 .let b:j.natAbs<2 ^ 64:=by lia
  let e:=(Nat.log2_lt (by lia)).mpr b
  lia
def rIsT(K:Fg):List V->Hp->VK->Prop:=λxs H Q=>∃x T t b,xs=[x,.ty T]/\TyOf K H x t/\PySem.W.kitOne K t (.type T)=cL b/\Q (.bl b) H
def b0v:CallR X (.builtin "isinstance") (rIsT X.K):=by
 ext c s σ H j k Q I r h;let(x,T,t,b,rfl,i,e,q):=h;let(u,g,rfl,f,a):=a7J r;cases (a);show a7P I f i e λd=>(.bl b,H,I.tok d,rfl,q)
abbrev veM:List Value:=[.type "ValueError",.type "Exception",.type "BaseException",.type "object"]
set_option tactic.hygienic true in
def b49{K:Fg}(q:PySem.W.excIn K C veM "ValueError.__new__"=jO):∃bm N nm qn bs hd sn sub ab col dd k0 k1 k2 k3 k5,K.lookup C=cL (excClassObj nm qn C N bs bm hd sn sub ab col dd k0 k1 k2 k3 k5 "ValueError.__new__") /\
  PySem.W.nsOkIn K N=jO/\PySem.W.nsIn K N "__init__"=cL jN/\PySem.W.tailIn K veM bm=jO:=by
 unfold PySem.W.excIn at q
 split at q
 .rename_i dd cd sl ho
  split at q
  .rename_i C2 bm k0 k1 k2 k3 nw k5 hm hs
   simp at q;let(((((p,k),e),g),b),d):=q;subst p k;let(r,h,t,m,o,i,n,a,j,c,s):=cd;subst hm e;let f:sl=#[k0,k1,k2,k3,cL (.builtin "ValueError.__new__"),k5]:=by
    cases sl with
    |mk l=>dsimp only at hs;rw[hs]
   subst f;show(bm,m,r,o,h,i,n,a,j,c,dd,k0,k1,k2,k3,k5,ho,b,d,g)
  .cases q
 .cases q
section
variable{E:XK}
def b0w(O:Outs X E)(hc:X.calm=jO)(hg:Gl X x)(hm:X.mg x=cL (.ref C))(hq:PySem.W.excIn X.K C veM "ValueError.__new__"=jO)(he:PE X e0 te)
  (hs:gM [e0] X.env=(jP,eval e0 X.env,)::gM [] X.env:=by rfl) (hp:(backTo cpos (gM [] X.env)).any (·.1)=jP:=by rfl) (hd:(x==("__debug__":Str))=jP:=by decide) :
  PS X (.Raise (cL (.Call (.Name x np) [e0] [] cpos)) jN pos) (λ_ σ H=>te σ H λ_ H1=>since X.H₀ E (.ref C) jN H1):=by
 ext d s σ H D I h;let(bm,N,nm,qn,bs,k,sn,sub,ab,col,dd,k0,k1,k2,k3,k5,hC,u,z6,z4):=b49 hq;let B:=I.mod.kin;let hN:X.base.Ns N (X.base.nsMap N):=.of_isNs (PySem.W.isNs_of_in B u);let T:=PySem.W.tail_of_in B z4;show wpAny_Raise_call_subT (nm:=nm) (q:=qn) (N:=N) (bs:=bs) (hdct:=k) (sn:=sn) (sub:=sub) (ab:=ab) (col:=col) (dd:=dd) (k0:=k0) (k1:=k1) (k2:=k2) (k3:=k3) (k5:=k5) PySem.F.excBase_ValueError (T.hasType (by decide)) (I.ok.hd hc)
  (by rw[hs];change (jP||(backTo cpos _).any (·.1))=jP;rw[hp];rfl) (PySem.W.nsMap_none_of_in B u z6) (a2k I hg hm (rfl,?_) hd)
 rw[hs];show Calls.evalArgs_plain (Calls.spliced_cons (thn (he d s σ H _ I h) λv s2 (y,H2,a,_,q2)=>Calls.spliced_nil (rfl,df (a0l (fL rfl)),a.bk _ _ (B _ _ hC),hN.keeps a.bk,T.keeps a.bk,λh' e hm=>b0p O a hm q2)))
end
section
open PySem.Calls PySem.W
structure ExK (K:Frag) (D:Addr):Prop where
 cls:(clsIn K D).isSome=jO
 ga:findIn K (.ref D) "__getattribute__"=cL (cL (.builtin "BaseException.__getattribute__"))
 hk:findIn K (.ref D) "__getattr__"=cL jN
 ha:findIn K (.ref D) "__class__"=cL (cL (.builtin "object.__class__"))
 hn:specialIn K (.builtin "object.__class__") "__get__"=cL (cL (.builtin "getset_descriptor.__get__"))
 tk:takesIn K (.builtin "object.__class__")=cL jO
 hm:mroIn K D (.type "object")=cL jO
 hb:mroIn K D (.type "BaseException")=cL jO
section
variable{K:Frag}{x D:Addr}{ox:Obj}
def ExK.find(k:ExK K D):findObj K D jN "__class__"=cL (.bind (.builtin "getset_descriptor.__get__") (.builtin "object.__class__")):=by
 let(b,a):=eE.mp k.cls;unfold findObj;rw[a,fM,k.ha,fM];simp[k.hn,k.tk]
def a4K(k:ExK K D)(X:K.In s.heap)(I:InstAt s.heap x ox D jN)(h:Q () s):wpAny (model prog w) A (checkBuiltinCall "BaseException.__getattribute__" ([.ref x,v],[])) Q E s:=by
 let b:builtinKind "BaseException.__getattribute__"=cL .slot:=by decide +kernel
 let a:splitId "BaseException.__getattribute__"=cL ("BaseException","__getattribute__",):=by decide +kernel
 let i:=I.type (M:=model prog w);let j:=looks_mroIn (M:=model prog w) X k.hb;simp only[checkBuiltinCall,b,a]
 repeat lk
 show h
def b5a(k:ExK K D)(X:K.In s.heap)(I:InstAt s.heap x ox D jN)(h:Q (.done (.ret (.ref D))) s) :
  wpAny (model prog w) A (gY.«object.__getattribute__» ([.ref x,.str "__class__" tk],[])) Q E s:=by
 let(b,g,d,t,a):=s;let c:=I.type (M:=model prog w);let e:=looks_find (M:=model prog w) X I k.find
 repeat (first |with_reducible show iW ?_ |lk)
 show class_get X I k.hm (gS h)
def a8h(k:ExK K D)(X:K.In s.heap)(I:InstAt s.heap x ox D jN)(h:Q (cL (.ref D)) { s with toks:=s.toks+1 }):wpAny (model prog w) A (getAttr? (.ref x) "__class__") Q E s:=by
 let c:=I.type (M:=model prog w);let a:=looks_findIn (M:=model prog w) X k.ga;let e:=looks_findIn (M:=model prog w) X k.hk;show gK (wpAny_mkText (gK (jF (ic (gK (c.at (gK (a.at ?_))))))));dsimp only;show gK (e.at ?_);show gK (jF (ic ?_));unfold callGetattribute boundAndCalled;rw[if_neg (by simp)];let b:=PySem.F.excAttr_ValueError.ga.bind (.ref x);rw[b];show gK (gS (iW (codeAny_call_builtin PySem.F.excAttr_ValueError.ga.plain PySem.F.entry_bexc_ga (a4K k X I (b5a k X I ?_)))));show handed_on rfl (gS h)
theorem a38(k:ExK K D):KitX K (.ref x) (.ref D) (λh=>InstAt h x ox D jN) where
 ty:=λ_ _ _ I=>I.type
 it:=λ_ _ X _=>by
  let(cd,hc):=eE.mp k.cls;unfold clsIn at hc
  split at hc
  .rename_i ho
   ext A' Q' E' s' k q;unfold isType loadHead;show gK (wpAny_loadPart (k _ _ (X _ _ ho)) (gS q))
  .cases hc
 ne:=λh tp dd its n sl X htp=>by
  let(cd,hc):=eE.mp k.cls;show Bool.eq_false_iff.mpr λq=>?_;let e:D=tp:=Value.ref.inj (beq_iff_eq.mp q);subst e;unfold clsIn at hc
  split at hc
  .rename_i ho
   let z:=(X _ _ ho).symm.trans htp;cases z
  .cases hc
 ca:=λX I q=>a8h k X I q
end
end
section
variable{σ σ':St}
def Inv.lk(I:Inv X pins σ H s)(k:Lk (frs X.stack) ex s.heap h')(hx:∀b,ex b->X.s₀.heap.get? b=jN/\H b=jN/\(∀x c,X.env.cells.lookup x=cL c->c≠b)/\∀p∈X.pn++pins,p.1≠b)
  (hl:∃m,h'.Ns X.env.locals m/\∀(i:Nat)(x:Str)(v:V),X.N[i]?=cL x->σ'[i]?=cL (cL v)->Vis X.env.scope x->∃u,RelV v u/\Look X.env h' m x u) (hn:σ'.length=σ.length):Inv X pins σ' H { s with heap:=h',toks:=t' }:=by
 show(I.ok,I.os,I.bare,I.base.lk k (λb a=>?_) (λb a=>.inr (hx b a).1),hl,λx c e=>?_,I.free,I.freeC,λp g=>?_,I.hok.lk k I.stkFree λb a=>(hx b a).2.1,hn.trans I.len)
 .let z||z:=cf.mp (I.stkSub b a)
  .rw[z];show .inr (Heap.get?_none_of_le I.ok.above)
  .simp_all
 .let(v,o,l,n):=I.cell x c e;let(r,d):=k.slot c o l λz=>(hx c z).2.2.1 x c e rfl;show(v,_,d,n)
 .let(d,q,f,h,j):=I.pin p g;show(k.keep _ _ d (λz=>?_) (λz=>(hx _ z).2.2.2 p g rfl),q,f,h,j);let z||z:=cf.mp (I.stkSub _ z)
  .show f z
  .show h z
def Inv.lk0(I:Inv X pins σ H s)(k:Lk (frs X.stack) ex s.heap h')(hx:∀b,ex b->X.s₀.heap.get? b=jN/\H b=jN/\b≠X.env.locals/\(∀x c,X.env.cells.lookup x=cL c->c≠b)/\∀p∈X.pn++pins,p.1≠b):Inv X pins σ H { s with heap:=h' }:=by
 show I.lk k (λb a=>((hx b a).1,(hx b a).2.1,(hx b a).2.2.2)) ?_ rfl;let(m,(o,e,q,B,w,y,h),l):=I.loc;let(j,r):=k.slot _ o B λz=>(hx _ z).2.2.1 rfl;show(m,(_,e,q,r,w,y,h),λi x v d f A=>?_);let(u,t,n):=l i x v d f A;show(u,t,?_);let z||(z1,c,z2,oc,z3,z4):=n
 .show .inl z
 .let(j,g):=k.slot c oc z3 λz=>(hx c z).2.2.2.1 x c z2 rfl;show .inr (z1,c,z2,_,g,z4)
abbrev Cx.hnd(X:Cx)(e:Addr)(oe:Obj):Cx:={ X with A:=X.A.mark (cL (.ref e)),calm:=jP,pn:=(e,oe,)::X.pn,xe:=λ_ _=>False }
noncomputable def Inv.hnd(I:Inv X pins σ H s)(h1:s.heap.get? e=cL oe)(h2:H e=jN)(h3:e≠X.env.locals)(h4:e∉X.fs)(h5:∀v,oe.data≠.cell v):Inv (X.hnd e oe) pins σ H s:=
 ((I.ok.mod,I.ok.kind,I.ok.glob,I.ok.blt,I.ok.above,I.ok.inj,I.ok.has,I.ok.cab,(λz=>nomatch z),I.ok.frames,I.ok.stk,I.ok.exf,I.ok.bs,I.ok.bsz,I.ok.noex,I.ok.exfs,I.ok.funs,I.ok.frf),I.os,I.bare,I.base,I.loc,I.cell,I.free,I.freeC,(λp a=>by
  let rfl||a:=cf.mp (a)
  .show(h1,h2,h3,h4,h5)
  .show I.pin p a),I.hok,I.len)
def Inv.unhnd(ok:X.Ok)(I:Inv (X.hnd e oe) pins σ H s):Inv X pins σ H s:=(ok,I.os,I.bare,I.base,I.loc,I.cell,I.free,I.freeC,λp a=>I.pin p (cT _ a),I.hok,I.len)
def a1Z(I:Inv X pins σ H s)(hN:X.N.Nodup)(hi:X.N[i]?=cL n)(hl:X.env.scope.names.lookup n=cL .local)(q:∀s',Inv X pins (σ.set i jN) H s'->Q () s') :
  wpAny M A (do bindName X.env n .none;unbindBehindTheSuite X.env n pos) Q E s:=by
 let(m,w,B):=I.loc;let f:(X.env.scope.kind==.class||(X.env.scope.kind==.module&&X.env.locals != X.env.globals))=jP:=by rw[I.ok.kind];rfl
 show wpAny_nameGoes_keeps hl w f λJ v g a=>q _ ?_;show I.lk (λb o q _ n=>(a.2 b n).trans q,λb o q n=>(o.slots,(a.2 b n).trans q),eC a.1.symm) (λb y=>?_) (_,g,λj x r h d l=>?_) (fN ..)
 .rw[y];show(Heap.get?_none_of_le I.ok.above,I.free,I.cne,λp D=>(I.pin p D).2.2.1)
 .by_cases hj:j=i
  .subst hj;rw[en (by rw[I.len];show (cn.mp hi).1)]at d;cases d
  .rw[d7 (Ne.symm hj)]at d;let(u,C,z):=B j x r h d l;show(u,C,?_);let(z1,z2)||(z1,c,z2,oc,z3,z4):=z
   .show .inl (z1,?_)
    change (if x=n then v else m x)=cL u
    rw[if_neg λe=>hj (by
     subst e;let(G,t):=cn.mp h;let(F,k):=cn.mp hi;show (fF hN).mp (t.trans k.symm))]
    show z2
   .show .inr (z1,c,z2,oc,(a.2 c (I.cne x c z2)).trans z3,z4)
def PX(X:Cx)(e:Expr)(t:XK->TE):Prop:=∀(pins:List (Addr×Obj))(s:Shared)(σ:St)(H:Hp)(Q:VK)(E:XK),Inv X pins σ H s->t E σ H Q ->
 wpAny (model X.prog X.w) X.A (eval e X.env) (EP X pins σ Q) (λev s'=>∃H1 s1,Inv X pins σ H1 s1/\CXx X.prog X.w X.stack H1 s1 E ev s') s
end
section
variable{k:Nat}{f C D:Addr}{fd:g9}{ps:List Str}{sp:Sp}{x n:Str}{p:Pos}{e:Expr}{t:TA}
def b2M(he:PE X.nox o ta)(c:Cls X.K C)(hm:Meth X.K C m f)(F:FnOk X.prog X.w X.K X.mg X.base (CXx X.prog X.w) k f fd ps sp)(hr:Room k X.A)(hb:Binds X.K fd ps [])(ha:PA X.nox (e::es) t)
  (hst:gM (e::es) X.env=(jP,eval e X.env,)::gM es X.env:=by rfl) (hpl:(backTo pos (gM es X.env)).any (·.1)=jP:=by rfl)
  (ht:eval (.Call (.Attribute o m apos) (e::es) [] pos) X.env=(do
   let ov <- eval o X.env
   hI apos.atName
   let (f,first,) <- g0 [ov] (ij ov m pl)
   ik pos f first (backTo pos (gM (e::es) X.env)) (im pos (io [] X.env))):=by rfl) :
  PX X (.Call (.Attribute o m apos) (e::es) [] pos) (λE=>b0c C m sp [] E ta t):=by
 ext d s σ H Q E I h;show PySem.W.methodCall_KW (gX (he d s σ H _ (I.wish _) h) (λu N (x,J,n,D,a,R,T,G,L,l,q)=>?_) λ_ _ z=>cb z) ht;subst G;obtain rfl:u=Value.ref a:=D;let n:=n.unwish;show a2l n L c hm l ?_;show PySem.W.callWith_K I.ok.mod.kin hm.kp (gX (ha pos d N σ J _ (n.wish _) q) (λg p (y,v,b,r,j)=>(b.kIn,?_)) λ_ _ z=>cb z) hst hpl;let b:=b.unwish;let j:sp _ v Q E:=j;rw[cE]at j;let B:Vals (.ref a::y) _:=.cons rfl r;let M:(Value.ref a::g).length=ps.length:=by rw[<- B.length];show F.len _ _ _ _ j
 show iW (iX (F.run X.A X.stack p v (.ref a::g,[]) _ (.ref a::y) Q E hr b.env0 ↑(hb p _ b.kIn (by simp_all)) B j) λr S i=>?_);cases r with
 |error e=>show(v,p,b,i)
 |ok fl=>
  cases fl with
  |ret u=>show b.after i
  |next=>show cb i
  |brk=>show cb i
  |cont=>show cb i
end
abbrev a8i(c:Addr)(q:Str):HO:=.ext λh=>h.CodeRec (.ref c) q
def TabO(H:Hp)(p:Pos)(q:Str)(ps:Array Value):Prop:=ps=#[]\/∃c oc,ps=#[rawInt p.line,rawInt p.col,.ref c]/\H c=cL (.frz oc (a8i c q))
def Tab(H:Hp)(P:Addr)(p:Pos)(q:Str):Prop:=∃ps,H P=cL (.tbl ps)/\TabO H p q ps
def Tab.stay(f:∀b o c,H b=cL (.frz o (a8i c q))->H' b=cL (.frz o (a8i c q)))(e:H' jQ=H jQ)(h:Tab H jQ p q):Tab H' jQ p q:=by
 let(a,g,h):=h;show(a,e.trans g,?_);let h||(c,oc,h,k):=h
 .show .inl h
 .show .inr (c,oc,h,f _ _ _ k)
inductive Z where
 |non |bl (b:Bool) |int (i:Int) |str (x:Str) |ref (a:Addr) |ty (n:String) |scr (a:Addr) (ns:List Int)
 |tup (ws:List Z)
mutual
def eqZ:Z->Z->Bool
 |.non,.non=>jO
 |.bl a,.bl b=>a==b
 |.int a,.int b=>decide (a=b)
 |.str a,.str b=>decide (a=b)
 |.ref a,.ref b=>decide (a=b)
 |.ty a,.ty b=>decide (a=b)
 |.scr a ns,.scr b ms=>decide (a=b)&&decide (ns=ms)
 |.tup a,.tup b=>eqZs a b
 |_,_=>jP
def eqZs:List Z->List Z->Bool
 |[],[]=>jO
 |a::as,b::bs=>eqZ a b&&eqZs as bs
 |_,_=>jP
end
mutual
theorem a8j:∀x y:Z,eqZ x y=jO↔x=y
 |.tup a,y=>by
  cases y with
  |tup b=>simp only[eqZ,Z.tup.injEq];show a6b a b
  |_=>simp[eqZ]
 |.non,y=>by cases y<;>simp[eqZ]
 |.bl _,y=>by cases y<;>simp[eqZ]
 |.int _,y=>by cases y<;>simp[eqZ]
 |.str _,y=>by cases y<;>simp[eqZ]
 |.ref _,y=>by cases y<;>simp[eqZ]
 |.ty _,y=>by cases y<;>simp[eqZ]
 |.scr _ _,y=>by cases y<;>simp[eqZ]
theorem a6b:∀x y:List Z,eqZs x y=jO↔x=y
 |[],y=>by cases y<;>simp[eqZs]
 |a::as,y=>by
  cases y with
  |nil=>simp[eqZs]
  |cons b bs=>simp only[eqZs,cV,dC.injEq,a8j a b,a6b as bs]
end
instance:DecidableEq Z:=λx y=>decidable_of_iff _ (a8j x y)
section
variable{K:Fg}{H1 H2:Hp}{a p:Addr}{xs:List V}
def Fz(K:Fg)(H:Hp)(a:Addr)(xs:List V):Prop:=
 (∃o,H a=cL (.frz o (.lst xs)))\/∃(o:Obj)(its:Array Value)(n:Nat),K.lookup a=cL o/\o.cls=.type "list"/\o.dict=jN/\o.data=.seq its n/\its.size<=gI/\Vals xs its.toList
def Fz.sq(h:Fz K H a xs):SqL K H a xs:=by
 let(o,h)||h:=h
 .show .inl (.inr (o,h))
 .show .inr h
def Fz.of(hO:Only H)(h:SqL K H a xs):Fz K H a xs:=by
 let(h||h)||h:=h
 .let z||(o,ys,z):=hO a
  .grind
  .simp_all
 .show .inl h
 .show .inr h
structure TW (K:Fg) (H H':Hp):Prop where
 tup:∀a xs,H a=cL (.tup xs)->H' a=cL (.tup xs)
 frz:∀a xs,Fz K H a xs->Fz K H' a xs
structure TK (K:Fg) (H H':Hp):Prop where
 tup:∀a xs,H a=cL (.tup xs)->H' a=cL (.tup xs)
 frz:∀a xs,Fz K H a xs->Fz K H' a xs
 frd:∀a o u,H a=cL (.frz o u)->H' a=cL (.frz o u)
def TK.refl(K:Fg)(H:Hp):TK K H H:=(λ_ _ h=>h,λ_ _ h=>h,λ_ _ _ h=>h)
def TK.trans(a:TK K H H1)(b:TK K H1 H2):TK K H H2:=(λc d h=>b.tup c d (a.tup c d h),λc d h=>b.frz c d (a.frz c d h),λc o u h=>b.frd c o u (a.frd c o u h))
noncomputable def TK.upd(h:∀xs,H p≠cL (.tup xs))(h2:∀o u,H p≠cL (.frz o u)):TK K H (L2.upd H p o):=by
 show(λc b e=>?_,λc b e=>?_,λc a u e=>by rw[a0b (by ext rfl;show h2 _ _ e)];show e)
 .rw[a0b (by ext rfl;show h _ e)];show e
 .let(a,e)||e:=e
  .show .inl (a,by rw[a0b (by ext rfl;show h2 _ _ e)];show e)
  .show .inr e
def TK.new(h:H p=jN):TK K H (L2.upd H p o):=.upd (λa e=>by rw[h]at e;cases e) (λo u e=>by rw[h]at e;cases e)
def TK.lst{o:HO}(h:H p=cL (.lst xs)):TK K H (L2.upd H p o):=by simp_all[upd]
def TK.dK{o:HO}{kvs:List (Key×V)}(h:H p=cL (.dK kvs)):TK K H (L2.upd H p o):=by simp_all[upd]
def TK.ins{o:HO}{C dx:Addr}{fs:List (Str×V)}(h:H p=cL (.ins C dx fs)):TK K H (L2.upd H p o):=by simp_all[upd]
end
mutual
def Rep(K:Fg)(H:Hp):Z->V->Prop
 |.non,v=>v=.non
 |.bl b,v=>v=.bl b
 |.int i,v=>v=.int i
 |.str x,v=>v=.str x
 |.ref a,v=>v=.ref a
 |.ty n,v=>v=.ty n
 |.scr a ns,v=>v=.ref a/\Fz K H a (ns.map V.int)
 |.tup ws,v=>∃a vs,v=.ref a/\H a=cL (.tup vs)/\Reps K H ws vs
def Reps(K:Fg)(H:Hp):List Z->List V->Prop
 |[],vs=>vs=[]
 |w::ws,vs=>∃v r,vs=v::r/\Rep K H w v/\Reps K H ws r
end
section
variable{K:Fg}
def a0u:Rep K H .non v=(v=.non):=by unfold Rep;rfl
def a0q:Rep K H (.bl b) v=(v=.bl b):=by unfold Rep;rfl
def a0f:Rep K H (.int i) v=(v=.int i):=by unfold Rep;rfl
def a0r:Rep K H (.str x) v=(v=.str x):=by unfold Rep;rfl
def a0g:Rep K H (.ref a) v=(v=.ref a):=by unfold Rep;rfl
def a8k:Rep K H (.ty n) v=(v=.ty n):=by unfold Rep;rfl
def a2o:Rep K H (.scr a ns) v=(v=.ref a/\Fz K H a (ns.map V.int)):=by unfold Rep;rfl
def a0N:Rep K H (.tup ws) v=(∃a vs,v=.ref a/\H a=cL (.tup vs)/\Reps K H ws vs):=by conv=>lhs;unfold Rep
def a0i:Reps K H [] vs=(vs=[]):=by unfold Reps;rfl
def a0v:Reps K H (jQ::ws) vs=(∃v r,vs=v::r/\Rep K H jQ v/\Reps K H ws r):=by conv=>lhs;unfold Reps
mutual
theorem Rep.monoW(t:TW K H H'):∀(w:Z)(v:V),Rep K H w v->Rep K H' w v
 |.tup ws,v,h=>by
  rw[a0N]at h ⊢;let(a,vs,e,h,r):=h;show(a,vs,e,t.tup _ _ h,Reps.monoW t ws vs r)
 |.scr a ns,v,h=>by
  rw[a2o]at h ⊢;show(h.1,t.frz _ _ h.2)
 |.non,v,h=>by rw[a0u]at h ⊢;show h
 |.bl _,v,h=>by rw[a0q]at h ⊢;show h
 |.int _,v,h=>by rw[a0f]at h ⊢;show h
 |.str _,v,h=>by rw[a0r]at h ⊢;show h
 |.ref _,v,h=>by rw[a0g]at h ⊢;show h
 |.ty _,v,h=>by rw[a8k]at h ⊢;show h
theorem Reps.monoW(t:TW K H H'):∀(ws:List Z)(vs:List V),Reps K H ws vs->Reps K H' ws vs
 |[],vs,h=>by rw[a0i]at h ⊢;show h
 |w::ws,vs,h=>by
  rw[a0v]at h ⊢;let(v,r,e,h1,h2):=h;show(v,r,e,Rep.monoW t w v h1,Reps.monoW t ws r h2)
end
def Rep.mono(t:TK K H H')(w:Z)(v:V)(h:Rep K H w v):Rep K H' w v:=Rep.monoW (t.tup,t.frz) w v h
def Reps.mono(t:TK K H H')(ws:List Z)(vs:List V)(h:Reps K H ws vs):Reps K H' ws vs:=Reps.monoW (t.tup,t.frz) ws vs h
def Reps.cons{w:Z}{v:V}{ws:List Z}{vs:List V}(a:Rep K H w v)(b:Reps K H ws vs):Reps K H (w::ws) (v::vs):=by rw[a0v];show(v,vs,rfl,a,b)
def Reps.nil:Reps K H [] []:=by rw[a0i]
def Reps.length:∀{ws:List Z}{vs:List V},Reps K H ws vs->ws.length=vs.length:=by ext z0;induction z0 with
 |nil=>ext vs h;rw[a0i]at h;rw[h];rfl
 |cons w ws I0=>
  ext vs h;let(v,r,e,_,a):=h;rw[e,ci,ci,I0 a]
def Reps.get:∀{ws:List Z}{vs:List V}{i:Nat}{w:Z},Reps K H ws vs->ws[i]?=cL w->∃v,vs[i]?=cL v/\Rep K H w v:=by ext z0;induction z0 with
 |nil=>ext _ _ _ _ e;simp at e
 |cons w ws I0=>
  ext vs i x h e;let(v,r,rfl,b,a):=h;cases i with
  |zero=>simp at e;subst e;show(v,rfl,b)
  |succ i=>o_head I0 a (by simp_all)
def Reps.tog{i:Nat}(h:Reps K H ws vs)(e:vs[i]?=cL v):∃w,ws[i]?=cL w/\Rep K H w v:=by
 let c:=h.length;let a:i<ws.length:=by grind
 let(d,b,r):=h.get (cu a);rw[e]at b;cases b;show(_,cu a,r)
def Reps.append:∀{ws ws':List Z}{vs vs':List V},Reps K H ws vs->Reps K H ws' vs'->Reps K H (ws++ws') (vs++vs'):=by ext z0;induction z0 with
 |nil=>ext _ vs _ h h';rw[a0i]at h;subst h;show h'
 |cons w ws I0=>
  ext _ vs _ h h';let(v,r,rfl,a,b):=h;show .cons a (I0 b h')
theorem Reps.drop:∀{ws:List Z}{vs:List V}(n:Nat),Reps K H ws vs->Reps K H (ws.drop n) (vs.drop n)
 |[],vs,n,h=>by rw[a0i]at h;subst h;o_head Reps.nil
 |w::ws,vs,0,h=>h
 |w::ws,vs,n+1,h=>by
  let(v,r,rfl,b,a):=h;show Reps.drop n a
theorem Reps.take:∀{ws:List Z}{vs:List V}(n:Nat),Reps K H ws vs->Reps K H (ws.take n) (vs.take n)
 |[],vs,n,h=>by rw[a0i]at h;subst h;o_head Reps.nil
 |w::ws,vs,0,h=>↑Reps.nil
 |w::ws,vs,n+1,h=>by
  let(v,r,rfl,a,b):=h;show .cons a (Reps.take n b)
def Reps.set(r:Rep K H jQ v):∀{ws:List Z}{vs:List V}(i:Nat),Reps K H ws vs->Reps K H (ws.set i jQ) (vs.set i v):=by ext z0;induction z0 with
 |nil=>ext vs i h;rw[a0i]at h;subst h;o_head Reps.nil
 |cons x ws I0=>
  ext vs i h;let(y,s,rfl,b,a):=h;cases i with
  |zero=>show .cons r a
  |succ i=>show .cons b (I0 i a)
def Reps.reverse:∀{ws:List Z}{vs:List V},Reps K H ws vs->Reps K H ws.reverse vs.reverse:=by ext z0;induction z0 with
 |nil=>ext vs h;rw[a0i]at h;subst h;show Reps.nil
 |cons x ws I0=>
  ext vs h;let(y,s,rfl,b,a):=h;rw[dR,dR];show (I0 a).append (.cons b .nil)
def a29:∀(ns:List Int),Reps K H (ns.map Z.int) (ns.map V.int):=by ext z0;induction z0 with
 |nil=>show Reps.nil
 |cons n ns I0=>show .cons (by rw[a0f]) (I0)
def Reps.one(h:Reps K H [jQ] vs):∃v,vs=[v]/\Rep K H jQ v:=by
 let(v,r,rfl,b,a):=h;show(v,by rw[a],b)
def Reps.two(h:Reps K H [jQ,w'] vs):∃v v',vs=[v,v']/\Rep K H jQ v/\Rep K H w' v':=by
 let(v,r,rfl,c,a):=h;let(d,rfl,b):=a.one;show(v,d,rfl,c,b)
end
inductive O where
 |lst (ws:List Z)
 |dK (kvs:List (Key×Z))
 |ins (C dx:Addr) (fs:List (Str×Z))
 |dF (kvs:List (Key×Z))
 |dT (ks:List (List Key))
 |tab (p:Pos) (q:Str)
abbrev Hq:=Addr->Option O
noncomputable def put(G:Hq)(a:Addr)(o:O):Hq:=λb=>if b=a then cL o else G b
def a0a:put G a o a=cL o:=by unfold put;rw[if_pos rfl]
def a0j(h:b≠a):put G a o b=G b:=by unfold put;rw[if_neg h]
def a2p:put (put G a o) a u=put G a u:=by
 funext b;unfold put;split<;>rfl
def a0k{G:Hq}(h:G a=cL o)(h':G b=jN):a≠b:=by
 ext e;subst e;rw[h]at h';cases h'
def a0c(h:G b=cL u)(n:G a=jN):put G a o b=cL u:=(a0j (a0k h n))▸h
def ROb(K:Fg)(H:Hp)(a:Addr):O->Prop
 |.lst ws=>∃vs,H a=cL (.lst vs)/\Reps K H ws vs
 |.dK kvs=>∃us,H a=cL (.dK us)/\us.map (·.1)=kvs.map (·.1)/\Reps K H (kvs.map (·.2)) (us.map (·.2))
 |.ins C dx fs=>∃gs,H a=cL (.ins C dx gs)/\gs.map (·.1)=fs.map (·.1)/\Reps K H (fs.map (·.2)) (gs.map (·.2))
 |.dF kvs=>∃o us,H a=cL (.frz o (.dK us))/\us.map (·.1)=kvs.map (·.1)/\Reps K H (kvs.map (·.2)) (us.map (·.2))
 |.dT ks=>∃us,H a=cL (.dT us)/\us.map (·.1)=ks
 |.tab p q=>Tab H a p q
def RH(K:Fg)(G:Hq)(H:Hp):Prop:=∀a o,G a=cL o->ROb K H a o
section
variable{K:Fg}{G:Hq}{a p:Addr}{o:O}{u:HO}
def ROb.some(h:ROb K H a o):∃u,H a=cL u:=by
 cases o with
 |lst ws=>let(b,e,_):=h;show(_,e)
 |dK kvs=>let(b,e,_):=h;show(_,e)
 |ins C dx fs=>let(b,e,_):=h;show(_,e)
 |dF kvs=>let(d,b,e,_):=h;show(_,e)
 |dT ks=>let(b,e,_):=h;show(_,e)
 |tab p q=>let(c,e,_):=h;show(_,e)
def ROb.stay(t:TK K H H')(e:H' a=H a)(h:ROb K H a o):ROb K H' a o:=by
 cases o with
 |lst ws=>let(d,q,r):=h;show(d,e.trans q,r.mono t)
 |dK kvs=>let(d,q,n,r):=h;show(d,e.trans q,n,r.mono t)
 |ins C dx fs=>let(d,q,n,r):=h;show(d,e.trans q,n,r.mono t)
 |dF kvs=>let(f,d,q,n,r):=h;show(f,d,e.trans q,n,r.mono t)
 |dT ks=>let(d,q,n):=h;show(d,e.trans q,n)
 |tab p q=>show Tab.stay (λb o c k=>t.frd b o _ k) e h
def RH.out(h:RH K G H)(e:H a=jN):G a=jN:=by
 cases q:G a with
 |none=>rfl
 |some o=>let(u,z):=(h a o q).some;rw[e]at z;cases z
def RH.hid(h:RH K G H)(e:H p=jN):RH K G (upd H p u):=λb o q=>
 (h b o q).stay (.new e) (a0b (by ext rfl;let(u,z):=(h _ o q).some;rw[e]at z;cases z))
def RH.set(h:RH K G H)(t:TK K H (upd H p u))(n:ROb K (upd H p u) p o):RH K (put G p o) (upd H p u):=λb a q=>by
 by_cases hb:b=p
 .subst hb;rw[a0a]at q;cases q;show n
 .rw[a0j hb]at q;show (h b a q).stay t (a0b hb)
end
abbrev S3:=List (Option Z)
abbrev K3:=Z->Hq->Prop
abbrev C3:=S3->Hq->Prop
abbrev E3:=S3->Hq->K3->Prop
abbrev T3:=S3->Hq->(Bool->Hq->Prop)->Prop
abbrev A3:=S3->Hq->(List Z->Hq->Prop)->Prop
abbrev X3:=C3->K3->C3->C3->S3->Hq->Prop
def ROp(K:Fg)(H:Hp)(ow:Option Z)(ov:Option V):Prop:=∀w,ow=cL w->∃v,ov=cL v/\Rep K H w v
def RSt(K:Fg)(H:Hp):S3->L2.St->Prop:=Paired (ROp K H)
section
variable{K:Fg}
def RSt.mono(t:TK K H H'):∀{σ:S3}{τ:L2.St},RSt K H σ τ->RSt K H' σ τ:=by ext z0 y0 x0;induction x0 with
 |nil=>show .nil
 |cons r s I0=>show .cons (λw e=>by let(v,q,h):=r w e;show(v,q,h.mono t)) (I0)
theorem RSt.get:∀{σ:S3}{τ:L2.St}{i:Nat}{w:Z},RSt K H σ τ->σ[i]?=cL (cL w)->∃v,τ[i]?=cL (cL v)/\Rep K H w v
 |_,_,_,_,.nil,e=>by simp at e
 |_,_,0,w,.cons r _,e=>by
  let(v,q,h):=r w ↑e;show(v,by rw[q];rfl,h)
 |_,_,i+1,w,.cons _ s,e=>by
  let(v,q,h):=RSt.get s ↑e;show(v,↑q,h)
theorem RSt.set(r:Rep K H jQ v):∀{σ:S3}{τ:L2.St}(i:Nat),RSt K H σ τ->RSt K H (σ.set i (cL jQ)) (τ.set i (cL v))
 |_,_,_,.nil=>.nil
 |_,_,0,.cons _ s=>.cons (λ_ e=>by cases e;show(v,rfl,r)) s
 |_,_,i+1,.cons q s=>.cons q (RSt.set r i s)
def RSt.length(h:RSt K H σ τ):σ.length=τ.length:=Paired.length h
def RSt.nones:∀n:Nat,RSt K H (eD n jN) (eD n jN):=by ext z0;induction z0 with
 |zero=>show .nil
 |succ n I0=>show .cons (λ_ e=>nomatch e) (I0)
def RSt.app:∀{σ σ':S3}{τ τ':L2.St},RSt K H σ τ->RSt K H σ' τ'->RSt K H (σ++σ') (τ++τ'):=by ext z0 y0 x0 w0 v0;induction v0 with
 |nil=>ext h;show h
 |cons r s I0=>ext h;show .cons r (I0 h)
def RSt.ofVals:∀{ws:List Z}{vs:List V},Reps K H ws vs->RSt K H (ws.map cL) (vs.map cL):=by ext z0;induction z0 with
 |nil=>ext vs h;rw[a0i]at h;subst h;show .nil
 |cons w ws I0=>
  ext vs h;let(v,r,rfl,b,a):=h;show .cons (λ_ e=>by cases e;show(v,rfl,b)) (I0 a)
end
noncomputable def a1F(N:List Str)(ws:List Z):S3:=ws.map cL++eD (N.length-ws.length) jN
noncomputable def RSt.start{K:Fg}(h:Reps K H ws vs):RSt K H (a1F N ws) (L2.start N vs):=by
 unfold a1F L2.start;rw[h.length];show (RSt.ofVals h).app (RSt.nones _)
def UpV(K:Fg)(H:Hp)(R:K3)(Q:VK):Prop:=∀w G v H',R w G->Rep K H' w v->RH K G H'->TK K H H'->Q v H'
def UpB(K:Fg)(H:Hp)(R:Bool->Hq->Prop)(Q:Bool->Hp->Prop):Prop:=∀b G H',R b G->RH K G H'->TK K H H'->Q b H'
def UpA(K:Fg)(H:Hp)(R:List Z->Hq->Prop)(Q:List V->Hp->Prop):Prop:=∀ws G vs H',R ws G->Reps K H' ws vs->RH K G H'->TK K H H'->Q vs H'
def UpS(K:Fg)(H:Hp)(R:C3)(Q:L2.St->Hp->Prop):Prop:=∀σ G τ H',R σ G->RSt K H' σ τ->RH K G H'->TK K H H'->Q τ H'
section
variable{K:Fg}
def UpV.mono(h:UpV K H R Q)(t:TK K H H'):UpV K H' R Q:=λw G v b q r g a=>h w G v b q r g (t.trans a)
def UpB.mono(h:UpB K H R Q)(t:TK K H H'):UpB K H' R Q:=λw G b q g a=>h w G b q g (t.trans a)
def UpA.mono(h:UpA K H R Q)(t:TK K H H'):UpA K H' R Q:=λw G v b q r g a=>h w G v b q r g (t.trans a)
def UpS.mono(h:UpS K H R Q)(t:TK K H H'):UpS K H' R Q:=λw G v b q r g a=>h w G v b q r g (t.trans a)
end
def low(K:Fg)(t:E3):TE:=fun τ H Q=>∃σ G R,RSt K H σ τ/\RH K G H/\t σ G R/\UpV K H R Q
def low.un{K:Fg}{C:Prop}(z:low K t τ H Q)(f:∀σ G R,(RSt K H σ τ)->(RH K G H)->(t σ G R)->(UpV K H R Q)->C):C:=by let(σ,G,R,d,b,c,a):=z;show f _ _ _ d b c a
def lowT(K:Fg)(t:T3):TT:=fun τ H Q=>∃σ G R,RSt K H σ τ/\RH K G H/\t σ G R/\UpB K H R Q
def lowT.un{K:Fg}{C:Prop}(z:lowT K t τ H Q)(f:∀σ G R,(RSt K H σ τ)->(RH K G H)->(t σ G R)->(UpB K H R Q)->C):C:=by let(σ,G,R,b,a,d,c):=z;show f _ _ _ b a d c
def lowA(K:Fg)(t:A3):TA:=fun τ H Q=>∃σ G R,RSt K H σ τ/\RH K G H/\t σ G R/\UpA K H R Q
def lowA.un{K:Fg}{C:Prop}(z:lowA K t τ H Q)(f:∀σ G R,(RSt K H σ τ)->(RH K G H)->(t σ G R)->(UpA K H R Q)->C):C:=by let(σ,G,R,d,b,c,a):=z;show f _ _ _ d b c a
def lowS(K:Fg)(t:X3):TS:=λD τ H=>∃σ G nx rt bk ct,RSt K H σ τ/\RH K G H/\t nx rt bk ct σ G/\UpS K H nx D.nx/\UpV K H rt D.rt/\UpS K H bk D.bk/\UpS K H ct D.ct
def lowS.un{K:Fg}{C:Prop}(z:lowS K t D τ H)(f:∀σ G nx rt bk ct,(RSt K H σ τ)->(RH K G H)->(t nx rt bk ct σ G)->(UpS K H nx D.nx)->(UpV K H rt D.rt)->(UpS K H bk D.bk)->(UpS K H ct D.ct)->C):C:=by let(σ,G,k,j,l,i,h,a,g,b,c,d,e):=z;show f _ _ _ _ _ _ h a g b c d e
structure QE (X:Cx) (e:Expr) (t:E3):Prop where
 p:PE X e (low X.K t)
structure QT (X:Cx) (e:Expr) (t:T3):Prop where
 p:PT X e (lowT X.K t)
structure QW (X:Cx) (e:Expr) (t:T3):Prop where
 p:PW X e (lowT X.K t)
structure QA (X:Cx) (es:List Expr) (t:A3):Prop where
 p:PA X es (lowA X.K t)
structure QS (X:Cx) (st:Stmt) (t:X3):Prop where
 p:PS X st (lowS X.K t)
structure QSs (X:Cx) (st:List Stmt) (t:X3):Prop where
 p:PSs X st (lowS X.K t)
def QW.qt(h:QW X e t):QT X e t:=⟨PW.pt h.p⟩
section
variable{e:Expr}{st:Stmt}{sts:List Stmt}
def a0E(h:PE X e t')(i:∀σ H Q,t σ H Q->t' σ H Q):PE X e t:=λa s σ H Q I q=>h a s σ H Q I (i σ H Q q)
def a8l(h:PT X e t')(i:∀σ H Q,t σ H Q->t' σ H Q):PT X e t:=λa s σ H Q I q=>h a s σ H Q I (i σ H Q q)
def b5b(h:PW X e t')(i:∀σ H Q,t σ H Q->t' σ H Q):PW X e t:=λw a s σ H Q I q=>h w a s σ H Q I (i σ H Q q)
def b5c(h:PA X es t')(i:∀σ H Q,t σ H Q->t' σ H Q):PA X es t:=λb a s σ H Q I q=>h b a s σ H Q I (i σ H Q q)
def a1k(h:PS X st t')(i:∀D σ H,t D σ H->t' D σ H):PS X st t:=λa s σ H D I q=>h a s σ H D I (i D σ H q)
def a8m(h:PSs X sts t')(i:∀D σ H,t D σ H->t' D σ H):PSs X sts t:=λa s σ H D I q=>h a s σ H D I (i D σ H q)
end
abbrev R3:=Z->Z->Hq->K3->Prop
def low2(K:Fg)(r:R3):R2:=λx y H Q=>∃a b G R,Rep K H a x/\Rep K H b y/\RH K G H/\r a b G R/\UpV K H R Q
def low2.un{K:Fg}{C:Prop}(z:low2 K r x y H Q)(f:∀a b G R,(Rep K H a x)->(Rep K H b y)->(RH K G H)->(r a b G R)->(UpV K H R Q)->C):C:=by let(a,b,G,R,e,h,g,c,d):=z;show f _ _ _ _ e h g c d
def low1(K:Fg)(r:Z->Hq->K3->Prop):V->Hp->VK->Prop:=λx H Q=>∃a G R,Rep K H a x/\RH K G H/\r a G R/\UpV K H R Q
def low1.un{K:Fg}{C:Prop}(z:low1 K r x H Q)(f:∀a G R,(Rep K H a x)->(RH K G H)->(r a G R)->(UpV K H R Q)->C):C:=by let(a,G,R,c,e,d,b):=z;show f _ _ _ c e d b
def lowC(K:Fg)(r:List Z->Hq->K3->Prop):List V->Hp->VK->Prop:=λxs H Q=>∃ws G R,Reps K H ws xs/\RH K G H/\r ws G R/\UpV K H R Q
def lowC.un{K:Fg}{C:Prop}(z:lowC K r xs H Q)(f:∀ws G R,(Reps K H ws xs)->(RH K G H)->(r ws G R)->(UpV K H R Q)->C):C:=by let(e,G,R,b,d,c,a):=z;show f _ _ _ b d c a
def lowM(K:Fg)(r:Z->List Z->Hq->K3->Prop):V->List V->Hp->VK->Prop:=λx xs H Q=>∃w ws G R,Rep K H w x/\Reps K H ws xs/\RH K G H/\r w ws G R/\UpV K H R Q
def lowM.un{K:Fg}{C:Prop}(z:lowM K r x xs H Q)(f:∀w ws G R,(Rep K H w x)->(Reps K H ws xs)->(RH K G H)->(r w ws G R)->(UpV K H R Q)->C):C:=by let(w,g,G,R,a,d,e,b,c):=z;show f _ _ _ _ a d e b c
def OpQ(X:Cx)(f:Value->Value->Sem Value)(r:R3):Prop:=OpR X f (low2 X.K r)
def UnQ(X:Cx)(f:Value->Sem Value)(r:Z->Hq->K3->Prop):Prop:=UnR X f (low1 X.K r)
def a1p(X:Cx)(f:Value)(r:List Z->Hq->K3->Prop):Prop:=CallR X f (lowC X.K r)
def IxQ(X:Cx)(r:R3):Prop:=IxR X (low2 X.K r)
def MtQ(X:Cx)(id:String)(r:Z->List Z->Hq->K3->Prop):Prop:=MtR X id (lowM X.K r)
def a2q(h:OpR X f r')(i:∀x y H Q,r x y H Q->r' x y H Q):OpR X f r:=λa s σ H x y v u Q I c b q=>h a s σ H x y v u Q I c b (i x y H Q q)
def b7D(h:UnR X f r')(i:∀x H Q,r x H Q->r' x H Q):UnR X f r:=λa s σ H x v Q I b q=>h a s σ H x v Q I b (i x H Q q)
def a0W(h:CallR X f r')(i:∀xs H Q,r xs H Q->r' xs H Q):CallR X f r:=λa s σ H b d Q I c q=>h a s σ H b d Q I c (i b H Q q)
def b2N(h:IxR X r')(i:∀x y H Q,r x y H Q->r' x y H Q):IxR X r:=λa b c s σ H x y v u Q I e d q=>h a b c s σ H x y v u Q I e d (i x y H Q q)
def a8n{id:String}(h:MtR X id r')(i:∀x xs H Q,r x xs H Q->r' x xs H Q):MtR X id r:=λa s σ H x b v e Q I d c q=>h a s σ H x b v e Q I d c (i x b H Q q)
def uVar(i:Nat):E3:=fun σ G R=>∃w,σ[i]?=cL (cL w)/\R w G
def uC(w:Z):E3:=λ_ G R=>R w G
section
variable{e a b c:Expr}{ta tb tc:E3}
def b5d(h:PE X e (tVar i)):QE X e (uVar i):=⟨a0E h fun τ H Q (σ,G,R,c,b,(w,e,q),d)=>by
 let(v,a,r):=c.get e;show(v,a,d w G v H q r b (.refl _ _))⟩
def a5t(h:PE X e (tC v))(hr:∀H,Rep X.K H jQ v):QE X e (uC jQ):=⟨a0E h fun τ H Q b=>b.un fun σ G R d a q c=>c jQ G v H q (hr H) a (.refl _ _)⟩
def a8o:QE X (.Constant (.int i) j pos) (uC (.int i)):=a5t b4n λ_=>by rw[a0f]
def q_bl{b j pos}:QE X (.Constant (.bool b) j pos) (uC (.bl b)):=a5t b7e λ_=>by rw[a0q]
def b7E:QE X (.Constant .none j pos) (uC .non):=a5t b4o λ_=>by rw[a0u]
def a8p:QE X (.Constant (.str x) j pos) (uC (.str x)):=a5t b4p λ_=>by rw[a0r]
def b1I(h:PE X e (tC (.int i))):QE X e (uC (.int i)):=a5t h λ_=>by rw[a0f]
def q_ty(h:PE X e (tC (.ty n))):QE X e (uC (.ty n)):=a5t h λ_=>by rw[a8k]
def uOp(r:R3)(ta tb:E3):E3:=fun σ G R=>ta σ G λx G1=>tb σ G1 λy G2=>r x y G2 R
def uUn(r:Z->Hq->K3->Prop)(ta:E3):E3:=fun σ G R=>ta σ G λx G1=>r x G1 R
def a6c{K:Fg}(h:low K (uOp r ta tb) τ H Q):tOp (low2 K r) (low K ta) (low K tb) τ H Q:=by
 let(σ,G,R,f,k,h,o):=h;show(σ,G,_,f,k,h,λw m v p l i b e=>?_);show(σ,m,_,f.mono e,b,l,λn g q s j d c a=>?_);show(w,n,g,R,i.mono a,d,c,j,o.mono (e.trans a))
def b5e{K:Fg}(h:low K (uUn r ta) τ H Q):tUn (low1 K r) (low K ta) τ H Q:=by
 let(σ,G,R,d,f,h,c):=h;show(σ,G,_,d,f,h,λw e v j g b a i=>(w,e,R,b,a,g,c.mono i))
def q_op(ho:OpQ X (gZ op) r)(ha:QE X a ta)(hb:QE X b tb):QE X (.BinOp a op b pos) (uOp r ta tb):=⟨a0E (b7o ho ha.p hb.p) λ_ _ _=>a6c⟩
def q_un(ho:UnQ X (jf op) r)(ha:QE X a ta):QE X (.UnaryOp op a pos) (uUn r ta):=⟨a0E (b7p ho ha.p) λ_ _ _=>b5e⟩
def b5f(ho:OpQ X (gQ op) r)(ha:QE X a ta)(hb:QE X b tb)(hm:iH op b=jP):QE X (.Compare a [op] [b] pos) (uOp r ta tb):=⟨a0E (b2y ho ha.p hb.p hm) λ_ _ _=>a6c⟩
def a8q(t:E3):T3:=fun σ G R=>t σ G λx G1=>∃k,x=.bl k/\R k G1
def a39{K:Fg}(h:lowT K (a8q ta) τ H Q):low K ta τ H λx H'=>∃k,x=.bl k/\Q k H':=by
 let(σ,G,R,g,f,h,i):=h;show(σ,G,_,g,f,h,λw l v j (k,e,c) a b d=>?_);subst e;show(k,a,i _ _ _ c b d)
def a3L(ho:OpQ X (gQ op) r)(ha:QE X a ta)(hb:QE X b tb)(hm:iH op b=jP):QT X (.Compare a [op] [b] pos) (a8q (uOp r ta tb)):=⟨a8l (b2z ho ha.p hb.p hm) λ_ _ _ h=>a6c (a39 h)⟩
def a6d(r r':R3)(ta tb tc:E3):E3:=fun σ G R=>ta σ G λx G1=>tb σ G1 λy G2=>r x y G2 λz G3=>∃k,z=.bl k/\(if k=jO then tc σ G3 λw G4=>r' y w G4 R else R (.bl jP) G3)
def a4L{K:Fg}(h:low K (a6d r r' ta tb tc) τ H Q):a7I (low2 K r) (low2 K r') (low K ta) (low K tb) (low K tc) τ H Q:=by
 let(σ,G,R,g,F,h,p):=h;show(σ,G,_,g,F,h,λw A v N q B l a=>?_);show(σ,A,_,g.mono a,l,q,λm y T L s e j b=>?_);show(w,m,y,_,B.mono b,e,j,s,λz x M S (k,t,f) o d c=>?_);subst t;show(k,o,?_);cases k with
 |false=>show p _ _ _ _ ↑f (by rw[a0q]) d ((a.trans b).trans c)
 |true=>
  show(σ,x,_,g.mono ((a.trans b).trans c),d,f,λC E J I D u n i=>?_);show(m,C,E,R,e.mono (c.trans i),u,n,D,p.mono (((a.trans b).trans c).trans i))
def b2O(ho:OpQ X (gQ op) r)(ho':OpQ X (gQ op') r')(ha:QE X a ta)(hb:QE X b tb)(hc:QE X c tc)
  (hm:jg [op,op'] [b,c]=jP:=by with_unfolding_all rfl):QE X (.Compare a [op,op'] [b,c] pos) (a6d r r' ta tb tc):=⟨a0E (a96 ho ho' ha.p hb.p hc.p hm) λ_ _ _=>a4L⟩
def b0x(ho:OpQ X (gQ op) r)(ho':OpQ X (gQ op') r')(ha:QE X a ta)(hb:QE X b tb)(hc:QE X c tc)
  (hm:jg [op,op'] [b,c]=jP:=by with_unfolding_all rfl):QT X (.Compare a [op,op'] [b,c] pos) (a8q (a6d r r' ta tb tc)):=⟨a8l (a97 ho ho' ha.p hb.p hc.p hm) λ_ _ _ h=>a4L (a39 h)⟩
def uAnd(t u:T3):T3:=fun σ G R=>t σ G λc G1=>if c=jO then u σ G1 R else R jP G1
def uOr(t u:T3):T3:=fun σ G R=>t σ G λc G1=>if c=jO then R jO G1 else u σ G1 R
def uNot(t:T3):T3:=fun σ G R=>t σ G λc G1=>R (!c) G1
variable{t u:T3}{rest:List Expr}
def b1J(ha:QT X a t):QW X (.BoolOp .And [a] pos) t:=⟨b2o ha.p⟩
def b2P(ha:QT X a t):QW X (.BoolOp .Or [a] pos) t:=⟨b4r ha.p⟩
def b5g(ha:QT X a t)(hb:QW X (.BoolOp .And (b::rest) pos) u):QW X (.BoolOp .And (a::b::rest) pos) (uAnd t u):=⟨b5b (b4s ha.p hb.p) fun τ H Q l=>l.un fun σ G R f j h g=>by
 show(σ,G,_,f,j,h,λk i m d c e=>?_);cases k with
 |false=>show g _ _ _ (by simp_all) c e
 |true=>rw[if_pos rfl]at d ⊢;show(σ,i,R,f.mono e,c,d,g.mono e)⟩
def q_or(ha:QT X a t)(hb:QW X (.BoolOp .Or (b::rest) pos) u):QW X (.BoolOp .Or (a::b::rest) pos) (uOr t u):=⟨b5b (b7f ha.p hb.p) fun τ H Q l=>l.un fun σ G R f j h g=>by
 show(σ,G,_,f,j,h,λk i m e c d=>?_);cases k with
 |true=>show g _ _ _ (by simp_all) c d
 |false=>rw[if_neg (by simp)]at e ⊢;show(σ,i,R,f.mono d,c,e,g.mono d)⟩
def b5h(ha:QT X a t):QT X (.UnaryOp .Not a pos) (uNot t):=⟨a8l (b4t ha.p) fun τ H Q g=>g.un fun σ G R d f h i=>
 (σ,G,_,d,f,h,λk j l e b c=>i _ _ _ e b c)⟩
def b5i(ta tb:E3):E3:=fun σ G R=>ta σ G λx G1=>∃c,x=.bl c/\if c=jO then tb σ G1 R else R (.bl jP) G1
def uOrV(ta tb:E3):E3:=fun σ G R=>ta σ G λx G1=>∃c,x=.bl c/\if c=jO then R (.bl jO) G1 else tb σ G1 R
def b5j(ta:E3):E3:=fun σ G R=>ta σ G λx G1=>∃c,x=.bl c/\R (.bl (!c)) G1
def b5k(h:QE X a ta):QE X (.BoolOp op [a] pos) ta:=⟨b4u h.p⟩
def a8r(ha:QE X a ta)(hb:QE X (.BoolOp .And (b::rest) pos) tb):QE X (.BoolOp .And (a::b::rest) pos) (b5i ta tb):=⟨a0E (b4v ha.p hb.p) fun τ H Q l=>l.un fun σ G R g j h i=>by
 show(σ,G,_,g,j,h,λx n v o (k,m,e) f c d=>?_);subst m;show(k,f,?_);cases k with
 |false=>show i _ _ _ _ ↑e (by rw[a0q]) c d
 |true=>rw[if_pos rfl]at e ⊢;show(σ,n,R,g.mono d,c,e,i.mono d)⟩
def b7F(ha:QE X a ta)(hb:QE X (.BoolOp .Or (b::rest) pos) tb):QE X (.BoolOp .Or (a::b::rest) pos) (uOrV ta tb):=⟨a0E (b7i ha.p hb.p) fun τ H Q m=>m.un fun σ G R g n h i=>by
 show(σ,G,_,g,n,h,λx j v o (k,l,d) f c e=>?_);subst l;show(k,f,?_);cases k with
 |true=>show i _ _ _ _ ↑d (by rw[a0q]) c e
 |false=>rw[if_neg (by simp)]at d ⊢;show(σ,j,R,g.mono e,c,d,i.mono e)⟩
def b7G(ha:QE X a ta):QE X (.UnaryOp .Not a pos) (b5j ta):=⟨a0E (b4w ha.p) fun τ H Q f=>f.un fun σ G R g d h j=>by
 show(σ,G,_,g,d,h,λx m v n (k,e,i) b c l=>?_);subst e;show(k,b,j _ _ _ _ i (by rw[a0q]) c l)⟩
def uIf(t:T3)(ta tb:E3):E3:=fun σ G R=>t σ G λc G1=>if c=jO then ta σ G1 R else tb σ G1 R
def q_if(hc:QT X c t)(ha:QE X a ta)(hb:QE X b tb):QE X (.IfExp c a b pos) (uIf t ta tb):=⟨a0E (a92 hc.p ha.p hb.p) fun τ H Q l=>l.un fun σ G R g m h j=>by
 show(σ,G,_,g,m,h,λk i n e f d=>?_);cases k with
 |true=>rw[if_pos rfl]at e ⊢;show(σ,i,R,g.mono d,f,e,j.mono d)
 |false=>rw[if_neg (by simp)]at e ⊢;show(σ,i,R,g.mono d,f,e,j.mono d)⟩
def tru:Z->Hq->(Bool->Hq->Prop)->Prop
 |.non,G,R=>R jP G
 |.bl b,G,R=>R b G
 |.int i,G,R=>R (i != 0) G
 |.str y,G,R=>y.length<=gI/\R ((y.length:Int) != 0) G
 |.tup ws,G,R=>R (!ws.isEmpty) G
 |.scr _ ns,G,R=>R (!ns.isEmpty) G
 |.ref p,G,R=>(∃ws,G p=cL (.lst ws)/\R (!ws.isEmpty) G)\/∃kvs,G p=cL (.dK kvs)/\R (!kvs.isEmpty) G
 |.ty _,_,_=>False
def uTru(ta:E3):T3:=fun σ G R=>ta σ G λx G1=>tru x G1 R
def a1a{α β:Type}{a:List α}{b:List β}(h:a.length=b.length):a.isEmpty=b.isEmpty:=by
 cases a<;>cases b<;>simp_all
def b2Q{K:Fg}(h:tru jQ G R)(r:Rep K H jQ v)(hg:RH K G H)(up:UpB K H R Q):∃k,TruV K v H k/\Q k H:=by
 cases jQ with
 |non=>rw[a0u]at r;subst r;show(_,rfl,up _ _ _ h hg (.refl _ _))
 |bl b=>rw[a0q]at r;subst r;show(_,rfl,up _ _ _ h hg (.refl _ _))
 |int i=>rw[a0f]at r;subst r;show(_,rfl,up _ _ _ h hg (.refl _ _))
 |str y=>rw[a0r]at r;subst r;show(_,(h.1,rfl),up _ _ _ h.2 hg (.refl _ _))
 |ty n=>show cb h
 |scr a ns=>rw[a2o]at r;let(rfl,f):=r;show(!ns.isEmpty,.inl (_,f.sq,by rw[a1a (b7 ..).symm]),up _ _ _ h hg (.refl _ _))
 |tup ws=>
  let(a,d,rfl,e,c):=r;show(!ws.isEmpty,.inr (.inl (d,SqT.of e,by rw[a1a c.length])),up _ _ _ h hg (.refl _ _))
 |ref p=>
  subst r;let(ws,e,h)||(kvs,e,h):=h
  .let(d,g,c):=hg p _ e;show(_,.inl (d,SqL.of g,by rw[<- a1a c.length]),up _ _ _ h hg (.refl _ _))
  .let(j,g,l,c):=hg p _ e;show(_,.inr (.inr (j,g,by rw[a1a (show kvs.length=j.length by rw[<- b7,c.length,b7])])),up _ _ _ h hg (.refl _ _))
def b2R(ha:QE X a ta)(he:∀whole,isTrue a X.env whole=(do let v <- whole;hI a.pos;g0 [v] (truthy v))):QT X a (uTru ta):=⟨a8l (a98 ha.p he) fun τ H Q i=>i.un fun σ G R d f h j=>
 (σ,G,_,d,f,h,λw k v l e g b c=>b2Q e g b (j.mono c))⟩
def b7H(ha:QE X a ta)(he:∀whole,isTrue a X.env whole=(do let v <- whole;hI a.pos;g0 [v] (truthy v)):=by ext _;rfl):QT X a (a8q ta):=⟨a8l (b4q ha.p he) λ_ _ _ h=>a39 h⟩
end
section
variable{env:Env}
def a4M:(backTo pos (gM [] env)).any (·.1)=jP:=rfl
def b2S(h:gM (e::es) env=(jP,eval e env,)::gM es env)(r:(backTo pos (gM es env)).any (·.1)=jP):(backTo pos (gM (e::es) env)).any (·.1)=jP:=by
 rw[h]
 change (jP||(backTo pos _).any _)=jP
 rw[r];rfl
end
section
variable{e a b:Expr}{p2:Pos}{te ta tb:E3}{t:A3}
def q_ix(hr:IxQ X r)(ha:QE X a ta)(hb:QE X b tb)(hs:a70 b):QE X (.Subscript a b pos) (uOp r ta tb):=⟨a0E (b7x hr ha.p hb.p hs) λ_ _ _=>a6c⟩
abbrev O3:=S3->Hq->(Option Int->Hq->Prop)->Prop
def a8s:O3:=λ_ G R=>R jN G
def b5l(t:E3):O3:=fun σ G R=>t σ G λx G1=>∃i,x=.int i/\R (cL i) G1
def lowO(K:Fg)(t:O3):TO:=fun τ H Q=>∃σ G R,RSt K H σ τ/\RH K G H/\t σ G R/\∀o G' H',R o G'->RH K G' H'->TK K H H'->Q o H'
def lowO.un{K:Fg}{t:O3}{C:Prop}(z:lowO K t τ H Q)(f:∀σ G R,(RSt K H σ τ)->(RH K G H)->(t σ G R)->(∀o G' H',R o G'->RH K G' H'->TK K H H'->Q o H')->C):C:=by let(σ,G,R,d,b,c,a):=z;show f _ _ _ d b c a
def QO(X:Cx)(e:Option Expr)(t:O3):Prop:=PO X e (lowO X.K t)
def a6e:QO X jN a8s:=by ext a s τ H Q I ⟨σ,G,R,d,c,h,b⟩;show b2G a s τ H Q I (b _ _ _ h c (.refl _ _))
def b1K(h:QE X e te):QO X (cL e) (b5l te):=by ext a s τ H Q I ⟨σ,G,R,f,k,q,l⟩;show b2H h.p a s τ H Q I (σ,G,_,f,k,q,by
 ext w n v m ⟨i,g,d⟩ b c j;subst g;show(i,b,l _ _ _ d c j))
abbrev L3r:=Z->Option Int->Option Int->Hq->K3->Prop
def lowL(K:Fg)(r:L3r):V->Option Int->Option Int->Hp->VK->Prop:=λx lo hi H Q=>∃w G R,Rep K H w x/\RH K G H/\r w lo hi G R/\UpV K H R Q
def lowL.un{K:Fg}{lo hi:Option Int}{C:Prop}(z:lowL K r x lo hi H Q)(f:∀w G R,(Rep K H w x)->(RH K G H)->(r w lo hi G R)->(UpV K H R Q)->C):C:=by let(w,G,R,a,d,b,c):=z;show f _ _ _ a d b c
def SlQ(X:Cx)(r:L3r):Prop:=SlR X (lowL X.K r)
def b7I(h:SlR X r')(i:∀x lo hi H Q,r x lo hi H Q->r' x lo hi H Q):SlR X r:=λa s σ H x v l b j f d Q I c e g k q=>h a s σ H x v l b j f d Q I c e g k (i _ _ _ _ _ q)
def uSl(r:L3r)(te:E3)(tl th:O3):E3:=fun σ G R=>te σ G λx G1=>tl σ G1 λl G2=>th σ G2 λu G3=>r x l u G3 R
def a8t{lo hi:Option Expr}(hr:SlQ X r)(he:QE X e te)(hl:QO X lo tl)(hu:QO X hi th):QE X (.Subscript e (.Slice lo hi jN p2) pos) (uSl r te tl th):=⟨a0E (b0g hr he.p hl hu) fun τ H Q q=>q.un fun σ G R c k h y=>
 (σ,G,_,c,k,h,λw m v z j t f b=>(σ,m,_,c.mono b,f,j,λl o A s d a=>(σ,o,_,c.mono (b.trans a),d,s,λu x B n i g=>
  (w,x,R,t.mono (a.trans g),i,n,y.mono ((b.trans a).trans g)))))⟩
def uNil:A3:=λ_ G R=>R [] G
def b2T(ta:E3)(tr:A3):A3:=fun σ G R=>ta σ G λx G1=>tr σ G1 λxs G2=>R (x::xs) G2
def a0m:QA X [] uNil:=⟨b5c b1C fun τ H Q b=>b.un fun σ G R d a h c=>c _ _ _ _ h .nil a (.refl _ _)⟩
def b5m(ha:QE X e te)(hr:QA X es t)(hs:gM (e::es) X.env=(jP,eval e X.env,)::gM es X.env):QA X (e::es) (b2T te t):=⟨b5c (a7Q ha.p hr.p hs) fun τ H Q i=>i.un fun σ G R hs l h o=>
 (σ,G,_,hs,l,h,λw j v H1 g m f d=>(σ,j,_,hs.mono d,f,g,λws G2 vs H2 n k c b=>o _ _ _ _ n (.cons (m.mono b) k) c (d.trans b)))⟩
def uTup(t:A3):E3:=fun σ G R=>t σ G λxs G1=>xs.length<=gI/\R (.tup xs) G1
def uLst(t:A3):E3:=fun σ G R=>t σ G λxs G1=>xs.length<=gI/\∀p,G1 p=jN->R (.ref p) (put G1 p (.lst xs))
def a6T(h:QA X es t):QE X (.Tuple es x1 pos) (uTup t):=⟨a0E (b4R h.p) fun τ H Q k=>k.un fun σ G R f j h d=>
 (σ,G,_,f,j,h,by ext o m l n ⟨i,g⟩ b c e;show(by rw[<- b.length];show i,λp a=>d _ _ _ _ g (by rw[a0N];show(p,l,rfl,a0e,b.mono (.new a))) (c.hid a) (e.trans (.new a))))⟩
def a0X{K:Fg}(r:Reps K H ws vs)(t:TK K H (upd H p (.lst vs))):ROb K (upd H p (.lst vs)) p (.lst ws):=(vs,a0e,r.mono t)
def b0y(h:QA X es t):QE X (.List es pos) (uLst t):=⟨a0E (b4S h.p) fun τ H Q g=>g.un fun σ G R d k h i=>
 (σ,G,_,d,k,h,by ext m l o n ⟨f,e⟩ c b j;show(by rw[<- c.length];show f,λp a=>i _ _ _ _ (e p (b.out a)) (by rw[a0g]) (b.set (.new a) (a0X c (.new a))) (j.trans (.new a))))⟩
def uCB(r:List Z->Hq->K3->Prop)(t:A3):E3:=fun σ G R=>t σ G λws G1=>r ws G1 R
def b1L{K:Fg}(h:low K (uCB r t) τ H Q):tCB (lowC K r) (lowA K t) τ H Q:=by
 let(σ,G,R,e,j,h,i):=h;show(σ,G,_,e,j,h,λc g k l f b a d=>(c,g,R,b,a,f,i.mono d))
variable{x:Str}{p:Pos}{id T:String}{r:List Z->Hq->K3->Prop}
def b2U(hc:a1p X (.builtin id) r)(hg:Gl X x)(hm:X.mg x=jN)(hv:iy x=cL (.builtin id))(ha:QA X (e::es) t)(hn:x≠"__name__")(hdb:(x==("__debug__":Str))=jP)
  (he:gM (e::es) X.env=(jP,eval e X.env,)::gM es X.env) (hpl:(backTo pos (gM es X.env)).any (·.1)=jP):QE X (.Call (.Name x p) (e::es) [] pos) (uCB r t):=⟨a0E (a58 hc hg hm hv ha.p hn hdb he hpl) λ_ _ _=>b1L⟩
def b0z(hc:a1p X (.type T) r)(hg:Gl X x)(hm:X.mg x=jN)(hv:iy x=cL (.type T))(ha:QA X (e::es) t)(hn:x≠"__name__")(hdb:(x==("__debug__":Str))=jP)
  (he:gM (e::es) X.env=(jP,eval e X.env,)::gM es X.env) (hpl:(backTo pos (gM es X.env)).any (·.1)=jP):QE X (.Call (.Name x p) (e::es) [] pos) (uCB r t):=⟨a0E (a7X hc hg hm hv ha.p hn hdb he hpl) λ_ _ _=>b1L⟩
def tyZ(T:String)(x:Z)(G:Hq):Prop:=match x with
 |.str _=>T="str"
 |.int _=>T="int"
 |.ref p=>(T="list"/\∃ws,G p=cL (.lst ws))\/(T="dict"/\∃kvs,G p=cL (.dK kvs)\/G p=cL (.dF kvs))
 |.scr _ _=>T="list"
 |_=>False
def b2V{K:Fg}(h:tyZ T jQ G)(r:Rep K H jQ v)(hg:RH K G H):tyV K T v H:=by
 cases jQ with
 |str y=>rw[a0r]at r;subst r;show h
 |int y=>rw[a0f]at r;subst r;show h
 |ref q=>
  subst r;let(e,ws,g)||(e,kvs,g):=h
  .let(b,a,_):=hg q _ g;show .inl (e,b,SqL.of a)
  .let g||g:=g
   .let(b,a,_):=hg q _ g;show .inr (.inr (.inl (e,.inl (b,a))))
   .let(c,b,a,_):=hg q _ g;show .inr (.inr (.inl (e,.inr (.inr (c,b,a)))))
 |scr q ns=>rw[a2o]at r;let(rfl,f):=r;show .inl (h,_,f.sq)
 |_=>show cb h
def uBM(T:String)(r:Z->List Z->Hq->K3->Prop)(to:E3)(t:A3):E3:=fun σ G R=>to σ G λx G1=>tyZ T x G1/\t σ G1 λxs G2=>r x xs G2 R
variable{o:Expr}{name:Str}{cpos:Pos}{rm:Z->List Z->Hq->K3->Prop}
def q_bm(pa:PlainAttrs T)(slot:Slot T name id)(hty:typeOf (.builtin id)=pure (.type "method_descriptor"))(hm:MtQ X id rm)(ho:QE X o to)(ha:QA X (e::es) t)
  (hbase:iF o name X.env (eval o X.env)=eval o X.env:=by rfl)
  (hfew:((backTo cpos (gM (e::es) X.env)).all (λx=>!x.1)&&(im cpos (io [] X.env)).all (λx=>x.1.isSome)
   && decide ((e::es).length+([]:List iZ).length+(if ([]:List iZ).isEmpty then 0 else 1)<30))=jO:=by rfl)
  (hline:(apos.endLine==cpos.line)=jO:=by rfl) (hs:gM (e::es) X.env=(jP,eval e X.env,)::gM es X.env:=by rfl) (hplain:(backTo cpos (gM es X.env)).any (·.1)=jP:=by rfl) :
  QE X (.Call (.Attribute o name apos) (e::es) [] cpos) (uBM T rm to t):=⟨a0E (b7z pa slot hty hm ho.p ha.p hbase hfew hline hs hplain) fun τ H Q q=>q.un fun σ G R hs r h u=>
  (σ,G,_,hs,r,h,by ext w j v H1 ⟨m,n⟩ d a g;show(b2V m d a,σ,j,_,hs.mono g,a,n,λs i vs H2 k l f c=>(w,s,i,R,d.mono c,l,f,k,u.mono (g.trans c))))⟩
abbrev P3:=List Z->Hq->K3->Prop
def lowP(K:Fg)(sp:P3):Sp:=λvs H Q _=>lowC K sp vs H Q
def b2W(sp:P3)(t:A3):E3:=fun σ G R=>t σ G λws G1=>sp ws G1 R
variable{k:Nat}{f:Addr}{fd:g9}{ps:List Str}
def b5n(F:FnOk X.prog X.w X.K X.mg X.base CX0 k f fd ps (lowP X.K sp))(hr:Room k X.A)(hg:Gl X x)(hm:X.mg x=cL (.ref f))(hk:PySem.W.keepIn X.K (.ref f)=jO)(hb:Binds X.K fd ps [])(ha:QA X (e::es) t)
  (hdb:(x==("__debug__":Str))=jP) (he:gM (e::es) X.env=(jP,eval e X.env,)::gM es X.env) (hpl:(backTo pos (gM es X.env)).any (·.1)=jP) :
  QE X (.Call (.Name x p) (e::es) [] pos) (b2W sp t):=⟨a0E (a7S F hr hg hm hk hb .nil a75 ha.p hdb he hpl) fun τ H Q d=>d.un fun σ G R i hg h m=>(σ,G,_,i,hg,h,λc j vs H1 l g b n=>(c,j,R,by rw[cE];show g,b,l,m.mono n))⟩
end
section
variable{e c tg:Expr}{st:Stmt}{rest sa sb:List Stmt}{te:E3}{t u:X3}{tc:T3}
def b2X:X3:=λnx _ _ _ σ G=>nx σ G
def uSeq(t u:X3):X3:=λnx rt bk ct σ G=>t (u nx rt bk ct) rt bk ct σ G
def a4a:QSs X [] b2X:=⟨a8m b2p λD τ H a=>a.un fun σ G g e k f d b h c i j l=>c _ _ _ _ h d b (.refl _ _)⟩
def a0d(h1:QS X st t)(h2:QSs X rest u):QSs X (st::rest) (uSeq t u):=⟨a8m (a53 h1.p h2.p) λD τ H q=>q.un fun σ G k j c e l o h n d b g=>
 (σ,G,_,j,c,e,l,o,h,fun σ' r τ' s m f i a=>(σ',r,k,j,c,e,f,i,m,n.mono a,d.mono a,b.mono a,g.mono a),d,b,g)⟩
def a0w(h1:QS X st t):QSs X [st] t:=⟨b2q h1.p⟩
def uCut(t u:X3):X3:=λnx rt bk ct σ G=>∃M:C3,t M rt bk ct σ G/\∀σ' G',M σ' G'->u nx rt bk ct σ' G'
def a4b(h1:QS X st t)(h2:QSs X rest u):QSs X (st::rest) (uCut t u):=⟨a8m (a53 h1.p h2.p) λD τ H v=>v.un fun σ G n d j b q m l s g e i=>by
 let(M,h,k):=l;show(σ,G,M,d,j,b,q,m,h,fun σ' o τ' w r f c a=>(σ',o,n,d,j,b,f,c,k _ _ r,s.mono a,g.mono a,e.mono a,i.mono a),g,e,i)⟩
def b5o:X3:=λ_ _ bk _ σ G=>bk σ G
def b7J:X3:=λ_ _ _ ct σ G=>ct σ G
def b5p:QS X (.Pass pos) b2X:=⟨a1k b2r λD τ H d=>d.un fun σ G e g i l a b h c k j f=>c _ _ _ _ h a b (.refl _ _)⟩
def b2Y:QS X (.Break pos) b5o:=⟨a1k a93 λD τ H a=>a.un fun σ G f i e g b d h j l c k=>c _ _ _ _ h b d (.refl _ _)⟩
def b5q:QS X (.Continue pos) b7J:=⟨a1k a5o λD τ H c=>c.un fun σ G e g i l a b h f k j d=>d _ _ _ _ h a b (.refl _ _)⟩
def b5r:X3:=λ_ _ _ _ _ _=>False
def a8u:QS X st b5r:=⟨by ext _ _ _ _ _ _ ⟨_,_,_,_,_,_,_,_,h,_⟩;show h.elim⟩
def b5s(te:E3):X3:=λnx _ _ _ σ G=>te σ G λ_ G1=>nx σ G1
def a0Y(he:QE X e te)(hs:ii e jN pos.line X.env=pure jP:=by rfl):QS X (.Expr e pos) (b5s te):=⟨a1k (b2s he.p hs) λD τ H i=>i.un fun σ G nx rt bk ct hs g h f u2 u3 u4=>
 (σ,G,_,hs,g,h,λw G1 v H1 d rv c b=>f _ _ _ _ d (hs.mono b) c b)⟩
def uRet(te:E3):X3:=λ_ rt _ _ σ G=>te σ G rt
def a1q(he:QE X e te):QS X (.Return (cL e) pos) (uRet te):=⟨a1k (b4z he.p) λD τ H c=>c.un fun σ G f j k m a b h g d l i=>(σ,G,_,a,b,h,d)⟩
def b7K:X3:=λ_ rt _ _ _ G=>rt .non G
def b5t:QS X (.Return jN pos) b7K:=⟨a1k b2t λD τ H b=>b.un fun σ G e j d l g a h k c f i=>c _ _ _ _ h (by rw[a0u]) a (.refl _ _)⟩
def uIfS(c:T3)(t u:X3):X3:=λnx rt bk ct σ G=>c σ G λb G1=>if b=jO then t nx rt bk ct σ G1 else u nx rt bk ct σ G1
def z_if(hc:QT X c tc)(ha:QSs X sa t)(hb:QSs X sb u):QS X (.If c sa sb pos) (uIfS tc t u):=⟨a1k (b7m hc.p ha.p hb.p) λD τ H s=>s.un fun σ G l g k m f r h n q j i=>by
 show(σ,G,_,f,r,h,λb o v d e a=>?_);cases b with
 |true=>rw[if_pos rfl]at d ⊢;show(σ,o,l,g,k,m,f.mono a,e,d,n.mono a,q.mono a,j.mono a,i.mono a)
 |false=>rw[if_neg (by simp)]at d ⊢;show(σ,o,l,g,k,m,f.mono a,e,d,n.mono a,q.mono a,j.mono a,i.mono a)⟩
inductive Pt where
 |nm (i:Nat)
 |tp (is:List Nat)
def gsOf:List Nat->TGs
 |[]=>gNil
 |i::is=>b4A (a7x i) (gsOf is)
def gP(K:Fg):Pt->TG
 |.nm i=>a7x i
 |.tp is=>gTup K is.length (gsOf is)
noncomputable def sets:List Nat->List Z->S3->S3
 |i::is,w::ws,σ=>sets is ws (σ.set i (cL w))
 |_,_,σ=>σ
noncomputable def a2E:Pt->Z->S3->Option S3
 |.nm i,w,σ=>cL (σ.set i (cL w))
 |.tp is,.tup ws,σ=>if ws.length=is.length then cL (sets is ws σ) else jN
 |_,_,_=>jN
noncomputable def Pt.slots:Pt->List Nat
 |.nm i=>[i]
 |.tp is=>is
noncomputable def a2F:List Nat->List V->L2.St->L2.St
 |i::is,w::ws,σ=>a2F is ws (σ.set i (cL w))
 |_,_,σ=>σ
theorem a8v:∀{is:List Nat}{vs:List V}{τ:L2.St},vs.length=is.length->Q (a2F is vs τ) H->gsOf is vs τ H Q
 |[],[],_,_,q=>(rfl,q)
 |i::is,v::vs,τ,h,q=>(v,vs,rfl,a8v ↑h q)
 |[],_::_,_,h,_=>by simp at h
 |_::_,[],_,h,_=>by simp at h
theorem a4N{K:Fg}:∀{is:List Nat}{ws:List Z}{vs:List V}{σ:S3}{τ:L2.St},Reps K H ws vs->RSt K H σ τ->RSt K H (sets is ws σ) (a2F is vs τ)
 |[],ws,vs,σ,τ,_,h=>by unfold sets a2F;show h
 |i::is,[],vs,σ,τ,r,h=>by rw[a0i]at r;subst r;show h
 |i::is,w::ws,vs,σ,τ,r,h=>by
  let(v,c,rfl,a,b):=r;show a4N (is:=is) b (h.set a i)
theorem a3M:∀{is:List Nat}{vs:List V}{τ:L2.St}{j:Nat},j∉is->(a2F is vs τ)[j]?=τ[j]?
 |[],_,_,_,_=>by unfold a2F;rfl
 |i::is,[],_,_,_=>by unfold a2F;rfl
 |i::is,v::vs,τ,j,h=>by
  let b:j≠i:=λz=>h (z▸dg ..)
  change (a2F is vs _)[j]?=τ[j]?
  rw[a3M (λz=>h (cT _ z)),d7 (Ne.symm b)]
theorem a2y:∀{is:List Nat}{vs:List V}{τ:L2.St},(a2F is vs τ).length=τ.length
 |[],_,_=>by unfold a2F;rfl
 |i::is,[],_=>by unfold a2F;rfl
 |i::is,v::vs,τ=>by
  change (a2F is vs _).length=τ.length
  rw[a2y,fN]
def b2Z{K:Fg}(r:Rep K H jQ v)(hs:RSt K H σ τ)(hb:a2E pt jQ σ=cL σ')
  (q:∀τ',RSt K H σ' τ'->τ'.length=τ.length->(∀j,j∉pt.slots->τ'[j]?=τ[j]?)->Q τ' H):gP K pt v τ H Q:=by
 cases pt with
 |nm i=>
  cases hb;show q _ (hs.set r i) (by simp) λj d=>by rw[d7];ext z;show d (z▸dg ..)
 |tp is=>
  cases jQ with
  |tup ws=>
   let(a,f,rfl,e,c):=r;let b:(if ws.length=is.length then cL _ else jN)=cL σ':=hb
   by_cases hl:ws.length=is.length
   .rw[if_pos hl]at b;cases b;show(a,f,rfl,SqT.of e,by rw[<- c.length];show hl,a8v (c.length▸hl) (q _ (a4N c hs) a2y λj d=>a3M d))
   .simp_all
  |_=>cases hb
def QP(X:Cx)(tg:Expr)(pt:Pt):Prop:=PG X tg (gP X.K pt)
def uAsg(te:E3)(pt:Pt):X3:=λnx _ _ _ σ G=>te σ G λx G1=>∃σ',a2E pt x σ=cL σ'/\nx σ' G1
def a5u{K:Fg}(h:lowS K (uAsg te pt) D τ H):tAsg (low K te) (gP K pt) D τ H:=by
 let(σ,G,p,s,k,l,b,e,h,j,r,m,n):=h;show(σ,G,_,b,e,h,by ext w o v q ⟨σ',g,i⟩ f c d;show b2Z f (b.mono d) g fun τ' a _ _=>j _ _ _ _ i a c d)
def b7L(hN:X.N.Nodup)(hi:X.N[i]?=cL x)(hx:Loc X.env.scope x)(he:QE X e te)(hs:ii e (cL (.Name x pos')) pos.line X.env=pure jP)(hf:X.fn x=jO\/X.env.scope.names.lookup x=cL .local) :
  QS X (.Assign [.Name x pos'] e pos) (uAsg te (.nm i)):=⟨a1k (b4D hN hi hx he.p hs hf) λ_ _ _=>a5u⟩
def b5u(he:QE X e te)(hg:QP X tg pt)(hs:ju [tg] e pos.line X.env=pure jP:=by rfl)(hw:jv [tg] e X.env=pure jN:=by rfl)
  (h1:(ir [tg] X.env).map (·.2)=[assign tg X.env]:=by rfl):QS X (.Assign [tg] e pos) (uAsg te pt):=⟨a1k (b1B he.p hg hs hw h1) λ_ _ _=>a5u⟩
abbrev Z3:=Z->Z->Z->Hq->(Hq->Prop)->Prop
def lowZ(K:Fg)(r:Z3):TSet:=λo i v H Q=>∃a b w G R,Rep K H a o/\Rep K H b i/\Rep K H w v/\RH K G H/\r a b w G R/\∀G' H',R G'->RH K G' H'->TK K H H'->Q H'
def lowZ.un{K:Fg}{C:Prop}(z:lowZ K r o i v H Q)(f:∀a b w G R,(Rep K H a o)->(Rep K H b i)->(Rep K H w v)->(RH K G H)->(r a b w G R)->(∀G' H',R G'->RH K G' H'->TK K H H'->Q H')->C):C:=by let(a,b,w,G,R,d,j,e,g,c,h):=z;show f _ _ _ _ _ d j e g c h
def SetQ(X:Cx)(r:Z3):Prop:=PSet X (lowZ X.K r)
def b1M(h:PSet X r')(i:∀o j v H Q,r o j v H Q->r' o j v H Q):PSet X r:=λa s σ H o j v c f u Q I b d e q=>h a s σ H o j v c f u Q I b d e (i _ _ _ _ _ q)
def uPut(te to ti:E3)(r:Z3):X3:=λnx _ _ _ σ G=>te σ G λw G1=>to σ G1 λo G2=>ti σ G2 λi G3=>r o i w G3 λG4=>nx σ G4
def b7M(h:PS X st (tAsg (low X.K te) (gSub (low X.K to) (low X.K ti) (lowZ X.K r)))):QS X st (uPut te to ti r):=⟨a1k h λD τ H z=>z.un fun σ G Q I J N a s h B T V C=>
 (σ,G,_,a,s,h,λw m v U o t e d=>(σ,m,_,a.mono d,e,o,λx u R S n i l c=>(σ,u,_,a.mono (d.trans c),l,n,λy A M F q g k b=>
  (x,y,w,A,_,i.mono b,g,t.mono (c.trans b),k,q,λE L p j f=>B _ _ _ _ p (a.mono (((d.trans c).trans b).trans f)) j (((d.trans c).trans b).trans f)))))⟩
def a6f(he:QE X e te)(ho:QE X o to)(hi:QE X i ti)(hr:SetQ X r)(hs:ju [.Subscript o i p'] e pos.line X.env=pure jP:=by rfl)(hw:jv [.Subscript o i p'] e X.env=pure jN:=by rfl)
  (h1:(ir [.Subscript o i p'] X.env).map (·.2)=[assign (.Subscript o i p') X.env]:=by rfl) (ha:∀v,assign (.Subscript o i p') X.env v=(do
   let ov <- g0 [v] (eval o X.env)
   let iv <- g0 [v,ov] (eval i X.env)
   hI p'
   g0 [v,ov,iv] (iN ov iv v)
   je [v,ov,iv] []):=by ext _;rfl):QS X (.Assign [.Subscript o i p'] e pos) (uPut te to ti r):=b7M (b1B he.p (b4C ho.p hi.p hr ha) hs hw h1)
def uAug(i:Nat)(te:E3)(r:R3):X3:=λnx _ _ _ σ G=>∃x,σ[i]?=cL (cL x)/\te σ G λy G1=>r x y G1 λz G2=>nx (σ.set i (cL z)) G2
def b7N(h:PS X st (tAug i (low X.K te) (low2 X.K r))):QS X st (uAug i te r):=⟨a1k h λD τ H q=>q.un fun σ G y L C u a s k t A B M=>by
 let(x,p,h):=k;let(v,n,o):=a.get p;show(v,n,σ,G,_,a,s,h,λw m N z j c g b=>(x,w,m,_,o.mono b,c,g,j,λF I J E l d e f=>t _ _ _ _ l ((a.mono (b.trans f)).set d i) e (b.trans f)))⟩
def b5v(hN:X.N.Nodup)(hi:X.N[i]?=cL x)(hx:Loc X.env.scope x)(he:QE X e te)(ho:OpQ X (iu op) r)(hf:X.fn x=jO\/X.env.scope.names.lookup x=cL .local) :
  QS X (.AugAssign (.Name x pos') op e pos) (uAug i te r):=b7N (b4E hN hi hx he.p ho hf)
end
abbrev I3:=S3->Hq->(List Z->(Hq->Prop)->Hq->Prop)->Prop
def a3x(K:Fg)(ws:List Z)(ok:Hq->Prop)(J:It)(H0:Hp):Prop:=∀i G H,RH K G H->TK K H0 H->ok G->i<=ws.length ->
 (i=ws.length->J.stop i H)/\∀w,ws[i]?=cL w->J.go i H/\∀x H',J.yld i H x H'->Rep K H' w x/\RH K G H'/\TK K H H'
def lowI(K:Fg)(wi:I3):TI:=fun τ H R2=>∃σ G R,RSt K H σ τ/\RH K G H/\wi σ G R/\∀ws ok G' J H',R ws ok G'->a3x K ws ok J H'->RH K G' H'->TK K H H'->R2 J H'
def lowI.un{K:Fg}{R2:It->Hp->Prop}{C:Prop}(z:lowI K wi τ H R2)(f:∀σ G R,(RSt K H σ τ)->(RH K G H)->(wi σ G R)->(∀ws ok G' J H',R ws ok G'->a3x K ws ok J H'->RH K G' H'->TK K H H'->R2 J H')->C):C:=by let(σ,G,R,d,b,c,a):=z;show f _ _ _ d b c a
def QI(X:Cx)(tg iter:Expr)(wi:I3):Prop:=PI X tg iter (lowI X.K wi)
def a5v(h:PI X tg iter wi')(i:∀σ H R,wi σ H R->wi' σ H R):PI X tg iter wi:=λa s σ H R I q=>h a s σ H R I (i σ H R q)
def FORB(ws:List Z)(ok:Hq->Prop)(pt:Pt)(tb:X3)(nx:C3)(rt:K3)(σ:S3)(G1:Hq):Prop:=∃I:Nat->S3->Hq->Prop,I 0 σ G1/\(∀i σ G,i<=ws.length->I i σ G->ok G) /\
 (∀i x σ G,ws[i]?=cL x->I i σ G->∃σ',a2E pt x σ=cL σ'/\tb (I (i+1)) rt nx (I (i+1)) σ' G)/\∀σ G,I ws.length σ G->nx σ G
def uFor(wi:I3)(pt:Pt)(tb:X3):X3:=λnx rt _ _ σ G=>wi σ G λws ok G1=>FORB ws ok pt tb nx rt σ G1
def a11(I:Nat->S3->Hq->Prop)(h0:I 0 σ G)(hok:∀i σ G,i<=ws.length->I i σ G->ok G)
  (step:∀i x σ G,ws[i]?=cL x->I i σ G->∃σ',a2E pt x σ=cL σ'/\tb (I (i+1)) rt nx (I (i+1)) σ' G) (fin:∀σ G,I ws.length σ G->nx σ G):FORB ws ok pt tb nx rt σ G:=(I,h0,hok,step,fin)
def a4O(hp:iA (model X.prog X.w) X.A X.env X.xe)(hc:X.calm=jO)(hi:QI X tg iter wi)(hg:QP X tg pt)(hb:QSs X sb t)
  (hs:∀x,iC iter X.env x=pure x:=by ext _;rfl):QS X (.For tg iter sb [] pos) (uFor wi pt t):=⟨a1k (b4H hp hc hi hg hb.p hs) λD τ H U=>U.un fun σ G nx rt bk ct hs hg h R u2 u3 u4=>by
 show(σ,G,_,hs,hg,h,?_);ext b ok G1 J L ⟨I,i0,S,u,E⟩ hJ M k;show(λi m τ' a=>m=b.length-i/\i<=b.length/\∃σ' G',RSt X.K a σ' τ'/\RH X.K G' a/\TK X.K L a/\I i σ' G',(b.length,by simp,cM _,σ,G1,hs.mono k,M,.refl _ _,i0),?_);ext i m τ2 H2 ⟨rfl,n,σ2,j,o,r,c,z⟩;let l:=hJ i j H2 r c (S i σ2 j n z) n
 by_cases hlt:i<b.length
 .let(Y,T):=l.2 _ (cu hlt);show .inr (Y,fun τ' a=>i+1<=b.length/\∃σ' G',RSt X.K a σ' τ'/\RH X.K G' a/\TK X.K L a/\I _ σ' G',fun σ' a q=>(b.length-_,by cbv,rfl,q.1,q.2),λx H3 V=>?_);let(rx,N,g):=T x H3 V;let(σ',F,h3):=u i _ σ2 j (cu hlt) z;show b2Z rx (o.mono g) F fun τ' C _ _=>(σ',j,_,rt,nx,_,C,N,h3,(fun σ4 v τ4 W s d f y=>(hlt,σ4,v,d,f,(c.trans g).trans y,s)),u2.mono ((k.trans c).trans g),R.mono ((k.trans c).trans g),(fun σ4 v τ4 W s d f y=>(hlt,σ4,v,d,f,(c.trans g).trans y,s)))
 .let e:i=b.length:=by lia
  subst e;show .inl (l.1 rfl,R _ _ _ _ (E σ2 j z) o r (k.trans c))⟩
section
variable{tg l:Expr}{tl:E3}
def wkL(x:Z)(G:Hq)(R:List Z->(Hq->Prop)->Hq->Prop):Prop:=match x with
 |.ref a=>∃ws,G a=cL (.lst ws)/\R ws (λG=>G a=cL (.lst ws)) G
 |.scr _ ns=>R (ns.map Z.int) (λ_=>True) G
 |_=>False
def iL(tl:E3):I3:=fun σ G R=>tl σ G λx G1=>wkL x G1 R
def a6U{K:Fg}:a3x K ws (λG=>G a=cL (.lst ws)) (Itl K a) H:=λi G H c t g m=>by
 let(b,e,f):=c a _ g;show(λh=>(b,SqL.of e,by rw[<- f.length,h];show b8 _),λw j=>?_);let(v,d,k):=f.get j;show((b,v,SqL.of e,d),?_);ext x l ⟨rfl,y⟩
 let:=y b (SqL.of e)
 rw[d]at this;cases this;show(k,c,.refl _ _)
def a8w{K:Fg}{ns:List Int}(f:Fz K H0 a (ns.map V.int)):a3x K (ns.map Z.int) (λ_=>True) (Itl K a) H0:=λi G H g t m l=>by
 let b:=(t.frz _ _ f).sq;let c:Reps K H _ _:=a29 ns;show(λh=>(_,b,by rw[<- c.length,h];show b8 _),λw j=>?_);let(v,d,e):=c.get j;show((_,v,b,d),?_);ext x k ⟨rfl,y⟩
 let:=y _ b
 rw[d]at this;cases this;show(e,g,.refl _ _)
def a3a(hl:QE X l tl):QI X tg l (iL tl):=a5v (b2v hl.p) fun τ H s k=>k.un fun σ G R i j h f=>by
 show(σ,G,_,i,j,h,λw q v o c b d g=>?_);cases w with
 |ref a=>
  let(r,e,c):=c;let(m,n,_):=d a _ e;show(a,b,(m,SqL.of n),f _ _ _ _ _ c a6U d g)
 |scr a ns=>
  show(a,b.1,(_,b.2.sq),f _ _ _ _ _ c (a8w b.2) d g)
 |_=>show cb c
def wkT(x:Z)(G:Hq)(R:List Z->(Hq->Prop)->Hq->Prop):Prop:=match x with
 |.tup ws=>R ws (λ_=>True) G
 |_=>False
def iT(tl:E3):I3:=fun σ G R=>tl σ G λx G1=>wkT x G1 R
def a8x{K:Fg}(e:H0 a=cL (.tup vs))(rs:Reps K H0 ws vs):a3x K ws (λ_=>True) (Itt K a) H0:=λi G H f t ok hi=>by
 let e:=t.tup _ _ e;let rs:=rs.mono t;show(λh=>(vs,SqT.of e,by rw[<- rs.length,h];show b8 _),λw g=>?_);let(v,c,d):=rs.get g;show((vs,v,SqT.of e,c),?_);ext x H' ⟨rfl,y⟩
 let:=y vs (SqT.of e)
 rw[c]at this;cases this;show(d,f,.refl _ _)
def b1N(hl:QE X l tl):QI X tg l (iT tl):=a5v (b4F hl.p) fun τ H o j=>j.un fun σ G R m i h n=>by
 show(σ,G,_,m,i,h,λw r v q d c b k=>?_);cases w with
 |tup ws=>
  let(a,g,rfl,e,f):=c;show(a,rfl,(g,SqT.of e),n _ _ _ _ _ d (a8x e f) b k)
 |_=>show cb d
noncomputable def rng(lo:Int):Nat->List Z
 |0=>[]
 |n+1=>.int lo::rng (lo+1) n
def a3N:∀(lo:Int)(n:Nat),(rng lo n).length=n:=by ext z0 y0;induction y0 generalizing z0 with
 |zero=>show rfl
 |succ n I0=>rw[rng,ci,I0]
theorem a5w:∀{lo:Int}{n i:Nat}{w:Z},(rng lo n)[i]?=cL w->i<n/\w=.int (lo+i)
 |_,0,_,_,h=>by simp[rng]at h
 |lo,n+1,0,w,h=>by simp[rng]at h;show(by lia,by rw[<- h];simp)
 |lo,n+1,i+1,w,h=>by
  let:=a5w (by simpa[rng]using h)
  show(by lia,?_);rw[this.2]
  congr 1
  lia
def a8y{K:Fg}{lo:Int}:a3x K (rng lo n) (λ_=>True) (Itr lo n) H0:=λi G H b t e g=>by
 rw[a3N];show(λh=>by rw[h];show b8 _,λw d=>?_);let(a,c):=a5w d;show(a,?_);ext x f ⟨rfl,rfl⟩;show(by rw[c,a0f],b,.refl _ _)
variable{t:A3}
def iR1(t:A3):I3:=fun σ G R=>t σ G λws G1=>∃j:Int,ws=[.int j]/\-(2 ^ 62)<=j/\j<2 ^ 62/\R (rng 0 j.toNat) (λ_=>True) G1
def a8z(h:PI X tg wi (b4G (lowA X.K t))):QI X tg wi (iR1 t):=a5v h fun τ H p g=>g.un fun σ G R i d h l=>by
 show(σ,G,_,i,d,h,λq o n s (j,e,a,b,k) f c m=>?_);subst e;let(v,rfl,r):=f.one;subst r;show(j,rfl,a,b,l _ _ _ _ _ k a8y c m)
end
section
variable{tg a:Expr}{p:Pos}{t:A3}
def a6V(hg:Gl X "range")(hm:X.mg "range"=jN)(ha:QA X [a] t)(hs:gM [a] X.env=[(jP,eval a X.env,)]:=by rfl):QI X tg (.Call (.Name "range" p) [a] [] pos) (iR1 t):=a8z (a7B hg hm ha.p hs)
end
noncomputable def cap3(cap:List (Option Nat))(σ:S3):S3:=cap.map λo=>o.bind λj=>(σ[j]?).join
theorem a5x{K:Fg}(h:RSt K H σ τ):∀cap:List (Option Nat),RSt K H (cap3 cap σ) (a2m cap τ)
 |[]=>.nil
 |none::cap=>.cons (λ_ e=>nomatch e) (a5x h cap)
 |some j::cap=>.cons (λw e=>by
   let a:(σ[j]?).join=cL w:=e;let b:σ[j]?=cL (cL w):=by
    cases q:σ[j]? with
    |none=>rw[q]at a;cases a
    |some o=>rw[q]at a;cases o with
     |none=>cases a
     |some z=>cases a;rfl
   let(v,c,r):=h.get b;show(v,by change (τ[j]?).join=cL v;rw[c];rfl,r)) (a5x h cap)
theorem a2r:∀{a b:L2.St},b.length=a.length->(∀(i:Nat) v,a[i]?=cL (cL v)->b[i]?=cL (cL v))->a09 a b
 |[],[],_,_=>True.intro
 |none::a,_::b,h,k=>a2r (b:=b) ↑h λi v e=>↑(k (i+1) v ↑e)
 |some x::a,y::b,h,k=>(↑(k 0 x rfl),a2r (b:=b) ↑h λi v e=>↑(k (i+1) v ↑e))
 |[],_::_,h,_=>by simp at h
 |_::_,[],h,_=>by simp at h
def LCB(ws:List Z)(ok:Hq->Prop)(cap:List (Option Nat))(pt:Pt)(tt:T3)(te:E3)(σ:S3)(R:K3)(D:Addr)(G1:Hq):Prop:=∃I:Nat->List Z->Hq->Prop,I 0 [] (put G1 D (.lst []))/\(∀i ys G,i<=ws.length->I i ys G->ok G) /\
 (∀i x ys G,ws[i]?=cL x->I i ys G->∃σ',a2E pt x (cap3 cap σ)=cL σ'/\tt σ' G λb G4=>if b=jO then te σ' G4 λy G5=>G5 D=cL (.lst ys)/\ys.length<gI/\I (i+1) (ys++[y]) (put G5 D (.lst (ys++[y]))) else I (i+1) ys G4) /\
 ∀ys G,I ws.length ys G->R (.ref D) G
def uLC(wi:I3)(cap:List (Option Nat))(pt:Pt)(tt:T3)(te:E3):E3:=fun σ G R=>wi σ G λws ok G1=>∀D,G1 D=jN->LCB ws ok cap pt tt te σ R D G1
def a4P(I:Nat->List Z->Hq->Prop)(h0:I 0 [] (put G1 D (.lst [])))(hok:∀i ys G,i<=ws.length->I i ys G->ok G)
  (step:∀i x ys G,ws[i]?=cL x->I i ys G->∃σ',a2E pt x (cap3 cap σ)=cL σ'/\tt σ' G λb G4=>if b=jO then te σ' G4 λy G5=>G5 D=cL (.lst ys)/\ys.length<gI/\I (i+1) (ys++[y]) (put G5 D (.lst (ys++[y]))) else I (i+1) ys G4)
  (fin:∀ys G,I ws.length ys G->R (.ref D) G):LCB ws ok cap pt tt te σ R D G1:=(I,h0,hok,step,fin)
def a0C{α β:Type}{f:α->Option β}{ws:List α}{x:α}(h:ws[i]?=cL x):(ws.take (i+1)).filterMap f=(ws.take i).filterMap f++(f x).toList:=by
 rw[dh,fO,h];cases e:f x<;>simp[e]
def a8A(f:Z->Option Z)(hok:∀ys,ok (put G1 D (.lst ys)))(hz:ws.length<=1000)
  (turn:∀x,x∈ws->∀(ys:List Z)(K1:K3)(K2:Hq->Prop),(∀y,f x=cL y->K1 y (put G1 D (.lst ys)))->(f x=jN->K2 (put G1 D (.lst ys)))->∃σ',a2E pt x (cap3 cap σ)=cL σ'/\tt σ' (put G1 D (.lst ys)) λb G4=>if b=jO then te σ' G4 K1 else K2 G4)
  (fin:R (.ref D) (put G1 D (.lst (ws.filterMap f)))):LCB ws ok cap pt tt te σ R D G1:=by
 show(λi a G=>a=(ws.take i).filterMap f/\G=put G1 D (.lst a),(by simp,rfl),?_,?_,?_)
 .simp_all
 .ext i x a G c ⟨e,rfl⟩;show turn x (cx c) a _ _ (λy g=>(a0a,?_,?_,?_)) λd=>(?_,rfl)
  .rw[e];show eI (cw (dU _ _) (by rw[cz];lia)) (a0l (b8 1000))
  .rw[a0C c,g,e];rfl
  .rw[a2p]
  .rw[a0C c,d,e];simp
 .simp_all
def QIfs(X:Cx)(ifs:List Expr)(t:T3):Prop:=PIfs X ifs (lowT X.K t)
def uTT:T3:=λ_ G R=>R jO G
def b20:QIfs X [] uTT:=by ext a s τ H Q I ⟨σ,G,R,d,b,h,c⟩;show b0q a s τ H Q I (c _ _ _ h b (.refl _ _))
def a5y(h:QT X c t):QIfs X [c] t:=b0r h.p
def b21{pt:Pt}(hc:(pt.slots.all λj=>decide (cap[j]?=cL jN))=jO)(h:(a2m cap τ)[i]?=cL (cL v)):i∉pt.slots:=λa=>by
 let q:=of_decide_eq_true ((dB.mp hc) i a);unfold a2m at h;rw[cg,q]at h;cases h
def b1O{K:Fg}(hc:(pt.slots.all λj=>decide (cap[j]?=cL jN))=jO)(h:low K (uLC wi cap pt tt te) τ H Q) :
  tLC (lowI K wi) cap (gP K pt) (lowT K tt) (low K te) τ H Q:=by
 let(σ,G,R,hs,hg,h,up):=h;show(σ,G,_,hs,hg,h,λc ok G1 J H1 h1 hJ t U D B=>?_);let(I,i0,S,C,N):=h1 D (t.out B);show(λi m _ d=>m=c.length-i/\i<=c.length/\∃a G',RH K G' d/\TK K H1 d/\I i a G',(c.length,by simp,cM _,[],_,t.set (o:=.lst []) (.new B) ([],a0e,.nil),.new B,i0),?_);ext i m vs H2 ⟨rfl,w,a,f,p,g,E⟩;let n:=hJ i f H2 p g (S i a f w E) w
 by_cases hlt:i<c.length
 .let(go,yl):=n.2 _ (cu hlt);show .inr (go,λ_ d=>i+1<=c.length/\∃a G',RH K G' d/\TK K H1 d/\I _ a G',λvs' d q=>(c.length-_,by lia,rfl,q.1,q.2),λx H3 y3=>?_);let(rx,aa,F):=yl x H3 y3;let(σ',Y,h3):=C i _ a f (cu hlt) E;show b2Z rx (a5x (hs.mono ((U.trans g).trans F)) cap) Y fun τ' z M hk'=>(a2r M λj v T=>by rw[hk' j (b21 hc T)];show T,?_);show(σ',f,_,z,aa,h3,λb G4 H4 l u A=>?_);cases b with
  |false=>
   show(hlt,a,G4,u,(g.trans F).trans A,l)
  |true=>
   show(σ',G4,_,z.mono A,u,l,λy G5 v5 H5 (L,V,h5) r5 r t5=>?_);let(X,k,s):=r D _ L;show(X,k,by rw[<- s.length];show V,hlt,_,_,r.set (.lst k) (a0X (s.append (.cons r5 .nil)) (.lst k)),?_,h5);show (((g.trans F).trans A).trans t5).trans (.lst k)
 .let e:i=c.length:=by lia
  subst e;show .inl (n.1 rfl,up _ _ _ _ (N a f E) (by rw[a0g]) p (U.trans g))
section
variable{N':List Str}{sc:Scope}{cap:List (Option Nat)}{tg iter elt:Expr}{ifs:List Expr}{wi:I3}{pt:Pt}{tt:T3}{te:E3}
def q_lc(hc:X.calm=jO)(hNN:X.N=Nj)(hso:X.env.scope=so)(ck:capB Nj so sc N' cap=jO)(hp:(pt.slots.all λj=>decide (cap[j]?=cL jN))=jO)(hi:QI X tg iter wi)
  (hg:∀C s H fp,QP (cxC X E0 N' sc C s H fp) tg pt) (ht:∀C s H fp,QIfs (cxC X E0 N' sc C s H fp) ifs tt) (he:∀C s H fp,QE (cxC X E0 N' sc C s H fp) elt te)
  (hs:∀x,iC iter X.env x=pure x:=by ext _;rfl):QE X (.ListComp elt [(tg,iter,ifs,0)] sc pos) (uLC wi cap pt tt te):=⟨a0E (b7C (g:=gP X.K pt) (tt:=lowT X.K tt) hc a6a hNN hso ck hi hg ht (λC s H a=>(he C s H a).p) hs) λ_ _ _=>b1O hp⟩
def b22(hN:X.N.Nodup)(hx:X.N[i]?=cL x)(hl:X.env.scope.names.lookup x=cL .local)(hc:X.calm=jO)(hNN:X.N=Nj)(hso:X.env.scope=so)(ck:capB Nj so sc N' cap=jO)
  (hp:(pt.slots.all λj=>decide (cap[j]?=cL jN))=jO) (hi:QI X tg iter wi)
  (hg:∀C s H fp,QP (cxC X E0 N' sc C s H fp) tg pt) (ht:∀C s H fp,QIfs (cxC X E0 N' sc C s H fp) ifs tt) (he:∀C s H fp,QE (cxC X E0 N' sc C s H fp) elt te)
  (hsw:ii (.ListComp elt [(tg,iter,ifs,0)] sc pos) (cL (.Name x pos')) spos.line X.env=pure jO:=by rfl)
  (hs:∀x,iC iter X.env x=pure x:=by ext _;rfl):QS X (.Assign [.Name x pos'] (.ListComp elt [(tg,iter,ifs,0)] sc pos) spos) (uAsg (uLC wi cap pt tt te) (.nm i)):=⟨a1k (b0t (g:=gP X.K pt) (tt:=lowT X.K tt) hN hx hl hc a6a hNN hso ck hi hg ht (λC s H a=>(he C s H a).p) hsw hs) λD τ H h=>b1O hp (a5u h)⟩
end
section
variable{K:Fg}{mg:Str->Option Value}{base:Heap}
def fn3{st:Stmt}(F:Fun K x qual st f fd)(S:FnScope N ps (a0h st))(len:∀ws G R,sp ws G R->ws.length=ps.length)
  (hbody:∀(cdv:Value)(A:Around)(outer:List Env)(s:Shared)(H:Hp)(E:XK)(ws:List Z)(G:Hq)(R:K3),Room k (A.deeper (envOfC qual (a0h st) s.heap.objs.size f cdv))->sp ws G R ->
   ∃t,QSs (cxOf CX0 P w K mg base N qual (a0h st) f cdv A outer s H E).nox (a0M st) t/\t (λ_ G'=>R .non G') R (λ_ _=>False) (λ_ _=>False) (a1F N ws) G):FnOk P w K mg base CX0 (k+1) f fd ps (lowP K sp):=by
 show F.ok S (by ext n H Q E ⟨d,G,R,c,e,h,b⟩;rw[<- c.length];show len _ _ _ h) ?_;ext g A a s H n Q E j ⟨d,G,R,c,e,h,b⟩;let(t,l,q):=hbody g A a s H E d G R j h;show(_,l.p,a1F N d,G,_,R,_,_,.start c,e,q,fun σ' v τ' u m r i o=>b _ _ _ _ m (by rw[a0u]) i o,b,λ_ _ _ _ h _ _ _=>h.elim,λ_ _ _ _ h _ _ _=>h.elim)
end
def zAdd:R3:=λx y G R=>match x,y with
 |.int i,.int j=>R (.int (i+j)) G
 |.str a,.str b=>a.length+b.length<=gI/\R (.str (a++b)) G
 |.tup xs,.tup ys=>xs≠[]/\xs.length+ys.length<=gI/\R (.tup (xs++ys)) G
 |.ref p,.ref q=>∃xs ys,G p=cL (.lst xs)/\G q=cL (.lst ys)/\xs.length+ys.length<=gI/\∀t,G t=jN->R (.ref t) (put G t (.lst (xs++ys)))
 |_,_=>False
def b0A:OpQ X (gZ .Add) zAdd:=a2q (op_add.or (op_add_str.or (op_catT.or b4Y))) λx y H Q D=>D.un λa b G R c d f h m=>by
 cases a with
 |int i=>
  cases b with
  |int j=>rw[a0f]at c d;show .inl (_,_,c,d,m _ _ _ _ h (by rw[a0f]) f (.refl _ _))
  |_=>show cb h
 |str i=>
  cases b with
  |str j=>rw[a0r]at c d;show .inr (.inl (_,_,c,d,h.1,m _ _ _ _ h.2 (by rw[a0r]) f (.refl _ _)))
  |_=>show cb h
 |tup w=>
  cases b with
  |tup ws=>
   let(p,n,rfl,o,k):=c;let(q,r,rfl,u,l):=d;let(B,s,h):=h;show .inr (.inr (.inl (p,q,n,r,rfl,rfl,SqT.of o,SqT.of u,λz=>?_,by rw[<- k.length,<- l.length];show s,λz=>?_,λz t g=>?_)))
   .subst z;show B (e9.mp k.length)
   .subst z;let e:=e9.mp l.length;subst e;rw[cE]at h;show m _ _ _ _ h (by rw[a0N];show(p,n,rfl,o,k)) f (.refl _ _)
   .show m _ _ _ _ h (by rw[a0N];show(t,n++r,rfl,a0e,Reps.mono (.new g) _ _ (k.append l))) (f.hid g) (.new g)
  |_=>show cb h
 |ref p=>
  cases b with
  |ref q=>
   subst c d;let(n,r,o,u,s,h):=h;let(C,A,k):=f _ _ o;let(w,v,l):=f _ _ u;show .inr (.inr (.inr (_,_,C,w,rfl,rfl,A,v,by rw[<- k.length,<- l.length];show s,λt g=>m _ _ _ _ (h t (f.out g)) (by rw[a0g]) (f.set (.new g) (a0X (k.append l) (.new g))) (.new g))))
  |_=>show cb h
 |_=>show cb h
def zI(C:Int->Int->Prop)(g:Int->Int->Z):R3:=λx y G R=>match x,y with
 |.int i,.int j=>C i j/\R (g i j) G
 |_,_=>False
def zI0(g:Int->Int->Z):R3:=λx y G R=>match x,y with
 |.int i,.int j=>R (g i j) G
 |_,_=>False
def oI{g:Int->Int->Int}(h:OpR X f (rI C λi j=>.int (g i j))):OpQ X f (zI C λi j=>.int (g i j)):=a2q h λx y H Q l=>l.un λa b G R d c k h e=>by
 cases a<;>cases b<;>first
  |show cb h
  | (rw[a0f]at d c;show(_,_,d,c,h.1,e _ _ _ _ h.2 (by rw[a0f]) k (.refl _ _)))
def oI0{g:Int->Int->Int}(h:OpR X f (rI0 λi j=>.int (g i j))):OpQ X f (zI0 λi j=>.int (g i j)):=a2q h λx y H Q l=>l.un λa b G R d c k h e=>by
 cases a<;>cases b<;>first
  |show cb h
  | (rw[a0f]at d c;show(_,_,d,c,e _ _ _ _ h (by rw[a0f]) k (.refl _ _)))
def b7O:OpQ X (gZ .Sub) (zI0 λi j=>.int (i-j)):=oI0 b4I
def b7P:OpQ X (gZ .Mult) (zI CMul λi j=>.int (i*j)):=oI b4J
def b5w:OpQ X (gZ .FloorDiv) (zI b48 λi j=>.int (i / j)):=oI b0u
def b7Q:OpQ X (gZ .Mod) (zI (λ_ j=>0<j) λi j=>.int (i % j)):=oI b4K
def b7R:OpQ X (gZ .Pow) (zI CPow λi j=>.int (i ^ j.toNat)):=oI b4L
def a8B:OpQ X (iu .Add) (zI0 λi j=>.int (i+j)):=oI0 b2w
def zNeg:Z->Hq->K3->Prop:=λx G R=>match x with
 |.int i=>R (.int (-i)) G
 |_=>False
def b7S:UnQ X (jf .USub) zNeg:=b7D b4M λx H Q c=>c.un λa G R b d h e=>by
 cases a<;>first
  |show cb h
  | (rw[a0f]at b;show(_,b,e _ _ _ _ h (by rw[a0f]) d (.refl _ _)))
def a8C:OpR X (gQ .LtE) (λx y H Q=>∃i j,x=.str i/\y=.str j/\Q (.bl (!decide (j.cps.toList<i.cps.toList))) H):=by
 ext b s σ H x y v u Q I a c h;let(i,j,rfl,rfl,q):=h;let(t,rfl):=a;let(d,rfl):=c;show PySem.P.le_str (a0n I q rfl)
def a8D:OpR X (gQ .Gt) (λx y H Q=>∃i j,x=.str i/\y=.str j/\Q (.bl (decide (j.cps.toList<i.cps.toList))) H):=by
 ext b s σ H x y v u Q I a c h;let(i,j,rfl,rfl,q):=h;let(t,rfl):=a;let(d,rfl):=c;show PySem.P.gt_str (a0n I q rfl)
def zC(f:Int->Int->Bool)(g:Str->Str->Bool):R3:=λx y G R=>match x,y with
 |.int i,.int j=>R (.bl (f i j)) G
 |.str i,.str j=>R (.bl (g i j)) G
 |_,_=>False
def oC(h:OpR X (gQ op) (rI0 λi j=>.bl (f i j)))(h':OpR X (gQ op) (λx y H Q=>∃i j,x=.str i/\y=.str j/\Q (.bl (g i j)) H)) :
  OpQ X (gQ op) (zC f g):=a2q (h.or h') λx y H Q l=>l.un λa b G R c d e h k=>by
 cases a<;>cases b<;>first
  |show cb h
  | (rw[a0f]at c d;show .inl (_,_,c,d,k _ _ _ _ h (by rw[a0q]) e (.refl _ _)))
  | (rw[a0r]at c d;show .inr (_,_,c,d,k _ _ _ _ h (by rw[a0q]) e (.refl _ _)))
abbrev ltS(x y:Str):Bool:=decide (x.cps.toList<y.cps.toList)
def o_lt:OpQ X (gQ .Lt) (zC (λi j=>decide (i<j)) λx y=>ltS x y):=oC b7q a7H
def o_le:OpQ X (gQ .LtE) (zC (λi j=>decide (i<=j)) λx y=>!ltS y x):=oC b7r a8C
def o_gt:OpQ X (gQ .Gt) (zC (λi j=>decide (j<i)) λx y=>ltS y x):=oC b7s a8D
def zIs(neg:Bool):R3:=λx y G R=>match y with
 |.non=>R (.bl (if neg then !decide (x=.non) else decide (x=.non))) G
 |.bl b=>match x with
  |.bl a=>neg=jP/\R (.bl (a==b)) G
  |_=>False
 |_=>False
def a3O{K:Fg}(r:Rep K H jQ v):decide (v=.non)=decide (jQ=.non):=by
 cases jQ with
 |non=>rw[a0u]at r;subst r;rfl
 |bl _=>rw[a0q]at r;subst r;simp
 |int _=>rw[a0f]at r;subst r;simp
 |str _=>rw[a0r]at r;subst r;simp
 |ref _=>rw[a0g]at r;subst r;simp
 |ty _=>rw[a8k]at r;subst r;simp
 |scr _ _=>rw[a2o]at r;let(rfl,_):=r;simp
 |tup _=>rw[a0N]at r;let(_,_,rfl,_):=r;simp
mutual
def dZ:Z->PyData
 |.bl b=>.bool b
 |.int i=>.int i
 |.str x=>.str x
 |.tup ws=>.tuple (dZs ws)
 |_=>.none
def dZs:List Z->List PyData
 |[]=>[]
 |w::ws=>dZ w::dZs ws
end
noncomputable def flat:Nat->Z->Bool
 |_,.non=>jO
 |_,.int _=>jO
 |_,.str x=>PyData.strOk x
 |n+1,.tup ws=>ws.all (flat n)
 |_,_=>jP
def b1P:∀(n:Nat)(d:Z),flat n d=jO->(dZ d).canLay0=jO/\(dZ d).depth<=n:=by
 let f:∀n,(∀d,flat n d=jO->(dZ d).canLay0=jO/\(dZ d).depth<=n)->∀a:List Z,(∀d∈a,flat n d=jO)->PyData.canLayAll0 (dZs a)=jO/\PyData.depthAll (dZs a)<=n:=by
  ext n b a
  induction a with
  |nil=>ext _;simp[dZs,PyData.canLayAll0,PyData.depthAll]
  |cons d a hi=>
   ext h;let g:=b d (h d (.head _));let c:=hi λe j=>h e (.tail _ j);simp only[dZs,PyData.canLayAll0,PyData.depthAll,g.1,c.1,Bool.and_self,true_and]
   lia
 ext n
 induction n with
 |zero=>
  ext d h;cases d<;>simp_all[flat,dZ,PyData.canLay0,PyData.depth]
 |succ n b=>
  ext d h;cases d with
  |non=>simp[dZ,PyData.canLay0,PyData.depth]
  |int i=>simp[dZ,PyData.canLay0,PyData.depth]
  |str x=>simp[flat]at h;simp[dZ,PyData.canLay0,PyData.depth,h]
  |tup a=>
   let q:=f n b a (by simpa[flat]using h);simp only[dZ,PyData.canLay0,PyData.depth,q.1,true_and]
   lia
  |_=>simp[flat]at h
def a4c(n:Nat)(ds:List Z)(h:ds.all (flat n)=jO):PyData.canLayAll0 (dZs ds)=jO/\PyData.depthAll (dZs ds)<=n:=by
 let q:=b1P (n+1) (.tup ds) (by simpa[flat]using h);simp only[dZ,PyData.depth]at q;show(q.1,by lia)
def a8E:∀(n:Nat)(d e:Z)(k:Nat),flat n d=jO->flat k e=jO->(PyData.eqv (dZ d) (dZ e)=jO↔d=e):=by
 let all:∀(n:Nat),(∀d e k,flat n d=jO->flat k e=jO->(PyData.eqv (dZ d) (dZ e)=jO↔d=e))->∀(k:Nat)(ds es:List Z),(∀d∈ds,flat n d=jO)->(∀d∈es,flat k d=jO) ->
   (PyData.eqvAll (dZs ds) (dZs es)=jO↔ds=es):=by
  ext n ih k ds
  induction ds with
  |nil=>ext es _ _;cases es<;>simp[dZs,PyData.eqvAll]
  |cons d ds hi=>
   ext es h1 h2;cases es with
   |nil=>simp[dZs,PyData.eqvAll]
   |cons e es=>
    let q1:=ih d e k (h1 d (.head _)) (h2 e (.head _));let q2:=hi es (λx hx=>h1 x (.tail _ hx)) λx hx=>h2 x (.tail _ hx);simp only[dZs,PyData.eqvAll,cV,q1,q2,dC.injEq]
 ext n
 induction n with
 |zero=>
  ext d e k h1 h2;cases d<;>cases e<;>simp_all[flat,dZ,PyData.eqv]
 |succ n ih=>
  ext d e k h1 h2;cases d with
  |tup ds=>
   cases e with
   |tup es=>
    cases k with
    |zero=>simp[flat]at h2
    |succ k=>
     simp only[dZ,PyData.eqv,Z.tup.injEq];show all n ih k ds es (by simpa[flat]using h1) (by simpa[flat]using h2)
   |_=>simp_all[flat,dZ,PyData.eqv]
  |_=>cases e<;>simp_all[flat,dZ,PyData.eqv]
def b23(n k:Nat)(ds es:List Z)(h:ds.all (flat n)=jO)(h':es.all (flat k)=jO):PyData.eqvAll (dZs ds) (dZs es)=jO↔ds=es:=by
 let q:=a8E (n+1) (.tup ds) (.tup es) (k+1) (by simpa[flat]using h) (by simpa[flat]using h');simpa only [dZ,PyData.eqv,Z.tup.injEq]using q
section
variable{K:Fg}
def b0B:∀(n:Nat)(w:Z)(v:V),flat n w=jO->Rep K H w v->DV H (dZ w) v:=by
 let g:∀n,(∀w v,flat n w=jO->Rep K H w v->DV H (dZ w) v)->∀b c,(∀d∈b,flat n d=jO)->Reps K H b c->DVs H (dZs b) c:=by
  ext n f b
  induction b with
  |nil=>ext c _ r;show r
  |cons w b hi=>
   ext c h r;let(v,j,e,o,l):=r;show(v,j,e,f w v (h w (.head _)) o,hi j (λd k=>h d (.tail _ k)) l)
 ext n
 induction n with
 |zero=>
  ext w v h r;cases w with
  |non=>rw[a0u]at r;show r
  |int i=>rw[a0f]at r;show r
  |str x=>rw[a0r]at r;show r
  |_=>simp[flat]at h
 |succ n f=>
  ext w v h r;cases w with
  |non=>rw[a0u]at r;show r
  |int i=>rw[a0f]at r;show r
  |str x=>rw[a0r]at r;show r
  |tup b=>
   let(a,c,e,p,m):=r;show(a,c,e,p,g n f b c (by simpa[flat]using h) m)
  |_=>simp[flat]at h
def a8F(n:Nat):∀(ws:List Z)(vs:List V),ws.all (flat n)=jO->Reps K H ws vs->DVs H (dZs ws) vs:=by ext z0;induction z0 with
 |nil=>ext vs _ r;rw[a0i]at r;simp only[dZs];unfold DVs;show r
 |cons w ws I0=>
  ext vs h r;let(v,a,e,b,c):=r;rw[cB,cV]at h;show(v,a,e,b0B n w v h.1 b,I0 a h.2 c)
end
def a1N(h:flat n jQ=jO)(hn:n<=64):SeqAt.shaped (dZ jQ)=jO:=by
 let q:=b1P n jQ h;unfold SeqAt.shaped;rw[q.1,cO];show decide_eq_true (by lia)
def a1O(h:ws.all (flat n)=jO)(hn:n<=63):SeqAt.shaped (.list (dZs ws))=jO:=by
 let q:=a4c n ws h;unfold SeqAt.shaped;simp only[PyData.canLay0,PyData.depth,q.1];show decide_eq_true (by lia)
def a5z{p:Prop}[Decidable p](h:a=jO↔p):a=decide p:=by
 cases a with
 |true=>show (decide_eq_true (h.mp rfl)).symm
 |false=>show (decide_eq_false λq=>by cases h.mpr q).symm
def a0L{p q:Prop}[Decidable p][Decidable q](h:p=q):decide p=decide q:=by grind
def zEq(f:Bool->Bool):R3:=λx y G R=>match x,y with
 |.bl a,.bl b=>R (.bl (f (a==b))) G
 |.int a,.int b=>R (.bl (f (decide (a=b)))) G
 |.str a,.str b=>R (.bl (f (decide (a=b)))) G
 |.ref p,.ref q=>∃xs ys,G p=cL (.lst xs)/\G q=cL (.lst ys)/\xs.all (flat 8)=jO/\ys.all (flat 8)=jO/\R (.bl (f (decide (xs=ys)))) G
 |x,y=>flat 8 x=jO/\flat 8 y=jO/\R (.bl (f (decide (x=y)))) G
def b1Q{K:Fg}(h:low2 K (zEq f) x y H Q) :
    (scal x y=jO/\Q (.bl (f (decide (x=y)))) H)\/∃d e,DV H d x/\DV H e y/\SeqAt.shaped d=jO/\SeqAt.shaped e=jO/\Q (.bl (f (PyData.eqv d e))) H:=by
  let(a,b,G,R,g,c,i,h,j):=h;let p:flat 8 a=jO/\flat 8 b=jO/\R (.bl (f (decide (a=b)))) G->∃d e,DV H d x/\DV H e y/\SeqAt.shaped d=jO/\SeqAt.shaped e=jO/\Q (.bl (f (PyData.eqv d e))) H:=by
    ext⟨n,m,w⟩;show(dZ a,dZ b,b0B 8 _ _ n g,b0B 8 _ _ m c,a1N n (by simp),a1N m (by simp),?_);rw[a5z (a8E 8 a b 8 n m)];show j _ _ _ _ w (by rw[a0q]) i (.refl _ _)
  cases a<;>cases b<;>first
    |show .inr (p h)
    | (rw[a0q]at g c;subst g c;show .inl (rfl,by rw[a7E];show j _ _ _ _ h (by rw[a0q]) i (.refl _ _)))
    | (rw[a0f]at g c;subst g c;show .inl (rfl,by rw[a0L (V.int.injEq _ _)];show j _ _ _ _ h (by rw[a0q]) i (.refl _ _)))
    | (rw[a0r]at g c;subst g c;show .inl (rfl,by rw[a0L (V.str.injEq _ _)];show j _ _ _ _ h (by rw[a0q]) i (.refl _ _)))
    | (rw[a0g]at g c
       subst g c;let(r,s,t,z,k,l,h):=h;let(u,q,v):=i _ _ t;let(B,o,A):=i _ _ z;show .inr (.list _,.list _,?_,?_,a1O k (by simp),a1O l (by simp),?_);show(_,u,rfl,q,a8F 8 _ _ k v);show(_,B,rfl,o,a8F 8 _ _ l A)
       . simp only[PyData.eqv]
         rw[a5z (b23 8 8 r s k l)];show j _ _ _ _ h (by rw[a0q]) i (.refl _ _))
def o_eq(hu:X.A.units+66<cLine):OpQ X (gQ .Eq) (zEq id):=a2q (op_eq.or (b1G hu)) λx y H Q h=>b1Q h
def o_ne(hu:X.A.units+66<cLine):OpQ X (gQ .NotEq) (zEq not):=a2q (op_ne.or (b1H hu)) λx y H Q h=>b1Q h
def zIn(f:Bool->Bool):R3:=λx y G R=>match x,y with
 |.str a,.str b=>R (.bl (f (!(gY.Str.occurrences b a 0 b.length 1).isEmpty))) G
 |x,.ref q=>∃ws,G q=cL (.lst ws)/\flat 8 x=jO/\ws.all (flat 8)=jO/\R (.bl (f (decide (x∈ws)))) G
 |x,.tup ws=>flat 8 x=jO/\ws.all (flat 8)=jO/\R (.bl (f (decide (x∈ws)))) G
 |_,_=>False
def b24(x:Z)(hx:flat 8 x=jO):∀ws:List Z,ws.all (flat 8)=jO->((dZs ws).any λy=>PyData.eqv y (dZ x))=decide (x∈ws):=by ext z0;induction z0 with
 |nil=>ext _;simp[dZs]
 |cons w ws I0=>
  ext h;rw[cB,cV]at h;simp only[dZs,dS];rw[I0 h.2,a5z (a8E 8 w x 8 h.1 hx)]
  by_cases e:w=x
  .simp_all
  .let:¬ x=w:=λz=>e z.symm
   simp[e,this]
def b5x(hf:∀b,f b=if neg=jO then !b else b){K:Fg}(h:low2 K (zIn f) x y H Q) :
  (∃i j,x=.str i/\y=.str j/\Q (.bl (f (!(gY.Str.occurrences j i 0 j.length 1).isEmpty))) H)\/rInD neg x y H Q:=by
 let(a,b,G,R,o,m,r,h,t):=h;let s:∀p c d,y=.ref p->_->Reps K H c d->flat 8 a=jO->c.all _=jO->R _ G->rInD neg x y H Q:=λp c d e w n k g h=>by
  show(dZ a,p,dZs c,d,b0B 8 _ _ k o,e,w,a8F 8 _ _ g n,a1N k (by simp),a1O g (by simp),?_);rw[b24 a k c g,<- hf];show t _ _ _ _ h (by rw[a0q]) r (.refl _ _)
 cases b with
 |str j=>
  cases a with
  |str i=>rw[a0r]at o m;show .inl (_,_,o,m,t _ _ _ _ h (by rw[a0q]) r (.refl _ _))
  |_=>show cb h
 |ref q=>
  let l:∃c,G q=cL (.lst c)/\flat 8 a=jO/\c.all (flat 8)=jO/\R (.bl (f (decide (a∈c)))) G:=by cases a<;>show h
  let(c,e,k,g,l):=l;let(d,u,n):=r q _ e;show .inr (s q c d m (.inl u) n k g l)
 |tup c=>
  let(q,d,e,v,n):=m;let l:flat 8 a=jO/\c.all (flat 8)=jO/\R (.bl (f (decide (a∈c)))) G:=by cases a<;>show h
  let(k,g,l):=l;show .inr (s q c d e (.inr v) n k g l)
 |_=>cases a<;>show cb h
def b25(hu:X.A.units+66<cLine):OpQ X (gQ .NotIn) (zIn not):=a2q (op_notin_str.or (a8g hu)) λx y H Q h=>b5x (λb=>by simp) h
noncomputable def Its(x:Str):It:=(λi _=>i<x.cps.size,λi H v H'=>H'=H/\∃c,x.cps[i]?=cL c/\v=.str ⟨#[c]⟩,λi _=>i=x.cps.size)
theorem a6g{P:gO}{w:World}{K:Fg}{tg:Expr}{it:Addr}{ty:String}{x:Str}{t:Tok}
  (hty:["enumerate","zip","dict_itemiterator","dict_reverseitemiterator","odict_iterator","itertools.zip_longest","itertools.pairwise"].contains ty=jP)
  (W:∀A':Around,A'.handled=jN->Walks P w A' it [it] [it] x.cps.size (SignAt x) (λi h=>h.IsStrIter it ty x t i))
  (hself:∀(A:Around)(i:Nat)(s:Shared)(Q:Value->Shared->Prop)(E:Value->Shared->Prop),s.heap.IsStrIter it ty x t i->Q (.ref it) s->wpAny (model P w) A (pyIter (.ref it)) Q E s) :
  Turn P w K tg (Its x) [it] it (λi h=>h.IsStrIter it ty x t i) where
 mem:=by simp
 obj:=λi h st b hb=>by
  let e:b=it:=↑hb
  subst e;let(o,e,c,d):=st;show(o,e,λv z=>by rw[d]at z;cases z)
 keep:=λi h h' st k=>let (o,e,r):=st;(o,k it (by simp) o e,r)
 item:=by
  ext X hP hw hK hc i pins s σ H E I hf st hg;subst hP hw hK;let(f0,f1,f2,f3,f4,f5):=hf it (by simp);show (W X.A (I.ok.hd hc)).item i s _ _ hg st λv h' tk (c,u,hx,e) st' k=>?_;subst e;let I1:Inv X pins σ H { s with heap:=h',toks:=tk }:=I.turned (t':=tk) (λb o hb e=>k b o ↑hb e) f0 f1 f3 f4 f5;let(o,e,cl,d):=id st';show(_,rfl,a7z (s:={ s with heap:=h',toks:=tk }) e cl d hty (.str ⟨#[c]⟩,H,I1,(_,rfl),(rfl,c,hx,rfl),st',λb hb=>(hf b hb).1))
 done:=by
  ext X hP hw hK hc i pins s σ H E I hf st hg;subst hP hw hK;let(f0,f1,f2,f3,f4,f5):=hf it (by simp);let hg':i=x.cps.size:=hg;subst hg';show (W X.A (I.ok.hd hc)).done s _ _ st λh' tk k=>(rfl,I.turned (t':=tk) (λb o hb e=>k b o ↑hb e) f0 f1 f3 f4 f5)
 self:=hself
def iStr(tl:TE):TI:=fun σ H R=>tl σ H λv H1=>∃x,v=.str x/\R (Its x) H1
def b5y(hl:PE X l tl):PI X tg l (iStr tl):=by
 ext c s σ H R I h;show thn (hl c s σ H _ I h) λv a (x,f,d,p,m)=>?_;let(y,e,q):=m;subst e;let(t,rfl):=p;let j:∀(o:Obj),∀b∈[a.heap.objs.size],FpOk X c f b:=λo b k=>by
  let e:b=a.heap.objs.size:=↑k
  subst e;show d.fpOk (b8 _) (d.hok.fresh (b8 _))
 cases ha:y.cps.all _
 .show wpAny_pyIter_wide ha ?_;show(a.heap.objs.size,[a.heap.objs.size],_,_,f,rfl,d.kept (λb o e=>Heap.get?_push_of_some _ e),a6g (by decide) (λn i=>Walks.strWide i _ y t) (λ_ _ _ _ _ g h=>wpAny_pyIter_striter_wide g h),
   (_,Heap.get?_push_size _ rfl,rfl,rfl),j default,q)
 .show wpAny_pyIter_ascii ha ?_;show(a.heap.objs.size,[a.heap.objs.size],_,_,f,rfl,d.kept (λb o e=>Heap.get?_push_of_some _ e),a6g (by decide) (λn i=>Walks.strAscii i _ y t) (λ_ _ _ _ _ g h=>wpAny_pyIter_striter_ascii g h),
   (_,Heap.get?_push_size _ rfl,rfl,rfl),j default,q)
theorem Vals.tog:∀{xs:List V}{us:List Value}{i:Nat}{u:Value},Vals xs us->us[i]?=cL u->∃x,xs[i]?=cL x/\RelV x u
 |_,_,_,_,.nil,e=>by simp at e
 |_,_,0,_,.cons r _,e=>by simp at e;subst e;show(_,rfl,r)
 |_,_,i+1,u,.cons _ t,e=>by
  let(x,a,b):=Vals.tog t ↑e;show(x,↑a,b)
def a8G(bs:List Bool):(d6 bs.length).all (λi=>bs.getD i jP)=bs.all id:=by
 rw[dN];simp only[dB,fE,id]
 constructor
 .ext h b c;let(i,a,e):=List.getElem_of_mem c
  let:=h i a
  rw[fP,cu a]at this;rw[<- e];show this
 .ext h i a;rw[fP,cu a];show h _ (ff a)
def a8H(hc:X.calm=jO):CallR X (.builtin "all") (λxs H Q=>∃(p:Addr)(bs:List Bool),xs=[.ref p]/\SqL X.K H p (bs.map V.bl)/\Q (.bl (bs.all id)) H):=by
 ext n s σ H M R Q I r h;let(p,a,rfl,E,q):=h;let(u,rfl,y):=a2C r;cases y;let(d,l,g,_):=I.list E;let B:p<s.heap.objs.size:=by let(o,_,e,_):=g;show Heap.lt_size e
 show call_all_walk (jx g.isList ?_);let D:X.A.in1.handled=jN:=I.ok.hd hc;let t:(s.heap.push { cls:=.type "list_iterator",data:=.fields #[.ref p,rawInt 0] }).IsList p d.toArray:=by
  let(o,e,c):=g.isList;show(o,Heap.get?_push_of_some _ e,c)
 show(_,_,_,_,_,_,λi=>a.getD i jP,rfl,Walks.list D s.heap.objs.size p (cv B) d.toArray,((_,Heap.get?_push_size _ rfl,rfl,rfl),t),?_,?_)
 .ext i v N L J C j;let(x,f,w):=Vals.tog l ↑C;rw[cg]at f;cases hb:a[i]? with
  |none=>rw[hb]at f;cases f
  |some b=>
   rw[hb]at f;cases f;cases w;show iz ?_
   let:a.getD i jP=b:=by simp_all
   dsimp only at j;rw[this]at j;show j
 .ext G F k;let e:(d6 d.toArray.size).all (λi=>a.getD i jP)=a.all id:=by
   let z:d.toArray.size=a.length:=by rw[cN,<- l.length,b7]
   rw[z];show a8G a
  rw[e];show(.bl _,H,I.kept (λb o m=>k b o ↑(cv (Heap.lt_size m)) (Heap.get?_push_of_some _ m)),rfl,q)
def b5z:OpR X (gQ .Is) (λx y H Q=>∃a b,x=.bl a/\y=.bl b/\Q (.bl (a==b)) H):=by
 ext d s σ H x y v u Q I c e h;let(a,b,rfl,rfl,q):=h;cases c;cases e;show wpAny_is_plain rfl (a0n I q (by cases a<;>cases b<;>rfl))
def rSlS:V->Option Int->Option Int->Hp->VK->Prop:=λx lo hi H Q=>∃z,x=.str z/\z.length<=gI/\Q (.str (Txt.slice z lo hi)) H
def b5A:SlR X rSlS:=by
 ext g s σ H x v A B f b C Q I w p y m h;let(z,rfl,r,q):=h;let(t,rfl):=w;let(o,e,c,d):=p;let a:∀f b,Q _ H->(Txt.slice z f b).length<=gI/\∀n k,EP X g σ Q (.str (Txt.slice z f b) n) { s with toks:=k }:=λf b q=>
  (cw (Txt.slice_le z _ _) r,λn k=>(.str _,H,I.tok k,(_,rfl),q))
 cases y with
 |none=>
  cases m with
  |none=>show("str",_,F.slot_str_getitem.lookup,iI _ _ _,jm (l:=jN) (u:=jN) (st:=jN) (o,e,c,d) rfl (jo (a _ _ q)))
  |int j u=>show("str",_,F.slot_str_getitem.lookup,iI _ _ _,jm (l:=jN) (u:=cL (j,u,)) (st:=jN) (o,e,c,d) rfl (jo (a _ _ q)))
 |int i v=>
  cases m with
  |none=>show("str",_,F.slot_str_getitem.lookup,iI _ _ _,jm (l:=cL (i,v,)) (u:=jN) (st:=jN) (o,e,c,d) rfl (jo (a _ _ q)))
  |int j u=>show("str",_,F.slot_str_getitem.lookup,iI _ _ _,jm (l:=cL (i,v,)) (u:=cL (j,u,)) (st:=jN) (o,e,c,d) rfl (jo (a _ _ q)))
def o_is:OpQ X (gQ .Is) (zIs jP):=a2q (op_isN.or b5z) λx y H Q g=>g.un λa b G R d c e h f=>by
 cases b with
 |non=>rw[a0u]at c;show .inl (c,by rw[a3O d];show f _ _ _ _ h (by rw[a0q];rfl) e (.refl _ _))
 |bl b=>
  cases a with
  |bl a=>rw[a0q]at d c;show .inr (_,_,d,c,f _ _ _ _ h.2 (by rw[a0q]) e (.refl _ _))
  |_=>show cb h
 |_=>show cb h
def b26:OpQ X (gQ .IsNot) (zIs jO):=a2q b2x λx y H Q d=>d.un λa b G R g c e h f=>by
 cases b with
 |non=>rw[a0u]at c;show(c,by rw[a3O g];show f _ _ _ _ h (by rw[a0q];rfl) e (.refl _ _))
 |bl b=>
  cases a with
  |bl a=>show nomatch h.1
  |_=>show cb h
 |_=>show cb h
def zIx:R3:=λx y G R=>match x,y with
 |.ref p,.int i=>∃ws w,G p=cL (.lst ws)/\atI ws i=cL w/\R w G
 |.scr _ ns,.int i=>∃n,atI ns i=cL n/\R (.int n) G
 |.tup ws,.int i=>∃w,atI ws i=cL w/\R w G
 |.str z,.int i=>∃c,z.length<=gI/\atI z.cps.toList i=cL c/\R (.str ⟨#[c]⟩) G
 |_,_=>False
def a8I{K:Fg}(r:Reps K H ws vs)(h:atI ws i=cL jQ):∃v,atI vs i=cL v/\Rep K H jQ v:=by
 unfold atI at h ⊢;rw[<- r.length];cases e:ixN ws.length i with
 |none=>rw[e]at h;cases h
 |some j=>
  rw[e]at h;show r.get h
def b27{α β:Type}{f:α->β}{xs:List α}{x:α}(h:atI xs i=cL x):atI (xs.map f) i=cL (f x):=by
 unfold atI at h ⊢;rw[b7];cases e:ixN xs.length i with
 |none=>rw[e]at h;cases h
 |some j=>
  rw[e]at h;let a:xs[j]?=cL x:=h
  change _[j]?=cL _
  rw[cg,a];rfl
def x_ix:IxQ X zIx:=b2N b4W λx y H Q s=>s.un λa b G R d f g h i=>by
  cases a<;>cases b<;>first
    |show cb h
    | (rw[a0g]at d
       let(z,w,e,m,h):=h;let(q,k,j):=g _ _ e;let(v,o,l):=a8I j m;show .inl (_,_,_,v,d,f,SqL.of k,o,i _ _ _ _ h l g (.refl _ _)))
    | (rw[a2o]at d
       let(n,u,h):=h;show .inl (_,_,_,_,d.1,f,d.2.sq,b27 u,i _ _ _ _ h (by rw[a0f]) g (.refl _ _)))
    | (rw[a0N]at d
       let(p,q,e,k,j):=d;let(w,m,h):=h;let(v,o,l):=a8I j m;show .inr (.inl (p,q,_,v,e,f,SqT.of k,o,i _ _ _ _ h l g (.refl _ _))))
    | (rw[a0r]at d
       let(c,r,t,h):=h;show .inr (.inr (_,_,c,d,f,r,t,i _ _ _ _ h (by rw[a0r]) g (.refl _ _))))
noncomputable def cutZ{α:Type}(xs:List α)(lo hi:Option Int):List α:=(xs.drop (HT.sIx xs.length 0 lo)).take (HT.sIx xs.length xs.length hi-HT.sIx xs.length 0 lo)
def b28(xs:List V)(lo hi:Option Int):cutV xs lo hi=cutZ xs lo hi:=rfl
def Reps.cut{K:Fg}(r:Reps K H ws vs)(lo hi:Option Int):Reps K H (cutZ ws lo hi) (cutV vs lo hi):=by
 unfold cutZ cutV;rw[<- r.length];show (r.drop _).take _
def b0C{α β:Type}(f:α->β)(xs:List α)(lo hi:Option Int):cutZ (xs.map f) lo hi=(cutZ xs lo hi).map f:=by
 unfold cutZ;rw[b7,List.map_take,List.map_drop]
def zSl:L3r:=λx lo hi G R=>match x with
 |.ref p=>∃ws,G p=cL (.lst ws)/\∀t,G t=jN->R (.ref t) (put G t (.lst (cutZ ws lo hi)))
 |.scr _ ns=>∀t,G t=jN->R (.ref t) (put G t (.lst ((cutZ ns lo hi).map Z.int)))
 |.tup ws=>¬ (HT.sIx ws.length 0 lo=0/\HT.sIx ws.length ws.length hi=ws.length)/\R (.tup (cutZ ws lo hi)) G
 |.str z=>z.length<=gI/\R (.str (Txt.slice z lo hi)) G
 |_=>False
def x_sl:SlQ X zSl:=b7I (sl_list.or (sl_tup.or b5A)) λx l k H Q m=>m.un λa G R c d h g=>by
 cases a with
 |ref p=>
  let(n,e,h):=h;let(j,i,f):=d _ _ e;show .inl (p,j,c,SqL.of i,λt b=>g _ _ _ _ (h t (d.out b)) (by rw[a0g]) (d.set (.new b) (a0X (f.cut l k) (.new b))) (.new b))
 |scr p ns=>
  show .inl (p,_,c.1,c.2.sq,λt b=>?_);rw[b28,b0C];show g _ _ _ _ (h t (d.out b)) (by rw[a0g]) (d.set (.new b) (a0X (a29 _) (.new b))) (.new b)
 |tup n=>
  let(p,j,e,i,f):=c;show .inr (.inl (p,j,e,SqT.of i,by rw[<- f.length];show h.1,λt b=>g _ _ _ _ h.2 (by rw[a0N];show(t,_,rfl,a0e,(f.cut l k).mono (.new b))) (d.hid b) (.new b)))
 |str z=>
  show .inr (.inr (z,c,h.1,g _ _ _ _ h.2 (by rw[a0r]) d (.refl _ _)))
 |_=>show cb h
def zSet:Z3:=λo i v G R=>match o,i with
 |.ref p,.int k=>∃ws j,G p=cL (.lst ws)/\ixN ws.length k=cL j/\R (put G p (.lst (ws.set j v)))
 |_,_=>False
def b7T:SetQ X zSet:=b1M b0h λo i v H Q p=>p.un λa b w G R f g l k h q=>by
  cases a<;>cases b<;>first
    |show cb h
    | (rw[a0g]at f
       let(r,j,e,m,h):=h;let(n,c,d):=k _ _ e;show(_,n,_,j,f,g,c,by rw[<- d.length];show m,q _ _ h (k.set (.lst c) (a0X (d.set l j) (.lst c))) (.lst c)))
def zLen:List Z->Hq->K3->Prop:=λxs G R=>match xs with
 |[.str z]=>z.length<=gI/\R (.int z.length) G
 |[.ref p]=>∃ws,G p=cL (.lst ws)/\R (.int ws.length) G
 |[.tup ws]=>R (.int ws.length) G
 |[.scr _ ns]=>R (.int ns.length) G
 |_=>False
def b5B:a1p X (.builtin "len") zLen:=a0W a99 λl H Q k=>k.un λj G R c a h d=>by
 match j,h with
 |[.str z],h=>
  let(v,rfl,r):=c.one;show(v,z.length,rfl,by rw[r];show(h.1,rfl),d _ _ _ _ h.2 (by rw[a0f]) a (.refl _ _))
 |[.ref p],h=>
  let(v,rfl,r):=c.one;let(i,e,h):=h;let(g,f,b):=a _ _ e;show(v,i.length,rfl,by rw[r];show .inl (g,SqL.of f,b.length),d _ _ _ _ h (by rw[a0f]) a (.refl _ _))
 |[.tup i],h=>
  let(v,rfl,r):=c.one;let(p,g,e,f,b):=r;show(v,i.length,rfl,by rw[e];show .inr (g,SqT.of f,b.length),d _ _ _ _ h (by rw[a0f]) a (.refl _ _))
 |[.scr p ns],h=>
  let(v,rfl,r):=c.one;show(v,ns.length,rfl,by rw[r.1];show .inl (_,r.2.sq,(b7 ..).symm),d _ _ _ _ h (by rw[a0f]) a (.refl _ _))
def zMM(f:Int->Int->Int):List Z->Hq->K3->Prop:=λxs G R=>match xs with
 |[.int i,.int j]=>R (.int (f i j)) G
 |_=>False
def bMM{id:String}(hf:CallR X (.builtin id) (λxs H Q=>∃i j,xs=[.int i,.int j]/\Q (.int (f i j)) H)):a1p X (.builtin id) (zMM f):=a0W hf λl H Q d=>d.un λc G R e b h g=>by
 match c,h with
 |[.int i,.int j],h=>
  let(v,k,rfl,r,a):=e.two;show(i,j,by rw[r,a],g _ _ _ _ h (by rw[a0f]) b (.refl _ _))
def b7U(hc:X.calm=jO):a1p X (.builtin "max") (zMM λi j=>if j > i then j else i):=bMM (a7K hc)
def b7V(hc:X.calm=jO):a1p X (.builtin "min") (zMM λi j=>if j<i then j else i):=bMM (a7L hc)
def zAll:List Z->Hq->K3->Prop:=λxs G R=>match xs with
 |[.ref p]=>∃bs:List Bool,G p=cL (.lst (bs.map Z.bl))/\R (.bl (bs.all id)) G
 |_=>False
def b0D{K:Fg}:∀{bs:List Bool}{vs:List V},Reps K H (bs.map Z.bl) vs->vs=bs.map V.bl:=by ext z0;induction z0 with
 |nil=>ext vs h;rw[cI,a0i]at h;subst h;rfl
 |cons n ns I0=>
  ext vs h;let(v,r,rfl,a,b):=h;rw[a,I0 b];rfl
def b5C(hc:X.calm=jO):a1p X (.builtin "all") zAll:=a0W (a8H hc) λl H Q f=>f.un λd G R c a h j=>by
 match d,h with
 |[.ref p],h=>
  let(v,rfl,r):=c.one;let(g,e,h):=h;let(k,i,b):=a _ _ e
  let:=b0D b
  subst this;show(p,g,by rw[r],SqL.of i,j _ _ _ _ h (by rw[a0q]) a (.refl _ _))
def b5D:List Z->Hq->K3->Prop:=λxs G R=>match xs with
 |[.ref p]=>∃ws,G p=cL (.lst ws)/\∀t,G t=jN->R (.ref t) (put G t (.lst ws))
 |[.tup ws]=>∀t,G t=jN->R (.ref t) (put G t (.lst ws))
 |[.scr _ ns]=>∀t,G t=jN->R (.ref t) (put G t (.lst (ns.map Z.int)))
 |_=>False
def b5E:a1p X (.type "list") b5D:=a0W a4I λm H Q j=>j.un λl G R i b h f=>by
 match l,h with
 |[.ref p],h=>
  let(v,rfl,r):=i.one;let(k,e,h):=h;let(d,g,c):=b _ _ e;show(p,d,by rw[r],.inl (SqL.of g),λt a=>f _ _ _ _ (h t (b.out a)) (by rw[a0g]) (b.set (.new a) (a0X c (.new a))) (.new a))
 |[.tup k],h=>
  let(v,rfl,r):=i.one;let(p,d,e,g,c):=r;show(p,d,by rw[e],.inr (SqT.of g),λt a=>f _ _ _ _ (h t (b.out a)) (by rw[a0g]) (b.set (.new a) (a0X c (.new a))) (.new a))
 |[.scr p ns],h=>
  let(v,rfl,r):=i.one;show(p,_,by rw[r.1],.inl r.2.sq,λt a=>f _ _ _ _ (h t (b.out a)) (by rw[a0g]) (b.set (.new a) (a0X (a29 _) (.new a))) (.new a))
noncomputable def kit0(n T:String):Option Bool:=if (Value.type n==Value.type T)=jO then cL jO else if PySem.W.kitMeta T=jO then (PySem.fastBuiltinMro n).map (·.contains (.type T)) else jN
def b5F{K:Fg}:PySem.W.kitOne K (.type n) (.type T)=kit0 n T:=rfl
noncomputable def tyN(G:Hq):Z->Option String
 |.non=>cL "NoneType"
 |.bl _=>cL "bool"
 |.int _=>cL "int"
 |.str _=>cL "str"
 |.tup _=>cL "tuple"
 |.ref p=>match G p with
  |some (.lst _)=>cL "list"
  |some (.dK _)=>cL "dict"
  |_=>jN
 |_=>jN
def zIsT:List Z->Hq->K3->Prop:=λxs G R=>match xs with
 |[x,.ty T]=>∃n b,tyN G x=cL n/\kit0 n T=cL b/\R (.bl b) G
 |_=>False
def b0E{K:Fg}(h:tyN G x=cL n)(r:Rep K H x v)(hg:RH K G H):TyOf K H v (.type n):=by
 cases x with
 |non=>rw[a0u]at r;subst r;cases h;show .non
 |bl _=>rw[a0q]at r;subst r;cases h;show .bl _
 |int _=>rw[a0f]at r;subst r;cases h;show .int _
 |str _=>rw[a0r]at r;subst r;cases h;show .str _
 |tup ws=>rw[a0N]at r;let(a,c,rfl,e,_):=r;cases h;show .tup e
 |ref p=>
  subst r;cases e:G p with
  |none=>simp[tyN,e]at h
  |some o=>
   cases o with
   |lst ws=>simp[tyN,e]at h;subst h;let(c,b,_):=hg _ _ e;show .lst b
   |dK kvs=>simp[tyN,e]at h;subst h;let(c,b,_):=hg _ _ e;show .dK b
   |ins C dx fs=>simp[tyN,e]at h
   |dF kvs=>simp[tyN,e]at h
   |dT ks=>simp[tyN,e]at h
   |tab _ _=>simp[tyN,e]at h
 |ty _=>cases h
 |scr _ _=>cases h
def b7W:a1p X (.builtin "isinstance") zIsT:=a0W b0v λl H Q g=>g.un λf G R d a h i=>by
 match f,h with
 |[x,.ty T],h=>
  let(v,j,rfl,r,c):=d.two;let(n,b,e,k,h):=h;show(v,T,.type n,b,by rw[c],b0E e r a,by rw[b5F];show k,i _ _ _ _ h (by rw[a0q]) a (.refl _ _))
def a5A:Z->List Z->Hq->K3->Prop:=λx xs G R=>match x,xs with
 |.ref p,[y]=>∃ws,G p=cL (.lst ws)/\ws.length<gI/\R .non (put G p (.lst (ws++[y])))
 |_,_=>False
def a4d:MtQ X "list.append" a5A:=a8n a4J λx n H Q j=>j.un λw k G R c f d h l=>by
 match w,k,h with
 |.ref p,[y],h=>
  let(v,rfl,r):=f.one;let(m,e,g,h):=h;let(i,a,b):=d _ _ e;show(p,i,v,c,rfl,a,by rw[<- b.length];show g,l _ _ _ _ h (by rw[a0u]) (d.set (.lst a) (a0X (b.append (.cons r .nil)) (.lst a))) (.lst a))
def a8J:Z->List Z->Hq->K3->Prop:=λx xs G R=>match x,xs with
 |.ref p,[.ref q]=>∃ws ys,G p=cL (.lst ws)/\G q=cL (.lst ys)/\ws.length+ys.length<=gI/\R .non (put G p (.lst (ws++ys)))
 |_,_=>False
def b0F:MtQ X "list.extend" a8J:=a8n a71 λx u H Q m=>m.un λw n G R d i f h s=>by
 match w,n,h with
 |.ref p,[.ref q],h=>
  let(v,rfl,r):=i.one;let(t,y,e,k,j,h):=h;let(l,a,c):=f _ _ e;let(o,g,b):=f _ _ k;show(p,q,l,o,d,by rw[r],a,g,by rw[<- c.length,<- b.length];show j,s _ _ _ _ h (by rw[a0u]) (f.set (.lst a) (a0X (c.append b) (.lst a))) (.lst a))
def b5G:E3:=λ_ G R=>∀p,G p=jN->R (.ref p) (put G p (.dK []))
def b5H:QE X (.Dict [] [] pos) b5G:=⟨a0E b0l fun τ H Q (σ,G,R,d,b,h,c) p a=>c _ _ _ _ (h p (b.out a)) (by rw[a0g]) (b.set (.new a) ([],a0e,rfl,.nil)) (.new a)⟩
noncomputable def a2G(x:Str):List Z:=x.cps.toList.map λc=>.str ⟨#[c]⟩
def wkS(x:Z)(G:Hq)(R:List Z->(Hq->Prop)->Hq->Prop):Prop:=match x with
 |.str z=>R (a2G z) (λ_=>True) G
 |_=>False
def iS(tl:E3):I3:=fun σ G R=>tl σ G λx G1=>wkS x G1 R
def a8K{K:Fg}:a3x K (a2G x) (λ_=>True) (Its x) H0:=λi G H f t j k=>by
 let e:(a2G x).length=x.cps.size:=by unfold a2G;rw[b7,d8]
 show(λh=>by rw[h,e];rfl,λw a=>?_);unfold a2G at a;rw[cg]at a;cases hc:x.cps.toList[i]? with
 |none=>rw[hc]at a;cases a
 |some c=>
  rw[hc]at a;cases a;let b:x.cps[i]?=cL c:=by simp_all
  show((eK.mp b).1,?_);ext v l ⟨rfl,g,d,rfl⟩;rw[b]at d;cases d;show(by rw[a0r],f,.refl _ _)
def b5I(hl:QE X l tl):QI X tg l (iS tl):=a5v (b5y hl.p) fun τ H j g=>g.un fun σ G R f e h i=>by
 show(σ,G,_,f,e,h,λw m v k a c b d=>?_);cases w with
 |str x=>
  show(x,c,i _ _ _ _ _ a a8K b d)
 |_=>show cb a
section
variable{σ:S3}{G:Hq}{R:K3}{Rb:Bool->Hq->Prop}{Ra:List Z->Hq->Prop}{nx bk ct:C3}{rt:K3}{t u:X3}{te ta tb tc ti:E3}{c d:T3}{al:A3}{r r':R3}{w x y:Z}{i:Nat}
def b7X(e:σ[i]?=cL (cL w))(h:R w G):uVar i σ G R:=(w,e,h)
def i_c(h:R w G):uC w σ G R:=h
def i_op(h:ta σ G λx G1=>tb σ G1 λy G2=>r x y G2 R):uOp r ta tb σ G R:=h
def i_un{r:Z->Hq->K3->Prop}(h:ta σ G λx G1=>r x G1 R):uUn r ta σ G R:=h
def b5J(h:ta σ G λx G1=>∃k,x=.bl k/\Rb k G1):a8q ta σ G Rb:=h
def b29(h:ta σ G λx G1=>tb σ G1 λy G2=>r x y G2 λz G3=>∃k,z=.bl k/\(if k=jO then tc σ G3 λw G4=>r' y w G4 R else R (.bl jP) G3)):a6d r r' ta tb tc σ G R:=h
def b7Y(h:c σ G λk G1=>if k=jO then d σ G1 Rb else Rb jP G1):uAnd c d σ G Rb:=h
def i_or(h:c σ G λk G1=>if k=jO then Rb jO G1 else d σ G1 Rb):uOr c d σ G Rb:=h
def b7Z(h:c σ G λk G1=>Rb (!k) G1):uNot c σ G Rb:=h
def b5K(h:ta σ G λx G1=>∃c,x=.bl c/\if c=jO then tb σ G1 R else R (.bl jP) G1):b5i ta tb σ G R:=h
def b70(h:ta σ G λx G1=>∃c,x=.bl c/\if c=jO then R (.bl jO) G1 else tb σ G1 R):uOrV ta tb σ G R:=h
def b5L(h:ta σ G λx G1=>∃c,x=.bl c/\R (.bl (!c)) G1):b5j ta σ G R:=h
def i_if(h:c σ G λk G1=>if k=jO then ta σ G1 R else tb σ G1 R):uIf c ta tb σ G R:=h
def b71(h:ta σ G λx G1=>tru x G1 Rb):uTru ta σ G Rb:=h
def a8L(e:G p=cL (.lst ws))(h:Rb (!ws.isEmpty) G):tru (.ref p) G Rb:=.inl (ws,e,h)
def i_sl{r:L3r}(h:te σ G λx G1=>tl σ G1 λl G2=>th σ G2 λu G3=>r x l u G3 R):uSl r te tl th σ G R:=h
def b0G(h:Ro jN G):a8s σ G Ro:=h
def b5M(h:te σ G λx G1=>∃i,x=.int i/\Ro (cL i) G1):b5l te σ G Ro:=h
def b72(h:Ra [] G):uNil σ G Ra:=h
def b5N(h:ta σ G λx G1=>al σ G1 λxs G2=>Ra (x::xs) G2):b2T ta al σ G Ra:=h
def b73(h:al σ G λxs G1=>xs.length<=gI/\R (.tup xs) G1):uTup al σ G R:=h
def b74(h:al σ G λxs G1=>xs.length<=gI/\∀p,G1 p=jN->R (.ref p) (put G1 p (.lst xs))):uLst al σ G R:=h
def i_cb{r:List Z->Hq->K3->Prop}(h:al σ G λws G1=>r ws G1 R):uCB r al σ G R:=h
def i_bm{r:Z->List Z->Hq->K3->Prop}(h:to σ G λx G1=>tyZ T x G1/\al σ G1 λxs G2=>r x xs G2 R):uBM T r to al σ G R:=h
def b5O(h:al σ G λws G1=>sp ws G1 R):b2W sp al σ G R:=h
def b5P(h:nx σ G):b2X nx rt bk ct σ G:=h
def b75(h:t (u nx rt bk ct) rt bk ct σ G):uSeq t u nx rt bk ct σ G:=h
def b5Q(h:te σ G λ_ G1=>nx σ G1):b5s te nx rt bk ct σ G:=h
def b76(h:te σ G rt):uRet te nx rt bk ct σ G:=h
def b77(h:c σ G λb G1=>if b=jO then t nx rt bk ct σ G1 else u nx rt bk ct σ G1):uIfS c t u nx rt bk ct σ G:=h
def b78(h:te σ G λx G1=>∃σ',a2E pt x σ=cL σ'/\nx σ' G1):uAsg te pt nx rt bk ct σ G:=h
def b79{r:Z3}(h:te σ G λw G1=>to σ G1 λo G2=>ti σ G2 λi G3=>r o i w G3 λG4=>nx σ G4):uPut te to ti r nx rt bk ct σ G:=h
def a4e(M:C3)(h:t M rt bk ct σ G)(h':∀σ' G',M σ' G'->u nx rt bk ct σ' G'):uCut t u nx rt bk ct σ G:=(M,h,h')
def b5R(h:R (.int (a+b)) G):zAdd (.int a) (.int b) G R:=h
def a2z(z:a.length+b.length<=gI)(h:R (.str (a++b)) G):zAdd (.str a) (.str b) G R:=(z,h)
def b1R(e:xs≠[])(z:xs.length+ys.length<=gI)(h:R (.tup (xs++ys)) G):zAdd (.tup xs) (.tup ys) G R:=(e,z,h)
def a4Q(e:G p=cL (.lst xs))(e':G q=cL (.lst ys))(z:xs.length+ys.length<=gI)(h:∀t,G t=jN->R (.ref t) (put G t (.lst (xs++ys)))):zAdd (.ref p) (.ref q) G R:=(xs,ys,e,e',z,h)
def i_I(k:C a b)(h:R (g a b) G):zI C g (.int a) (.int b) G R:=(k,h)
def i_I0(h:R (g a b) G):zI0 g (.int a) (.int b) G R:=h
def b8a(h:R (.int (-a)) G):zNeg (.int a) G R:=h
def i_CI(h:R (.bl (f a b)) G):zC f g (.int a) (.int b) G R:=h
def i_CS(h:R (.bl (g a b)) G):zC f g (.str a) (.str b) G R:=h
def b3a(h:R (.bl (decide (x=.non))) G):zIs jP x .non G R:=h
def b5S(h:R (.bl (!decide (x=.non))) G):zIs jO x .non G R:=h
def b5T(h:R (.bl (f (decide (a=b)))) G):zEq f (.int a) (.int b) G R:=h
def b8b(h:R (.bl (f (decide (a=b)))) G):zEq f (.str a) (.str b) G R:=h
def a1P(e:G p=cL (.lst ws))(a:atI ws k=cL w)(h:R w G):zIx (.ref p) (.int k) G R:=(ws,w,e,a,h)
def b8c(a:atI ns k=cL n)(h:R (.int n) G):zIx (.scr p ns) (.int k) G R:=(n,a,h)
def a3y(a:atI ws k=cL w)(h:R w G):zIx (.tup ws) (.int k) G R:=(w,a,h)
def a8M(l:z.length<=gI)(a:atI z.cps.toList k=cL ch)(h:R (.str ⟨#[ch]⟩) G):zIx (.str z) (.int k) G R:=(ch,l,a,h)
def b3b{lo hi:Option Int}(l:z.length<=gI)(h:R (.str (Txt.slice z lo hi)) G):zSl (.str z) lo hi G R:=(l,h)
def b8d{lo hi:Option Int}(e:G p=cL (.lst ws))(h:∀t,G t=jN->R (.ref t) (put G t (.lst (cutZ ws lo hi)))):zSl (.ref p) lo hi G R:=(ws,e,h)
def b0H{lo hi:Option Int}(n:¬ (HT.sIx ws.length 0 lo=0/\HT.sIx ws.length ws.length hi=ws.length))(h:R (.tup (cutZ ws lo hi)) G):zSl (.tup ws) lo hi G R:=(n,h)
def b8e(e:G p=cL (.lst ws))(a:ixN ws.length k=cL j)(h:Rg (put G p (.lst (ws.set j w)))):zSet (.ref p) (.int k) w G Rg:=(ws,j,e,a,h)
def b5U(h:∀p,G p=jN->R (.ref p) (put G p (.dK []))):b5G σ G R:=h
def a6h(l:z.length<=gI)(h:R (.int z.length) G):zLen [.str z] G R:=(l,h)
def b1S(e:G p=cL (.lst ws))(h:R (.int ws.length) G):zLen [.ref p] G R:=(ws,e,h)
def b5V(h:R (.int ns.length) G):zLen [.scr p ns] G R:=h
def i_mm(h:R (.int (f a b)) G):zMM f [.int a,.int b] G R:=h
def b8f{bs:List Bool}(e:G p=cL (.lst (bs.map Z.bl)))(h:R (.bl (bs.all id)) G):zAll [.ref p] G R:=(bs,e,h)
def b3c(e:G p=cL (.lst ws))(h:∀t,G t=jN->R (.ref t) (put G t (.lst ws))):b5D [.ref p] G R:=(ws,e,h)
def b8g(e:tyN G x=cL n)(k:kit0 n T=cL b)(h:R (.bl b) G):zIsT [x,.ty T] G R:=(n,b,e,k,h)
def a2W(e:G p=cL (.lst ws))(z:ws.length<gI)(h:R .non (put G p (.lst (ws++[y])))):a5A (.ref p) [y] G R:=(ws,e,z,h)
def b0I(e:G p=cL (.lst ws))(e':G q=cL (.lst ys))(z:ws.length+ys.length<=gI)(h:R .non (put G p (.lst (ws++ys)))):a8J (.ref p) [.ref q] G R:=(ws,ys,e,e',z,h)
def b8h{P:Prop}(h:P):tyZ "str" (.str z) G/\P:=(rfl,h)
def a8N{P:Prop}(e:G p=cL (.lst ws))(h:P):tyZ "list" (.ref p) G/\P:=(.inl (rfl,ws,e),h)
def i_nm(h:nx (σ.set j (cL w)) G):∃σ',a2E (.nm j) w σ=cL σ'/\nx σ' G:=(_,rfl,h)
def b5W{tb:X3}(h:wi σ G λws ok G1=>FORB ws ok pt tb nx rt σ G1):uFor wi pt tb nx rt bk ct σ G:=h
def b8i(h:wi σ G λws ok G1=>∀D,G1 D=jN->LCB ws ok cap pt tt te σ R D G1):uLC wi cap pt tt te σ G R:=h
variable{Ri:List Z->(Hq->Prop)->Hq->Prop}
def i_iL(h:te σ G λx G1=>wkL x G1 Ri):iL te σ G Ri:=h
def i_iT(h:te σ G λx G1=>wkT x G1 Ri):iT te σ G Ri:=h
def i_iS(h:te σ G λx G1=>wkS x G1 Ri):iS te σ G Ri:=h
def b8j(h:al σ G λws G1=>∃j:Int,ws=[.int j]/\-(2 ^ 62)<=j/\j<2 ^ 62/\Ri (rng 0 j.toNat) (λ_=>True) G1):iR1 al σ G Ri:=h
def a12(e:G p=cL (.lst ws))(h:Ri ws (λG=>G p=cL (.lst ws)) G):wkL (.ref p) G Ri:=(ws,e,h)
def b8k(h:Ri (ns.map Z.int) (λ_=>True) G):wkL (.scr p ns) G Ri:=h
def b8l(h:Ri ws (λ_=>True) G):wkT (.tup ws) G Ri:=h
def b8m(h:Ri (a2G z) (λ_=>True) G):wkS (.str z) G Ri:=h
def i_tt(h:Rb jO G):uTT σ G Rb:=h
end
def ifD{p A B:Prop}[Decidable p](h1:p->A)(h2:¬ p->B):if decide p=jO then A else B:=by simp_all
def ifN{p A B:Prop}[Decidable p](h1:¬ p->A)(h2:p->B):if (!decide p)=jO then A else B:=by simp_all
def ifB{A B:Prop}(h1:b=jO->A)(h2:b=jP->B):if b=jO then A else B:=by simp_all
def ifNB{A B:Prop}(h1:b=jP->A)(h2:b=jO->B):if (!b)=jO then A else B:=by grind
def ifT{A B:Prop}(h:A):if jO=jO then A else B:=by rw[if_pos rfl];show h
def ifF{A B:Prop}(h:B):if jP=jO then A else B:=by rw[if_neg (by decide)];show h
def ifNN{A B:Prop}(h:A):if decide (Z.non=Z.non)=jO then A else B:=by simp_all
def ifNI{A B:Prop}(h:B):if decide (Z.int i=Z.non)=jO then A else B:=by rw[if_neg (by simp)];show h
def ifMN{A B:Prop}(h:B):if (!decide (Z.non=Z.non))=jO then A else B:=by rw[if_neg (by simp)];show h
def ifMI{A B:Prop}(h:A):if (!decide (Z.int i=Z.non))=jO then A else B:=by rw[if_pos (by simp)];show h
def at0{α:Type}{a:α}{r:List α}:atI (a::r) 0=cL a:=a1K (j:=0) rfl
def at1{α:Type}{a b:α}{r:List α}:atI (a::b::r) 1=cL b:=a1K (j:=1) rfl
def Sm(G G':Hq):Prop:=∀b o,G b=cL o->G' b=cL o
def Sm.refl(G:Hq):Sm G G:=λ_ _ h=>h
def Sm.trans(a:Sm G G1)(b:Sm G1 G2):Sm G G2:=λc o h=>b c o (a c o h)
def Sm.get(s:Sm G G')(h:G b=cL o):G' b=cL o:=s b o h
def Sm.new(h:G p=jN):Sm G (put G p o):=λ_ _ e=>a0c e h
def Sm.free(s:Sm G G')(h:G' p=jN):G p=jN:=by
 cases e:G p with
 |none=>rfl
 |some o=>rw[s p o e]at h;cases h
def Kq(r:Addr)(G G':Hq):Prop:=∀b o,G b=cL o->b≠r->G' b=cL o
def Kq.refl(r:Addr)(G:Hq):Kq r G G:=λ_ _ h _=>h
def Kq.trans(a:Kq r G G1)(b:Kq r G1 G2):Kq r G G2:=λc o h n=>b c o (a c o h n) n
def Kq.new(h:G p=jN):Kq r G (put G p o):=λ_ _ e _=>a0c e h
def Kq.at:Kq r G (put G r o):=λ_ _ e n=>by rw[a0j n];show e
def Sm.kq(s:Sm G G'):Kq r G G':=λb o e _=>s b o e
noncomputable def Sm.put(s:Sm G G')(h:G p=jN):Sm G (put G' p o):=λb u e=>by rw[a0j (a0k e h)];show s b u e
namespace Tim
abbrev KF:=Keyed->Int
noncomputable def Kk(κ:KF)(xs:Array Keyed)(i:Nat):Int:=match xs[i]? with
 |some p=>κ p
 |none=>0
section
variable{xs ys:Array Keyed}{i j:Nat}{p:Keyed}
def a5B(h:xs[i]?=cL p):Kk κ xs i=κ p:=by unfold Kk;rw[h]
def a3b(h:xs[i]?=ys[j]?):Kk κ xs i=Kk κ ys j:=by unfold Kk;rw[h]
end
def LtOk(M:Model)(A:Around)(E:Value->Shared->Prop)(s:Shared)(κ:KF)(k0:h9)(ajj:Array Keyed):Prop:=
 ∀x y,x∈ajj.toList->y∈ajj.toList->∀(st:SortSt)(Q:Option Bool->SortSt->Prop),kindOf st=k0->Q (cL (decide (κ x<κ y))) st->wpS M A E s (lt' x y) Q st
structure TB (k0:h9) (ajj:Array Keyed) (st:SortSt):Prop where
 pm:(arrOf st).Perm ajj
 kd:kindOf st=k0
 fl:h7 st=jN
def TB.sz{st:SortSt}(h:TB k0 ajj st):(arrOf st).size=ajj.size:=h.pm.size_eq
def TB.mem{st:SortSt}(h:TB k0 ajj st){i:Nat}(e:(arrOf st)[i]?=cL p):p∈ajj.toList:=by
 let a:p∈(arrOf st).toList:=by rw[fG];show fQ e
 show (eM.mp h.pm).mem_iff.mp a
def TB.arr{st:SortSt}(h:TB k0 ajj st)(hp:xs.Perm (arrOf st)):TB k0 ajj (setArr st xs):=(hp.trans h.pm,h.kd,h.fl)
section
variable{M:Model}{k0:h9}{ajj:Array Keyed}{st:SortSt}
def a0z(e:arr[i]?=cL p)(h:Q p st):wpS M A E s (elem' arr i) Q st:=by
 rw[elem'_eq,e];show gL h
def a4R(L:LtOk M A E s κ k0 ajj)(B:TB k0 ajj st)(hi:i<ajj.size)(hj:j<ajj.size)
  (h:Q (cL (decide (Kk κ (arrOf st) i<Kk κ (arrOf st) j))) st):wpS M A E s (ltAt' i j) Q st:=by
 let b:_[i]?=cL ((arrOf st)[i]'(B.sz▸hi)):=getElem?_pos ..;let a:(arrOf st)[j]?=cL ((arrOf st)[j]'(B.sz▸hj)):=getElem?_pos ..;show gJ (ip (gJ (a0z b (gJ (a0z a (L _ _ (B.mem b) (B.mem a) st Q B.kd ?_))))));rw[a5B b,a5B a]at h;show h
end
noncomputable def a1r:Bool->Keyed->Array Keyed->Nat->Nat->Nat->StateT SortSt Sem (Option Nat):=sortPriv% PySem.Builtin.gallop
noncomputable def bey(lft:Bool)(ky:Keyed)(ar:Array Keyed)(bs:Nat)(q:Nat):StateT SortSt Sem (Option Bool):=do
  let z <- elem' ar (bs+q)
  if lft then lt' z ky else return (<- lt' ky z).map (!·)
def a6W(lft:Bool)(ky:Keyed)(ar:Array Keyed)(bs n hnt:Nat):a1r lft ky ar bs n hnt=(do
 let mut lst:=0
 let mut oo:=1
 let mut l:=0
 let mut h:=0
 let cL rgt <- bey lft ky ar bs hnt |return jN
 if rgt then
  let mx:=n-hnt
  for _ in [0:n] do
   if oo>=mx then break
   let cL mo <- bey lft ky ar bs (hnt+oo) |return jN
   if !mo then break
   lst:=oo
   oo:=2*oo+1
  l:=hnt+lst+1
  h:=hnt+min oo mx
 else
  let mx:=hnt+1
  for _ in [0:n] do
   if oo>=mx then break
   let cL fo <- bey lft ky ar bs (hnt-oo) |return jN
   if fo then break
   lst:=oo
   oo:=2*oo+1
  l:=hnt+1-min oo mx
  h:=hnt-lst
 for _ in [0:n] do
  if l>=h then break
  let m:=l+(h-l) / 2
  let cL mo <- bey lft ky ar bs m |return jN
  if mo then l:=m+1 else h:=m
 return cL h):=rfl
noncomputable def bq(lft:Bool)(k x:Int):Bool:=if lft then decide (x<k) else !decide (k<x)
section
variable{M:Model}{k0:h9}{ajj:Array Keyed}{st:SortSt}
def a8O(L:LtOk M A E s κ k0 ajj)(hk:kindOf st=k0)(hm:ky∈ajj.toList)(ha:∀p∈ar.toList,p∈ajj.toList)(hq:bs+q<ar.size)
  (h:Q (cL (bq lft (κ ky) (Kk κ ar (bs+q)))) st):wpS M A E s (bey lft ky ar bs q) Q st:=by
 let b:ar[bs+q]?=cL (ar[bs+q]'hq):=getElem?_pos ..;let a:ar[bs+q]∈ajj.toList:=ha _ (by simp);show gJ (a0z b ?_);rw[a5B b]at h;cases lft with
 |true=>
  show L _ _ a hm st Q hk h
 |false=>
  show gJ (L _ _ hm a st _ hk (gL h))
def a1z(L:LtOk M A E s κ k0 ajj)(hk:kindOf st=k0)(hm:ky∈ajj.toList)(ha:∀p∈ar.toList,p∈ajj.toList)
  (hn:bs+n<=ar.size) (hh:hnt<n) (mono:∀i j,i<=j->j<n->Kk κ ar (bs+i)<=Kk κ ar (bs+j))
  (h:∀h,h<=n->(∀i,i<h->bq lft (κ ky) (Kk κ ar (bs+i))=jO)->(∀i,h<=i->i<n->bq lft (κ ky) (Kk κ ar (bs+i))=jP)->Q (cL h) st):wpS M A E s (a1r lft ky ar bs n hnt) Q st:=by
 let t:∀i j,i<=j->j<n->bq lft (κ ky) (Kk κ ar (bs+j))=jO->bq lft (κ ky) (Kk κ ar (bs+i))=jO:=λi j C F H=>by
  let:=mono i j C F
  unfold bq at *;cases lft<;>simp at *<;>lia
 let D:∀i j,i<=j->j<n->bq lft (κ ky) (Kk κ ar (bs+i))=jP->bq lft (κ ky) (Kk κ ar (bs+j))=jP:=λi j C F H=>by grind
 rw[a6W];show gJ (a8O L hk hm ha (by lia) ?_);dsimp only;cases e0:bq lft (κ ky) (Kk κ ar (bs+hnt)) with
 |true=>
  rw[if_pos rfl];show gJ (hZ (g5 (I:=λx c d=>d=st/\∃a b,c=(jN,a,b,)/\a<b/\x+1<=b/\hnt+a<n/\bq lft (κ ky) (Kk κ ar (bs+(hnt+a)))=jO)
   (Q:=λc d=>d=st/\∃a b,c=(jN,a,b,)/\a<b/\hnt+a<n/\bq lft (κ ky) (Kk κ ar (bs+(hnt+a)))=jO/\(n-hnt<=b\/(hnt+b<n/\bq lft (κ ky) (Kk κ ar (bs+(hnt+b)))=jP))) ?step ?fin ?init) ?post)
  case init=>show(rfl,0,1,rfl,by lia,by lia,by lia,e0)
  case fin=>
   ext c d ⟨rfl,a,b,rfl,m,k,o,f⟩;show(rfl,a,b,rfl,m,o,f,.inl (by lia))
  case step=>
   ext x c d _ G ⟨rfl,a,b,rfl,m,k,o,f⟩;dsimp only
   by_cases hge:b>=n-hnt
   .rw[if_pos hge];show gL (rfl,a,b,rfl,m,o,f,.inl hge)
   .rw[if_neg hge];show gJ (a8O L hk hm ha (by lia) ?_);cases e:bq lft (κ ky) (Kk κ ar (bs+(hnt+b))) with
    |true=>
     dsimp only;rw[if_neg (by decide)];show gL (rfl,b,2*b+1,rfl,by lia,by lia,by lia,e)
    |false=>
     dsimp only;rw[if_pos (show (!false)=jO from rfl)];show gL (rfl,a,b,rfl,m,o,f,.inr (by lia,e))
  case post=>
   ext c d ⟨y,a,b,rfl,m,o,f,g⟩;let y:=y.symm;subst y;dsimp only;let q:hnt+a+1<=hnt+min b (n-hnt):=by lia
   let w:hnt+min b (n-hnt)<=n:=by lia
   let v:∀i,i<hnt+a+1->bq lft (κ ky) (Kk κ ar (bs+i))=jO:=λi J=>t i _ (by lia) (by lia) f;let u:∀i,hnt+min b (n-hnt)<=i->i<n->bq lft (κ ky) (Kk κ ar (bs+i))=jP:=λi B z=>by grind
   generalize hnt+a+1=l0 at q v ⊢;generalize hnt+min b (n-hnt)=h0 at q w u ⊢;show gJ (hZ (g5 (I:=λx c d=>d=st/\∃l r,c=(jN,l,r,)/\l<=r/\r<=n/\r-l<=n-x/\(∀i,i<l->bq lft (κ ky) (Kk κ ar (bs+i))=jO)/\(∀i,r<=i->i<n->bq lft (κ ky) (Kk κ ar (bs+i))=jP))
    (Q:=λc d=>d=st/\∃l,c=(jN,l,l,)/\l<=n/\(∀i,i<l->bq lft (κ ky) (Kk κ ar (bs+i))=jO)/\(∀i,l<=i->i<n->bq lft (κ ky) (Kk κ ar (bs+i))=jP)) ?st2 ?fi2 ?in2) ?po2)
   case in2=>show(rfl,l0,h0,rfl,q,w,by lia,v,u)
   case fi2=>
    ext c d ⟨rfl,l,r,rfl,m,k,o,f,g⟩
    let:l=r:=by lia
    subst this;show(rfl,l,rfl,k,f,g)
   case st2=>
    ext x c d _ G ⟨rfl,l,r,rfl,m,k,o,f,g⟩;dsimp only
    by_cases hge:l>=r
    .rw[if_pos hge]
     let:l=r:=by lia
     subst this;show gL (rfl,l,rfl,k,f,g)
    .rw[if_neg hge];show gJ (a8O L hk hm ha (by lia) ?_);cases e:bq lft (κ ky) (Kk κ ar (bs+(l+(r-l) / 2))) with
     |true=>
      dsimp only;rw[if_pos rfl];show gL (rfl,_,r,rfl,by lia,k,by lia,λi J=>t i _ (by lia) (by lia) e,g)
     |false=>
      dsimp only;rw[if_neg (by decide)];show gL (rfl,l,_,rfl,by lia,by lia,by lia,f,λi B z=>D _ i B z e)
   case po2=>
    ext c d ⟨rfl,l,rfl,k,f,g⟩;show gL (h l k f g)
 |false=>
  rw[if_neg (by decide)];show gJ (hZ (g5 (I:=λx c d=>d=st/\∃a b,c=(jN,a,b,)/\a<b/\x+1<=b/\a<=hnt/\bq lft (κ ky) (Kk κ ar (bs+(hnt-a)))=jP)
   (Q:=λc d=>d=st/\∃a b,c=(jN,a,b,)/\a<b/\a<=hnt/\bq lft (κ ky) (Kk κ ar (bs+(hnt-a)))=jP/\(hnt+1<=b\/(b<=hnt/\bq lft (κ ky) (Kk κ ar (bs+(hnt-b)))=jO))) ?step ?fin ?init) ?post)
  case init=>show(rfl,0,1,rfl,by lia,by lia,by lia,e0)
  case fin=>
   ext c d ⟨rfl,a,b,rfl,m,k,o,f⟩;show(rfl,a,b,rfl,m,o,f,.inl (by lia))
  case step=>
   ext x c d _ G ⟨rfl,a,b,rfl,m,k,o,f⟩;dsimp only
   by_cases hge:b>=hnt+1
   .rw[if_pos hge];show gL (rfl,a,b,rfl,m,o,f,.inl hge)
   .rw[if_neg hge];show gJ (a8O L hk hm ha (by lia) ?_);cases e:bq lft (κ ky) (Kk κ ar (bs+(hnt-b))) with
    |true=>
     dsimp only;rw[if_pos rfl];show gL (rfl,a,b,rfl,m,o,f,.inr (by lia,e))
    |false=>
     dsimp only;rw[if_neg (by decide)];show gL (rfl,b,2*b+1,rfl,by lia,by lia,by lia,e)
  case post=>
   ext c d ⟨y,a,b,rfl,m,o,f,g⟩;let y:=y.symm;subst y;dsimp only;let q:hnt+1-min b (hnt+1)<=hnt-a:=by lia
   let w:hnt-a<=n:=by lia
   let v:∀i,i<hnt+1-min b (hnt+1)->bq lft (κ ky) (Kk κ ar (bs+i))=jO:=λi J=>by grind
   let u:=λi B z=>D _ i B z f;generalize hnt+1-min b (hnt+1)=l0 at q v ⊢;generalize hnt-a=h0 at q w u ⊢;show gJ (hZ (g5 (I:=λx c d=>d=st/\∃l r,c=(jN,l,r,)/\l<=r/\r<=n/\r-l<=n-x/\(∀i,i<l->bq lft (κ ky) (Kk κ ar (bs+i))=jO)/\(∀i,r<=i->i<n->bq lft (κ ky) (Kk κ ar (bs+i))=jP))
    (Q:=λc d=>d=st/\∃l,c=(jN,l,l,)/\l<=n/\(∀i,i<l->bq lft (κ ky) (Kk κ ar (bs+i))=jO)/\(∀i,l<=i->i<n->bq lft (κ ky) (Kk κ ar (bs+i))=jP)) ?st2 ?fi2 ?in2) ?po2)
   case in2=>show(rfl,l0,h0,rfl,q,w,by lia,v,u)
   case fi2=>
    ext c d ⟨rfl,l,r,rfl,m,k,o,f,g⟩
    let:l=r:=by lia
    subst this;show(rfl,l,rfl,k,f,g)
   case st2=>
    ext x c d _ G ⟨rfl,l,r,rfl,m,k,o,f,g⟩;dsimp only
    by_cases hge:l>=r
    .rw[if_pos hge]
     let:l=r:=by lia
     subst this;show gL (rfl,l,rfl,k,f,g)
    .rw[if_neg hge];show gJ (a8O L hk hm ha (by lia) ?_);cases e:bq lft (κ ky) (Kk κ ar (bs+(l+(r-l) / 2))) with
     |true=>
      dsimp only;rw[if_pos rfl];show gL (rfl,_,r,rfl,by lia,k,by lia,λi J=>t i _ (by lia) (by lia) e,g)
     |false=>
      dsimp only;rw[if_neg (by decide)];show gL (rfl,l,_,rfl,by lia,by lia,by lia,f,λi B z=>D _ i B z e)
   case po2=>
    ext c d ⟨rfl,l,rfl,k,f,g⟩;show gL (h l k f g)
end
noncomputable def a8P:Nat->StateT SortSt Sem Unit:=sortPriv% PySem.Builtin.setMinGallop
def a4f(g:Nat):a8P g=modify λs=>SortSt.mk' (kindOf s) (arrOf s) (gR s) g (h7 s):=rfl
noncomputable def a4g:Array Keyed->Array Keyed->StateT SortSt Sem (Array Keyed):=sortPriv% PySem.Builtin.mergeLo
abbrev dnA(a b o:Array Keyed)(i j:Nat):Array Keyed:=o++a.extract i a.size++b.extract j b.size
abbrev dnB(a b o:Array Keyed)(i j:Nat):Array Keyed:=o++b.extract j b.size++a.extract i a.size
section
variable{A B o:List Keyed}{i j:Nat}{p:Keyed}
abbrev Srt(κ:KF)(l:List Keyed):Prop:=l.Pairwise λx y=>κ x<=κ y
structure MW (κ:KF) (A B o:List Keyed) (i j:Nat):Prop where
 ia:i<=A.length
 jb:j<=B.length
 pm:(o++(A.drop i++B.drop j)).Perm (A++B)
 so:Srt κ o
 ba:∀x∈o,∀y∈A.drop i,κ x<=κ y
 bb:∀x∈o,∀y∈B.drop j,κ x<=κ y
theorem MW.size(W:MW κ A B o i j):o.length=i+j:=by
 let:=W.pm.length_eq
 let b:=W.ia;let a:=W.jb;simp at this
 lia
def drop_get{l:List Keyed}(h:l[n]?=cL p):l.drop n=p::l.drop (n+1):=by
 let(a,e):=cn.mp h;rw[eN a,e]
def a6i(h:Srt κ l)(hb:∀x∈l,κ x<=κ p):Srt κ (l++[p]):=by
 show cy.mpr (h,fg _ _,λx b y a=>?_);rw[cc.mp a];show hb x b
def a0S(h:Srt κ l)(n:Nat):Srt κ (l.drop n):=cZ.sublist (fR n l) h
def MW.pushA(W:MW κ A B o i j)(sa:Srt κ A)(hp:A[i]?=cL p)(hb:∀y∈B.drop j,κ p<=κ y):MW κ A B (o++[p]) (i+1) j:=by
 let c:=drop_get hp;show(((cn.mp hp).1),W.jb,?_,a6i W.so λx b=>W.ba x b p (by simp_all),λx b y a=>?_,λx b y a=>?_)
 .let:=W.pm
  rw[c]at this;o_head this
 .let h||h:=b9.mp b
  .show W.ba x h y (by simp_all)
  .rw[cc.mp h];show (cG.mp (c▸a0S sa i)).1 y a
 .let h||h:=b9.mp b
  .show W.bb x h y a
  .rw[cc.mp h];show hb y a
def MW.pushB(W:MW κ A B o i j)(sb:Srt κ B)(hp:B[j]?=cL p)(hb:∀y∈A.drop i,κ p<=κ y):MW κ A B (o++[p]) i (j+1):=by
 let c:=drop_get hp;show(W.ia,((cn.mp hp).1),?_,a6i W.so λx b=>W.bb x b p (by simp_all),λx b y a=>?_,λx b y a=>?_)
 .let:=W.pm
  rw[c]at this;show cP.trans ?_ this;rw[cC];show cP.append_left o (show (p::(A.drop i++B.drop _)).Perm _ from fS.symm)
 .let h||h:=b9.mp b
  .show W.ba x h y a
  .rw[cc.mp h];show hb y a
 .let h||h:=b9.mp b
  .show W.bb x h y (by simp_all)
  .rw[cc.mp h];show (cG.mp (c▸a0S sb j)).1 y a
def take_snoc{l:List Keyed}(h:l[n+k]?=cL p):(l.drop n).take (k+1)=(l.drop n).take k++[p]:=by
 rw[dh,fh,h];rfl
def MW.runA(W:MW κ A B o i j)(sa:Srt κ A):∀k,i+k<=A.length->(∀q z,i<=q->q<i+k->A[q]?=cL z->∀y∈B.drop j,κ z<=κ y)->MW κ A B (o++(A.drop i).take k) (i+k) j:=by ext z0;induction z0 with
 |zero=>ext _ _;o_head W
 |succ k I0=>
  ext hk hz;let e:A[i+k]?=cL A[i+k]:=cu (by lia);rw[take_snoc e,<- cC];show (I0 (by lia) λq z a c=>hz q z a (by lia)).pushA sa e (hz _ _ (by lia) (by lia) e)
def MW.runB(W:MW κ A B o i j)(sb:Srt κ B):∀k,j+k<=B.length->(∀q z,j<=q->q<j+k->B[q]?=cL z->∀y∈A.drop i,κ z<=κ y)->MW κ A B (o++(B.drop j).take k) i (j+k):=by ext z0;induction z0 with
 |zero=>ext _ _;o_head W
 |succ k I0=>
  ext hk hz;let e:B[j+k]?=cL B[j+k]:=cu (by lia);rw[take_snoc e,<- cC];show (I0 (by lia) λq z a c=>hz q z a (by lia)).pushB sb e (hz _ _ (by lia) (by lia) e)
def Mgd(κ:KF)(A B r:List Keyed):Prop:=r.Perm (A++B)/\Srt κ r
def MW.doneA(W:MW κ A B o i j)(sa:Srt κ A)(sb:Srt κ B)(h:i=A.length\/j=B.length):Mgd κ A B (o++A.drop i++B.drop j):=by
 show(by rw[cC];show W.pm,?_);rw[cC];show cy.mpr (W.so,cy.mpr (a0S sa i,a0S sb j,λx a y b=>?_),λx a y b=>?_)
 .let rfl||rfl:=h
  .simp_all
  .simp_all
 .let h||h:=b9.mp b
  .show W.ba x a y h
  .show W.bb x a y h
theorem MW.doneB(W:MW κ A B o i j)(sa:Srt κ A)(sb:Srt κ B)(h:i+1=A.length)(hl:∀z,A[A.length-1]?=cL z->∀y∈B,κ y<=κ z):Mgd κ A B (o++B.drop j++A.drop i):=by
 show(?_,?_)
 .rw[cC];show cP.trans (cP.append_left o fU) W.pm
 .rw[cC];let e:A[i]?=cL A[i]:=cu (by lia);let c:A.drop i=[A[i]]:=by rw[drop_get e,eO (by lia)]
  show cy.mpr (W.so,cy.mpr (a0S sb j,a0S sa i,λx b y a=>?_),λx b y a=>?_)
  .rw[c]at a;rw[cc.mp a];show hl _ (by rw[show A.length-1=i by lia];show e) x (eP b)
  .let h||h:=b9.mp a
   .show W.bb x b y h
   .show W.ba x b y h
def a1b(h:Srt κ l)(hp:l[n]?=cL p):∀y∈l.drop n,κ p<=κ y:=λy a=>by
 let b:=a0S h n;rw[drop_get hp]at b a;let rfl||a:=cf.mp a
 .show cK _
 .show (cG.mp b).1 y a
end
abbrev SM:=StateT SortSt Sem
abbrev T1:=Option (Array Keyed)×Array Keyed×Nat×Nat×Nat×Nat
abbrev T2:=Option (Array Keyed)×Array Keyed×Nat×Nat×Nat×Nat×Nat
noncomputable def lo1(a b:Array Keyed)(g:Nat)(o:Array Keyed)(i j ac bc:Nat):SM (ForInStep T1):=do
 let y <- elem' b j
 let x <- elem' a i
 let r <- lt' y x
 match r with
 |some bw=>
  if bw=jO then do
   let y <- elem' b j
   if (j+1==b.size)=jO then pure (.done (cL (dnA a b (o.push y) i (j+1)),o.push y,i,j+1,0,bc+1,))
   else if bc+1>=g then pure (.done (jN,o.push y,i,j+1,0,bc+1,)) else pure (.yield (jN,o.push y,i,j+1,0,bc+1,))
  else do
   let x <- elem' a i
   if (i+1+1==a.size)=jO then pure (.done (cL (dnB a b (o.push x) (i+1) j),o.push x,i+1,j,ac+1,0,))
   else if ac+1>=g then pure (.done (jN,o.push x,i+1,j,ac+1,0,)) else pure (.yield (jN,o.push x,i+1,j,ac+1,0,))
 |_=>pure (.done (cL (dnA a b o i j),o,i,j,ac,bc,))
noncomputable def lo5(a b:Array Keyed)(o:Array Keyed)(i j g ac bc:Nat):SM (ForInStep T2):=do
 let x <- elem' a i
 if (i+1+1==a.size)=jO then pure (.done (cL (dnB a b (o.push x) (i+1) j),o.push x,i+1,j,g,ac,bc,))
 else if (decide (ac<7)&&decide (bc<7))=jO then pure (.done (jN,o.push x,i+1,j,g,ac,bc,)) else pure (.yield (jN,o.push x,i+1,j,g,ac,bc,))
noncomputable def lo4(a b:Array Keyed)(o:Array Keyed)(i j g ac bc:Nat):SM (ForInStep T2):=do
 let y <- elem' b j
 if (j+1==b.size)=jO then pure (.done (cL (dnA a b (o.push y) i (j+1)),o.push y,i,j+1,g,ac,bc,))
 else do
  let x <- elem' a i
  let r <- a1r jO x b (j+1) (b.size-(j+1)) 0
  match r with
  |some k=>
   if k > 0 then
    if (j+1+k==b.size)=jO then pure (.done (cL (dnA a b (o.push y++b.extract (j+1) (j+1+k)) i (j+1+k)),o.push y++b.extract (j+1) (j+1+k),i,j+1+k,g,ac,k,))
    else lo5 a b (o.push y++b.extract (j+1) (j+1+k)) i (j+1+k) g ac k
   else lo5 a b (o.push y) i (j+1) g ac k
  |_=>pure (.done (cL (dnA a b (o.push y) i (j+1)),o.push y,i,j+1,g,ac,bc,))
noncomputable def lo3(a b:Array Keyed)(o:Array Keyed)(i j g ac bc:Nat):SM (ForInStep T2):=do
 a8P g
 let y <- elem' b j
 let r <- a1r jP y a i (a.size-i) 0
 match r with
 |some k=>
  if k > 0 then
   if (i+k+1==a.size)=jO then pure (.done (cL (dnB a b (o++a.extract i (i+k)) (i+k) j),o++a.extract i (i+k),i+k,j,g,k,bc,))
   else if (i+k==a.size)=jO then pure (.done (cL (dnA a b (o++a.extract i (i+k)) (i+k) j),o++a.extract i (i+k),i+k,j,g,k,bc,))
   else lo4 a b (o++a.extract i (i+k)) (i+k) j g k bc
  else lo4 a b o i j g k bc
 |_=>pure (.done (cL (dnA a b o i j),o,i,j,g,ac,bc,))
noncomputable def lo2(a b:Array Keyed)(o:Array Keyed)(i j g ac bc:Nat):SM (ForInStep T2):=
 if g > 1 then lo3 a b o i j (g-1) ac bc else lo3 a b o i j g ac bc
def a4S(a b:Array Keyed):a4g a b=(do
  liftM (rule "list.sort.merge-lo")
  let y <- elem' b 0
  if (1==b.size)=jO then pure (dnA a b #[y] 0 1)
  else if (0+1==a.size)=jO then pure (dnB a b #[y] 0 1)
  else do
   let st <- get
   let c <- forIn [0:a.size+b.size] ((jN,#[y],0,1,gallopOf st,):Option (Array Keyed)×Array Keyed×Nat×Nat×Nat) λ_ c=>do
    let c1 <- forIn [0:a.size+b.size] ((jN,c.2.1,c.2.2.1,c.2.2.2.1,0,0,):T1) λ_ c1=>lo1 a b c.2.2.2.2 c1.2.1 c1.2.2.1 c1.2.2.2.1 c1.2.2.2.2.1 c1.2.2.2.2.2
    match c1.1 with
    |some r=>pure (ForInStep.done (cL r,c1.2.1,c1.2.2.1,c1.2.2.2.1,c.2.2.2.2,))
    |none=>do
     liftM (rule "list.sort.gallop")
     let c2 <- forIn [0:a.size+b.size] ((jN,c1.2.1,c1.2.2.1,c1.2.2.2.1,c.2.2.2.2+1,c1.2.2.2.2.1,c1.2.2.2.2.2,):T2) λ_ c2=>lo2 a b c2.2.1 c2.2.2.1 c2.2.2.2.1 c2.2.2.2.2.1 c2.2.2.2.2.2.1 c2.2.2.2.2.2.2
     match c2.1 with
     |some r=>pure (ForInStep.done (cL r,c2.2.1,c2.2.2.1,c2.2.2.2.1,c2.2.2.2.2.1,))
     |none=>do
      a8P (c2.2.2.2.2.1+1)
      pure (ForInStep.yield (jN,c2.2.1,c2.2.2.1,c2.2.2.2.1,c2.2.2.2.2.1+1,))
   match c.1 with
   |some r=>pure r
   |none=>jG "internal:list.sort.merge-bound"):=by
 kernel_rfl
structure SG (st st':SortSt):Prop where
 kd:kindOf st'=kindOf st
 ar:arrOf st'=arrOf st
 pe:gR st'=gR st
 fl:h7 st'=h7 st
def SG.refl(st:SortSt):SG st st:=(rfl,rfl,rfl,rfl)
def SG.trans(p:SG x y)(q:SG y z):SG x z:=(q.kd.trans p.kd,q.ar.trans p.ar,q.pe.trans p.pe,q.fl.trans p.fl)
section
variable{a b o:Array Keyed}{i j:Nat}
def a13:(dnA a b o i j).toList=o.toList++a.toList.drop i++b.toList.drop j:=by
 simp[di]
def a2X:(dnB a b o i j).toList=o.toList++b.toList.drop j++a.toList.drop i:=by
 simp[di]
def a6j:(o++a.extract i (i+k)).toList=o.toList++(a.toList.drop i).take k:=by
 simp[eQ]
def a0D(h:i<a.size):a.toList[i]?=cL a[i]:=by simp[h]
def a0I(h:i<a.size):Kk κ a i=κ a[i]:=a5B (getElem?_pos ..)
def a2Y(h:Srt κ a.toList)(hn:i+n<=a.size):∀p q,p<=q->q<n->Kk κ a (i+p)<=Kk κ a (i+q):=λp q b c=>by
 rw[a0I (show i+p<a.size by lia),a0I (show i+q<a.size by lia)]
 by_cases e:p=q
 .simp_all
 .let:=fi.mp h (i+p) (i+q) (by simp;lia) (by simp;lia) (by lia)
  o_head this
end
structure MC (M:Model) (A:Around) (E:Value->Shared->Prop) (s:Shared) (κ:KF) (k0:h9) (ajj a b:Array Keyed):Prop where
 L:LtOk M A E s κ k0 ajj
 ha:∀p∈a.toList,p∈ajj.toList
 hb:∀p∈b.toList,p∈ajj.toList
 sa:Srt κ a.toList
 sb:Srt κ b.toList
 h0:0<a.size
 h1:0<b.size
 hf:∀y∈a.toList,Kk κ b 0<=κ y
 hl:∀z,a.toList[a.toList.length-1]?=cL z->∀y∈b.toList,κ y<=κ z
structure Rdy (κ:KF) (a b o:Array Keyed) (i j:Nat):Prop where
 w:MW κ a.toList b.toList o.toList i j
 hi:i+1<a.size
 hj:j<b.size
section
variable{M:Model}{k0:h9}{ajj a b o:Array Keyed}{st:SortSt}{i j g ac bc:Nat}
def a3P{α:Type}{f:Unit->SM α}{Q:α->SortSt->Prop}(h:wpS M A E s (f ()) Q st):wpS M A E s ((liftM (rule jQ):SM Unit) >>= f) Q st:=
 gJ (wpS_lift (ja (rfl,h)))
def a0O(a:Array Keyed):a.toList.length=a.size:=by simp
def b8n(C:MC M A E s κ k0 ajj a b)(hk:kindOf st=k0)(R:Rdy κ a b o i j)
  (dn:∀r c,Mgd κ a.toList b.toList r.toList->Q (.done (cL r,c,)) st)
  (br:∀o' i' j' x y,Rdy κ a b o' i' j'->i'+j'=i+j+1->Q (.done (jN,o',i',j',x,y,)) st)
  (go:∀o' i' j' x y,Rdy κ a b o' i' j'->i'+j'=i+j+1->Q (.yield (jN,o',i',j',x,y,)) st):wpS M A E s (lo1 a b g o i j ac bc) Q st:=by
 let q:=R.hi;let n:=R.hj;let p:b[j]?=cL b[j]:=getElem?_pos ..;let m:a[i]?=cL a[i]:=getElem?_pos ..;let h:=a0D n;let l:=a0D (a:=a) (i:=i) (by lia);unfold lo1;show gJ (a0z p (gJ (a0z m (gJ (C.L _ _ (C.hb _ (cx h)) (C.ha _ (cx l)) st _ hk ?_)))));dsimp only
 by_cases c:κ b[j]<κ a[i]
 .rw[if_pos (decide_eq_true c)];show gJ (a0z p ?_);let d:=R.w.pushB C.sb h λy k=>cD (cQ c) (a1b C.sa l y k);rw[<- cR]at d
  by_cases e:j+1=b.size
  .rw[if_pos ↑e];show gL (dn _ _ (by rw[a13];show d.doneA C.sa C.sb (.inr (by rw[a0O];show e))))
  .rw[if_neg ↑e];let f:Rdy κ a b (o.push b[j]) i (j+1):=(d,q,by lia)
   split
   .show gL (br _ _ _ _ _ f (by lia))
   .show gL (go _ _ _ _ _ f (by lia))
 .rw[if_neg ↑c];show gJ (a0z m ?_);let d:=R.w.pushA C.sa l λy k=>cD (eR.mp c) (a1b C.sb h y k);rw[<- cR]at d
  by_cases e:i+1+1=a.size
  .rw[if_pos ↑e];show gL (dn _ _ (by rw[a2X];show d.doneB C.sa C.sb (by rw[a0O];show e) C.hl))
  .rw[if_neg ↑e];let f:Rdy κ a b (o.push a[i]) (i+1) j:=(d,by lia,n)
   split
   .show gL (br _ _ _ _ _ f (by lia))
   .show gL (go _ _ _ _ _ f (by lia))
structure G2 (st:SortSt) (κ:KF) (a b:Array Keyed) (n:Nat) (Q:ForInStep T2->SortSt->Prop):Prop where
 dn:∀r c st',SG st st'->Mgd κ a.toList b.toList r.toList->Q (.done (cL r,c,)) st'
 br:∀o' i' j' x y z st',SG st st'->Rdy κ a b o' i' j'->n<i'+j'->Q (.done (jN,o',i',j',x,y,z,)) st'
 go:∀o' i' j' x y z st',SG st st'->Rdy κ a b o' i' j'->n<i'+j'->Q (.yield (jN,o',i',j',x,y,z,)) st'
def b5X(C:MC M A E s κ k0 ajj a b)(R:Rdy κ a b o i j)(hle:∀y∈b.toList.drop j,Kk κ a i<=κ y)(H:G2 st κ a b n Q)(hn:n<=i+j):wpS M A E s (lo5 a b o i j g ac bc) Q st:=by
 let l:=R.hi;let h:a[i]?=cL a[i]:=getElem?_pos ..;rw[a0I (show i<a.size by lia)]at hle;unfold lo5;show gJ (a0z h ?_);let c:=R.w.pushA C.sa (a0D (a:=a) (i:=i) (by lia)) hle;rw[<- cR]at c
 by_cases e:i+1+1=a.size
 .rw[if_pos ↑e];show gL (H.dn _ _ _ (SG.refl _) (a2X▸c.doneB C.sa C.sb (by rw[a0O];show e) C.hl))
 .rw[if_neg ↑e];let d:Rdy κ a b (o.push a[i]) (i+1) j:=(c,by lia,R.hj)
  split
  .show gL (H.br _ _ _ _ _ _ _ (SG.refl _) d (by lia))
  .show gL (H.go _ _ _ _ _ _ _ (SG.refl _) d (by lia))
def a1Q{l:List Keyed}(h:y∈l.drop n):∃q,n<=q/\q<l.length/\l[q]?=cL y:=by
 let(m,a):=d9 h;rw[fh]at a;show(n+m,by lia,(cn.mp a).1,a)
def a3c(h:a.toList[q]?=cL z):Kk κ a q=κ z:=a5B (by simp_all)
def b5Y(C:MC M A E s κ k0 ajj a b)(hk:kindOf st=k0)(R:Rdy κ a b o i j)(hle:∀y∈a.toList.drop i,Kk κ b j<=κ y)(H:G2 st κ a b n Q)(hn:n<=i+j):wpS M A E s (lo4 a b o i j g ac bc) Q st:=by
 let m:=R.hi;let t:=R.hj;let x:b[j]?=cL b[j]:=getElem?_pos ..;let F:a[i]?=cL a[i]:=getElem?_pos ..;let p:=a0D (a:=a) (i:=i) (by lia);rw[a0I t]at hle;unfold lo4;show gJ (a0z x ?_);let d:=R.w.pushB C.sb (a0D t) hle;rw[<- cR]at d
 by_cases e:j+1=b.size
 .rw[if_pos ↑e];show gL (H.dn _ _ _ (SG.refl _) (a13▸d.doneA C.sa C.sb (.inr (by rw[a0O];show e))))
 .rw[if_neg ↑e];show gJ (a0z F (gJ (a1z C.L hk (C.ha _ (cx p)) C.hb (by lia) (by lia) (a2Y C.sb (by lia)) λk G v r=>?_)));dsimp only;let c:∀y∈b.toList.drop (j+1+k),Kk κ a i<=κ y:=λy h=>by
   let(q,B,u,l):=a1Q h;rw[a0O]at u
   let:=r (q-(j+1)) (by lia) (by lia)
   rw[show j+1+(q-(j+1))=q by lia,a3c l]at this;simp[bq]at this;rw[a0I (show i<a.size by lia)]
   lia
  split
  .let f:=d.runB C.sb k (by rw[a0O];lia) λq z B u l y h=>by
    let:=v (q-(j+1)) (by lia)
    rw[show j+1+(q-(j+1))=q by lia,a3c l]at this;simp[bq]at this;show cD (cQ this) (a1b C.sa p y h)
   rw[<- a6j]at f
   by_cases e2:j+1+k=b.size
   .rw[if_pos ↑e2];show gL (H.dn _ _ _ (SG.refl _) (a13▸f.doneA C.sa C.sb (.inr (by rw[a0O];show e2))))
   .rw[if_neg ↑e2];show b5X C (f,m,by lia) c H (by lia)
  .let:k=0:=by lia
   subst this;show b5X C (d,m,by lia) c H (by lia)
def b8o(C:MC M A E s κ k0 ajj a b)(hk:kindOf st=k0)(R:Rdy κ a b o i j)(H:G2 st κ a b n Q)(hn:n<=i+j):wpS M A E s (lo3 a b o i j g ac bc) Q st:=by
 let I:=R.hi;let h:=R.hj;let G:b[j]?=cL b[j]:=getElem?_pos ..;let B:=a0D h;unfold lo3;rw[a4f];show gJ (ib ?_);let m:SG st (SortSt.mk' _ (arrOf st) _ g _):=(rfl,rfl,rfl,rfl);let e:kindOf (SortSt.mk' _ (arrOf st) (gR st) g (h7 st))=k0:=hk;generalize SortSt.mk' (kindOf st) (arrOf st) (gR st) g (h7 st)=st1 at m e;let l:G2 st1 κ a b n Q:=(λr c d g=>H.dn r c d (m.trans g),λ_ _ _ _ _ _ d g=>H.br _ _ _ _ _ _ d (m.trans g),λ_ _ _ _ _ _ d g=>H.go _ _ _ _ _ _ d (m.trans g));show gJ (a0z G (gJ (a1z C.L e (C.hb _ (cx B)) C.ha (by lia) (by lia) (a2Y C.sa (by lia)) λk J D x=>?_)));dsimp only;let f:∀y∈a.toList.drop (i+k),Kk κ b j<=κ y:=λy t=>by
  let(q,F,v,u):=a1Q t;rw[a0O]at v
  let:=x (q-i) (by lia) (by lia)
  rw[show i+(q-i)=q by lia,a3c u]at this;simp[bq]at this;rw[a0I h]
  lia
 split
 .let p:=R.w.runA C.sa k (by rw[a0O];lia) λq z F v u y t=>by
   let:=D (q-i) (by lia)
   rw[show i+(q-i)=q by lia,a3c u]at this;simp[bq]at this;show cD this (a1b C.sb B y t)
  rw[<- a6j]at p
  by_cases e1:i+k+1=a.size
  .rw[if_pos ↑e1];show gL (l.dn _ _ _ (SG.refl _) (a2X▸p.doneB C.sa C.sb (by rw[a0O];show e1) C.hl))
  .rw[if_neg ↑e1]
   by_cases e2:i+k=a.size
   .rw[if_pos ↑e2];show gL (l.dn _ _ _ (SG.refl _) (a13▸p.doneA C.sa C.sb (.inl (by rw[a0O];show e2))))
   .rw[if_neg ↑e2];show b5Y C e (p,by lia,h) f l (by lia)
 .let:k=0:=by lia
  subst this;show b5Y C e (R.w,I,h) f l (by lia)
def b8p(C:MC M A E s κ k0 ajj a b)(hk:kindOf st=k0)(R:Rdy κ a b o i j)(H:G2 st κ a b n Q)(hn:n<=i+j):wpS M A E s (lo2 a b o i j g ac bc) Q st:=by
 unfold lo2
 split<;>show b8o C hk R H hn
def b0J(C:MC M A E s κ k0 ajj a b):MW κ a.toList b.toList [b[0]'C.h1] 0 1:=by
 let e:MW κ a.toList b.toList [] 0 0:=(cM _,cM _,by simp,.nil,λx h=>by simp at h,λx h=>by simp at h);show e.pushB C.sb (a0D C.h1) λy d=>by rw[<- a0I (κ:=κ) C.h1];show C.hf y (by simp_all)
def a8Q(C:MC M A E s κ k0 ajj a b)(hk:kindOf st=k0)
  (h:∀r st',SG st st'->Mgd κ a.toList b.toList r.toList->Q r st'):wpS M A E s (a4g a b) Q st:=by
 let h0:=C.h0;let h1:=C.h1;rw[a4S];show a3P (gJ (a0z (getElem?_pos b 0 C.h1) ?_));let w0:=b0J C
 by_cases e1:1=b.size
 .rw[if_pos ↑e1];show gL (h _ _ (SG.refl _) (a13▸w0.doneA C.sa C.sb (.inr (by grind))))
 rw[if_neg ↑e1]
 by_cases e2:0+1=a.size
 .rw[if_pos ↑e2];show gL (h _ _ (SG.refl _) (a2X▸w0.doneB C.sa C.sb (by rw[a0O];show e2) C.hl))
 rw[if_neg ↑e2];show gJ (ip ?_);let R0:Rdy κ a b #[b[0]] 0 1:=(w0,by lia,by lia);show gJ (hZ (g5 (I:=λx c e=>∃o i j g,c=(jN,o,i,j,g,)/\SG st e/\Rdy κ a b o i j/\x<i+j)
  (Q:=λc e=>∃r F,c=(cL r,F,)/\SG st e/\Mgd κ a.toList b.toList r.toList) ?step ?fin (_,_,_,_,rfl,SG.refl _,R0,by lia)) ?post)
 case post=>
  ext c e ⟨r,F,rfl,H,m⟩;show gL (h r e H m)
 case fin=>
  ext c e ⟨o,i,j,g,rfl,H,R,hx⟩
  let:=R.hi
  let:=R.hj
  lia
 case step=>
  ext x c e _ hx ⟨o,i,j,g,rfl,H,R,hxi⟩;dsimp only;show gJ (hZ (g5 (I:=λy c f=>∃D l k J T,c=(jN,D,l,k,J,T,)/\f=e/\Rdy κ a b D l k/\i+j+y<=l+k)
   (Q:=λc f=>f=e/\((∃r F,c=(cL r,F,)/\Mgd κ a.toList b.toList r.toList)\/∃D l k J T,c=(jN,D,l,k,J,T,)/\Rdy κ a b D l k/\i+j<=l+k)) ?st1 ?fi1 (_,_,_,_,_,rfl,rfl,R,by lia)) ?po1)
  case fi1=>
   ext c f ⟨D,l,k,J,T,rfl,rfl,L,hy⟩
   let:=L.hi
   let:=L.hj
   lia
  case st1=>
   ext y c f _ hy ⟨D,l,k,J,T,rfl,rfl,L,hyi⟩;dsimp only;show b8n C (H.kd.trans hk) L (λr c m=>(rfl,.inl (r,c,rfl,m))) (λo2 i2 j2 u v X V=>(rfl,.inr (_,_,_,_,_,rfl,X,by lia))) λo2 i2 j2 u v X V=>(_,_,_,_,_,rfl,rfl,X,by lia)
  case po1=>
   ext c f ⟨rfl,⟨r,F,rfl,m⟩ |⟨D,l,k,J,T,rfl,L,hij⟩⟩
   .show gL (r,_,rfl,H,m)
   .dsimp only;show a3P ?_;show gJ (hZ (g5 (I:=λy c B=>∃G q p S z t,c=(jN,G,q,p,S,z,t,)/\SG st B/\Rdy κ a b G q p/\l+k+y<=q+p)
     (Q:=λc B=>SG st B/\((∃r F,c=(cL r,F,)/\Mgd κ a.toList b.toList r.toList)\/∃G q p S z t,c=(jN,G,q,p,S,z,t,)/\Rdy κ a b G q p/\l+k<q+p)) ?f ?fi2 (_,_,_,_,_,_,rfl,H,L,by lia)) ?po2)
    case fi2=>
     ext c B ⟨G,q,p,S,z,t,rfl,d,N,hy⟩
     let:=N.hi
     let:=N.hj
     lia
    case f=>
     ext y c B _ hy ⟨G,q,p,S,z,t,rfl,d,N,hyi⟩;dsimp only;show b8p C (d.kd.trans hk) N (λr c W U m=>(d.trans U,.inl (r,c,rfl,m)),λo4 i4 j4 u v w W U Y V=>(d.trans U,.inr (_,_,_,_,_,_,rfl,Y,by lia)),λo4 i4 j4 u v w W U Y V=>(_,_,_,_,_,_,rfl,d.trans U,Y,by lia)) (b8 _)
    case po2=>
     ext c B ⟨d,⟨r,F,rfl,m⟩ |⟨G,q,p,S,z,t,rfl,N,V⟩⟩
     .show gL (r,_,rfl,d,m)
     .dsimp only;show gJ (ib (gL (_,_,_,_,rfl,(d.kd,d.ar,d.pe,d.fl),N,by lia)))
end
noncomputable def a4h:Array Keyed->Array Keyed->SM (Array Keyed):=sortPriv% PySem.Builtin.mergeHi
abbrev hnA(a b o:Array Keyed)(u v:Nat):Array Keyed:=a.extract 0 u++b.extract 0 v++o.reverse
abbrev hnB(a b o:Array Keyed)(u v:Nat):Array Keyed:=b.extract 0 v++a.extract 0 u++o.reverse
abbrev H1:=Option (Array Keyed)×Nat×Nat×Array Keyed×Nat×Nat
abbrev H2:=Option (Array Keyed)×Nat×Nat×Array Keyed×Nat×Nat×Nat
noncomputable def hi1(a b:Array Keyed)(g u v:Nat)(o:Array Keyed)(ac bc:Nat):SM (ForInStep H1):=do
 let y <- elem' b (v-1)
 let x <- elem' a (u-1)
 let r <- lt' y x
 match r with
 |some aw=>
  if aw=jO then do
   let x <- elem' a (u-1)
   if (u-1==0)=jO then pure (.done (cL (hnA a b (o.push x) (u-1) v),u-1,v,o.push x,ac+1,0,))
   else if ac+1>=g then pure (.done (jN,u-1,v,o.push x,ac+1,0,)) else pure (.yield (jN,u-1,v,o.push x,ac+1,0,))
  else do
   let y <- elem' b (v-1)
   if (v-1==1)=jO then pure (.done (cL (hnB a b (o.push y) u (v-1)),u,v-1,o.push y,0,bc+1,))
   else if bc+1>=g then pure (.done (jN,u,v-1,o.push y,0,bc+1,)) else pure (.yield (jN,u,v-1,o.push y,0,bc+1,))
 |_=>pure (.done (cL (hnA a b o u v),u,v,o,ac,bc,))
noncomputable def hi5(a b:Array Keyed)(u v:Nat)(o:Array Keyed)(g ac bc:Nat):SM (ForInStep H2):=do
 let x <- elem' a (u-1)
 if (u-1==0)=jO then pure (.done (cL (hnA a b (o.push x) (u-1) v),u-1,v,o.push x,g,ac,bc,))
 else if (decide (ac<7)&&decide (bc<7))=jO then pure (.done (jN,u-1,v,o.push x,g,ac,bc,)) else pure (.yield (jN,u-1,v,o.push x,g,ac,bc,))
noncomputable def hi4(a b:Array Keyed)(u v:Nat)(o:Array Keyed)(g ac bc:Nat):SM (ForInStep H2):=do
 let y <- elem' b (v-1)
 if (v-1==1)=jO then pure (.done (cL (hnB a b (o.push y) u (v-1)),u,v-1,o.push y,g,ac,bc,))
 else do
  let x <- elem' a (u-1)
  let r <- a1r jO x b 0 (v-1) (v-1-1)
  match r with
  |some p=>
   if v-1-p > 0 then
    if (p==1)=jO then pure (.done (cL (hnB a b (o.push y++(b.extract p (v-1)).reverse) u p),u,p,o.push y++(b.extract p (v-1)).reverse,g,ac,v-1-p,))
    else if (p==0)=jO then pure (.done (cL (hnA a b (o.push y++(b.extract p (v-1)).reverse) u p),u,p,o.push y++(b.extract p (v-1)).reverse,g,ac,v-1-p,))
    else hi5 a b u p (o.push y++(b.extract p (v-1)).reverse) g ac (v-1-p)
   else hi5 a b u (v-1) (o.push y) g ac (v-1-p)
  |_=>pure (.done (cL (hnA a b (o.push y) u (v-1)),u,v-1,o.push y,g,ac,bc,))
noncomputable def hi3(a b:Array Keyed)(u v:Nat)(o:Array Keyed)(g ac bc:Nat):SM (ForInStep H2):=do
 a8P g
 let y <- elem' b (v-1)
 let r <- a1r jP y a 0 u (u-1)
 match r with
 |some p=>
  if u-p > 0 then
   if (p==0)=jO then pure (.done (cL (hnA a b (o++(a.extract p u).reverse) p v),p,v,o++(a.extract p u).reverse,g,u-p,bc,))
   else hi4 a b p v (o++(a.extract p u).reverse) g (u-p) bc
  else hi4 a b u v o g (u-p) bc
 |_=>pure (.done (cL (hnA a b o u v),u,v,o,g,ac,bc,))
noncomputable def hi2(a b:Array Keyed)(u v:Nat)(o:Array Keyed)(g ac bc:Nat):SM (ForInStep H2):=
 if g > 1 then hi3 a b u v o (g-1) ac bc else hi3 a b u v o g ac bc
def a4T(a b:Array Keyed):a4h a b=(do
  liftM (rule "list.sort.merge-hi")
  let x <- elem' a (a.size-1)
  if (a.size-1==0)=jO then pure (hnA a b #[x] (a.size-1) b.size)
  else if (b.size==1)=jO then pure (hnB a b #[x] (a.size-1) b.size)
  else do
   let st <- get
   let c <- forIn [0:a.size+b.size] ((jN,a.size-1,b.size,#[x],gallopOf st,):Option (Array Keyed)×Nat×Nat×Array Keyed×Nat) λ_ c=>do
    let c1 <- forIn [0:a.size+b.size] ((jN,c.2.1,c.2.2.1,c.2.2.2.1,0,0,):H1) λ_ c1=>hi1 a b c.2.2.2.2 c1.2.1 c1.2.2.1 c1.2.2.2.1 c1.2.2.2.2.1 c1.2.2.2.2.2
    match c1.1 with
    |some r=>pure (ForInStep.done (cL r,c1.2.1,c1.2.2.1,c1.2.2.2.1,c.2.2.2.2,))
    |none=>do
     liftM (rule "list.sort.gallop")
     let c2 <- forIn [0:a.size+b.size] ((jN,c1.2.1,c1.2.2.1,c1.2.2.2.1,c.2.2.2.2+1,c1.2.2.2.2.1,c1.2.2.2.2.2,):H2) λ_ c2=>hi2 a b c2.2.1 c2.2.2.1 c2.2.2.2.1 c2.2.2.2.2.1 c2.2.2.2.2.2.1 c2.2.2.2.2.2.2
     match c2.1 with
     |some r=>pure (ForInStep.done (cL r,c2.2.1,c2.2.2.1,c2.2.2.2.1,c2.2.2.2.2.1,))
     |none=>do
      a8P (c2.2.2.2.2.1+1)
      pure (ForInStep.yield (jN,c2.2.1,c2.2.2.1,c2.2.2.2.1,c2.2.2.2.2.1+1,))
   match c.1 with
   |some r=>pure r
   |none=>jG "internal:list.sort.merge-bound"):=by
 kernel_rfl
section
variable{A B o:List Keyed}{u v:Nat}{p:Keyed}
structure MH (κ:KF) (A B o:List Keyed) (u v:Nat):Prop where
 ia:u<=A.length
 jb:v<=B.length
 pm:(A.take u++B.take v++o.reverse).Perm (A++B)
 so:Srt κ o.reverse
 ba:∀x∈o,∀y∈A.take u,κ y<=κ x
 bb:∀x∈o,∀y∈B.take v,κ y<=κ x
def a5C{l:List Keyed}(h:l[n]?=cL p):l.take (n+1)=l.take n++[p]:=by
 rw[dh,h];rfl
def a1c(h:Srt κ l)(n:Nat):Srt κ (l.take n):=cZ.sublist (e6 n l) h
def a1A(h:Srt κ l)(e:l[n]?=cL p):∀y∈l.take (n+1),κ y<=κ p:=λy a=>by
 let b:=a1c h (n+1);rw[a5C e]at b a;let a||a:=b9.mp a
 .show (cy.mp b).2.2 y a p (by simp)
 .simp_all
def MH.pushA(W:MH κ A B o (u+1) v)(sa:Srt κ A)(hp:A[u]?=cL p)(hb:∀y∈B.take v,κ y<=κ p):MH κ A B (o++[p]) u v:=by
 let c:=a5C hp;let d:=(cn.mp hp).1;show(by lia,W.jb,?_,?_,λx b y a=>?_,λx b y a=>?_)
 .let:=W.pm
  rw[c]at this;show cP.trans ?_ this;rw[dD,dI];simp;show cP.append_left _ fS
 .rw[dD,dI,eS];show cG.mpr (λx b=>?_,W.so);show W.ba x ↑b p (by rw[c];simp)
 .let h||h:=b9.mp b
  .show W.ba x h y (by simp_all)
  .rw[cc.mp h];show a1A sa hp y (by simp_all)
 .let h||h:=b9.mp b
  .show W.bb x h y a
  .simp_all
def MH.pushB(W:MH κ A B o u (v+1))(sb:Srt κ B)(hp:B[v]?=cL p)(hb:∀y∈A.take u,κ y<=κ p):MH κ A B (o++[p]) u v:=by
 let c:=a5C hp;let d:=(cn.mp hp).1;show(W.ia,by lia,?_,?_,λx b y a=>?_,λx b y a=>?_)
 .let:=W.pm
  rw[c]at this;show cP.trans ?_ this;rw[dD,dI];simp only[cC];show cP.refl _
 .rw[dD,dI,eS];show cG.mpr (λx b=>?_,W.so);show W.bb x (by simp_all) p (by simp_all)
 .let h||h:=b9.mp b
  .show W.ba x h y a
  .rw[cc.mp h];show hb y a
 .let h||h:=b9.mp b
  .show W.bb x h y (by simp_all)
  .rw[cc.mp h];show a1A sb hp y (by simp_all)
def MH.runA(sa:Srt κ A):∀(k:Nat){o:List Keyed},MH κ A B o (u+k) v->(∀q z,u<=q->q<u+k->A[q]?=cL z->∀y∈B.take v,κ y<=κ z)->MH κ A B (o++((A.drop u).take k).reverse) u v:=by ext z0;induction z0 with
 |zero=>ext o W _;o_head W
 |succ k I0=>
  ext o W hz;let a:u+k<A.length:=by let:=W.ia;lia
  let e:=cu a;rw[take_snoc e,dD,dI,<- cC];show (I0 (MH.pushA W sa e (hz _ _ (by simp) (by simp) e)) λq z c f=>hz q z c (by lia))
def MH.runB(sb:Srt κ B):∀(k:Nat){o:List Keyed},MH κ A B o u (v+k)->(∀q z,v<=q->q<v+k->B[q]?=cL z->∀y∈A.take u,κ y<=κ z)->MH κ A B (o++((B.drop v).take k).reverse) u v:=by ext z0;induction z0 with
 |zero=>ext o W _;o_head W
 |succ k I0=>
  ext o W hz;let a:v+k<B.length:=by let:=W.jb;lia
  let e:=cu a;rw[take_snoc e,dD,dI,<- cC];show (I0 (MH.pushB W sb e (hz _ _ (by simp) (by simp) e)) λq z c f=>hz q z c (by lia))
def MH.doneA(W:MH κ A B o u v)(sa:Srt κ A)(sb:Srt κ B)(h:u=0\/v=0):Mgd κ A B (A.take u++B.take v++o.reverse):=by
 show(W.pm,?_);show cy.mpr (cy.mpr (a1c sa u,a1c sb v,λx b y c=>?_),W.so,λx b y c=>?_)
 .let rfl||rfl:=h
  .simp_all
  .simp_all
 .let a:y∈o:=↑c
  let h||h:=b9.mp b
  .show W.ba y a x h
  .show W.bb y a x h
def MH.doneB(W:MH κ A B o u 1)(sa:Srt κ A)(sb:Srt κ B)(hf:∀z,B[0]?=cL z->∀y∈A,κ z<=κ y):Mgd κ A B (B.take 1++A.take u++o.reverse):=by
 show(?_,?_)
 .show cP.trans ?_ W.pm;show cP.append_right _ fU
 .show cy.mpr (cy.mpr (a1c sb 1,a1c sa u,λx a y c=>?_),W.so,λx a y c=>?_)
  .cases B with
   |nil=>simp at a
   |cons z B=>
    let:x=z:=↑a
    subst this;show hf x rfl y (dJ c)
  .let b:y∈o:=↑c
   let h||h:=b9.mp a
   .show W.bb y b x h
   .show W.ba y b x h
end
section
variable{a b o:Array Keyed}{u v:Nat}
def a14:(hnA a b o u v).toList=a.toList.take u++b.toList.take v++o.toList.reverse:=by
 simp
def a2Z:(hnB a b o u v).toList=b.toList.take v++a.toList.take u++o.toList.reverse:=by
 simp
def a6k:(o++(a.extract p u).reverse).toList=o.toList++((a.toList.drop p).take (u-p)).reverse:=by
 simp[eQ]
end
structure RdH (κ:KF) (a b o:Array Keyed) (u v:Nat):Prop where
 w:MH κ a.toList b.toList o.toList u v
 hu:1<=u
 hv:2<=v
section
variable{M:Model}{k0:h9}{ajj a b o:Array Keyed}{st:SortSt}{u v g ac bc:Nat}
def RdH.ua(R:RdH κ a b o u v):u<=a.size:=by let:=R.w.ia;rwa [a0O]at this
def RdH.vb(R:RdH κ a b o u v):v<=b.size:=by let:=R.w.jb;rwa [a0O]at this
def MC.first(C:MC M A E s κ k0 ajj a b):∀z,b.toList[0]?=cL z->∀y∈a.toList,κ z<=κ y:=λz c y d=>by
 let:=C.hf y d
 rwa [a3c c]at this
def b8q(C:MC M A E s κ k0 ajj a b)(hk:kindOf st=k0)(R:RdH κ a b o (u+1) (v+1))
  (dn:∀r c,Mgd κ a.toList b.toList r.toList->Q (.done (cL r,c,)) st)
  (br:∀o' u' v' x y,RdH κ a b o' u' v'->u'+v'=u+v+1->Q (.done (jN,u',v',o',x,y,)) st)
  (go:∀o' u' v' x y,RdH κ a b o' u' v'->u'+v'=u+v+1->Q (.yield (jN,u',v',o',x,y,)) st):wpS M A E s (hi1 a b g (u+1) (v+1) o ac bc) Q st:=by
 let q:=R.ua;let t:=R.vb;let p:=R.hv;let l:b[v]?=cL b[v]:=getElem?_pos ..;let n:a[u]?=cL a[u]:=getElem?_pos ..;let j:=a0D (a:=b) (i:=v) (by lia);let k:=a0D (a:=a) (i:=u) (by lia);unfold hi1;simp only[fj];show gJ (a0z l (gJ (a0z n (gJ (C.L _ _ (C.hb _ (cx j)) (C.ha _ (cx k)) st _ hk ?_)))));dsimp only
 by_cases c:κ b[v]<κ a[u]
 .rw[if_pos (decide_eq_true c)];show gJ (a0z n ?_);let d:=R.w.pushA C.sa k λy h=>cD (a1A C.sb j y h) (cQ c);rw[<- cR]at d
  by_cases e:u=0
  .rw[if_pos ↑e];show gL (dn _ _ (a14▸d.doneA C.sa C.sb (.inl e)))
  .rw[if_neg ↑e];let f:RdH κ a b (o.push a[u]) u (v+1):=(d,by lia,p)
   split
   .show gL (br _ _ _ _ _ f (by lia))
   .show gL (go _ _ _ _ _ f (by lia))
 .rw[if_neg ↑c];show gJ (a0z l ?_);let d:=R.w.pushB C.sb j λy h=>cD (a1A C.sa k y h) (eR.mp c);rw[<- cR]at d
  by_cases e:v=1
  .rw[if_pos ↑e];subst e;show gL (dn _ _ (a2Z▸d.doneB C.sa C.sb C.first))
  .rw[if_neg ↑e];let f:RdH κ a b (o.push b[v]) (u+1) v:=(d,R.hu,by lia)
   split
   .show gL (br _ _ _ _ _ f (by lia))
   .show gL (go _ _ _ _ _ f (by lia))
structure HG (st:SortSt) (κ:KF) (a b:Array Keyed) (n:Nat) (Q:ForInStep H2->SortSt->Prop):Prop where
 dn:∀r c st',SG st st'->Mgd κ a.toList b.toList r.toList->Q (.done (cL r,c,)) st'
 br:∀o' u' v' x y z st',SG st st'->RdH κ a b o' u' v'->u'+v'<n->Q (.done (jN,u',v',o',x,y,z,)) st'
 go:∀o' u' v' x y z st',SG st st'->RdH κ a b o' u' v'->u'+v'<n->Q (.yield (jN,u',v',o',x,y,z,)) st'
def b5Z(C:MC M A E s κ k0 ajj a b)(R:RdH κ a b o (u+1) v)(hle:∀y∈b.toList.take v,κ y<=Kk κ a u)(H:HG st κ a b n Q)(hn:u+v<n):wpS M A E s (hi5 a b (u+1) v o g ac bc) Q st:=by
 let k:=R.ua;let j:a[u]?=cL a[u]:=getElem?_pos ..;rw[a0I (show u<a.size by lia)]at hle;unfold hi5;simp only[fj];show gJ (a0z j ?_);let c:=R.w.pushA C.sa (a0D (a:=a) (i:=u) (by lia)) hle;rw[<- cR]at c
 by_cases e:u=0
 .rw[if_pos ↑e];show gL (H.dn _ _ _ (SG.refl _) (a14▸c.doneA C.sa C.sb (.inl e)))
 .rw[if_neg ↑e];let d:RdH κ a b _ u v:=(c,by lia,R.hv)
  split
  .show gL (H.br _ _ _ _ _ _ _ (SG.refl _) d (by lia))
  .show gL (H.go _ _ _ _ _ _ _ (SG.refl _) d (by lia))
def a1R{l:List Keyed}(h:y∈l.take n):∃q,q<n/\l[q]?=cL y:=by
 let(m,a):=d9 h;let b:=(cn.mp a).1;rw[fk]at a
 split at a
 .show(m,by cbv,a)
 .grind
def b50(C:MC M A E s κ k0 ajj a b)(hk:kindOf st=k0)(R:RdH κ a b o (u+1) (v+1))(hle:∀y∈a.toList.take (u+1),κ y<=Kk κ b v)(H:HG st κ a b n Q)(hn:u+v<n):wpS M A E s (hi4 a b (u+1) (v+1) o g ac bc) Q st:=by
 let I:=R.ua;let G:=R.vb;let F:=R.hv;let B:b[v]?=cL b[v]:=getElem?_pos ..;let t:a[u]?=cL a[u]:=getElem?_pos ..;let r:=a0D (a:=a) (i:=u) (by lia);rw[a0I (show v<b.size by lia)]at hle;unfold hi4;simp only[fj];show gJ (a0z B ?_);let d:=R.w.pushB C.sb (a0D (a:=b) (i:=v) (by lia)) hle;rw[<- cR]at d
 by_cases e:v=1
 .rw[if_pos ↑e];subst e;show gL (H.dn _ _ _ (SG.refl _) (a2Z▸d.doneB C.sa C.sb C.first))
 .rw[if_neg ↑e];show gJ (a0z t (gJ (a1z C.L hk (C.ha _ (cx r)) C.hb (by lia) (by lia) (a2Y C.sb (by lia)) λp D j h=>?_)));dsimp only;simp only[eT]at j h;let c:∀y∈b.toList.take p,κ y<=Kk κ a u:=λy k=>by
   let(q,m,l):=a1R k
   let:=j q m
   rw[a3c l]at this;simp[bq]at this;rw[a0I (show u<a.size by lia)]
   lia
  split
  .let f:=MH.runB C.sb (v-p) (by rw[show p+(v-p)=v by lia];show d) λq z m J l y k=>by
    let:=h q m (by lia)
    rw[a3c l]at this;simp[bq]at this;show cD (a1A C.sa r y k) this
   rw[<- a6k]at f
   by_cases e1:p=1
   .rw[if_pos ↑e1];subst e1;show gL (H.dn _ _ _ (SG.refl _) (a2Z▸f.doneB C.sa C.sb C.first))
   .rw[if_neg ↑e1]
    by_cases e2:p=0
    .rw[if_pos ↑e2];show gL (H.dn _ _ _ (SG.refl _) (a14▸f.doneA C.sa C.sb (.inr e2)))
    .rw[if_neg ↑e2];show b5Z C (f,by lia,by lia) c H (by lia)
  .let:p=v:=by lia
   subst this;show b5Z C (d,by lia,by lia) c H (by lia)
def b8r(C:MC M A E s κ k0 ajj a b)(hk:kindOf st=k0)(R:RdH κ a b o (u+1) (v+1))(H:HG st κ a b n Q)(hn:u+v<n):wpS M A E s (hi3 a b (u+1) (v+1) o g ac bc) Q st:=by
 let S:=R.ua;let N:=R.vb;let I:b[v]?=cL b[v]:=getElem?_pos ..;let D:=a0D (a:=b) (i:=v) (by lia);unfold hi3;rw[a4f];show gJ (ib ?_);let h:SG st (SortSt.mk' _ _ _ g _):=(rfl,rfl,rfl,rfl);let e:kindOf (SortSt.mk' _ (arrOf st) (gR st) g (h7 st))=k0:=hk;generalize SortSt.mk' _ (arrOf st) (gR st) g (h7 st)=st1 at h e;let l:HG st1 κ a b n Q:=(λr c d g=>H.dn r c d (h.trans g),λ_ _ _ _ _ _ d g=>H.br _ _ _ _ _ _ d (h.trans g),λ_ _ _ _ _ _ d g=>H.go _ _ _ _ _ _ d (h.trans g));show gJ (a0z I (gJ (a1z C.L e (C.hb _ (cx D)) C.ha (by lia) (by lia) (a2Y C.sa (by lia)) λp J k j=>?_)));dsimp only;simp at k j;let f:∀y∈a.toList.take p,κ y<=Kk κ b v:=λy m=>by
  let(q,B,x):=a1R m
  let:=k q B
  rw[a3c x]at this;simp[bq]at this;rw[a0I _];cbv
 split
 .let t:=MH.runA C.sa _ (show p+(u+1-p)=u+1 by lia▸R.w) λq z B T x y m=>by
   let:=j q B (by lia)
   rw[a3c x]at this;simp[bq]at this;show cD (a1A C.sb D y m) (cQ this)
  rw[<- a6k]at t
  by_cases e1:p=0
  .rw[if_pos ↑e1];show gL (l.dn _ _ _ (SG.refl _) (a14▸t.doneA C.sa C.sb (.inl e1)))
  .rw[if_neg ↑e1];obtain⟨G,rfl⟩:∃G,p=G+1:=(p-1,by lia);show b50 C e (t,by lia,R.hv) f l (by lia)
 .let:p=u+1:=by lia
  subst this;show b50 C e R f l (by lia)
def b8s(C:MC M A E s κ k0 ajj a b)(hk:kindOf st=k0)(R:RdH κ a b o (u+1) (v+1))(H:HG st κ a b n Q)(hn:u+v<n):wpS M A E s (hi2 a b (u+1) (v+1) o g ac bc) Q st:=by
 unfold hi2
 split<;>show b8r C hk R H hn
def b0K(C:MC M A E s κ k0 ajj a b):MH κ a.toList b.toList [a[a.size-1]'(by let:=C.h0;cbv)] (a.size-1) b.size:=by
 let f:=C.h0;let d:MH κ a.toList b.toList [] (a.size-1+1) b.size:=(by rw[a0O];lia,by rw[a0O];lia,by rw[di (by rw[a0O];lia),di (by rw[a0O];lia)];simp,.nil,λx h=>by simp at h,λx h=>by simp at h);show d.pushA C.sa (a0D (a:=a) (i:=a.size-1) (by lia)) λy e=>C.hl _ (by simp) y (dJ e)
def a8R(C:MC M A E s κ k0 ajj a b)(hk:kindOf st=k0)
  (h:∀r st',SG st st'->Mgd κ a.toList b.toList r.toList->Q r st'):wpS M A E s (a4h a b) Q st:=by
 let h0:=C.h0;let h1:=C.h1;rw[a4T];show a3P (gJ (a0z (getElem?_pos a (a.size-1) (by lia)) ?_));let V:=b0K C
 by_cases e1:a.size-1=0
 .rw[if_pos ↑e1];show gL (h _ _ (SG.refl _) (a14▸V.doneA C.sa C.sb (.inl e1)))
 rw[if_neg ↑e1]
 by_cases e2:b.size=1
 .rw[if_pos ↑e2];show gL (h _ _ (SG.refl _) ?_);rw[e2]at V;rw[a2Z,e2];show V.doneB C.sa C.sb C.first
 rw[if_neg ↑e2];show gJ (ip ?_);let R0:RdH κ a b #[a[a.size-1]] (a.size-1) b.size:=(V,by lia,by lia);show gJ (hZ (g5 (I:=λx c e=>∃o u v g,c=(jN,u,v,o,g,)/\SG st e/\RdH κ a b o u v/\x+(u+v)<a.size+b.size)
  (Q:=λc e=>∃r G,c=(cL r,G,)/\SG st e/\Mgd κ a.toList b.toList r.toList) ?step ?fin (_,_,_,_,rfl,SG.refl _,R0,by lia)) ?post)
 case post=>
  ext c e ⟨r,G,rfl,L,m⟩;show gL (h r e L m)
 case fin=>
  ext c e ⟨o,u,v,g,rfl,L,R,hx⟩
  lia
 case step=>
  ext x c e _ hx ⟨o,u,v,g,rfl,L,R,hxi⟩;dsimp only;let hk1:kindOf e=k0:=L.kd.trans hk;show gJ (hZ (g5 (I:=λy c l=>∃D f i S J,c=(jN,f,i,D,S,J,)/\l=e/\RdH κ a b D f i/\f+i+y<=u+v)
   (Q:=λc l=>l=e/\((∃r G,c=(cL r,G,)/\Mgd κ a.toList b.toList r.toList)\/∃D f i S J,c=(jN,f,i,D,S,J,)/\RdH κ a b D f i/\f+i<=u+v)) ?st1 ?fi1 (_,_,_,_,_,rfl,rfl,R,by lia)) ?po1)
  case fi1=>
   ext c l ⟨D,f,i,S,J,rfl,rfl,H,Y⟩;show(rfl,.inr (_,_,_,_,_,rfl,H,by lia))
  case st1=>
   ext y c l _ Y ⟨D,f,i,S,J,rfl,rfl,H,hyi⟩;dsimp only;let hu1:=H.hu;let hv1:=H.hv;obtain⟨f,rfl⟩:∃z,f=z+1:=(f-1,by lia);obtain⟨i,rfl⟩:∃z,i=z+1:=(i-1,by lia);show b8q C hk1 H (λr c m=>(rfl,.inl (r,c,rfl,m))) (λo2 i2 j2 u v R2 U=>(rfl,.inr (_,_,_,_,_,rfl,R2,by lia))) λo2 i2 j2 u v R2 U=>(_,_,_,_,_,rfl,rfl,R2,by lia)
  case po1=>
   ext c l ⟨rfl,⟨r,G,rfl,m⟩ |⟨D,f,i,S,J,rfl,H,hij⟩⟩
   .show gL (r,_,rfl,L,m)
   .dsimp only;show a3P ?_;show gJ (hZ (g5 (I:=λy c p=>∃B k j N q t,c=(jN,k,j,B,N,q,t,)/\SG st p/\RdH κ a b B k j/\k+j+y<=f+i)
     (Q:=λc p=>SG st p/\((∃r G,c=(cL r,G,)/\Mgd κ a.toList b.toList r.toList)\/∃B k j N q t,c=(jN,k,j,B,N,q,t,)/\RdH κ a b B k j/\k+j<f+i)) ?l ?fi2 (_,_,_,_,_,_,rfl,L,H,by lia)) ?po2)
    case fi2=>
     ext c p ⟨B,k,j,N,q,t,rfl,d,F,Y⟩;show(d,.inr (_,_,_,_,_,_,rfl,F,by let:=F.hu;lia))
    case l=>
     ext y c p _ Y ⟨B,k,j,N,q,t,rfl,d,F,hyi⟩;dsimp only;let hu1:=F.hu;let hv1:=F.hv;obtain⟨k,rfl⟩:∃z,k=z+1:=(k-1,by lia);obtain⟨j,rfl⟩:∃z,j=z+1:=(j-1,by lia);show b8s (n:=k+1+(j+1)) C (d.kd.trans hk) F (λr c W T m=>(d.trans T,.inl (r,c,rfl,m)),λo4 i4 j4 u v w W T X U=>(d.trans T,.inr (_,_,_,_,_,_,rfl,X,by lia)),λo4 i4 j4 u v w W T X U=>(_,_,_,_,_,_,rfl,d.trans T,X,by lia)) (by lia)
    case po2=>
     ext c p ⟨d,⟨r,G,rfl,m⟩ |⟨B,k,j,N,q,t,rfl,F,U⟩⟩
     .show gL (r,_,rfl,d,m)
     .dsimp only;rw[a4f];show gJ (ib (gL (_,_,_,_,rfl,(d.kd,d.ar,d.pe,d.fl),F,by lia)))
end
def SR(κ:KF)(xs:Array Keyed)(lo n:Nat):Prop:=∀i j,i<=j->j<n->Kk κ xs (lo+i)<=Kk κ xs (lo+j)
def NR(κ:KF)(xs:Array Keyed)(lo n:Nat):Prop:=∀i j,i<=j->j<n->Kk κ xs (lo+j)<=Kk κ xs (lo+i)
structure Ar (st st':SortSt) (lo:Nat):Prop where
 pm:(arrOf st').Perm (arrOf st)
 pre:∀i,i<lo->(arrOf st')[i]?=(arrOf st)[i]?
 kd:kindOf st'=kindOf st
 pe:gR st'=gR st
 fl:h7 st'=h7 st
section
variable{M:Model}{k0:h9}{ajj:Array Keyed}{st st':SortSt}{lo:Nat}
def Ar.refl(st:SortSt)(lo:Nat):Ar st st lo:=(fm.refl _,λ_ _=>rfl,rfl,rfl,rfl)
def Ar.trans(p:Ar x y lo)(q:Ar y z lo):Ar x z lo:=(q.pm.trans p.pm,λi h=>(q.pre i h).trans (p.pre i h),q.kd.trans p.kd,q.pe.trans p.pe,q.fl.trans p.fl)
def Ar.tb(q:Ar st st' lo)(B:TB k0 ajj st):TB k0 ajj st':=(q.pm.trans B.pm,q.kd.trans B.kd,q.fl.trans B.fl)
def b1T(hs:src<xs.size)(hd:d<=src)(k:Nat) :
  Kk κ (bubble xs src d) k=if k=src-d then Kk κ xs src else if src-d<k/\k<=src then Kk κ xs (k-1) else Kk κ xs k:=by
 let q:=getElem?_bubble hs d hd k
 by_cases h1:k=src-d
 .rw[if_pos h1]at q ⊢;show a3b q
 .rw[if_neg h1]at q ⊢
  by_cases h2:src-d<k/\k<=src
  .rw[if_pos h2]at q ⊢;show a3b q
  .rw[if_neg h2]at q ⊢;show a3b q
def Ar.bub(hs:src<(arrOf st).size)(hd:d<=src)(h:lo<=src-d):Ar st (setArr st (bubble (arrOf st) src d)) lo:=
 (bubble_perm _ _ _,λi a=>by
  rw[getElem?_bubble hs d hd,if_neg (by lia),if_neg (by lia)],rfl,rfl,rfl)
def a8S(hj:j<=xs.size)(k:Nat):Kk κ (mirror xs i j ((j-i) / 2)) k=if i<=k/\k<j then Kk κ xs (i+j-1-k) else Kk κ xs k:=by
 let q:=getElem?_mirror_all (i:=i) hj k
 by_cases h1:i<=k/\k<j
 .rw[if_pos h1]at q ⊢;show a3b q
 .rw[if_neg h1]at q ⊢;show a3b q
def a3d(hj:j<=xs.size)(hq:∀k,i<=k->k<j->Kk κ xs k=Kk κ xs (j-1))(k:Nat):Kk κ (mirror xs i j ((j-i) / 2)) k=Kk κ xs k:=by
 rw[a8S hj]
 split
 .grind
 .rfl
def Ar.mir(hj:j<=(arrOf st).size)(h:lo<=i):Ar st (setArr st (mirror (arrOf st) i j ((j-i) / 2))) lo:=
 (mirror_perm _ _ _ _,λk a=>by
  rw[getElem?_mirror_all hj,if_neg (by lia)],rfl,rfl,rfl)
def b0L(L:LtOk M A E s κ k0 ajj)(B:TB k0 ajj st)(hn:lo+n<=ajj.size)(hok:ok<=n)(hs:SR κ (arrOf st) lo ok)
  (h:∀st',Ar st st' lo->SR κ (arrOf st') lo n->Q jO st'):wpS M A E s (binarySort' lo n ok) Q st:=by
 rw[binarySort'_eq];show gJ (hZ (g5 (I:=λk c z=>c=(jN,(),)/\Ar st z lo/\SR κ (arrOf z) lo (min k n)) (Q:=λc z=>c=(jN,(),)/\Ar st z lo/\SR κ (arrOf z) lo n) ?step ?fin ?init) ?post)
 case post=>
  ext c z ⟨rfl,r1,r2⟩;show gL (h z r1 r2)
 case init=>
  show(rfl,Ar.refl _ _,λi j hij hj=>?_)
  by_cases h1:ok=0
  .let:i=j:=by lia
   rw[this];show cK _
  .show hs i j hij (by lia)
 case fin=>
  ext c z ⟨hc,r1,r2⟩;show(hc,r1,?_)
  rwa [show min (max (max ok 1) n) n=n by lia]at r2
 case step=>
  ext k c z hak hkn ⟨rfl,r1,r2⟩;rw[show min k n=k by lia]at r2;let B1:=r1.tb B;show gJ (hZ (g5 (I:=λx c y=>y=z/\∃p q,c=(jN,p,q,)/\p<=q/\q<=k/\q-p<=k-x/\(∀i,i<p->Kk κ (arrOf z) (lo+i)<=Kk κ (arrOf z) (lo+k))/\(∀i,q<=i->i<k->Kk κ (arrOf z) (lo+k)<Kk κ (arrOf z) (lo+i)))
   (Q:=λc y=>y=z/\∃p q,c=(jN,p,q,)/\p<=k/\(∀i,i<p->Kk κ (arrOf z) (lo+i)<=Kk κ (arrOf z) (lo+k))/\(∀i,p<=i->i<k->Kk κ (arrOf z) (lo+k)<Kk κ (arrOf z) (lo+i))) ?istep ?ifin ?iinit) ?ipost)
  case iinit=>show(rfl,0,k,rfl,by lia,by lia,by lia,λi hi=>by lia,λi h1 h2=>by lia)
  case ifin=>
   ext c y ⟨rfl,p,q,rfl,u1,u2,u3,u4,u5⟩
   let:p=q:=by lia
   subst this;show(rfl,p,p,rfl,u2,u4,u5)
  case istep=>
   ext x c y _ hxk ⟨rfl,p,q,rfl,u1,u2,u3,u4,u5⟩;dsimp only
   by_cases hge:p>=q
   .rw[if_pos hge]
    let:p=q:=by lia
    subst this;show gL (rfl,p,p,rfl,u2,u4,u5)
   .rw[if_neg hge];show gJ (a4R L B1 (by lia) (by lia) ?_)
    by_cases hless:Kk κ (arrOf y) (lo+k)<Kk κ (arrOf y) (lo+(p+q) / 2)
    .simp only[hless,decide_true,if_true];show gL (rfl,p,(p+q) / 2,rfl,by lia,by lia,by lia,u4,λi h1 h2=>?_);show Int.lt_of_lt_of_le hless (r2 _ _ h1 h2)
    .simp only[hless,decide_false,fq,if_false];show gL (rfl,(p+q) / 2+1,q,rfl,by lia,by lia,by lia,λi h1=>?_,u5);show cD (r2 i ((p+q) / 2) (by lia) (by lia)) (eR.mp hless)
  case ipost=>
   ext c y ⟨rfl,p,q,rfl,u2,u4,u5⟩
   change wpS _ _ _ _ (do moveDown' (lo+k) (lo+p);pure (ForInStep.yield (jN,(),))) _ _
   rw[moveDown'_eq];let hks:lo+k<(arrOf y).size:=by rw[B1.sz];lia
   show gJ (ib (gL (rfl,r1.trans (Ar.bub hks (by lia) (by lia)),?_)));rw[show min (k+1) n=k+1 by lia];ext i j hij hj
   change Kk κ (bubble (arrOf y) (lo+k) (lo+k-(lo+p))) (lo+i)<=Kk κ (bubble (arrOf y) (lo+k) (lo+k-(lo+p))) (lo+j)
   rw[b1T hks (by lia),b1T hks (by lia),show lo+k-(lo+k-(lo+p))=lo+p by lia];let ek:∀t,1<=t->lo+t-1=lo+(t-1):=λt ht=>by lia
   repeat' split
   all_goals first
    | (exfalso;lia)
    |show cK _
    |show u4 _ (by lia)
    | (rw[ek _ (by lia)];show u4 _ (by lia))
    |show cQ (u5 _ (by lia) (by lia))
    | (rw[ek _ (by lia)];show cQ (u5 _ (by lia) (by lia)))
    |show r2 _ _ (by lia) (by lia)
    | (rw[ek j (by lia)];show r2 _ _ (by lia) (by lia))
    | (rw[ek i (by lia)];show r2 _ _ (by lia) (by lia))
    | (rw[ek i (by lia),ek j (by lia)];show r2 _ _ (by lia) (by lia))
end
abbrev U1:=Option (Option Nat)×Nat
abbrev U2:=Option (Option Nat)×Nat×Nat
noncomputable def rise(lo p nr:Nat):SM U1:=forIn [p:nr] ((jN,p,):U1) λ_ c=>do
 let x <- ltAt' (lo+c.2) (lo+c.2-1)
 match x with
 |some sm=>if sm=jO then pure (.done (jN,c.2,)) else pure (.yield (jN,c.2+1,))
 |_=>pure (.done (cL jN,c.2,))
noncomputable def fin3(lo n nr:Nat):SM (Option Nat):=do
 i8 lo (lo+n)
 let c <- rise lo n nr
 match c.1 with
 |some r=>pure r
 |none=>pure (cL c.2)
noncomputable def fall(lo n nr:Nat):SM U2:=forIn [n:nr] ((jN,n,0,):U2) λ_ c=>do
 let x <- ltAt' (lo+c.2.1) (lo+c.2.1-1)
 match x with
 |some sm=>
  if sm=jO then
   if c.2.2 > 0 then do
    i8 (lo+c.2.1-(c.2.2+1)) (lo+c.2.1)
    pure (.yield (jN,c.2.1+1,0,))
   else pure (.yield (jN,c.2.1+1,0,))
  else do
   let x <- ltAt' (lo+c.2.1-1) (lo+c.2.1)
   match x with
   |some lg=>if lg=jO then pure (.done (jN,c.2.1,c.2.2,)) else pure (.yield (jN,c.2.1+1,c.2.2+1,))
   |_=>pure (.done (cL jN,c.2.1,c.2.2,))
 |_=>pure (.done (cL jN,c.2.1,c.2.2,))
noncomputable def part(lo n nr:Nat):SM (Option Nat):=do
 liftM (rule "list.sort.descending-run")
 let c <- fall lo (n+1) nr
 match c.1 with
 |some r=>pure r
 |none=>
  if c.2.2 > 0 then do
   i8 (lo+c.2.1-(c.2.2+1)) (lo+c.2.1)
   fin3 lo c.2.1 nr
  else fin3 lo c.2.1 nr
def a4i(lo nr:Nat):countRun' lo nr=(do
  let c <- rise lo 1 nr
  match c.1 with
  |some r=>pure r
  |none=>
   if (c.2==nr)=jO then pure (cL c.2)
   else if c.2 > 1 then do
    let x <- ltAt' lo (lo+c.2-1)
    match x with
    |some up=>if up=jO then pure (cL c.2) else do
      i8 lo (lo+c.2)
      part lo c.2 nr
    |_=>pure jN
   else part lo c.2 nr):=by
 kernel_rfl
section
variable{M:Model}{k0:h9}{ajj:Array Keyed}{st:SortSt}{lo nr:Nat}
def b0M{α:Type}{f:Unit->SM α}{Q:α->SortSt->Prop}(h:wpS M A E s (f ()) Q (setArr st (mirror (arrOf st) i j ((j-i) / 2)))):wpS M A E s (i8 i j >>= f) Q st:=gJ (ib h)
def SR.one:SR κ xs lo 1:=by grind [SR]
def SR.snoc(h:SR κ xs lo n)(h1:1<=n)(c:Kk κ xs (lo+n-1)<=Kk κ xs (lo+n)):SR κ xs lo (n+1):=λi j a b=>by
 by_cases hjn:j<n
 .show h i j a hjn
 .let e:j=n:=by lia
  subst e
  by_cases e2:i=j
  .rw[e2];show cK _
  .show cD (h i (j-1) (by lia) (by lia)) ?_;rw[show lo+(j-1)=lo+j-1 by lia];show c
def NR.snoc(h:NR κ xs lo n)(h1:1<=n)(c:Kk κ xs (lo+n)<=Kk κ xs (lo+n-1)):NR κ xs lo (n+1):=λi j a b=>by
 by_cases hjn:j<n
 .show h i j a hjn
 .let e:j=n:=by lia
  subst e
  by_cases e2:i=j
  .simp_all
  .show cD ?_ (h i (j-1) (by lia) (by lia));rw[show lo+(j-1)=lo+j-1 by lia];show c
def NR.congr(h:NR κ xs lo n)(e:∀k,Kk κ ys k=Kk κ xs k):NR κ ys lo n:=λi j b a=>by rw[e,e];show h i j b a
def b1U(L:LtOk M A E s κ k0 ajj)(B:TB k0 ajj st)(hn:lo+nr<=ajj.size)(hp:1<=p)(hpn:p<=nr)(hs:SR κ (arrOf st) lo p)
  (h:∀n,p<=n->n<=nr->SR κ (arrOf st) lo n->(n=nr\/Kk κ (arrOf st) (lo+n)<Kk κ (arrOf st) (lo+n-1))->Q (jN,n,) st):wpS M A E s (rise lo p nr) Q st:=by
 show g5 (I:=λx c z=>z=st/\c=(jN,x,)/\SR κ _ lo x) ?step ?fin (rfl,rfl,hs)
 case fin=>
  ext c z ⟨rfl,rfl,a⟩;rw[show max p nr=nr by lia]at a ⊢;show h nr hpn (b8 _) a (.inl rfl)
 case step=>
  ext x c z b d ⟨rfl,rfl,a⟩;show gJ (a4R L B (by lia) (by lia) ?_)
  by_cases q:Kk κ (arrOf z) (lo+x)<Kk κ (arrOf z) (lo+x-1)
  .simp only[q];show gL (h x b (by lia) a (.inr q))
  .simp only[q];show gL (rfl,rfl,a.snoc (by lia) (eR.mp q))
def b1V(L:LtOk M A E s κ k0 ajj)(B:TB k0 ajj st)(hn:lo+nr<=ajj.size)(h1:1<=n)(hnn:n<=nr)(hs:NR κ (arrOf st) lo n)
  (h:∀m z,Ar st z lo->1<=m->m<=nr->SR κ (arrOf z) lo m->Q (cL m) z):wpS M A E s (fin3 lo n nr) Q st:=by
 let a:lo+n<=(arrOf st).size:=by rw[B.sz];lia
 show b0M ?_;let b:Ar st _ lo:=Ar.mir a (b8 _);show gJ (b1U L (b.tb B) hn h1 hnn ?_ λm g d c _=>gL (h m _ b (by lia) d c));ext i j e f;rw[a8S a,a8S a,if_pos (by lia),if_pos (by lia),show lo+_-1-_=lo+(n-1-i) by lia,show lo+_-1-_=lo+(n-1-j) by lia];show hs _ _ (by lia) (by lia)
def b51(L:LtOk M A E s κ k0 ajj)(B:TB k0 ajj st)(hn:lo+nr<=ajj.size)(h1:1<=n)(hnn:n<=nr)(hs:NR κ (arrOf st) lo n)
  (h:∀m e z,Ar st z lo->n<=m->m<=nr->NR κ (arrOf z) lo m->e+1<=m->(∀i,lo+m-(e+1)<=i->i<lo+m->Kk κ (arrOf z) i=Kk κ (arrOf z) (lo+m-1))->Q (jN,m,e,) z):wpS M A E s (fall lo n nr) Q st:=by
 unfold fall;show g5 (I:=λx c z=>∃e,c=(jN,x,e,)/\Ar st z lo/\NR κ (arrOf z) lo x/\e+1<=x/\(∀i,lo+x-(e+1)<=i->i<lo+x->Kk κ (arrOf z) i=Kk κ (arrOf z) (lo+x-1))) ?step ?fin (0,rfl,Ar.refl _ _,hs,by lia,λi l a=>by congr 1;lia)
 case fin=>
  ext c z ⟨e,rfl,b,a,f,d⟩;rw[show max n nr=nr by lia]at a f d ⊢;show h nr e z b hnn (b8 _) a f d
 case step=>
  ext x c z p r ⟨e,rfl,b,a,f,d⟩;dsimp only;let k:=b.tb B;let j:lo+x<=(arrOf z).size:=by rw[k.sz];lia
  show gJ (a4R L k (by lia) (by lia) ?_)
  by_cases q:Kk κ (arrOf z) (lo+x)<Kk κ (arrOf z) (lo+x-1)
  .simp only[q,decide_true,if_true];let o:=a.snoc (by lia) (cQ q)
   by_cases g:e > 0
   .rw[if_pos g];show b0M (gL (0,rfl,b.trans (Ar.mir j (by lia)),o.congr (a3d j d),by lia,λi l a=>by congr 1;lia))
   .rw[if_neg g];show gL (0,rfl,b,o,by lia,λi l a=>by congr 1;lia)
  .simp only[q,decide_false,if_false];show gJ (a4R L k (by lia) (by lia) ?_)
   by_cases q2:Kk κ (arrOf z) (lo+x-1)<Kk κ (arrOf z) (lo+x)
   .simp only[q2,decide_true,if_true];show gL (h x e z b p (by lia) a f d)
   .simp only[q2,decide_false,if_false];let g:Kk κ (arrOf z) (lo+x)=Kk κ (arrOf z) (lo+x-1):=by lia
    show gL (e+1,rfl,b,a.snoc (by lia) (by lia),by lia,λi l a=>?_);rw[show lo+(x+1)-1=lo+x by lia]
    by_cases hix:i=lo+x
    .rw[hix]
    .grind
def b1W(L:LtOk M A E s κ k0 ajj)(B:TB k0 ajj st)(hn:lo+nr<=ajj.size)(hnn:n+1<=nr)(hs:NR κ (arrOf st) lo (n+1))
  (h:∀m z,Ar st z lo->1<=m->m<=nr->SR κ (arrOf z) lo m->Q (cL m) z):wpS M A E s (part lo n nr) Q st:=by
 show a3P (gJ (b51 L B hn (by simp) hnn hs λm e z c l i g o j=>?_));dsimp only;let f:=c.tb B;let a:lo+m<=(arrOf z).size:=by rw[f.sz];lia
 by_cases he:e > 0
 .rw[if_pos he];let d:Ar st (setArr z (mirror (arrOf z) (lo+m-(e+1)) _ _)) lo:=c.trans (Ar.mir a (by lia));show b0M (b1V L (d.tb B) hn (by lia) i (g.congr (a3d a j)) λk w b=>h k w (d.trans b))
 .rw[if_neg he];show b1V L f hn (by lia) i g λk w b=>h k w (c.trans b)
def b3d(L:LtOk M A E s κ k0 ajj)(B:TB k0 ajj st)(hn:lo+nr<=ajj.size)(h1:1<=nr)
  (h:∀m z,Ar st z lo->1<=m->m<=nr->SR κ (arrOf z) lo m->Q (cL m) z):wpS M A E s (countRun' lo nr) Q st:=by
 rw[a4i];show gJ (b1U L B hn (b8 1) h1 SR.one λn e l b t=>?_);dsimp only
 by_cases hnn:n=nr
 .rw[if_pos ↑hnn];show gL (h n st (Ar.refl _ _) e l b)
 .rw[if_neg ↑hnn];let d:=t.resolve_left hnn;let c:lo+n<=(arrOf st).size:=by rw[B.sz];lia
  by_cases hgt:n > 1
  .rw[if_pos hgt];show gJ (a4R L B (by lia) (by lia) ?_)
   by_cases q:Kk κ (arrOf st) lo<Kk κ (arrOf st) (lo+n-1)
   .simp only[q,decide_true,if_true];show gL (h n st (Ar.refl _ _) e l b)
   .simp only[q,if_false];let a:∀k,lo<=k->k<lo+n->Kk κ (arrOf st) k=Kk κ (arrOf st) (lo+n-1):=λk y x=>by
     let g:=b 0 (k-lo) (by lia) (by lia);let f:=b (k-lo) (n-1) (by lia) (by lia);rw[show lo+(k-lo)=k by lia]at g f;rw[show lo+(n-1)=lo+n-1 by lia]at f;rw[ft]at g
     lia
    let o:Ar st _ lo:=Ar.mir c (b8 _);let u:NR κ (arrOf st) lo (n+1):=by
     show NR.snoc (λi j p r=>?_) (by lia) (cQ d);rw[a (lo+i) (by lia) (by lia),a (lo+j) (by lia) (by lia)];show cK _
    show b0M (b1W L (o.tb B) hn (by lia) (u.congr (a3d c a)) λk w v=>h k w (o.trans v))
  .rw[if_neg hgt]
   let:n=1:=by lia
   subst this;show b1W L B hn (by lia) ?_ h;show NR.snoc (λi j p r=>?_) (by lia) (cQ d)
   let:i=j:=by lia
   rw[this];show cK _
end
def a5D(i:Nat):jH i=(do
 let z <- get
 let (cL (p,n,w,),cL (q,m,_,),):=((gR z)[i]?,(gR z)[i+1]?,) |jG "internal:list.sort.pending"
 set (i9 z (((gR z).setIfInBounds i (p,n+m,w,)).eraseIdxIfInBounds (i+1)))
 let cL k <- a1r jP (<- elem' (arrOf z) q) (arrOf z) p n 0 |return jP
 let (p,n,):=(p+k,n-k,)
 if n==0 then return jO
 let cL m <- a1r jO (<- elem' (arrOf z) (p+n-1)) (arrOf z) q m (m-1) |return jP
 if m==0 then return jO
 let x:=(arrOf z).extract p q
 let y:=(arrOf z).extract q (q+m)
 let mg <- if n<=m then a4g x y else a4h x y
 modify λz=>setArr z (mg.toList.zipIdx.foldl (λa (v,j,)=>a.setIfInBounds (p+j) v) (arrOf z))
 return (h7 (<- get)).isNone):=rfl
def b0N(bs:Nat):∀(l:List Keyed)(k:Nat)(xs:Array Keyed),bs+k+l.length<=xs.size ->
  ((l.zipIdx k).foldl (λa (pj:Keyed×Nat)=>a.setIfInBounds (bs+pj.2) pj.1) xs).toList=xs.toList.take (bs+k)++(l++xs.toList.drop (bs+k+l.length)):=by ext z0;induction z0 with
 |nil=>ext k xs _;simp
 |cons x l I0=>
  ext k xs h;rw[ci]at h;rw[List.zipIdx_cons,List.foldl_cons,I0 _ _ (by grind)];let e:(xs.setIfInBounds (bs+k) x).toList=xs.toList.set (bs+k) x:=by simp
  rw[e,show bs+_=bs+k+1 by lia,List.drop_set_of_lt (by lia),ci,show bs+k+1+l.length=bs+k+(l.length+1) by lia]
  let:(xs.toList.set (bs+k) x).take (bs+k+1)=xs.toList.take (bs+k)++[x]:=by
   rw[dh,List.take_set_of_le (b8 _),en (by grind)]
   rfl
  rw[this];simp
section
variable{M:Model}{k0:h9}{ajj:Array Keyed}{st:SortSt}
def b8t(h:Q ⟨⟩ z):wpS M A E s (set z:SM PUnit) Q st:=gS (rfl,h)
def b1X(e:xs.toList=jQ++(jR++R))(hi:i<jR.length):Kk κ xs (jQ.length+i)=κ jR[i]:=by
 show a3c ?_;rw[e,dP (by simp),dQ (by lia),show jQ.length+i-jQ.length=i by lia];show cu hi
def a15(h:Srt κ jQ)(hij:i<=j)(hj:j<jQ.length):κ (jQ[i]'(by lia))<=κ jQ[j]:=by
 by_cases e:i=j
 .subst e;show cK _
 .show fi.mp h i j (by lia) hj (by lia)
def a6l{X:List Keyed}(h:x∈X):∃i,∃(hi:i<X.length),X[i]=x:=List.mem_iff_getElem.mp h
def a4U{X:List Keyed}(h:x∈X.take k):∃i,∃(hi:i<X.length),i<k/\X[i]=x:=by
 let(q,a,d):=a1R h;let(b,c):=cn.mp d;show(q,b,a,c)
def a6m{X:List Keyed}(h:x∈X.drop k):∃i,∃(hi:i<X.length),k<=i/\X[i]=x:=by
 let(q,b,e,d):=a1Q h;let(c,a):=cn.mp d;show(q,c,b,a)
def a8T(L:LtOk M A E s κ k0 ajj)(B:TB k0 ajj st)(e1:(gR st)[i]?=cL (sa,na,pw,))(e2:(gR st)[i+1]?=cL (sb,nb,pw2,))
  (ea:(arrOf st).toList=jQ++(jR++(Y++S))) (hP:jQ.length=sa) (hX:jR.length=na) (hsb:sb=sa+na) (hY:Y.length=nb) (sX:Srt κ jR) (sY:Srt κ Y) (h1:0<na) (h2:0<nb)
  (h:∀st' Z,TB k0 ajj st'->(arrOf st').toList=jQ++(Z++S)->Z.length=na+nb->Srt κ Z->gR st'=((gR st).setIfInBounds i (sa,na+nb,pw,)).eraseIdxIfInBounds (i+1)->Q jO st'):wpS M A E s (jH i) Q st:=by
 let hsz:(arrOf st).size=sa+na+nb+S.length:=by
  rw[<- a0O,ea];simp;lia
 let hmem:∀p∈(arrOf st).toList,p∈ajj.toList:=λp hp=>(eM.mp B.pm).mem_iff.mp hp;let eb:(arrOf st).toList=(jQ++jR)++(Y++S):=by rw[ea,cC]
 let kX:∀i,(hi:i<jR.length)->Kk κ (arrOf st) (sa+i)=κ jR[i]:=λi hi=>by rw[<- hP];show b1X ea hi
 let kY:∀i,(hi:i<Y.length)->Kk κ (arrOf st) (sb+i)=κ Y[i]:=λi hi=>by
  rw[hsb,<- hP,<- hX,<- cj];show b1X eb hi
 rw[a5D];show gJ (ip ?_);rw[e1,e2];dsimp only;show gJ (b8t ?_);let B1:TB k0 ajj (i9 st (((gR st).setIfInBounds i (sa,na+nb,pw,)).eraseIdxIfInBounds (i+1))):=(B.pm,B.kd,B.fl);let hs1:arrOf (i9 st (((gR st).setIfInBounds i (sa,na+nb,pw,)).eraseIdxIfInBounds (i+1)))=arrOf st:=rfl;let hp1:gR (i9 st (((gR st).setIfInBounds i (sa,na+nb,pw,)).eraseIdxIfInBounds (i+1)))=((gR st).setIfInBounds i (sa,na+nb,pw,)).eraseIdxIfInBounds (i+1):=rfl;generalize i9 st (((gR st).setIfInBounds i (sa,na+nb,pw,)).eraseIdxIfInBounds (i+1))=st1 at B1 hs1 hp1;let hy0:sb<(arrOf st).size:=by lia
 let ey:(arrOf st)[sb]?=cL (arrOf st)[sb]:=getElem?_pos ..;let hky:κ (arrOf st)[sb]=κ Y[0]:=by
  let:=kY 0 (by cbv)
  rw[ft,a5B ey]at this;show this
 let hmy:(arrOf st)[sb]∈ajj.toList:=hmem _ (by simp);show gJ (a0z ey (gJ ?_));show a1z L B1.kd hmy hmem (by lia) (by cbv) (λp q hp hq=>by rw[kX p (by lia),kX q (by cbv)];show a15 sX hp (by cbv)) λk hkn hlt hge=>?_;dsimp only;let lo:∀q,(hq:q<jR.length)->q<k->κ jR[q]<=κ Y[0]:=λq hq hqk=>by
  let:=hlt q hqk
  rw[kX q hq,hky]at this;simpa[bq]using this
 let up:∀q,(hq:q<jR.length)->k<=q->κ Y[0]<κ jR[q]:=λq hq hqk=>by
  let:=hge q hqk (by lia)
  rw[kX q hq,hky]at this;simpa[bq]using this
 let whole:(∀x∈jR,∀y∈Y,κ x<=κ y)->Q jO st1:=λhxy=>by
  show h st1 (jR++Y) B1 (by rw[hs1,ea,cC]) (by rw[cj,hX,hY]) ?_ hp1;show cy.mpr (sX,sY,hxy)
 by_cases c1:na-k=0
 .rw[if_pos ↑c1];show gL (whole λx hx y hy=>?_);let(q,hq,rfl):=a6l hx;let(r,hr,rfl):=a6l hy;show cD (lo q hq (by lia)) (a15 sY (cM _) hr)
 rw[if_neg ↑c1];let hl:sa+k+(na-k)-1<(arrOf st).size:=by lia
 let ex:(arrOf st)[sa+k+(na-k)-1]?=cL (arrOf st)[sa+k+(na-k)-1]:=getElem?_pos ..;let hkx:κ (arrOf st)[sa+k+(na-k)-1]=κ jR[na-1]:=by
  let:=kX (na-1) (by cbv)
  rw[show sa+(na-1)=sa+k+(na-k)-1 by lia,a5B ex]at this;show this
 let hmx:(arrOf st)[sa+k+(na-k)-1]∈ajj.toList:=hmem _ (by simp);show gJ (a0z ex (gJ ?_));show a1z L B1.kd hmx hmem (by lia) (by lia) (λp q hp hq=>by rw[kY p (by lia),kY q (by cbv)];show a15 sY hp (by cbv)) λm hmn hlt2 hge2=>?_;dsimp only;let lo2:∀q,(hq:q<Y.length)->q<m->κ Y[q]<κ jR[na-1]:=λq hq hqk=>by
  let:=hlt2 q hqk
  rw[kY q hq,hkx]at this;simpa[bq]using this
 let up2:∀q,(hq:q<Y.length)->m<=q->κ jR[na-1]<=κ Y[q]:=λq hq hqk=>by
  let:=hge2 q hqk (by lia)
  rw[kY q hq,hkx]at this;simpa[bq]using this
 by_cases c2:m=0
 .rw[if_pos ↑c2];show gL (whole λx hx y hy=>?_);let(q,hq,rfl):=a6l hx;let(r,hr,rfl):=a6l hy;show cD (a15 sX (by lia) (by lia)) (up2 r hr (by lia))
 rw[if_neg ↑c2];let lx:((arrOf st).extract (sa+k) sb).toList=jR.drop k:=by
  rw[fV,eQ,ea,fu,<- hP,eO (by lia),dL,show jQ.length+k-jQ.length=k by lia,fW (by lia),eU (by rw[cY];lia),di (by rw[cY];lia)]
 let ly:((arrOf st).extract sb (sb+m)).toList=Y.take m:=by
  rw[fV,eQ,eb,fu,eO (by rw[cj];lia),dL,show sb-(jQ++jR).length=0 by rw[cj];lia,List.drop_zero,eU (by lia),show sb+m-sb=m by lia]
 let C:MC M A E s κ k0 ajj ((arrOf st).extract (sa+k) sb) ((arrOf st).extract sb (sb+m)):=by
  show(L,λp hp=>?_,λp hp=>?_,?_,?_,?_,?_,λy hy=>?_,λz hz y hy=>?_)
  .rw[lx]at hp;show hmem p (by rw[ea];simp[eP hp])
  .rw[ly]at hp;show hmem p (by rw[ea];simp[dJ hp])
  .rw[lx];show a0S sX k
  .rw[ly];show a1c sY m
  .rw[<- a0O,lx,cY];lia
  .rw[<- a0O,ly,cz];lia
  .rw[lx]at hy;let(q,hq,hk,rfl):=a6m hy;rw[a3c (z:=Y[0]) (by rw[ly,fk,if_pos (by lia)];show cu _)];show cQ (up q hq hk)
  .rw[ly]at hy;rw[lx,cY,fh,show k+(jR.length-k-1)=na-1 by lia,cu (show na-1<jR.length by cbv)]at hz;cases hz;let(q,hq,hk,rfl):=a4U hy;show cQ (lo2 q hq hk)
 let fin:∀(r:Array Keyed)(st2:SortSt),SG st1 st2->Mgd κ ((arrOf st).extract (sa+k) sb).toList ((arrOf st).extract sb (sb+m)).toList r.toList ->
   wpS M A E s (do
    modify λz=>setArr z (r.toList.zipIdx.foldl (λa (pj:Keyed×Nat)=>a.setIfInBounds (sa+k+pj.2) pj.1) (arrOf z))
    return (h7 (<- get)).isNone) Q st2:=by
  ext r st2 g2 mg;rw[lx,ly]at mg;let hrl:r.toList.length=na-k+m:=by rw[mg.1.length_eq,cj,cY,cz];lia
  show gJ (ib (gJ (ip (gL ?_))));let ha2:arrOf st2=arrOf st:=g2.ar.trans hs1;let ef:=b0N (sa+k) r.toList 0 (arrOf st2) (by rw[ha2];lia);let el:(r.toList.zipIdx.foldl (λa (pj:Keyed×Nat)=>a.setIfInBounds (sa+k+pj.2) pj.1) (arrOf st2)).toList=jQ++((jR.take k++r.toList++Y.drop m)++S):=by
   rw[ef,ha2,ft,hrl];let t1:(arrOf st).toList.take (sa+k)=jQ++jR.take k:=by
    rw[ea,List.take_append,di (by lia),<- hP,show jQ.length+k-jQ.length=k by lia,eU (by cbv)]
   let t2:(arrOf st).toList.drop (sa+k+(na-k+m))=Y.drop m++S:=by
    rw[eb,fu,eO (by rw[cj];cbv),dL,show sa+k+(na-k+m)-(jQ++jR).length=m by rw[cj];cbv,fW (by cbv)]
   rw[t1,t2];simp
  generalize hgz:r.toList.zipIdx.foldl (λa (pj:Keyed×Nat)=>a.setIfInBounds (sa+k+pj.2) pj.1) (arrOf st2)=ar at el;let hperm:(jR.take k++r.toList++Y.drop m).Perm (jR++Y):=by
   let:(jR.take k++r.toList++Y.drop m).Perm (jR.take k++(jR.drop k++Y.take m)++Y.drop m):=(cP.append_left _ mg.1).append_right _
   show this.trans ?_;let e:jR.take k++(jR.drop k++Y.take m)++Y.drop m=jR++Y:=by
    rw[<- cC,ei,cC,ei]
   rw[e]
  let pm:ar.Perm (arrOf st):=by
   rw[eM,el,ea];show cP.append_left _ ?_;rw[<- cC (as:=jR)];show hperm.append_right _
  let hfl:h7 (setArr st2 ar)=jN:=g2.fl.trans B1.fl;let B2:TB k0 ajj (setArr st2 ar):=(pm.trans B.pm,g2.kd.trans B1.kd,hfl);rw[hfl];show h _ _ B2 el (by rw[hperm.length_eq,cj,hX,hY]) ?_ (g2.pe.trans hp1);let hr:∀w∈r.toList,w∈jR.drop k\/w∈Y.take m:=λw hw=>b9.mp (mg.1.mem_iff.mp hw);show cy.mpr (cy.mpr (a1c sX k,mg.2,λx hx w hw=>?_),a0S sY m,λx hx y hy=>?_)
  .let(q,hq,hk,rfl):=a4U hx;let hw||hw:=hr w hw
   .let(p,hp,hk2,rfl):=a6m hw;show a15 sX (by cbv) hp
   .let(p,hp,hk2,rfl):=a4U hw;show cD (lo q hq hk) (a15 sY (cM _) hp)
  .let(p,hp,hk2,rfl):=a6m hy;let hx||hx:=b9.mp hx
   .let(q,hq,hk,rfl):=a4U hx;show cD (lo q hq hk) (a15 sY (cM _) hp)
   .let hx||hx:=hr x hx
    .let(q,hq,hk,rfl):=a6m hx;show cD (a15 sX (by cbv) (by cbv)) (up2 p hp hk2)
    .let(q,hq,hk,rfl):=a4U hx;show a15 sY (by cbv) hp
 split
 .show gJ (a8Q C B1.kd λr st2 g2 mg=>fin r st2 g2 mg)
 .show gJ (a8R C B1.kd λr st2 g2 mg=>fin r st2 g2 mg)
end
noncomputable def pr(p:Nat×Nat×Nat):Nat×Nat:=(p.1,p.2.1,)
noncomputable def offs:Nat->List (List Keyed)->List (Nat×Nat)
 |_,[]=>[]
 |o,R::Rs=>(o,R.length,)::offs (o+R.length) Rs
def a1S:∀(o:Nat)(U V:List (List Keyed)),offs o (U++V)=offs o U++offs (o+U.flatten.length) V:=by ext z0 y0;induction y0 generalizing z0 with
 |nil=>ext V;simp[offs]
 |cons R U I0=>
  ext V;rw[dM,offs,offs,I0,dM,fX,cj,fY]
def a1d:∀(o:Nat)(U:List (List Keyed)),(offs o U).length=U.length:=by ext z0 y0;induction y0 generalizing z0 with
 |nil=>show rfl
 |cons R U I0=>rw[offs,ci,ci,I0]
def a8U{α:Type}{q p1 p2:α}{pv:List α}:∀pu:List α,((pu++p1::p2::pv).set pu.length q).eraseIdx (pu.length+1)=pu++q::pv:=by ext z0;induction z0 with
 |nil=>show rfl
 |cons x pu I0=>rw[dM,ci,List.set_cons_succ,fv,I0,dM]
theorem a4V{α β:Type}{f:α->β}:∀(l:List α)(k:Nat),(l.map f).eraseIdx k=(l.eraseIdx k).map f
 |[],_=>by simp
 |x::l,0=>by simp
 |x::l,k+1=>by rw[cr,fv,fv,cr,a4V l k]
def b0O:∀{Rs:List (List Keyed)},(∀R∈Rs,R≠[])->Rs.length<=Rs.flatten.length:=by ext z0;induction z0 with
 |nil=>ext _;simp
 |cons R Rs I0=>
  ext h
  let:=I0 λR a=>h R (.tail _ a)
  let b:=dW.mpr (h R (.head _));rw[fX,cj,ci]
  lia
def Runs(κ:KF)(st:SortSt)(lo:Nat)(rest:List Keyed):Prop:=∃Rs:List (List Keyed),(arrOf st).toList=Rs.flatten++rest/\(∀R∈Rs,Srt κ R/\R≠[])/\Rs.flatten.length=lo/\(gR st).toList.map pr=offs 0 Rs
section
variable{M:Model}{k0:h9}{ajj:Array Keyed}{st:SortSt}
def a1T{i lo:Nat}(L:LtOk M A E s κ k0 ajj)(B:TB k0 ajj st)(R:Runs κ st lo jQ)(hi:i+1<(gR st).size)
  (h:∀st',TB k0 ajj st'->Runs κ st' lo jQ->(gR st').size+1=(gR st).size->Q jO st'):wpS M A E s (jH i) Q st:=by
 let(Rs,t,f,r,b):=R;let m:(gR st).size=Rs.length:=by
  let:=congrArg cF b
  rw[b7,a1d]at this;o_head this
 obtain⟨U,X,Y,V,rfl,D⟩:∃U X Y V,Rs=U++X::Y::V/\U.length=i:=by
  show(Rs.take i,Rs[i]'(by lia),Rs[i+1]'(by lia),Rs.drop (i+2),?_,by rw[cz];lia);rw[<- eN,<- eN,ei]
 let n:=f X (by simp);let q:=f Y (by simp);rw[a1S]at b;simp only[offs,eT]at b;let k:∀(j:Nat)(x:Nat×Nat),(offs 0 U++_::_::offs _ V)[j]?=cL x->∃w,(gR st)[j]?=cL (x.1,x.2,w,):=λj x d=>by
  rw[<- b,cg]at d;rw[<- dk];cases e:(gR st).toList[j]? with
  |none=>rw[e]at d;cases d
  |some p=>
   rw[e]at d;cases d;show(p.2.2,rfl)
 let c:(offs 0 U).length=i:=by rw[a1d,D]
 let(J,G):=k i _ (by rw[dP (by lia),c,Nat.sub_self];rfl);let(I,y):=k (i+1) (U.flatten.length+X.length,Y.length,) (by simp_all);let C:(arrOf st).toList=U.flatten++(X++(Y++(V.flatten++jQ))):=by rw[t];simp
 show a8T L B G y C rfl rfl rfl rfl n.1 q.1 (dW.mpr n.2) (dW.mpr q.2) λl Z H F o v u=>?_;let g:(gR l).toList.map pr=offs 0 (U++Z::V):=by
  rw[u,Array.toList_eraseIdxIfInBounds,Array.toList_setIfInBounds,<- a4V,List.map_set,b,<- c,a8U,a1S];simp only[offs,eT,pr];rw[o,fY]
 show h l H (U++Z::V,by rw[F];simp,λR a=>?_,?_,g) ?_
 .let a||a:=b9.mp a
  .show f R (by simp[a])
  .let rfl||a:=cf.mp a
   .show(v,λz=>by rw[z]at o;let:=dW.mpr n.2;simp at o;lia)
   .show f R (by simp[a])
 .rw[<- r];simp
  lia
 .grind
def Runs.ar{lo n:Nat}(R:Runs κ st lo jQ)(q:Ar st st' lo)(hs:SR κ (arrOf st') lo n)(hn:lo+n<=(arrOf st').size)(h1:1<=n):∃X rest',Srt κ X/\X.length=n/\Runs κ st' lo (X++rest'):=by
 let(Rs,g,f,c,e):=R;let b:(arrOf st').toList.take lo=Rs.flatten:=by
  show fw λi=>?_
  by_cases a:i<lo
  .rw[fk,if_pos a,dk,q.pre i a,<- dk,g,dQ (by lia)]
  .grind
 show(((arrOf st').toList.drop lo).take n,((arrOf st').toList.drop lo).drop n,?_,by rw[cz,cY,a0O];lia,Rs,?_,f,c,by rw[q.pe];show e)
 .show fi.mpr λi j a d k=>?_;rw[cz,cY,a0O]at a d
  let:=hs i j (by lia) (by lia)
  rw[a0I _,a0I _]at this;o_head this
 .rw[ei,<- b,ei]
def Runs.push{lo n:Nat}(R:Runs κ st lo (jQ++jR))(sX:Srt κ jQ)(hX:jQ.length=n)(h1:1<=n)(ha:arrOf st'=arrOf st)(hp:(gR st').toList.map pr=(gR st).toList.map pr++[(lo,n,)]):Runs κ st' (lo+n) jR:=by
 let(Rs,e,d,b,c):=R;show(Rs++[jQ],by rw[ha,e];simp,λR a=>?_,by simp[b,hX],?_)
 .let a||a:=b9.mp a
  .show d R a
  .rw[cc.mp a];show(sX,λz=>by rw[z]at hX;simp at hX;lia)
 .rw[hp,c,a1S,eT,b];simp[offs,hX]
def a6X(L:LtOk M A E s κ k0 ajj)(B:TB k0 ajj st)(hp:gR st=#[])
  (h:∀st',TB k0 ajj st'->Srt κ (arrOf st').toList->Q () st'):wpS M A E s sortRuns' Q st:=by
 rw[sortRuns'_eq];show gJ (ip ?_);dsimp only;rw[B.sz];generalize minRun' ajj.size ajj.size 0=mr;show gJ (hZ (g5 (I:=λx c z=>∃d e,c=(jN,d,)/\TB k0 ajj z/\Runs κ z d e/\x<=d)
  (Q:=λc z=>∃d e,c=(jN,d,)/\TB k0 ajj z/\Runs κ z d e/\ajj.size<=d) ?step ?fin (0,(arrOf st).toList,rfl,B,([],by simp,λR h=>by simp at h,rfl,by rw[hp];rfl),b8 _)) ?post)
 case fin=>
  ext c z ⟨d,e,rfl,t,u,hx⟩;show(d,e,rfl,t,u,by lia)
 case step=>
  ext x c z _ hx ⟨d,e,rfl,t,u,hxl⟩;dsimp only
  by_cases c1:d>=ajj.size
  .rw[if_pos c1];show gL (d,e,rfl,t,u,c1)
  rw[if_neg c1];show gJ (b3d L t (by lia) (by lia) λm z2 Y m1 m2 m3=>?_);dsimp only
  by_cases c2:m<mr
  .rw[if_pos c2];show a3P (gJ (b0L L (Y.tb t) (by lia) (by lia) m3 λS C D=>?_));rw[if_neg (by decide)];let C:=Y.trans C;let v:1<=min (ajj.size-d) mr:=by lia
   let V:d+min (ajj.size-d) mr<=ajj.size:=by lia
   generalize min (ajj.size-d) mr=n at v V D ⊢;let r:=C.tb t;let(X,f,J,G,R3):=u.ar C D (by rw[r.sz];lia) v;show gJ (ip ?_);cases hb:(gR S).back? with
   |none=>
    dsimp only;show gJ (ib (gL (d+n,f,rfl,(r.pm,r.kd,r.fl),R3.push J G v rfl (by change (((gR S).push (d,n,0,)).toList).map pr=_;rw[cR,cq];rfl),by lia)))
   |some p=>
    let(w,o,w1):=p;dsimp only;generalize power' ajj.size (2*w+o) (2*w+o+o+n) ajj.size=pw;show gJ (hZ (g5 (I:=λ_ c y=>c=(jN,(),)/\TB k0 ajj y/\Runs κ y d (X++f)) ?w (λ_ _ hh=>hh) (rfl,r,R3)) ?p1)
    case w=>
     ext x c y _ _ ⟨rfl,g,j⟩;show gJ (ip ?_)
     by_cases hgt:(gR y).size > 1
     .rw[if_pos hgt];let eo:(gR y)[(gR y).size-2]?=cL (gR y)[(gR y).size-2]:=getElem?_pos ..;rw[eo];dsimp only
      split
      .show gL (rfl,g,j)
      .show gJ (a1T L g j (by lia) λy2 N H _=>?_);rw[if_neg (by decide)];show gL (rfl,N,H)
     .rw[if_neg hgt];show gL (rfl,g,j)
    case p1=>
     ext c y ⟨rfl,g,j⟩;dsimp only;show gJ (ib (gJ (ib (gL (d+n,f,rfl,(g.pm,g.kd,g.fl),j.push J G v rfl ?_,by lia)))));let em:∀(q:Array (Nat×Nat×Nat))(k:Nat),(q.modify k λ(a,b,_,)=>(a,b,pw,)).toList.map pr=q.toList.map pr:=λq k=>by
      show fw λi=>?_;rw[cg,cg,dk,dk,fZ]
      split
      .cases q[i]? with
       |none=>rfl
       |some p=>rfl
      .rfl
     rw[cR,cq,em]
     rfl
  .rw[if_neg c2];let V:d+m<=ajj.size:=by lia
   let v:=m1;let D:=m3;let C:=Y;generalize m=n at v V D ⊢;generalize z2=S at C D ⊢;let r:=C.tb t;let(X,f,J,G,R3):=u.ar C D (by rw[r.sz];lia) v;show gJ (ip ?_);cases hb:(gR S).back? with
   |none=>
    dsimp only;show gJ (ib (gL (d+n,f,rfl,(r.pm,r.kd,r.fl),R3.push J G v rfl (by change (((gR S).push (d,n,0,)).toList).map pr=_;rw[cR,cq];rfl),by lia)))
   |some p=>
    let(w,o,w1):=p;dsimp only;generalize power' ajj.size (2*w+o) (2*w+o+o+n) ajj.size=pw;show gJ (hZ (g5 (I:=λ_ c y=>c=(jN,(),)/\TB k0 ajj y/\Runs κ y d (X++f)) ?w (λ_ _ hh=>hh) (rfl,r,R3)) ?p1)
    case w=>
     ext x c y _ _ ⟨rfl,g,j⟩;show gJ (ip ?_)
     by_cases hgt:(gR y).size > 1
     .rw[if_pos hgt];let eo:(gR y)[(gR y).size-2]?=cL (gR y)[(gR y).size-2]:=getElem?_pos ..;rw[eo];dsimp only
      split
      .show gL (rfl,g,j)
      .show gJ (a1T L g j (by lia) λy2 N H _=>?_);rw[if_neg (by decide)];show gL (rfl,N,H)
     .rw[if_neg hgt];show gL (rfl,g,j)
    case p1=>
     ext c y ⟨rfl,g,j⟩;dsimp only;show gJ (ib (gJ (ib (gL (d+n,f,rfl,(g.pm,g.kd,g.fl),j.push J G v rfl ?_,by lia)))));let em:∀(q:Array (Nat×Nat×Nat))(k:Nat),(q.modify k λ(a,b,_,)=>(a,b,pw,)).toList.map pr=q.toList.map pr:=λq k=>by
      show fw λi=>?_;rw[cg,cg,dk,dk,fZ]
      split
      .cases q[i]? with
       |none=>rfl
       |some p=>rfl
      .rfl
     rw[cR,cq,em]
     rfl
 case post=>
  ext c z ⟨d,e,rfl,t,u,hlo⟩;dsimp only;let hsz:∀y,Runs κ y d e->(gR y).size<=d:=by
   ext y ⟨Rs,T,F,e3,U⟩;let l:=congrArg cF U;rw[b7,a1d]at l;let h2:=b0O λR hR=>(F R hR).2;simp at l
   lia
  let W:d=ajj.size:=by
   let(Rs,T,F,e3,U):=u
   let:=congrArg cF T
   rw[a0O,t.sz,cj]at this
   lia
  subst W;show gJ (hZ (g5 (I:=λx c y=>c=(jN,(),)/\TB k0 ajj y/\Runs κ y ajj.size e/\((gR y).size<=1\/(gR y).size+x<=ajj.size)) (Q:=λc y=>c=(jN,(),)/\TB k0 ajj y/\Runs κ y ajj.size e/\(gR y).size<=1) ?s2 ?f2 (rfl,t,u,.inr (hsz z u))) ?p2)
  case f2=>
   ext c y ⟨rfl,g,j,hc⟩;show(rfl,g,j,by lia)
  case s2=>
   ext x c y _ hx ⟨rfl,g,j,hc⟩;show gJ (ip ?_)
   by_cases l:(gR y).size<=1
   .rw[if_pos l];show gL (rfl,g,j,l)
   .rw[if_neg l];show gJ (a1T L g j ?_ λy2 N H hy2=>?_)
    .repeat' split
     all_goals lia
    .rw[if_neg (by decide)];show gL (rfl,N,H,.inr (by lia))
  case p2=>
   ext c y ⟨rfl,g,j,hc⟩;let(Rs,T,F,e3,U):=j;let l:=congrArg cF U;rw[b7,a1d]at l;let h2:=congrArg cF T;rw[a0O,g.sz,cj,e3]at h2;let hr:e=[]:=e9.mp (by lia);show gL (h y g ?_);rw[T,hr,cE]
   match Rs,F,l with
   |[],_,_=>show .nil
   |[R],F,_=>o_head (F R (by simp)).1
   |_::_::_,_,l=>simp at l;lia
end
section
variable{k0:h9}
noncomputable def a1e(h:Heap)(a:Addr)(vs:List Value):Heap:=((h.update a (Obj.mapSeq λ_=>#[])).push (seqObj "tuple" vs.toArray 0)).push (seqObj "list" #[] 0)
def b1Y(hb:b≠a)(e:h.get? b=cL o):(a1e h a vs).get? b=cL o:=by
 show Heap.get?_push_of_some _ (Heap.get?_push_of_some _ ?_);rw[Heap.get?_update_ne _ _ _ _ hb];show e
def b3e(ho:s.heap.get? a=cL (seqObj "list" vs.toArray n))(hz:vs.length<=100000)
  (hK:2<=vs.length->∀Q:h9->Shared->Prop,Q k0 { s with heap:=a1e s.heap a vs }->wpAny (model prog w) A (keyKind' vs.toArray) Q E { s with heap:=a1e s.heap a vs })
  (hL:2<=vs.length->LtOk (model prog w) A E { s with heap:=a1e s.heap a vs } κ k0 (iU vs))
  (h:∀ps:List Keyed,ps.Perm (iU vs).toList->Srt κ ps->jQ (.done (.ret .none)) { s with heap:=sortedHeap s.heap a vs (ps.map (·.2)).toArray }):wpAny (model prog w) A (gY.«list.sort» ([.ref a],[])) jQ E s:=by
 let i:vs.length<=sizeLine:=by rw[g7];lia
 let o:vs.toArray.size<=sizeLine:=↑i
 let t:=Heap.lt_size ho;rw[list_sort_plain];show gK (listItems_at ho rfl (gK (jI ho rfl ?_ o (by simp))));obtain⟨u,m⟩:∃u,(s.heap.update a (Obj.mapSeq λ_=>#[])).get? a=cL (seqObj "list" #[] u):=(_,get?_update_seq ho λ_=>#[]);show gK (jJ m rfl (gK (wpAny_newTuple ?_ ↑i)));show gK (jK (ic ?_));let g:(((s.heap.update a (Obj.mapSeq λ_=>#[])).push (seqObj "tuple" vs.toArray 0)).push (seqObj "list" #[] 0)).get? a=cL (seqObj "list" #[] u):=by
  rw[Heap.get?_push_ne,Heap.get?_push_ne]
  .show m
  .rw[Heap.size_update];show cv t
  .rw[size_push',Heap.size_update];show cv (eL t)
 dsimp only;let f:=λy p q=>by
  let:=h (arrOf y).toList (eM.mp p) q
  rw[<- Array.toList_map,Array.toArray_toList]at this;show this
 let b:∀y:SortSt,(arrOf y).Perm (iU vs)->((arrOf y).map (·.2)).size<=gI+1:=λy p=>by
  rw[Array.size_map,p.size_eq,pairsOf_size];lia
 by_cases c:vs.toArray.size<2
 .rw[if_pos c,if_pos c];show gK (gS ?_);rw[StateT.run_pure];show gK (gS ?_);dsimp only;let x:(arrOf (SortSt.mk' general' _ #[] 7 jN)).Perm (iU vs):=fm.refl _;show gK (jJ g rfl (gK (jI g rfl ?_ (by simp) (b _ x))));simp only[bne_self_eq_false,fq,if_false];show gS (f _ x ?_)
  change Srt κ (iU vs).toList
  rw[jL]
  let:vs.length<2:=↑c
  match vs,this with
  |[],_=>show .nil
  |[v],_=>show fg _ _
 .rw[if_neg c,if_neg c];let r:2<=vs.length:=↑c
  show gK (hK r _ ?_);show gK (gX (a6X
   (Q:=λ_ y=>(arrOf y).Perm (iU vs)/\h7 y=jN/\Srt κ (arrOf y).toList) (hL r) (fm.refl _,rfl,rfl) rfl λy d j=>(d.pm,d.fl,j)) ?_ λ_ _ e=>e)
  ext⟨⟨⟩,y⟩ l ⟨rfl,d,j,q3⟩;dsimp only;show gK (jJ g rfl (gK (jI g rfl ?_ (by simp) (b y d))));rw[j];simp only[bne_self_eq_false,fq,if_false];show gS (f y d q3)
end
end Tim
namespace Tim
open PySem.W
abbrev Pz:=Sum (Option Int) Str
def PtIs:Pz->Value->Prop
 |.inl jN,v=>v=.none
 |.inl (cL i),v=>∃t,v=.int i t
 |.inr s,v=>∃t,v=.str s t
def PtsAre:List Pz->List Value->Prop
 |[],[]=>True
 |x::xs,v::vs=>PtIs x v/\PtsAre xs vs
 |_,_=>False
noncomputable def lt1:Pz->Pz->Bool
 |.inl (cL i),.inl (cL j)=>decide (i<j)
 |.inr a,.inr b=>decide (a.cps.toList<b.cps.toList)
 |_,_=>jP
noncomputable def cmp1:Pz->Pz->Bool
 |.inl (cL _),.inl (cL _)=>jO
 |.inr _,.inr _=>jO
 |_,_=>jP
noncomputable def ltT:List Pz->List Pz->Bool
 |x::xs,y::ys=>if x=y then ltT xs ys else lt1 x y
 |_,_=>jP
noncomputable def cmpT:List Pz->List Pz->Bool
 |x::xs,y::ys=>if x=y then cmpT xs ys else cmp1 x y
 |[],[]=>jO
 |_,_=>jP
def b3f:∀x:Pz,lt1 x x=jP:=by
 ext x;let(_||i)||a:=x
 .rfl
 .show decide_eq_false (Int.lt_irrefl _)
 .show decide_eq_false (List.lt_irrefl _)
def a8V:∀{x y z:Pz},lt1 x y=jO->lt1 y z=jO->lt1 x z=jO:=by
 ext x y z h k;let(_||i)||a:=x
 .cases h
 .let(_||j)||b:=y
  .cases h
  .let(_||l)||c:=z
   .cases k
   .show decide_eq_true (Int.lt_trans (of_decide_eq_true h) (of_decide_eq_true k))
   .cases k
  .cases h
 .let _||b:=y
  .cases h
  .let _||c:=z
   .cases k
   .show decide_eq_true (List.lt_trans (of_decide_eq_true h) (of_decide_eq_true k))
def b3g:∀xs:List Pz,ltT xs xs=jP:=by ext z0;induction z0 with
 |nil=>show rfl
 |cons x xs I0=>unfold ltT;rw[if_pos rfl];show I0
theorem a3e:∀{xs ys zs:List Pz},ltT xs ys=jO->ltT ys zs=jO->ltT xs zs=jO
 |[],_,_,h1,_=>by simp[ltT]at h1
 |_::_,[],_,h1,_=>by simp[ltT]at h1
 |_::_,_::_,[],_,h2=>by simp[ltT]at h2
 |x::xs,y::ys,z::zs,h1,h2=>by
  unfold ltT at *
  by_cases c1:x=y
  .subst c1;rw[if_pos rfl]at h1
   by_cases c2:x=z
   .subst c2;rw[if_pos rfl]at h2 ⊢;show a3e h1 h2
   .rw[if_neg c2]at h2 ⊢;show h2
  .rw[if_neg c1]at h1
   by_cases c2:y=z
   .simp_all
   .rw[if_neg c2]at h2;let a:=a8V h1 h2;rw[if_neg (λe=>by rw[e,b3f]at a;cases a)];show a
def b3h:∀{x y:Pz},cmp1 x y=jO->x≠y->lt1 x y=jO\/lt1 y x=jO:=by
 ext x y k h;let(_||i)||a:=x
 .cases k
 .let(_||j)||b:=y
  .cases k
  .let l||l||l:=Int.lt_trichotomy i j
   .show .inl (decide_eq_true l)
   .show absurd (by rw[l]) h
   .show .inr (decide_eq_true l)
  .cases k
 .let _||b:=y
  .cases k
  .by_cases c1:a.cps.toList<b.cps.toList
   .show .inl (decide_eq_true c1)
   .by_cases c2:b.cps.toList<a.cps.toList
    .show .inr (decide_eq_true c2)
    .show absurd (List.le_antisymm (List.not_lt.mp c2) (List.not_lt.mp c1)) λe=>h (by
      cases b;cases (Array.toList_inj.mp e);rfl)
theorem a8W:∀{xs ys:List Pz},cmpT xs ys=jO->xs≠ys->ltT xs ys=jO\/ltT ys xs=jO
 |[],[],_,h=>absurd rfl h
 |[],_::_,h,_=>by simp[cmpT]at h
 |_::_,[],h,_=>by simp[cmpT]at h
 |x::xs,y::ys,h,hn=>by
  unfold cmpT at h;unfold ltT
  by_cases c:x=y
  .subst c;rw[if_pos rfl]at h;rw[if_pos rfl,if_pos rfl];show a8W h λe=>hn (by rw[e])
  .rw[if_neg c]at h;rw[if_neg c,if_neg (Ne.symm c)];show b3h h c
noncomputable def rk(rows:List (List Pz))(x:List Pz):Nat:=rows.countP λq=>ltT q x
theorem b1Z(h:ltT x y=jO):∀{l:List (List Pz)},x∈l->l.countP (λq=>ltT q x)<l.countP λq=>ltT q y
 |q::l,hm=>by
  let b:l.countP _<=l.countP λq=>ltT q y:=List.countP_mono_left λq _ e=>a3e e h;rw[f6,f6];let a:(if ltT q x=jO then 1 else 0)<=(if ltT q y=jO then 1 else 0):=by
   by_cases c:ltT q x=jO
   .rw[if_pos c,if_pos (a3e c h)];show b8 _
   .rw[if_neg c];show cM _
  let e||hm:=cf.mp hm
  .subst e;rw[b3g,h];simp;lia
  .let:=b1Z h hm
   lia
def b3i(hx:x∈rows)(h:ltT x y=jO):rk rows x<rk rows y:=b1Z h hx
def b52(hx:x∈rows)(hy:y∈rows)(hc:cmpT x y=jO):rk rows x<rk rows y↔ltT x y=jO:=by
 show(λh=>?_,b3i hx)
 by_cases e:x=y
 .grind
 .let q||q:=a8W hc e
  .grind
  .let:=b3i hy q;lia
def RowIn(h:Heap)(v:Value)(xs:List Pz):Prop:=∃a o its n,v=.ref a/\h.get? a=cL o/\o.cls=.type "tuple"/\o.data=.seq its n/\PtsAre xs its.toList
def PtIs.uniq:∀{x y:Pz}{v:Value},PtIs x v->PtIs y v->x=y:=by
 ext x y v h k;let(_||i)||a:=x
 .rw[h]at k;let(_||j)||b:=y
  .rfl
  .let(_,k):=k;cases k
  .let(_,k):=k;cases k
 .let(t,rfl):=h;let(_||j)||b:=y
  .cases k
  .let(_,k):=k;cases k;rfl
  .let(_,k):=k;cases k
 .let(t,rfl):=h;let(_||j)||b:=y
  .cases k
  .let(_,k):=k;cases k
  .let(_,k):=k;cases k;rfl
theorem PtsAre.uniq:∀{xs ys:List Pz}{vs:List Value},PtsAre xs vs->PtsAre ys vs->xs=ys
 |[],[],[],_,_=>rfl
 |x::xs,y::ys,v::vs,(a,b),(c,d)=>by rw[a.uniq c,PtsAre.uniq b d]
 |[],_::_,[],_,h=>h.elim
 |[],_,_::_,h,_=>h.elim
 |_::_,_,[],h,_=>h.elim
 |_::_,[],_::_,_,h=>h.elim
def RowIn.uniq(r:RowIn h v xs)(q:RowIn h v ys):xs=ys:=by
 let(a,o,k,n,rfl,j,_,g,d):=r;let(p,m,f,l,e,b,_,c,i):=q;cases e;rw[j]at b;cases b;rw[g]at c;cases c;show d.uniq i
open Classical in
noncomputable def a5E(h:Heap)(v:Value):List Pz:=if e:∃xs,RowIn h v xs then e.choose else []
def a0T(r:RowIn h v xs):a5E h v=xs:=by
 unfold a5E;let e:∃xs,RowIn h v xs:=(xs,r);rw[dif_pos e];show e.choose_spec.uniq r
noncomputable def kT(h:Heap)(rows:List (List Pz)):KF:=λp=>(rk rows (a5E h p.1):Int)
section
variable{ajj:Array Keyed}{b:Bool}{Q:Bool->Shared->Prop}
def a5F(h:Q jO s):wpAny (model prog w) A (eqBool .none .none) Q E s:=gK (ja (gS h))
def b53:∀{x y:Pz}{p q:Value}{c:Bool},PtIs x p->PtIs y q->cmp1 x y=jO->Q (lt1 x y) s->wpAny (model prog w) A (oneLt' c p q) Q E s:=by
 ext x y p q c a b k h;let(_||i)||u:=x
 .cases k
 .let(_||j)||v:=y
  .cases k
  .let(t,rfl):=a;let(t',rfl):=b;cases c with
   |true=>show oneLt_int h
   |false=>show kat_one _ _ (PyProof.Rows.lt_int h)
  .cases k
 .let _||v:=y
  .cases k
  .let(t,rfl):=a;let(t',rfl):=b;cases c with
   |true=>show oneLt_str h
   |false=>show kat_one _ _ (PyProof.Rows.lt_str h)
def b54:∀{x y:Pz}{p q:Value},PtIs x p->PtIs y q->(x=y\/cmp1 x y=jO)->Q (decide (x=y)) s->wpAny (model prog w) A (eqBool p q) Q E s:=by
 ext x y p q a b k h;let k:cmp1 x y=jO\/x=.inl jN/\y=.inl jN:=by
  let rfl||k:=k
  .let(_||i)||u:=x
   .show .inr (rfl,rfl)
   .show .inl rfl
   .show .inl rfl
  .show .inl k
 let k||(rfl,rfl):=k
 .let(_||i)||u:=x
  .cases k
  .let(_||j)||v:=y
   .cases k
   .let(t,rfl):=a;let(t',rfl):=b;show wpAny_eqBool_int ?_
    let:(i==j)=decide ((Sum.inl (cL i):Pz)=.inl (cL j)):=by grind
    rw[this];show h
   .cases k
  .let _||v:=y
   .cases k
   .let(t,rfl):=a;let(t',rfl):=b;show wpAny_eqBool_str (by simp_all)
 .rw[show p=Value.none from a,show q=Value.none from b];show a5F (by simp_all)
theorem b10:∀{xs ys:List Pz}{vs us:List Value}{i:Nat},PtsAre xs vs->PtsAre ys us->cmpT xs ys=jO->Q (ltT xs ys) s->KatLex prog w A b jP Q (vs.zip us) i s
 |[],[],[],[],_,_,_,_,h=>h
 |x::xs,y::ys,p::vs,q::us,i,(a,c),(d,e),hc,h=>by
  unfold cmpT at hc;unfold ltT at h
  by_cases exy:x=y
  .rw[if_pos exy]at hc h;show kat_cons (b54 a d (.inl exy) ?_);rw[decide_eq_true exy];show kat_yes (b10 c e hc h)
  .rw[if_neg exy]at hc h;show kat_cons (b54 a d (.inr hc) ?_);rw[decide_eq_false exy];show kat_no (b53 a d hc h)
 |[],_::_,_,_,_,_,_,hc,_=>by simp[cmpT]at hc
 |_::_,[],_,_,_,_,_,hc,_=>by simp[cmpT]at hc
 |[],[],_::_,_,_,h,_,_,_=>h.elim
 |[],[],[],_::_,_,_,h,_,_=>h.elim
 |_::_,_::_,[],_,_,h,_,_,_=>h.elim
 |_::_,_::_,_::_,[],_,_,h,_,_=>h.elim
theorem a5G:∀{xs:List Pz}{vs:List Value},PtsAre xs vs->vs.length=xs.length
 |[],[],_=>rfl
 |_::_,_::_,(_,h)=>by rw[ci,ci,a5G h]
 |[],_::_,h=>h.elim
 |_::_,[],h=>h.elim
def b3j(h0:∀p∈ajj.toList,∃x∈rows,RowIn jT.heap p.1 x)(hm:∀x∈rows,x.length=jS)(hc:∀x∈rows,∀y∈rows,cmpT x y=jO):LtOk (model prog jU) jQ jR jT (kT jT.heap rows) (tuples' b) ajj:=λp q L I u Q J h=>by
 let(x,d,i):=h0 p L;let(y,c,g):=h0 q I;let B:Q (cL (ltT x y)) u:=by
  let e:decide (kT jT.heap rows p<kT jT.heap rows q)=ltT x y:=by
   unfold kT;rw[a0T i,a0T g]
   let:=b52 d c (hc x d y c)
   cases e:ltT x y
   .grind
   .grind
  rw[e]at h;show h
 let(a,o,j,n,D,H,M,C,t):=i;let(T,S,f,N,G,v,R,F,r):=g;rw[lt'_eq];show gJ (ip ?_);rw[J,D,G];show gJ (wpS_lift (jF (kat_lt H C v F ?_)));let k:=a5G t;let l:=a5G r;rw[hm x d]at k;rw[hm y c]at l;rw[d8]at k l;rw[decide_eq_false (by lia)];show b10 t r (hc x d y c) (rfl,gL B)
end
def a6n{α:Type}:∀vs:List α,vs.zip vs=vs.map λv=>(v,v,):=by ext z0;induction z0 with
 |nil=>show rfl
 |cons v vs I0=>rw[List.zip_cons_cons,cr,I0]
def RowsIn(h:Heap):List Value->List (List Pz)->Prop
 |[],[]=>True
 |v::vs,x::xs=>RowIn h v x/\RowsIn h vs xs
 |_,_=>False
theorem RowsIn.len:∀{vs:List Value}{rows:List (List Pz)},RowsIn h vs rows->vs.length=rows.length
 |[],[],_=>rfl
 |_::_,_::_,(_,r)=>by rw[ci,ci,RowsIn.len r]
 |[],_::_,r=>r.elim
 |_::_,[],r=>r.elim
theorem RowsIn.mem:∀{vs:List Value}{rows:List (List Pz)},RowsIn h vs rows->∀v∈vs,∃x∈rows,RowIn h v x
 |v::vs,x::xs,(r,q),u,hu=>by
  let rfl||hu:=cf.mp hu
  .show(x,.head _,r)
  .let(y,b,a):=q.mem u hu;show(y,.tail _ b,a)
 |[],[],_,u,hu=>by simp at hu
 |[],_::_,r,_,_=>r.elim
 |_::_,[],r,_,_=>r.elim
theorem RowsIn.map:∀{vs:List Value}{rows:List (List Pz)},RowsIn h vs rows->vs.map (a5E h)=rows
 |[],[],_=>rfl
 |v::vs,x::xs,(r,q)=>by rw[cr,a0T r,q.map]
 |[],_::_,r=>r.elim
 |_::_,[],r=>r.elim
def RowIn.mid{vs ws:List Value}(ho:h.get? a=cL (seqObj "list" ws.toArray n))(r:RowIn h v x):RowIn (a1e h a vs) v x:=by
 let(b,o,d,m,i,c,e,g,f):=r;show(b,o,d,m,i,b1Y (λz=>?_) c,e,g,f);rw[z,ho]at c;cases c;simp at e
theorem RowsIn.mid{us ws:List Value}(ho:h.get? a=cL (seqObj "list" ws.toArray n)):∀{vs:List Value}{rows:List (List Pz)},RowsIn h vs rows->RowsIn (a1e h a us) vs rows
 |[],[],_=>trivial
 |_::_,_::_,(r,q)=>(r.mid ho,q.mid ho)
 |[],_::_,r=>r.elim
 |_::_,[],r=>r.elim
def a20(rows:List (List Pz)):Prop:=∀x∈rows,∃(s:Str)(r:List Pz),x=.inr s::r
def a21(rows:List (List Pz)):Prop:=∀x∈rows,∃(i:Int)(r:List Pz),x=.inl (cL i)::r
theorem RowsIn.kat{T:Pz->Prop}:∀{vs:List Value}{rows:List (List Pz)},RowsIn h vs rows->(∀x∈rows,∃f r,x=f::r/\T f)->∃fs:List Value,KatTups h vs fs/\fs.length=vs.length/\∀v∈fs,∃f,T f/\PtIs f v
 |[],[],_,_=>([],trivial,rfl,λv a=>by simp at a)
 |v::vs,x::xs,(r,q),hf=>by
  let(j,k,p,g):=q.kat λy d=>hf y (.tail _ d);let(y,t,rfl,d):=hf x (.head _);let(b,o,e,m,rfl,s,l,n,c):=r;cases hi:e.toList with
  |nil=>rw[hi]at c;show c.elim
  |cons f fr=>
   rw[hi]at c;let(i,_):=c;show(f::j,KatTups.cons s l n (by rw[<- dk,hi];rfl) k,by rw[ci,ci,p],λv a=>?_);let rfl||a:=cf.mp a
   .show(y,d,i)
   .simp_all
 |[],_::_,r,_=>r.elim
 |_::_,[],r,_=>r.elim
def sort_tups(ho:s.heap.get? a=cL (seqObj "list" vs.toArray n))(hz:vs.length<=100000)(hr:RowsIn s.heap vs rows)(hf:a20 rows\/a21 rows)
  (hm:∀x∈rows,x.length=jR) (hc:∀x∈rows,∀y∈rows,cmpT x y=jO)
  (h:∀(out:List Value)(os:List (List Pz)),out.Perm vs->os=out.map (a5E s.heap)->os.Perm rows->os.Pairwise (λx y=>ltT y x=jP)->jQ (.done (.ret .none)) { s with heap:=sortedHeap s.heap a vs out.toArray }):wpAny (model prog w) A (gY.«list.sort» ([.ref a],[])) jQ E s:=by
 let k:RowsIn (a1e s.heap a vs) vs rows:=hr.mid ho;show b3e (k0:=tuples' jO) ho hz (λW Q H=>?_) (λW=>b3j (λp i=>?_) hm hc) λB i Y=>?_
 .let hf||hf:=hf
  .let(R,o,N,u):=k.kat (T:=λf=>∃x,f=.inr x) λx C=>by let(y,r,e):=hf x C;show(_,r,e,y,rfl)
   show kat_kind (T:=.type "str") o (by lia) (λv d=>?_) (by rfl) H;let(_,(x,rfl),t,rfl):=u v d;show .now
  .let(R,o,N,u):=k.kat (T:=λf=>∃x,f=.inl (cL x)) λx C=>by let(y,r,e):=hf x C;show(_,r,e,y,rfl)
   show kat_kind (T:=.type "int") o (by lia) (λv d=>?_) (by rfl) H;let(_,(x,rfl),t,rfl):=u v d;show .now
 .rw[jL,a6n]at i;let(v,d,rfl):=cm.mp i;show k.mem v d
 .rw[jL,a6n]at i;let G:(B.map (·.2)).Perm vs:=by
   let:=i.map (·.2)
   rw[dl,show (_∘λv:Value=>(v,v,))=id from rfl,eV]at this;show this
  let j:∀p∈B,p.1=p.2/\p.2∈vs:=λp l=>by
   let(v,d,rfl):=cm.mp (i.mem_iff.mp l);show(rfl,d)
  let V:((B.map (·.2)).map (a5E s.heap)).Perm rows:=by
   rw[<- hr.map];show G.map _
  show h _ _ G rfl V ?_;rw[dE,dE];show cZ.imp_of_mem (λ{p q} l D F=>?_) Y;let(U,S):=j p l;let(M,X):=j q D;let(x,x1,J):=hr.mem _ S;let(y,L,I):=hr.mem _ X;rw[a0T J,a0T I];unfold kT at F;rw[U,M,a0T (J.mid ho),a0T (I.mid ho)]at F;cases e:ltT y x with
  |false=>rfl
  |true=>let:=b3i L e;lia
end Tim
namespace SetW
def Up(xs:Array Nat):Prop:=xs.toList.Pairwise (·<·)
structure TOk (led:Bool) (t:iw):Prop where
 up:Up t.place
 dm:t.dummies=#[]
 ld:t.led=led
end SetW
namespace SetW
noncomputable def byT(w:World):Bool:=w.params.followText "set-order"
inductive KsAre {prog:gO}{w:World}{K:Type}[DecidableEq K] (kd:KeyKind prog w K):List Value->List K->Prop
 |nil:KsAre kd [] []
 |cons {v:Value} {k:K} {vs:List Value} {ks:List K} (h:kd.is k v=jO) (t:KsAre kd vs ks):KsAre kd (v::vs) (k::ks)
structure SO {prog:gO}{w:World}{K:Type}[DecidableEq K] (kd:KeyKind prog w K) (h:Heap) (a:Addr) (es:Array (Int×Value)) (ep:Nat) (t:iw) (ms:List K):Prop where
 at_:∃o,h.get? a=cL o/\o.ExactSet/\o.data=.set es ep t
 el:ElemsOf kd es.toList
 nums:KsAre kd (es.toList.map (·.2)) ms
 sc:es.size<scanBound
 fit:t.fits es.size=jO
 ok:TOk (!byT w) t
def SI{prog:gO}{w:World}{K:Type}[DecidableEq K](kd:KeyKind prog w K)(h:Heap)(a:Addr)(ms:List K):Prop:=∃es ep t,SO kd h a es ep t ms
section
variable{K:Type}[DecidableEq K]{kd:KeyKind prog w K}
def b55(h:KsAre kd vs ns):vs.length=ns.length:=by
 induction h with
 |nil=>rfl
 |cons _ _ ih=>rw[ci,ci,ih]
def b56(h:KsAre kd vs ns):(∃v∈vs,kd.is k v=jO)↔k∈ns:=by
 induction h with
 |nil=>simp
 | @cons v n vs ns h1 _ ih=>
  rw[cf,<- ih]
  constructor
  .ext⟨u,a,b⟩;let rfl||a:=cf.mp a
   .show .inl (kd.inj _ _ _ b h1)
   .show .inr (u,a,b)
  .ext (rfl |⟨u,a,b⟩)
   .show(v,.head _,h1)
   .show(u,.tail _ a,b)
end
section
variable{a:Addr}{es:Array (Int×Value)}{ep:Nat}{t:iw}{K:Type}[DecidableEq K]{kd:KeyKind prog w K}{ms:List K}{k:K}
def SO.mem(S:SO kd s.heap a es ep t ms):(∃e∈es.toList,kd.is k e.2=jO)↔k∈ms:=by
 rw[<- b56 S.nums]
 constructor
 .ext⟨e,c,b⟩;show(e.2,cS c,b)
 .ext⟨u,d,b⟩;let(e,c,rfl):=cm.mp d;show(e,c,b)
def SO.stored{h:Heap}(ho:h.get? a=cL o)(hx:o.ExactSet)(hd:o.data=.set es ep t)(hel:ElemsOf kd es'.toList)(hi:KsAre kd (es'.toList.map (·.2)) ms')(hs:es'.size<scanBound)(hf:t'.fits es'.size=jO)(hk:TOk (!byT w) t') :
  (h.update a (Obj.putSet es' t')).get? a=cL { o with data:=.set es' (ep+1) t' }/\SO kd (h.update a (Obj.putSet es' t')) a es' (ep+1) t' ms':=by
 let b:(h.update a (Obj.putSet es' t')).get? a=cL { o with data:=.set es' (ep+1) t' }:=by
  let q:=Heap.get?_update_self (Obj.putSet es' t') ho (by rw[putSet_of es' t' hd];rfl);rw[putSet_of es' t' hd]at q;show q
 show(b,((_,b,hx,rfl),hel,hi,hs,hf,hk))
def TOk.plain(h:TOk led t):TOk led ({ t with plain:=b }:iw):=(h.up,h.dm,h.ld)
end
def SI.at{K:Type}[DecidableEq K]{kd:KeyKind prog w K}{ms:List K}(S:SI kd h a ms)(k:∀o,h.get? a=cL o->h'.get? a=cL o):SI kd h' a ms:=by
 let(l,i,t,(o,g,x,d),f,j,e,c,b):=S;show(l,i,t,(o,k o g,x,d),f,j,e,c,b)
def Met{K:Type}(val:Nat->K)(i:Nat)(ms:List K):Prop:=ms.Nodup/\ms.length<=i/\∀x,x∈ms↔∃j,j<i/\val j=x
def Met.step{K:Type}[DecidableEq K]{val:Nat->K}{ms ms':List K}(h:Met val i ms)(p:ms'.Perm (if val i∈ms then ms else ms++[val i])):Met val (i+1) ms':=by
 let(d,k,b):=h;let a:∀x,(∃j,j<i+1/\val j=x)↔(∃j,j<i/\val j=x)\/x=val i:=λx=>by grind
 by_cases c:val i∈ms
 .rw[if_pos c]at p;show(p.nodup_iff.mpr d,by rw[p.length_eq];lia,λx=>?_);rw[p.mem_iff,a,b];show(.inl,λz=>z.elim id λe=>(b x).mp (e▸c))
 .rw[if_neg c]at p;show(p.nodup_iff.mpr ?_,by rw[p.length_eq];simp;show k,λx=>?_)
  .rw[dX];show(d,by simp,λx g y f=>by rw[cc.mp f];ext rfl;show c g)
  .rw[p.mem_iff,a,b9,b,cc]
section
variable{K:Type}[DecidableEq K]{kd:KeyKind prog w K}
abbrev a6o(w:World):Obj:={ cls:=.type "set",dict:=jN,data:=.set #[] 0 (.fresh 0 0 (!byT w)) }
def SI.fresh(g:h.get? a=cL (a6o w)):SI kd h a []:=
 (#[],0,.fresh 0 0 _,(_,g,(rfl,rfl,rfl),rfl),λe b=>by simp at b,.nil,by decide,rfl,(.nil,rfl,rfl))
end
def SetIt(h:Heap)(it a:Addr)(first:Value)(i n ep:Nat):Prop:=∃o,h.get? it=cL o/\o.cls=.type "set_iterator"/\o.data=.fields #[first,.int i 0,.ref a,.int n 0,.int ep 0]
def SetIt.ty{s:Shared}(x:SetIt s.heap it a f i n ep):s.TypeIs (.ref it) "set_iterator":=let (o,g,c,_):=x;(o,g,c)
def SetIt.at(x:SetIt h it a f i n ep)(e:∀o,h.get? it=cL o->h'.get? it=cL o):SetIt h' it a f i n ep:=let (o,g,r):=x;(o,e _ g,r)
def SO.at{K:Type}[DecidableEq K]{kd:KeyKind prog w K}{ms:List K}(S:SO kd h a jQ ep t ms)(k:∀o,h.get? a=cL o->h'.get? a=cL o):SO kd h' a jQ ep t ms:=by
 let((o,g,x,d),i,f,e,b,c):=S;show((o,k o g,x,d),i,f,e,b,c)
section
variable{T:Addr}{i k:Nat}{o:Obj}{ps:List Nat}{a:Addr}{ep:Nat}{es:Array (Int×Value)}{t:iw}{K:Type}[DecidableEq K]{kd:KeyKind prog w K}{ms:List K}
def PlacesAt(h:Heap)(T:Addr)(ps:List Nat):Prop:=∃o c,h.get? T=cL o/\o.data=.seq (ps.map λ(i:Nat)=>rawInt i).toArray c
def PlacesAt.at(x:PlacesAt h T ps)(k:∀o,h.get? T=cL o->h'.get? T=cL o):PlacesAt h' T ps:=by let(o,c,g,d):=x;show(o,c,k _ g,d)
def SO.ty(S:SO kd s.heap a es ep t ms):s.TypeIs (.ref a) "set":=by let(o,g,x,_):=S.at_;show(o,g,x.1)
def SO.len(S:SO kd s.heap a es ep t ms):es.size=ms.length:=by
 let q:=b55 S.nums;o_head q
end
end SetW
structure Zs where
 it:Addr
 tp:Bool
 l:Addr
def Zs.At(z:Zs)(k:Nat)(h:Heap):Prop:=if z.tp=jO then h.IsTupleIter z.it z.l k else h.IsListIter z.it z.l k
def Zs.Has(z:Zs)(h:Heap)(xs:Array Value):Prop:=if z.tp=jO then h.IsTuple z.l xs else h.IsList z.l xs
def Zs.At.keep{z:Zs}(a:z.At k h)(q:∀o,h.get? z.it=cL o->h'.get? z.it=cL o):z.At k h':=by
 unfold Zs.At at a ⊢
 split
 .next e=>rw[if_pos e]at a;show a.at q
 .next e=>rw[if_neg e]at a;show a.at q
def Zs.Has.keep{z:Zs}(a:z.Has h xs)(q:∀o,h.get? z.l=cL o->h'.get? z.l=cL o):z.Has h' xs:=by
 unfold Zs.Has at a ⊢
 split
 .next e=>rw[if_pos e]at a;show let (o,ho,r):=a;(o,q o ho,r)
 .next e=>rw[if_neg e]at a;show let (o,ho,r):=a;(o,q o ho,r)
def Zs.At.obj{z:Zs}(a:z.At k h):∃o,h.get? z.it=cL o/\∀v,o.data≠.cell v:=by
 unfold Zs.At at a
 split at a<;>(let(o,e,_,d):=a;show(o,e,λv q=>by rw[d]at q;cases q))
section
variable{σ:St}{h':Heap}
def Inv.turnedT{ch:List Addr}(I:Inv X pins σ H s)(hf:∀b∈ch,FpOk X pins H b)(k:∀b o,b∉ch->s.heap.get? b=cL o->h'.get? b=cL o)
  (hT:s.heap.objs.size<=T) (r:Vals vs us) (hz:vs.length<=gI) (ht:IsTup h' T us.toArray):Inv X pins σ (upd H T (.tup vs)) { s with heap:=h',toks:=t' }:=by
 let g:∀b u,H b=cL u->b∉ch:=λb u e z=>by rw[(hf b z).1]at e;cases e
 let d:=I.hok.fresh hT;let y:∀b o,s.heap.get? b=cL o->b≠T:=λb o e=>cv (cH (Heap.lt_size e) hT);show I.step (λb f=>?_) (λb o _ _ a e _=>k b o a e) (λb o _ _ a e _=>(o.slots,k b o a e)) (λb o _ e n=>by rw[a0b (y b o e)];show n)
  (λb o a e=>(o,k b o a e)) (λb l e=>by rw[a0b (a0t e d)];show e) (λb _ _ e=>by rw[a0b (a0t e d)];show e) (λb B e=>(#[],by rw[a0b (a0t e d),e];simp)) (λm x=>?_) (λb u e=>?_) I.bare
 .let(_,j,_,p,A,t):=hf b f;show(p,j,A,t)
 .let(o,i,w,h,r):=x;show(o,i,w,k _ o (λz=>(hf _ z).2.1 rfl) h,r)
 .by_cases f:b=T
  .subst f;rw[a0e]at e;cases e;show(hz,us,r,ht)
  .rw[a0b f]at e;show (I.hok b u e).stay (λc v a q=>k c v ?_ q) (λc q=>by rw[a0b (a0t q d)];show q) λc l q=>by rw[a0b (a0t q d)];show q
   let z||z:=a
   .simp_all
   .simp_all
end
def SrcV(K:Fg)(H:Hp)(y:Zs)(xs:List V):Prop:=if y.tp=jO then SqT K H y.l xs else SqL K H y.l xs
noncomputable def SrcV.has(I:Inv X pins σ H s)(h:SrcV X.K H y xs):∃its:List Value,Vals xs its/\y.Has s.heap its.toArray:=by
 unfold SrcV at h;unfold Zs.Has
 split at h
 .next e=>let(a,r,p,_):=I.tuple h;show(a,r,by rw[if_pos e];show p)
 .next e=>let(a,r,p,_):=I.list h;show(a,r,by rw[if_neg e];show p.isList)
def SrcV.inj(I:Inv X pins σ H s)(h:SrcV X.K H y xs)(h':SrcV X.K H y xs'):xs=xs':=by
 unfold SrcV at h h'
 split at h
 .next e=>rw[if_pos e]at h';show I.tuple_inj h h'
 .next e=>rw[if_neg e]at h';show I.list_inj h h'
def SrcP(K:Fg)(H:Hp)(p:Bool×Addr)(xs:List V):Prop:=if p.1=jO then SqT K H p.2 xs else SqL K H p.2 xs
theorem Turn.imp{P:gO}{w:World}{K:Fg}{tg:Expr}{J J':It}{fp:List Addr}{it:Addr}{tn:Nat->Heap->Prop}(t:Turn P w K tg J fp it tn)(g:∀i H,J'.go i H->J.go i H)(y:∀i H x H',J'.go i H->J.yld i H x H'->J'.yld i H x H')(s:∀i H,J'.stop i H->J.stop i H):Turn P w K tg J' fp it tn where
 mem:=t.mem
 obj:=t.obj
 keep:=t.keep
 item:=λX h1 h2 h3 h4 i pins s σ H E I hf st hg=>gX (t.item X h1 h2 h3 h4 i pins s σ H E I hf st (g i H hg)) (λr s1 (u,e,q)=>(u,e,gX q (λ_ s2 (x,H',a,b,c,d,e)=>(x,H',a,b,y i H x H' hg c,d,e)) λ_ _ z=>z)) λ_ _ z=>z
 done:=λX h1 h2 h3 h4 i pins s' σ H E I hf st hg=>t.done X h1 h2 h3 h4 i pins s' σ H E I hf st (s i H hg)
 self:=t.self
noncomputable def b0P(x y:Str):Int:=match gY.Str.occurrences x y 0 x.length 1 with
 |i::_=>(i:Int)
 |[]=>-1
def b3k:MtR X "str.find" (λx vs H Q=>∃(z y:Str),x=.str z/\vs=[.str y]/\Q (.int (b0P z y)) H):=by
 ext c s σ H x f v g Q I b d h;let(z,y,rfl,rfl,q):=h;let(t,rfl):=b;let(u,rfl,e):=a2C d;let(a,rfl):=e;show call_gives PySem.F.slot_str_find (iI _ _ _) PySem.F.entry_str_find (PySem.F.args_str_find_2 _ _) (gives_str_find z y t a) (.int _,H,I.tok _,(_,rfl),q)
def b57:Z->List Z->Hq->K3->Prop:=λx xs G R=>match x,xs with
 |.str z,[.str y]=>R (.int (b0P z y)) G
 |_,_=>False
def b58:MtQ X "str.find" b57:=a8n b3k λx g H Q e=>e.un λw c G R a b d h f=>by
 match w,c,h with
 |.str z,[.str y],h=>
  let(v,rfl,r):=b.one;show(z,y,a,by rw[r],f _ _ _ _ h (by rw[a0f]) d (.refl _ _))
def b59(h:R (.int (b0P z y)) G):b57 (.str z) [.str y] G R:=h
noncomputable def putZ(kvs:List (Key×Z))(k:Key)(v:Z):List (Key×Z):=
 if (kvs.any λkv=>decide (kv.1=k))=jO then kvs.map (λkv=>if kv.1=k then (kv.1,v,) else kv) else kvs++[(k,v,)]
theorem a8X{α β:Type}:∀{kvs:List (Key×α)}{us:List (Key×β)},us.map (·.1)=kvs.map (·.1)->(us.any λkv=>decide (kv.1=k))=kvs.any λkv=>decide (kv.1=k)
 |[],[],_=>rfl
 |[],_::_,h=>by simp at h
 |_::_,[],h=>by simp at h
 |p::ps,q::qs,h=>by
  rw[cr,cr]at h;injection h with h1 h2
  rw[dS,dS,a8X h2,h1]
def a4j{K:Fg}(rv:Rep K H jQ v)(hk:us.map (·.1)=kvs.map (·.1))(hr:Reps K H (kvs.map (·.2)) (us.map (·.2))) :
  (putK us k v).map (·.1)=(putZ kvs k jQ).map (·.1)/\Reps K H ((putZ kvs k jQ).map (·.2)) ((putK us k v).map (·.2)):=by
 unfold putK putZ;rw[a8X hk]
 split
 .let l:∀{d:List _}{f:List _},f.map (·.1)=d.map (·.1)->Reps K H (d.map (·.2)) (f.map (·.2))->((f.map λc=>if c.1=k then (c.1,v,) else c).map (·.1)=(d.map λc=>if c.1=k then (c.1,jQ,) else c).map (·.1)/\Reps K H ((d.map λc=>if c.1=k then (c.1,jQ,) else c).map (·.2)) ((f.map λc=>if c.1=k then (c.1,v,) else c).map (·.2))):=by
   ext d
   induction d with
   |nil=>ext f g h;cases f with
    |nil=>show(rfl,.nil)
    |cons _ _=>simp at g
   |cons p ps ih=>
    ext f g h;cases f with
    |nil=>simp at g
    |cons q qs=>
     rw[cr,cr]at g h;injection g with h3 h4
     let(a,b,e,j,m):=h;injection e with e1 e2
     subst e1 e2;let i:=ih h4 m;simp only[cr]
     by_cases e:p.1=k
     .rw[if_pos e,if_pos (h3.trans e)];show(by rw[i.1,h3],.cons rv i.2)
     .rw[if_neg e,if_neg (λz=>e (h3.symm.trans z))];show(by rw[i.1,h3],.cons j i.2)
  show l hk hr
 .rw[cq,cq,hk,cq,cq];show(rfl,hr.append (.cons rv .nil))
noncomputable def keyZ:Z->Option Key
 |.non=>cL (.inl jN)
 |.int i=>cL (.inl (cL i))
 |.str x=>cL (.inr x)
 |_=>jN
def b6a:Z3:=λo i v G R=>match o with
 |.ref p=>∃kvs k,G p=cL (.dK kvs)/\keyZ i=cL k/\kvs.length<gI/\R (put G p (.dK (putZ kvs k v)))
 |_=>False
def a02{K:Fg}(h:keyZ i=cL k)(r:Rep K H i v):v=kV k:=by
 cases i with
 |non=>rw[a0u]at r;cases h;show r
 |int j=>rw[a0f]at r;cases h;show r
 |str j=>rw[a0r]at r;cases h;show r
 |_=>cases h
def set_dict(hu:X.A.units+66<cLine):PSet X (λo i v H Q=>∃a H',o=.ref a/\DPut H a i v H'/\Q H'):=by
 ext e s σ H o i v j l u Q I d f b h;let(a,H',rfl,g,q):=h;cases (d);show a8a (by lia) I g f b λk c=>(H',c,q)
def a8Y{α β:Type}{kvs:List (Key×α)}{us:List (Key×β)}(h:us.map (·.1)=kvs.map (·.1)):us.length=kvs.length:=by
 rw[<- b7,h,b7]
def a8Z(hu:X.A.units+66<cLine):SetQ X b6a:=b1M (set_dict hu) λo i v H Q r=>r.un λa b w G R g q f d h u=>by
 cases a with
 |ref p=>
  let(j,k,e,n,t,h):=h;let(x,c,m,s):=d _ _ e;let l:=a4j (k:=k) f m s;show(p,_,g,?_,u _ _ h (d.set (.dK c) (_,a0e,l.1,l.2.mono (.dK c))) (.dK c));rw[a02 n q];show DPut.k c (a8Y m▸t)
 |_=>show cb h
def a80(e:G p=cL (.dK kvs))(a:keyZ i=cL k)(z:kvs.length<gI)(h:Rg (put G p (.dK (putZ kvs k jQ)))):b6a (.ref p) i jQ G Rg:=(kvs,k,e,a,z,h)
def SrcP.uniq{K:Fg}(h:SrcP K H p xs)(g:(if p.1=jO then H p.2=cL (.tup ys) else H p.2=cL (.lst ys))):SrcP K H p ys:=by
 unfold SrcP
 split
 .next e=>rw[if_pos e]at g;show SqT.of g
 .next e=>rw[if_neg e]at g;show SqL.of g
noncomputable def putQ(f:Str)(y:Z):List (Str×Z)->List (Str×Z)
 |[]=>[(f,y,)]
 | (g,x,)::r=>if g=f then (g,y,)::r else (g,x,)::putQ f y r
section
variable{K:Fg}
theorem a1f:∀{fs:List (Str×Z)}{gs:List (Str×V)},gs.map (·.1)=fs.map (·.1)->Reps K H (fs.map (·.2)) (gs.map (·.2))->(fs.lookup f=jN->gs.lookup f=jN)/\∀z,fs.lookup f=cL z->∃v,gs.lookup f=cL v/\Rep K H z v
 |[],[],_,_=>(λ_=>rfl,λ_ h=>by cases h)
 |[],_::_,h,_=>by simp at h
 |_::_,[],h,_=>by simp at h
 | (k,x,)::fs,(k',v,)::gs,h,r=>by
  simp at h;let(rfl,h):=h;let(i,g,e,d,b):=r;let(rfl,rfl):=dC.inj e;rw[cA,cA];cases c:f==k' with
  |true=>
   show(λe=>?_,λz e=>?_)
   .cases e
   .simp_all
  |false=>show (a1f (f:=f) h b)
theorem a5H(ry:Rep K H y u):∀{fs:List (Str×Z)}{gs:List (Str×V)},gs.map (·.1)=fs.map (·.1)->Reps K H (fs.map (·.2)) (gs.map (·.2))->(putF f u gs).map (·.1)=(putQ f y fs).map (·.1)/\Reps K H ((putQ f y fs).map (·.2)) ((putF f u gs).map (·.2))
 |[],[],_,_=>(rfl,by change Reps K H [y] [u];rw[a0v];show(u,[],rfl,ry,by rw[a0i]))
 |[],_::_,h,_=>by simp at h
 |_::_,[],h,_=>by simp at h
 | (k,x,)::fs,(k',v,)::gs,h,r=>by
  simp at h;let(rfl,h):=h;let(i,g,e,d,b):=r;let(rfl,rfl):=dC.inj e;let a:=a5H (f:=f) ry h b;unfold putQ putF
  by_cases c:k'=f
  .rw[if_pos c,if_pos c];show(by simp[h],by change Reps K H (y::fs.map _) _;rw[a0v];show(u,_,rfl,ry,b))
  .rw[if_neg c,if_neg c];show(by simp[a.1],by change Reps K H (x::(putQ f y fs).map _) _;rw[a0v];show(v,_,rfl,d,a.2))
end
section
variable{C f:Addr}{fd:g9}{ps:List Str}{k:Nat}{a x:Str}{p pos':Pos}{e o:Expr}{te:E3}{t:A3}
def uFld(C:Addr)(te:E3)(a:Str):E3:=fun σ G R=>te σ G λx G1=>∃q dx fs v,x=.ref q/\G1 q=cL (.ins C dx fs)/\fs.lookup a=cL v/\R v G1
def a1l(hc:Cls X.K C)(hn:NoAttr X.K C a)(he:QE X e te)(hb:iF e a X.env (eval e X.env)=eval e X.env:=by rfl):QE X (.Attribute e a pos) (uFld C te a):=⟨a0E (b4P he.p hb) fun τ H Q x=>x.un fun σ G R s t h k=>
 (σ,G,_,s,t,h,by
  ext w D v B ⟨q,r,E,z,i,A,j,d⟩ c b l;subst i;let(u,m,g,y):=b _ _ A;let(o,f,n):=(a1f g y).2 _ j;show(q,C,r,u,o,c,m,hc,hn,f,k _ _ _ _ d n b l))⟩
def a81(C:Addr)(to te:E3)(a:Str):X3:=λnx _ _ _ σ G=>te σ G λy G1=>to σ G1 λx G2=>∃q dx fs,x=.ref q/\G2 q=cL (.ins C dx fs)/\fs.length<1000/\nx σ (put G2 q (.ins C dx (putQ a y fs)))
def a82(hc:Cls X.K C)(hn:NoAttr X.K C a)(ho:QE X o to)(hv:QE X value te)(hs:ii value (cL (.Attribute o a pos')) pos.line X.env=pure jP:=by rfl):QS X (.Assign [.Attribute o a pos'] value pos) (a81 C to te a):=⟨a1k (b4Q ho.p hv.p hs) λD τ H J=>J.un fun σ G nx rt bk ct hs x h F u2 u3 u4=>
 (σ,G,_,hs,x,h,λy A u H1 E t r e=>(σ,A,_,hs.mono e,r,E,by
  ext w G2 v i ⟨q,j,fs,z,ea,hl,B⟩ k d g;subst z;let(n,l,m,I):=d _ _ ea;let b:TK X.K i (L2.upd i q (.ins C j (putF a u n))):=.ins l;let s:=a5H (f:=a) (t.mono g) m I;show(q,C,j,n,k,l,hc,hn,by let:=congrArg cF m;simp at this;lia,F _ _ _ _ B (hs.mono ((e.trans g).trans b)) (d.set b (_,a0e,s.1,s.2.mono b)) ((e.trans g).trans b))))⟩
def a83(C:Addr)(to te:E3)(r:R3)(a:Str):X3:=λnx _ _ _ σ G=>to σ G λx G1=>∃q dx fs v,x=.ref q/\G1 q=cL (.ins C dx fs)/\fs.lookup a=cL v/\te σ G1 λy G2=>r v y G2 λz G3=>∃dx' fs',G3 q=cL (.ins C dx' fs')/\fs'.length<1000/\nx σ (put G3 q (.ins C dx' (putQ a z fs')))
def b0Q(hc:Cls X.K C)(hn:NoAttr X.K C a)(ho:QE X o to)(hv:QE X value te)(hop:OpQ X (iu op) r):QS X (.AugAssign (.Attribute o a tpos) op value pos) (a83 C to te r a):=⟨a1k (a7O ho.p hv.p hop) λD τ H hx=>hx.un fun σ G nx rt bk ct j Q h u1 u2 u3 u4=>
 (σ,G,_,j,Q,h,by
  ext w R v H1 ⟨q,I,fs,z,ew,J,S,hq⟩ l e s;subst ew;let(Y,e1,e2,M):=e _ _ J;let(v',L,r'):=(a1f e2 M).2 _ S;show(q,C,I,Y,v',l,e1,hc,hn,L,σ,R,_,j.mono s,e,hq,λy T u H2 U V t F=>(z,y,T,_,r'.mono F,V,t,U,λz2 G3 v3 n (g,fs',x,hl,B) N b W=>?_));let(c,d,i,m):=b _ _ x;let k:TK X.K n (L2.upd n q (.ins C g (putF a v3 c))):=.ins d;let A:=a5H (f:=a) N i m;let E:=((s.trans F).trans W).trans k;show(g,c,d,by let:=congrArg cF i;simp at this;lia,u1 _ _ _ _ B (j.mono E) (b.set k (_,a0e,A.1,A.2.mono k)) E))⟩
def a6Y(C:Addr)(m:Str)(sp:P3)(to:E3)(t:A3):E3:=fun σ G R=>to σ G λx G1=>∃q dx fs,x=.ref q/\G1 q=cL (.ins C dx fs)/\fs.lookup m=jN/\t σ G1 λws G2=>sp (.ref q::ws) G2 R
def b0R(h:low X.K (a6Y C m sp to t) τ H Q)(h1:o'=low X.K to)(h2:t'=lowA X.K t):b0c C m (lowP X.K sp) [] jQ o' t' τ H Q:=by
 subst h1 h2;let(σ,G,R,f,s,h,D):=h;show(σ,G,_,f,s,h,λw B v H1 (q,r,fs,y,n,A,x) b a e=>?_);subst y;let(u,g,z,p):=a _ _ n;show(q,r,u,b,g,(a1f z p).1 A,σ,B,_,f.mono e,a,x,λj o k H2 h2 i c l=>?_);show(.ref q::j,o,R,by rw[cE,a0v];show(v,k,rfl,by rw[a0g];show b,i),c,h2,D.mono (e.trans l))
def b6b(ho:QE X o to)(c:Cls X.K C)(hm:Meth X.K C m f)(F:FnOk X.prog X.w X.K X.mg X.base CX0 k f fd ps (lowP X.K sp))(hr:Room k X.A)(hb:Binds X.K fd ps [])(ha:QA X (e::es) t)
  (hst:gM (e::es) X.env=(jP,eval e X.env,)::gM es X.env) (hpl:(backTo pos (gM es X.env)).any (·.1)=jP)
  (ht:eval (.Call (.Attribute o m apos) (e::es) [] pos) X.env=(do
   let ov <- eval o X.env
   hI apos.atName
   let (f,first,) <- g0 [ov] (ij ov m pl)
   ik pos f first (backTo pos (gM (e::es) X.env)) (im pos (io [] X.env)))):QE X (.Call (.Attribute o m apos) (e::es) [] pos) (a6Y C m sp to t):=
 ⟨a0E (a7T ho.p c hm F hr hb .nil a75 ha.p hst hpl ht) λ_ _ _ h=>b0R h rfl rfl⟩
def b3l(ho:QE X o to)(c:Cls X.K C)(hm:Meth X.K C m f)(F:FnOk X.prog X.w X.K X.mg X.base CX0 k f fd ps (lowP X.K sp))(hr:Room k X.A)(hb:Binds X.K fd ps [])
  (ht:eval (.Call (.Attribute o m apos) [] [] pos) X.env=(do
   let ov <- eval o X.env
   hI apos.atName
   let (f,first,) <- g0 [ov] (ij ov m pl)
   ik pos f first (backTo pos (gM [] X.env)) (im pos (io [] X.env)))):QE X (.Call (.Attribute o m apos) [] [] pos) (a6Y C m sp to uNil):=
 ⟨a0E (b0d ho.p c hm F hr hb .nil a75 ht) fun τ H Q z=>z.un fun σ G R r u h j=>by
  show(σ,G,_,r,u,h,λw s v D (q,e,E,i,x,y,l) b a n=>?_);subst i;let(t,d,B,g):=a _ _ x;show(q,e,t,b,d,(a1f B g).1 y,[.ref q],s,R,by rw[cE,a0v];show(v,[],rfl,by rw[a0g];show b,by rw[a0i]),a,l,j.mono n)⟩
def a84(C:Addr)(sp:P3)(t:A3):E3:=fun σ G R=>t σ G λws G1=>∀q dx,G1 q=jN->sp (.ref q::ws) (put G1 q (.ins C dx [])) λv G2=>v=.non/\R (.ref q) G2
def made(h1:∀q dx,G1 q=jN->sp (.ref q::ws) (put G1 q (.ins C dx [])) λv G2=>v=.non/\R (.ref q) G2)(rs:Reps X.K H1 ws vs)(hg1:RH X.K G1 H1)(up:UpV X.K H1 R Q)(q dx:Addr)(n1:H1 q=jN)(n2:H1 dx=jN)(ne:dx≠q) :
  lowP X.K sp (.ref q::(vs++[])) (L2.upd (L2.upd H1 dx (.own q)) q (.ins C dx [])) (λv H2=>v=.non/\Q (.ref q) H2) jQ:=by
 let a:L2.upd H1 dx (.own q) q=jN:=(a0b (Ne.symm ne))▸n1;let d:TK X.K H1 (L2.upd _ q (.ins C dx [])):=(TK.new n2).trans (TK.new a);show(.ref q::ws,put G1 q (.ins C dx []),_,?_,?_,h1 q dx (hg1.out n1),?_)
 .rw[cE,a0v];show(_,vs,rfl,by rw[a0g],rs.mono d)
 .show (hg1.hid n2).set (TK.new a) ([],a0e,rfl,by rw[cI,a0i];rfl)
 .ext w h v i ⟨f,g⟩ b c e;subst f;show(b,up _ _ _ _ g (by rw[a0g]) c (d.trans e))
def b6c(M:Mk X.K C f)(F:FnOk X.prog X.w X.K X.mg X.base CX0 k f fd ps (lowP X.K sp))(hr:Room (k+1) X.A)(hg:Gl X x)(hm:X.mg x=cL (.ref C))(hb:Binds X.K fd ps [])(ha:QA X (e::es) t)
  (hdb:(x==("__debug__":Str))=jP:=by decide) (he:gM (e::es) X.env=(jP,eval e X.env,)::gM es X.env:=by rfl) (hpl:(backTo pos (gM es X.env)).any (·.1)=jP:=by rfl):QE X (.Call (.Name x p) (e::es) [] pos) (a84 C sp t):=
 ⟨a0E (b2E M F hr hg hm hb .nil a75 ha.p hdb he hpl) fun τ H Q d=>d.un fun σ G R l hg h up=>(σ,G,_,l,hg,h,λws G1 vs H1 h1 c a t1 q g m i j=>made h1 c a (up.mono t1) q g m i j)⟩
def b3m(M:Mk X.K C f)(F:FnOk X.prog X.w X.K X.mg X.base CX0 k f fd ps (lowP X.K sp))(hr:Room (k+1) X.A)(hg:Gl X x)(hm:X.mg x=cL (.ref C))(hb:Binds X.K fd ps [])
  (hdb:(x==("__debug__":Str))=jP):QE X (.Call (.Name x p) [] [] pos) (a84 C sp uNil):=
 ⟨a0E (b0e M F hr hg hm hb .nil a75 hdb) fun τ H Q (σ,G,R,hs,hg,h,g) q c d e b=>made h (by rw[a0i]) hg g q c d e b⟩
variable{σ:S3}{G:Hq}{R:K3}{nx bk ct:C3}{rt:K3}{q:Addr}{fs:List (Str×Z)}{v:Z}
def b6d(h:te σ G λx G1=>∃q dx fs v,x=.ref q/\G1 q=cL (.ins C dx fs)/\fs.lookup a=cL v/\R v G1):uFld C te a σ G R:=h
def b6e(h:te σ G λy G1=>to σ G1 λx G2=>∃q dx fs,x=.ref q/\G2 q=cL (.ins C dx fs)/\fs.length<1000/\nx σ (put G2 q (.ins C dx (putQ a y fs)))):a81 C to te a nx rt bk ct σ G:=h
def b3n(h:to σ G λx G1=>∃q dx fs,x=.ref q/\G1 q=cL (.ins C dx fs)/\fs.lookup m=jN/\t σ G1 λws G2=>sp (.ref q::ws) G2 R):a6Y C m sp to t σ G R:=h
def b3o(h:t σ G λws G1=>∀q dx,G1 q=jN->sp (.ref q::ws) (put G1 q (.ins C dx [])) λv G2=>v=.non/\R (.ref q) G2):a84 C sp t σ G R:=h
def b6f(h:to σ G λx G1=>∃q dx fs v,x=.ref q/\G1 q=cL (.ins C dx fs)/\fs.lookup a=cL v/\te σ G1 λy G2=>r v y G2 λz G3=>∃dx' fs',G3 q=cL (.ins C dx' fs')/\fs'.length<1000/\nx σ (put G3 q (.ins C dx' (putQ a z fs')))):a83 C to te r a nx rt bk ct σ G:=h
end
def b3p(hu:X.A.units+66<cLine):MtR X "dict.get" (λx vs H Q=>∃a y d o,x=.ref a/\vs=[y,d]/\DGet H a y o/\Q (o.getD d) H):=by
 intro f s σ H x m v t Q I c k (a,y,d,o,h,e,g,q);subst h e;cases c;let(u,r,rfl,j,l):=a7J k;show b45 (by lia) I g j l λn p i b=>(_,H,i,b,q)
def b0S(hu:X.A.units+66<cLine):MtR X "dict.get" (λx vs H Q=>∃a y o,x=.ref a/\vs=[y]/\DGet H a y o/\Q (o.getD .non) H):=by
 intro i s σ H x m v n Q I f e (a,y,o,c,d,g,q);subst c d;cases f;let(u,rfl,h):=a2C e;show b44 (by lia) I g h λl k j b=>(_,H,j,b,q)
def b3q:IxR X (λx y H Q=>∃a kvs k v,x=.ref a/\y=kV k/\H a=cL (.dK kvs)/\valV kvs k=cL v/\Q v H):=by
 intro h i b s σ H x y v u Q I n B (a,D,k,w,p,m,e,l,q) t;subst p m;cases n;let(z,E,j,g,c):=a78 I.hok e;let(d,A,f):=RelO.some_of (l▸g.val k);show jj c.typeIs PySem.F.slot_dict_getitem.lookup (jM (a33 B) c.mapOf A (rfl,w,H,I.tok _,f,q)) t
def a4W(hu:X.A.units+66<cLine):OpR X (gQ .NotIn) (λx y H Q=>∃a o,y=.ref a/\DGet H a x o/\Q (.bl (!o.isSome)) H):=by
 intro d s σ H x y u v Q I c f (a,o,b,g,q);subst b;cases f;show b2K (by lia) I g c λh e=>(.bl _,H,e,rfl,q)
noncomputable def valZ(kvs:List (Key×Z))(k:Key):Option Z:=(kvs.find? λkv=>decide (kv.1=k)).map (·.2)
theorem a0K{K:Fg}:∀{kvs:List (Key×Z)}{us:List (Key×V)},us.map (·.1)=kvs.map (·.1)->Reps K H (kvs.map (·.2)) (us.map (·.2))->(valZ kvs k=jN->valV us k=jN)/\∀z,valZ kvs k=cL z->∃v,valV us k=cL v/\Rep K H z v
 |[],[],_,_=>(λ_=>rfl,λ_ h=>by cases h)
 |[],_::_,h,_=>by simp at h
 |_::_,[],h,_=>by simp at h
 | (c,x,)::fs,(c',v,)::gs,h,r=>by
  simp at h;let(rfl,h):=h;let(g,f,e,d,a):=r;let(rfl,rfl):=dC.inj e;unfold valZ valV;rw[da,da];cases q:decide (c'=k) with
  |true=>
   show(λe=>?_,λz e=>?_)
   .cases e
   .cases e;show(v,rfl,d)
  |false=>show (a0K (k:=k) h a)
def b3r:Z->List Z->Hq->K3->Prop:=λx xs G R=>match x,xs with
 |.ref p,[y,d]=>∃kvs k,(G p=cL (.dK kvs)\/G p=cL (.dF kvs))/\keyZ y=cL k/\R ((valZ kvs k).getD d) G
 |_,_=>False
def a6p(hu:X.A.units+66<cLine):MtQ X "dict.get" b3r:=a8n (b3p hu) λx E H Q m=>m.un λw B G R j s i h l=>by
 match w,B,h with
 |.ref p,[y,d],h=>
  let(v,q,rfl,t,o):=s.two;let(g,k,e,D,h):=h;obtain⟨a,f,c,b⟩:∃a,Rd H p (.dK a)/\a.map _=g.map _/\Reps X.K H _ (a.map _):=by
   let e||e:=e
   .let(a,f,c,b):=i _ _ e;show(a,.inl f,c,b)
   .let(C,a,f,c,b):=i _ _ e;show(a,.inr (C,f),c,b)
  show(p,v,q,valV a k,j,rfl,by rw[a02 D t];show .inl (a,k,f,rfl,rfl),?_);cases hz:valZ g k with
  |none=>
   rw[hz]at h;rw[(a0K c b).1 hz];show l _ _ _ _ h o i (.refl _ _)
  |some z=>
   rw[hz]at h;let(u,r,n):=(a0K c b).2 z hz;rw[r];show l _ _ _ _ h n i (.refl _ _)
def b6g:Z->List Z->Hq->K3->Prop:=λx xs G R=>match x,xs with
 |.ref p,[y]=>∃kvs k,G p=cL (.dK kvs)/\keyZ y=cL k/\R ((valZ kvs k).getD .non) G
 |_,_=>False
def b3s(hu:X.A.units+66<cLine):MtQ X "dict.get" b6g:=a8n (b0S hu) λx t H Q n=>n.un λw l G R a j b h g=>by
 match w,l,h with
 |.ref p,[y],h=>
  let(v,rfl,m):=j.one;let(c,k,e,q,h):=h;let(r,s,d,f):=b _ _ e;show(p,v,valV r k,a,rfl,by rw[a02 q m];show DGet.k s,?_);cases hz:valZ c k with
  |none=>
   rw[hz]at h;rw[(a0K d f).1 hz];show g _ _ _ _ h (by rw[e7,a0u];rfl) b (.refl _ _)
  |some z=>
   rw[hz]at h;let(u,i,o):=(a0K d f).2 z hz;rw[i];show g _ _ _ _ h o b (.refl _ _)
def zDIx:R3:=λx y G R=>match x with
 |.ref p=>∃kvs k z,G p=cL (.dK kvs)/\keyZ y=cL k/\valZ kvs k=cL z/\R z G
 |_=>False
def b3t:IxQ X zDIx:=b2N b3q λx y H Q f=>f.un λa b G R d q c h j=>by
 cases a with
 |ref p=>
  let(u,k,z,e,t,i,h):=h;let(n,r,m,l):=c _ _ e;let(s,o,g):=(a0K m l).2 z i;show(p,n,k,s,d,a02 t q,r,o,j _ _ _ _ h g c (.refl _ _))
 |_=>show cb h
def b11(e:G p=cL (.dK kvs))(a:keyZ y=cL k)(h:R ((valZ kvs k).getD d) G):b3r (.ref p) [y,d] G R:=(kvs,k,.inl e,a,h)
def b3u(e:G p=cL (.dK kvs)\/G p=cL (.dF kvs))(a:keyZ y=cL k)(h:R ((valZ kvs k).getD d) G):b3r (.ref p) [y,d] G R:=(kvs,k,e,a,h)
def b3v(e:G p=cL (.dK kvs))(a:keyZ y=cL k)(v:valZ kvs k=cL jQ)(h:R jQ G):zDIx (.ref p) y G R:=(kvs,k,jQ,e,a,v,h)
def b6h{P:Prop}(e:G p=cL (.dK kvs))(h:P):tyZ "dict" (.ref p) G/\P:=(.inr (rfl,kvs,.inl e),h)
def b8u{P:Prop}(e:G p=cL (.dK kvs)\/G p=cL (.dF kvs))(h:P):tyZ "dict" (.ref p) G/\P:=(.inr (rfl,kvs,e),h)
noncomputable def a1h(kvs more:List (Key×Z)):List (Key×Z):=more.foldl (λacc kv=>putZ acc kv.1 kv.2) kvs
def PReps(K:Fg)(H:Hp):List (Z×Z)->List (V×V)->Prop:=Paired λp q=>Rep K H p.1 q.1/\Rep K H p.2 q.2
def PReps.mono{K:Fg}(t:TK K H H'):∀{ps:List (Z×Z)}{vs:List (V×V)},PReps K H ps vs->PReps K H' ps vs:=by ext z0 y0 x0;induction x0 with
 |nil=>show .nil
 |cons r s I0=>show .cons (r.1.mono t,r.2.mono t) (I0)
def zDIn(f:Bool->Bool):R3:=λx y G R=>match y with
 |.ref p=>∃kvs k,G p=cL (.dK kvs)/\keyZ x=cL k/\R (.bl (f (valZ kvs k).isSome)) G
 |_=>False
def b0T{K:Fg}(hn:us.map (·.1)=kvs.map (·.1))(rr:Reps K H (kvs.map (·.2)) (us.map (·.2))):(valV us k).isSome=(valZ kvs k).isSome:=by
 cases hz:valZ kvs k with
 |none=>rw[(a0K hn rr).1 hz];rfl
 |some z=>let(u,a,_):=(a0K hn rr).2 z hz;rw[a];rfl
def b0U(hu:X.A.units+66<cLine):OpQ X (gQ .NotIn) (zDIn not):=a2q (a4W hu) λx y H Q i=>i.un λa b G R f c d h o=>by
 cases b with
 |ref p=>
  let(q,k,e,l,h):=h;let(m,n,g,j):=d _ _ e;show(p,valV m k,c,by rw[a02 l f];show DGet.k n,o _ _ _ _ h (by rw[a0q,b0T g j]) d (.refl _ _))
 |_=>show cb h
theorem ln0{α:Type}{C:List α->Prop}(h:C []):∀us:List α,us.length=0->C us
 |[],_=>h
theorem lnS{α:Type}{C:List α->Prop}(h:∀a,∀us:List α,us.length=n->C (a::us)):∀us:List α,us.length=n+1->C us
 |a::us,e=>h a us (Nat.succ.inj e)
def KD(X:Cx)(a:Addr)(kvs:List (Key×V)):Prop:=kvs.length<=gI/\(a==ie)=jP/\∃vs,KV kvs vs/\∀h:Heap,X.K.In h->h.DictOf (a0p X.prog X.w) a vs
def a16(h:PE X e (tC (.ref a))):QE X e (uC (.ref a)):=a5t h λ_=>by rw[a0g]
def a0U(hg:Gl X x)(hm:X.mg x=cL (.ref a))(hd:(x==("__debug__":Str))=jP:=by decide):PE X (.Name x pos) (tC (.ref a)):=a7w hg hm rfl hd
def b6i:List Z->Hq->K3->Prop:=λxs G R=>match xs with
 |[.ref p]=>∃ws,G p=cL (.lst ws)/\R (.tup ws) G
 |_=>False
def b3w:a1p X (.type "tuple") b6i:=a0W a3Z λl H Q f=>f.un λk G R j b h g=>by
 match k,h with
 |[.ref p],h=>
  let(v,rfl,r):=j.one;let(m,e,h):=h;let(d,i,c):=b _ _ e;show(p,d,by rw[r],.inl (SqL.of i,λt a=>g _ _ _ _ h (by rw[a0N];show(t,d,rfl,a0e,c.mono (.new a))) (b.hid a) (.new a)))
noncomputable def zV:Z->V
 |.str x=>.str x
 |.ref a=>.ref a
 |.int i=>.int i
 |_=>.non
noncomputable def b6j:Z->Bool
 |.str _=>jO
 |.ref _=>jO
 |.int _=>jO
 |_=>jP
def KDZ(X:Cx)(a:Addr)(kvs:List (Key×Z)):Prop:=(∀kv∈kvs,b6j kv.2=jO)/\KD X a (kvs.map λkv=>(kv.1,zV kv.2,))
def KTup(K:Fg)(a:Addr)(ss:List Str):Prop:=∃(o:Obj)(its:Array Value)(n:Nat),K.lookup a=cL o/\o.cls=.type "tuple"/\o.data=.seq its n/\its.size<=gI/\Vals (ss.map V.str) its.toList
def KTup.sq{K:Fg}(h:KTup K a ss):SqT K H a (ss.map V.str):=.inr h
def KDk(w:World)(K:Fg)(a:Addr)(kvs:List (Key×Z)):Prop:=(∀kv∈kvs,b6j kv.2=jO)/\kvs.length<=gI/\(a==ie)=jP/\∃vs:List (Key×Value),KV (kvs.map λkv=>(kv.1,zV kv.2,)) vs/\∀(P:gO)(h:Heap),K.In h->h.DictOf (a0p P w) a vs
def KDk.at(h:KDk X.w X.K a kvs):KDZ X a kvs:=(h.1,by rw[b7];show h.2.1,h.2.2.1,by let(vs,r,q):=h.2.2.2;show(vs,r,q X.prog))
section
open PySem.W
def a6q(ea:hasDictIn jQ D=jO)(eb:findIn jQ (.ref D) "__getattribute__"=cL (cL (.builtin "BaseException.__getattribute__")))(ec:findIn jQ (.ref D) "__getattr__"=cL jN)(ed:findIn jQ (.ref D) "__class__"=cL (cL (.builtin "object.__class__")))
  (ee:specialIn jQ (.builtin "object.__class__") "__get__"=cL (cL (.builtin "getset_descriptor.__get__"))) (ef:takesIn jQ (.builtin "object.__class__")=cL jO) (eg:mroIn jQ D (.type "object")=cL jO) (eh:mroIn jQ D (.type "BaseException")=cL jO):ExK jQ D:=
 (by let(b,a,_):=any_some ea;rw[a];rfl,eb,ec,ed,ee,ef,eg,eh)
def a6r(xb:subIn jQ (.ref D) (.type "BaseException")=cL jO)(xt:typeIn jQ (.ref D)=cL (.type "type"))(xs:subIn jQ (.ref C) (.ref D)=cL jO)(xh:hasDictIn jQ D=jO):exmOne jQ (.ref C) (.ref D)=cL jO:=by
 let(b,a,_):=any_some xh;unfold exmOne;rw[if_pos (by simp_all)]
 change (if _=jO then subIn jQ _ _ else jN)=cL jO
 rw[if_pos (by simp_all)];show xs
end
section
variable{e:Addr}{oe:Obj}{C:Addr}
def rIsX(K:Fg)(C e:Addr):List V->Hp->VK->Prop:=λxs H Q=>∃y b,xs=[.ref e,y]/\((∃D,y=.ref D/\PySem.W.kitOne K (.ref C) (.ref D)=cL b)\/(∃T,y=.ty T/\PySem.W.kitOne K (.ref C) (.type T)=cL b) \/
 ∃(p:Addr)(ds:List Addr),y=.ref p/\SqT K H p (ds.map V.ref)/\PySem.W.kitAny K (.ref C) (ds.map Value.ref)=cL b)/\Q (.bl b) H
theorem a85:∀{ds:List Addr}{us:List Value},Vals (ds.map V.ref) us->us=ds.map Value.ref
 |[],us,r=>by rw[cI]at r;cases r;rfl
 |T::Ts,us,r=>by
  cases r with
  |cons r1 r2=>rw[a85 r2,r1];rfl
def b0V(hc:oe.cls=.ref C)(hd:oe.dict=jN)(hn:PySem.W.notCls oe=jO)(k:ExK X.K C):CallR (X.hnd e oe) (.builtin "isinstance") (rIsX X.K C e):=by
 ext m s σ H B E Q I r h;let(y,b,rfl,t,q):=h;let(u,d,rfl,v,c):=a7J r;cases (v);let J:PySem.W.InstAt s.heap e oe C jN:=((I.pin _ (.head _)).1,hc,hn,by rw[hd];show True.intro);let(D,rfl,e1)||(T,rfl,e1)||(p,ds,rfl,hq,e1):=t
 .cases (c);show PySem.W.kia_one (a38 k) I.kIn J e1 (λz=>nomatch z) λa=>(.bl b,H,I.tok a,rfl,q)
 .cases (c);show PySem.W.kia_one (a38 k) I.kIn J e1 (λz=>nomatch z) λa=>(.bl b,H,I.tok a,rfl,q)
 .cases (c);let(w,i,o,_):=I.tuple hq;let l:=a85 i;subst l;let((F,A,x,G),j,g,n,f):=o;cases g;cases f;show PySem.W.kia_tup (a38 k) I.kIn J j e1 (λz=>nomatch z) λa=>(.bl b,H,I.tok a,rfl,q)
end
abbrev PX3:=List Z->Hq->K3->(Addr->Hq->Prop)->Prop
def UpX(K:Fg)(H:Hp)(EE:Addr->Hq->Prop)(E:XK):Prop:=∀C G H',EE C G->RH K G H'->TK K H H'->E (.ref C) jN H'
def a1D(K:Fg)(sp:PX3):Sp:=λvs H Q E=>∃ws G R EE,Reps K H ws vs/\RH K G H/\sp ws G R EE/\UpV K H R Q/\UpX K H EE E
def b6k{K:Fg}(t:TKs H H'):TK K H H':=(t.tup,λa b h=>by
 let(o,h)||h:=h
 .show .inl (o,t.frz _ _ _ h)
 .show .inr h,t.frz)
def UpN(K:Fg)(EE:Addr->Hq->Prop)(E:XK):Prop:=∀C G H',EE C G->RH K G H'->E (.ref C) jN H'
def UpX.since{K:Fg}(h:UpX K H EE jQ):UpN K EE (since H jQ):=λC G a q r t=>h C G a q r (b6k t)
abbrev EE0:Addr->Hq->Prop:=λ_ _=>False
def up0{K:Fg}:UpN K EE0 E0:=λ_ _ _ z _=>z.elim
def a05:a0V (CXx X.prog X.w) X E0:=by simp[a0V,CXx]
section
variable{E:XK}{EE:Addr->Hq->Prop}{e e0:Expr}{x n:Str}{p np cpos:Pos}{t:A3}{te:E3}{k:Nat}{f C D:Addr}{fd:g9}{ps:List Str}{sp:PX3}
def a86(sp:PX3)(EE:Addr->Hq->Prop)(t:A3):E3:=fun σ G R=>t σ G λws G1=>sp ws G1 R EE
def b3x(hp:a0V (CXx X.prog X.w) X E)(hU:UpN X.K EE E)(F:FnOk X.prog X.w X.K X.mg X.base (CXx X.prog X.w) k f fd ps (a1D X.K sp))(hr:Room k X.A)(hg:Gl X x)(hm:X.mg x=cL (.ref f))(hk:PySem.W.keepIn X.K (.ref f)=jO)(hb:Binds X.K fd ps [])(ha:QA X (e::es) t)
  (hdb:(x==("__debug__":Str))=jP:=by decide) (he:gM (e::es) X.env=(jP,eval e X.env,)::gM es X.env:=by rfl) (hpl:(backTo pos (gM es X.env)).any (·.1)=jP:=by rfl) :
  QE X (.Call (.Name x p) (e::es) [] pos) (a86 sp EE t):=⟨a0E (a7S F hr hg hm hk hb .nil hp ha.p hdb he hpl) fun τ H Q l=>l.un fun σ G R i hg h n=>(σ,G,_,i,hg,h,λo g vs H1 c d b j=>(o,g,R,EE,by rw[cE];show d,b,c,n.mono j,λC G m z r _=>hU C G m z r))⟩
def b12(EE:Addr->Hq->Prop)(C:Addr)(te:E3):X3:=λ_ _ _ _ σ G=>te σ G λ_ G1=>EE C G1
def a4k(O:Outs X E)(hU:UpX X.K X.H₀ EE E)(hc:X.calm=jO)(hg:Gl X x)(hm:X.mg x=cL (.ref C))(hq:PySem.W.excIn X.K C veM "ValueError.__new__"=jO)(he:QE X e0 te)
  (hs:gM [e0] X.env=(jP,eval e0 X.env,)::gM [] X.env:=by rfl) (hp:(backTo cpos (gM [] X.env)).any (·.1)=jP:=by rfl) (hd:(x==("__debug__":Str))=jP:=by decide) :
  QS X (.Raise (cL (.Call (.Name x np) [e0] [] cpos)) jN pos) (b12 EE C te):=⟨a1k (b0w O hc hg hm hq he.p hs hp hd) λD τ H d=>d.un fun σ G nx rt bk ct hs hg h u1 u2 u3 u4=>(σ,G,_,hs,hg,h,λw G1 v H1 e rv a t1=>λt=>hU _ _ _ e a (b6k t))⟩
theorem RSt.unset{K:Fg}:∀{σ:S3}{τ:L2.St},RSt K H σ τ->∀i:Nat,RSt K H (σ.set i jN) (τ.set i jN)
 |_,_,.nil,_=>by rw[List.set_nil,List.set_nil];show .nil
 |_,_,.cons r h,0=>.cons (λ_ z=>nomatch z) h
 |_,_,.cons r h,i+1=>.cons r (RSt.unset h i)
variable{o:Expr}
def a87(C:Addr)(m:Str)(sp:PX3)(EE:Addr->Hq->Prop)(to:E3)(t:A3):E3:=fun σ G R=>to σ G λx G1=>∃q dx fs,x=.ref q/\G1 q=cL (.ins C dx fs)/\fs.lookup m=jN/\t σ G1 λws G2=>sp (.ref q::ws) G2 R EE
def b3y(hp:a0V (CXx X.prog X.w) X E)(hU:UpN X.K EE E)(ho:QE X o to)(c:Cls X.K C)(hm:Meth X.K C m f)(F:FnOk X.prog X.w X.K X.mg X.base (CXx X.prog X.w) k f fd ps (a1D X.K sp))(hr:Room k X.A)(hb:Binds X.K fd ps [])(ha:QA X (e::es) t)
  (hst:gM (e::es) X.env=(jP,eval e X.env,)::gM es X.env:=by rfl) (hpl:(backTo pos (gM es X.env)).any (·.1)=jP:=by rfl)
  (ht:eval (.Call (.Attribute o m apos) (e::es) [] pos) X.env=(do
   let ov <- eval o X.env
   hI apos.atName
   let (f,first,) <- g0 [ov] (ij ov m pl)
   ik pos f first (backTo pos (gM (e::es) X.env)) (im pos (io [] X.env))):=by rfl):QE X (.Call (.Attribute o m apos) (e::es) [] pos) (a87 C m sp EE to t):=
 ⟨a0E (a7T ho.p c hm F hr hb .nil hp ha.p hst hpl ht) fun τ H Q D=>D.un fun σ G R i T h M=>by
  show(σ,G,_,i,T,h,λw u v H1 (q,j,fs,L,V,B,n) b a g=>?_);subst L;let(S,I,N,l):=a _ _ V;show(q,j,S,b,I,(a1f N l).1 B,σ,u,_,i.mono g,a,n,λx J Y H2 W U d s=>?_);show(.ref q::x,J,R,EE,by rw[cE,a0v];show(v,Y,rfl,by rw[a0g];show b,U),d,W,M.mono (g.trans s),λC G y z r _=>hU C G y z r)⟩
def zIsX(K:Fg)(C e:Addr):List Z->Hq->K3->Prop:=λxs G R=>∃y b,xs=[.ref e,y]/\((∃D,y=.ref D/\PySem.W.kitOne K (.ref C) (.ref D)=cL b)\/(∃T,y=.ty T/\PySem.W.kitOne K (.ref C) (.type T)=cL b) \/
 ∃ds:List Addr,y=.tup (ds.map Z.ref)/\PySem.W.kitAny K (.ref C) (ds.map Value.ref)=cL b)/\R (.bl b) G
theorem a4X{K:Fg}:∀{bs:List Addr}{vs:List V},Reps K H (bs.map Z.ref) vs->vs=bs.map V.ref
 |[],vs,h=>by rw[cI,a0i]at h;subst h;rfl
 |n::ns,vs,h=>by
  let(v,r,rfl,a,b):=h;rw[a,a4X b];rfl
def a6Z{e:Addr}(hc:oe.cls=.ref C)(hd:oe.dict=jN)(hn:PySem.W.notCls oe=jO)(k:ExK X.K C):a1p (X.hnd e oe) (.builtin "isinstance") (zIsX X.K C e):=a0W (b0V hc hd hn k) λs H Q j=>j.un λn G R d i h m=>by
 let(y,b,rfl,f,q):=h;let(v,g,rfl,r,a):=d.two;subst r;show(g,b,rfl,?_,m _ _ _ _ q (by rw[a0q]) i (.refl _ _));let(D,rfl,e1)||(T,rfl,e1)||(ds,rfl,e1):=f
 show .inl (D,a,e1);show .inr (.inl (T,a,e1))
 .rw[a0N]at a;let(p,o,rfl,l,c):=a
  let:=a4X c
  subst this;show .inr (.inr (p,ds,rfl,SqT.of l,e1))
end
section
variable{K:Fg}{mg:Str->Option Value}{base:Heap}
def fn3x{st:Stmt}(F:Fun K x qual st f fd)(S:FnScope N ps (a0h st))(len:∀ws G R EE,jQ ws G R EE->ws.length=ps.length)
  (hbody:∀(cdv:Value)(A:Around)(outer:List Env)(s:Shared)(H:Hp)(E:XK)(ws:List Z)(G:Hq)(R:K3)(EE:Addr->Hq->Prop),Room k (A.deeper (envOfC qual (a0h st) s.heap.objs.size f cdv))->jQ ws G R EE->UpX K H EE E ->
   ∃t,QSs (cxOf (CXx P w) P w K mg base N qual (a0h st) f cdv A outer s H E) (a0M st) t/\t (λ_ G'=>R .non G') R (λ_ _=>False) (λ_ _=>False) (a1F N ws) G):FnOk P w K mg base (CXx P w) (k+1) f fd ps (a1D K jQ):=by
 let(I,T,U,C,M,V,m,L,z,rfl,n,g):=F.ex;show b4U n g S (λo H Q E (b,G,R,e,c,j,h,d,l)=>by rw[<- c.length];show len _ _ _ _ h) ?_;ext A a s H o Q E r ⟨b,G,R,e,c,j,h,d,l⟩;let(t,v,q):=hbody m A a s H E b G R e r h l;show(_,v.p,a1F N b,G,_,R,_,_,.start c,j,q,fun σ' J τ' D u B i y=>d _ _ _ _ u (by rw[a0u]) i y,d,λ_ _ _ _ h _ _ _=>h.elim,λ_ _ _ _ h _ _ _=>h.elim)
end
mutual
def DZ(G:Hq):PyData->Z->Prop
 |.none,x=>x=.non
 |.bool b,x=>x=.bl b
 |.int i,x=>x=.int i
 |.str s,x=>x=.str s
 |.list ds,x=>∃p ws,x=.ref p/\G p=cL (.lst ws)/\DZs G ds ws
 |.tuple ds,x=>∃ws,x=.tup ws/\DZs G ds ws
 |.dict _,_=>False
def DZs(G:Hq):List PyData->List Z->Prop
 |[],ws=>ws=[]
 |d::ds,ws=>∃w r,ws=w::r/\DZ G d w/\DZs G ds r
end
mutual
theorem DZ.dv{K:Fg}{G:Hq}{H:Hp}(hg:RH K G H):∀{d:PyData}{w:Z}{v:V},DZ G d w->Rep K H w v->DV H d v
 |.none,w,v,q,r=>by unfold DZ at q;subst q;rw[a0u]at r;unfold DV;show r
 |.bool b,w,v,q,r=>by unfold DZ at q;subst q;rw[a0q]at r;unfold DV;show r
 |.int i,w,v,q,r=>by unfold DZ at q;subst q;rw[a0f]at r;unfold DV;show r
 |.str s,w,v,q,r=>by unfold DZ at q;subst q;rw[a0r]at r;unfold DV;show r
 |.list ds,w,v,q,r=>by
  unfold DZ at q;let(p,ws,e,hp,q):=q;subst e;rw[a0g]at r;let(vs,e',rs):=hg _ _ hp;unfold DV;show(p,vs,r,e',DZs.dv hg q rs)
 |.tuple ds,w,v,q,r=>by
  unfold DZ at q;let(ws,e,q):=q;subst e;rw[a0N]at r;let(p,vs,e1,e2,rs):=r;unfold DV;show(p,vs,e1,e2,DZs.dv hg q rs)
 |.dict _,w,v,q,r=>by unfold DZ at q;show q.elim
theorem DZs.dv{K:Fg}{G:Hq}{H:Hp}(hg:RH K G H):∀{ds:List PyData}{ws:List Z}{vs:List V},DZs G ds ws->Reps K H ws vs->DVs H ds vs
 |[],ws,vs,q,r=>by unfold DZs at q;subst q;rw[a0i]at r;unfold DVs;show r
 |d::ds,ws,vs,q,r=>by
  unfold DZs at q;let(w,ws',e,q1,q2):=q;subst e;rw[a0v]at r;let(v,vs',e,r1,r2):=r;unfold DVs;show(v,vs',e,DZ.dv hg q1 r1,DZs.dv hg q2 r2)
end
mutual
theorem DZ.sm{G G':Hq}(s:Sm G G'):∀{d:PyData}{w:Z},DZ G d w->DZ G' d w
 |.none,w,q=>by unfold DZ at q ⊢;show q
 |.bool b,w,q=>by unfold DZ at q ⊢;show q
 |.int i,w,q=>by unfold DZ at q ⊢;show q
 |.str _,w,q=>by unfold DZ at q ⊢;show q
 |.list ds,w,q=>by
  unfold DZ at q ⊢;let(p,ws,e,hp,q):=q;show(p,ws,e,s _ _ hp,DZs.sm s q)
 |.tuple ds,w,q=>by
  unfold DZ at q ⊢;let(ws,e,q):=q;show(ws,e,DZs.sm s q)
 |.dict _,w,q=>by unfold DZ at q;show q.elim
theorem DZs.sm{G G':Hq}(s:Sm G G'):∀{ds:List PyData}{ws:List Z},DZs G ds ws->DZs G' ds ws
 |[],ws,q=>by unfold DZs at q ⊢;show q
 |d::ds,ws,q=>by
  unfold DZs at q ⊢;let(w,r,e,q1,q2):=q;show(w,r,e,DZ.sm s q1,DZs.sm s q2)
end
def a2s(e:G p=cL (.lst ws))(h:DZs G ds ws):DZ G (.list ds) (.ref p):=by unfold DZ;show(p,ws,rfl,e,h)
def b6l(h:DZs G ds ws):DZ G (.tuple ds) (.tup ws):=by unfold DZ;show(ws,rfl,h)
def b6m:DZ G (.int i) (.int i):=by unfold DZ;rfl
def a4Y:DZ G (.bool b) (.bl b):=by unfold DZ;rfl
def a3f:DZs G [] []:=by unfold DZs;rfl
def a0y(h:DZ G d jQ)(hs:DZs G ds ws):DZs G (d::ds) (jQ::ws):=by unfold DZs;show(jQ,ws,rfl,h,hs)
set_option tactic.hygienic true in
def b3z:∀(n:Nat)(w:Z),flat n w=jO->DZ G (dZ w) w:=by
 let c:∀n,(∀w,flat n w=jO->DZ G (dZ w) w)->∀a:List Z,(∀d∈a,flat n d=jO)->DZs G (dZs a) a:=by
  ext n b a
  induction a with
  |nil=>show λ_=>by unfold dZs;show a3f
  |cons w a ihs=>show λh=>by unfold dZs;show a0y (b w (h w (.head _))) (ihs λd e=>h d (.tail _ e))
 ext n
 induction n with
 |zero=>ext w h;cases w<;>first | (simp[flat]at h;done) | (unfold dZ DZ;rfl)
 |succ n b=>
  ext w h;cases w<;>first | (simp[flat]at h;done) | (unfold dZ DZ;rfl) |skip
  rename_i a
  show b6l (c n b a (by simpa[flat]using h))
theorem a22(n:Nat):∀(ws:List Z),ws.all (flat n)=jO->DZs G (dZs ws) ws
 |[],_=>by unfold dZs;show a3f
 |w::ws,h=>by
  rw[cB,cV]at h;show a0y (b3z n w h.1) (a22 n ws h.2)
def zEqN(f:Bool->Bool):R3:=λx y G R=>∃d e,DZ G d x/\DZ G e y/\SeqAt.shaped d=jO/\SeqAt.shaped e=jO/\R (.bl (f (PyData.eqv d e))) G
def a88{K:Fg}(h:low2 K (zEqN f) x y H Q):∃d e,DV H d x/\DV H e y/\SeqAt.shaped d=jO/\SeqAt.shaped e=jO/\Q (.bl (f (PyData.eqv d e))) H:=by
 let(a,b,G,R,n,k,c,(d,e,l,i,j,m,h),g):=h;show(d,e,l.dv c n,i.dv c k,j,m,g _ _ _ _ h (by rw[a0q]) c (.refl _ _))
def b8v(hu:X.A.units+66<cLine):OpQ X (gQ .Eq) (zEqN id):=a2q (b1G hu) λx y H Q h=>a88 h
def b8w(hu:X.A.units+66<cLine):OpQ X (gQ .NotEq) (zEqN not):=a2q (b1H hu) λx y H Q h=>a88 h
def b6n(h1:DZ G d x)(h2:DZ G e y)(s1:SeqAt.shaped d=jO)(s2:SeqAt.shaped e=jO)(h:R (.bl (f (PyData.eqv d e))) G):zEqN f x y G R:=(d,e,h1,h2,s1,s2,h)
noncomputable def ItD(o:Obj)(a:Addr)(kvs:List (Key×V)):It:=
 (λi H=>H a=cL (.frz o (.dK kvs))/\i<kvs.length,λi H x H'=>H'=H/\∃p,kvs[i]?=cL p/\x=kV p.1,λi H=>H a=cL (.frz o (.dK kvs))/\kvs.length<=i)
def b3A(h:(a0p P w).is k u=jO):RelV (kV k) u:=by
 let(i,t,rfl,rfl)||(x,t,rfl,rfl)||(rfl,rfl):=a0o h
 .show(t,rfl)
 .show(t,rfl)
 .rfl
def a3Q:∀{kvs:List (Key×V)}{vs:List (Key×Value)},KV kvs vs->vs.length=kvs.length:=by ext z0;induction z0 with
 |nil=>ext vs h;cases h;rfl
 |cons p kvs I0=>
  ext vs h;cases h with
  |cons h1 h2=>rw[ci,ci,I0 h2]
theorem b13:∀{kvs:List (Key×V)}{vs:List (Key×Value)}{i:Nat}{p:Key×V},KV kvs vs->kvs[i]?=cL p->∃q,vs[i]?=cL q/\p.1=q.1
 |[],vs,i,p,h,e=>by simp at e
 |p0::kvs,vs,i,p,h,e=>by
  cases h with
  |cons h1 h2=>
   cases i with
   |zero=>cases e;show(_,rfl,h1.1)
   |succ i=>show b13 (i:=i) h2 ↑e
theorem a89{P:gO}{w:World}{K:Fg}{tg:Expr}(a it:Addr){o:Obj}(kvs:List (Key×V)){es:Array iO}{ep:Nat}(hd:o.data=.dict es ep):Turn P w K tg (ItD o a kvs) [it] it (λi h=>h.IsKeyIter it a i kvs.length ep) where
 mem:=by simp
 obj:=λi h st b hb=>by
  let e:b=it:=↑hb
  subst e;let(o,e,c,d):=st;show(o,e,λv z=>by rw[d]at z;cases z)
 keep:=λi h h' st k=>st.at λo e=>k it (by simp) o e
 item:=by
  ext X hP hw hK hc i pins s σ H E I hf st hg;subst hP hw hK;let(ha,hi):=hg;let(g,hz,hsm,vs,kv,dof):=(show ObjOk X.prog X.w H s.heap a (.frz o (.dK kvs)) from I.hok a _ ha);let(f0,f1,f2,f3,f4,f5):=hf it (by simp);let hl:=a3Q kv;let dat:s.heap.DictAt (a0p X.prog X.w) a vs ep:=by
   let(o',es',ep',h1,h2,h3,h4):=dof;rw[g]at h1;cases h1;rw[hd]at h3;cases h3;show(o,es,g,h2,hd,h4)
  obtain⟨p,hp⟩:∃p,kvs[i]?=cL p:=(kvs[i],cu hi);let((k,v),hq,e1):=b13 kv hp;show wpAny_pyNext_dict_item (by rw[hl];show st) dat hq λkey h' hk st' sb=>?_;let I1:Inv X pins σ H { s with heap:=h' }:=I.turned (t':=s.toks) (λb o hb e=>(sb.2 b hb).trans e) f0 f1 f3 f4 f5;rw[hl]at st';let(oi,e,c,d):=id st';show(key,rfl,a7z (s:={ s with heap:=h' }) e c d (by decide) (kV p.1,H,I1,by rw[e1];show b3A hk,(rfl,p,hp,rfl),st',λb hb=>(hf b hb).1))
 done:=by
  ext X hP hw hK hc i pins s σ H E I hf st hg;subst hP hw hK;let(ha,hi):=hg;let(g,hz,hsm,vs,kv,dof):=(show ObjOk X.prog X.w H s.heap a (.frz o (.dK kvs)) from I.hok a _ ha);let(f0,f1,f2,f3,f4,f5):=hf it (by simp);let hl:=a3Q kv;let dat:s.heap.DictAt (a0p X.prog X.w) a vs ep:=by
   let(o',es',ep',h1,h2,h3,h4):=dof;rw[g]at h1;cases h1;rw[hd]at h3;cases h3;show(o,es,g,h2,hd,h4)
  show wpAny_pyNext_dict_end (I.ok.hd hc) (by rw[hl];show st) dat (f7 (by cbv)) λh' eb=>(rfl,I.turned (t':=s.toks) (λb o hb e=>eb b o hb e) f0 f1 f3 f4 f5)
 self:=λ_ _ _ _ _ st h=>wpAny_pyIter_keyiter st h
section
variable{σ:St}{a:Addr}{kvs:List (Key×V)}{tg:Expr}
def Inv.freeze(I:Inv X pins σ H s)(e:H a=cL (.dK kvs)):∃o,Inv X pins σ (upd H a (.frz o (.dK kvs))) s:=by
 let(p,k,t,x,h):=(I.hok a _ e);let i:=h;let(o,C,B,g,r):=i;show(o,?_);let l:∀b,H b=jN->b≠a:=λb q z=>by rw[z,e]at q;cases q
 let j:∀b d,H b=cL (.tup d)->b≠a:=λb d q z=>by rw[z,e]at q;cases q
 let A:∀b o u,H b=cL (.frz o u)->b≠a:=λb o u q z=>by rw[z,e]at q;cases q
 let y:∀b f,H b=cL (.tbl f)->b≠a:=λb f q z=>by rw[z,e]at q;cases q
 let m:∀b c,H b=cL (.own c)->b≠a:=λb c q z=>by rw[z,e]at q;cases q
 show I.un (λb o q _ _ _=>q,λb o q _ _ _=>(o.slots,q),λb o q n _=>by rw[a0b (l b n)];show n,λb o q _=>(o,q),λb d q=>by rw[a0b (j b d q)];show q,λb o u q=>by rw[a0b (A b o u q)];show q,λb f q=>(#[],by rw[a0b (y b f q),f8];show q)) λb u q=>?_
 by_cases hb:b=a
 .subst hb;rw[a0e]at q;cases q;show(g,p,k,t,x,h)
 .rw[a0b hb]at q;show (I.hok b u q).stay (λc v _ r=>r) (λc r=>by rw[a0b (m c b r)];show r) λc d r=>by rw[a0b (j c d r)];show r
def iDct(tl:TE):TI:=fun σ H R=>tl σ H λx H1=>∃a kvs,x=.ref a/\((H1 a=cL (.dK kvs)/\∀o,R (ItD o a kvs) (upd H1 a (.frz o (.dK kvs))))\/∃o,H1 a=cL (.frz o (.dK kvs))/\R (ItD o a kvs) H1)
def b3B(hl:PE X l tl):PI X tg l (iDct tl):=by
 ext c s σ H R I h;show thn (hl c s σ H _ I h) λv d (x,B,r,C,E)=>?_;let(a,f,e,q):=E;subst e;cases C;let k:∀o i,Inv X c σ i d->i a=cL (.frz o (.dK f))->R _ i->wpAny _ X.A _ (PIE X c σ tg R) X.xe d:=λo i j m q=>by
  let(g,M,t,L,D,y):=(j.hok a _ m);let(N,n):=y.dictAt;let p:=n;let(J,G,u,_,F,_):=p;rw[g]at u;cases u;show wpAny_pyIter_dict t n (d.heap.objs.size,[d.heap.objs.size],_,_,i,rfl,j.kept λb o e=>Heap.get?_push_of_some _ e,a89 a _ f F,(_,Heap.get?_push_size _ rfl,rfl,by rw[a3Q D];rfl),λb z=>?_,q);let e:b=d.heap.objs.size:=by grind
  subst e;show j.fpOk (b8 _) (j.hok.fresh (b8 _))
 let(m,q)||(o,m,q):=q
 .let(o,j):=r.freeze m;show k o _ j a0e (q o)
 .show k o B r m q
end
noncomputable def keyW:Key->Z
 |.inl (cL i)=>.int i
 |.inl jN=>.non
 |.inr s=>.str s
theorem a6s{K:Fg}:∀k:Key,Rep K H (keyW k) (kV k)
 |.inl (cL i)=>by change Rep K H (.int i) (.int i);rw[a0f]
 |.inl jN=>by change Rep K H .non .non;rw[a0u]
 |.inr s=>by change Rep K H (.str s) (.str s);rw[a0r]
def wkD(x:Z)(G:Hq)(R:List Z->(Hq->Prop)->Hq->Prop):Prop:=match x with
 |.ref a=>∃kvs,(G a=cL (.dK kvs)\/G a=cL (.dF kvs))/\R (kvs.map λp=>keyW p.1) (λ_=>True) (put G a (.dF kvs))
 |_=>False
def iD(tl:E3):I3:=fun σ G R=>tl σ G λx G1=>wkD x G1 R
def a3R{K:Fg}{kvs:List (Key×Z)}(e:H0 a=cL (.frz o (.dK us)))(hn:us.map (·.1)=kvs.map (·.1)):a3x K (kvs.map λp=>keyW p.1) (λ_=>True) (ItD o a us) H0:=λi G H g t n j=>by
 let d:=t.frd _ _ _ e;let l:us.length=kvs.length:=by let:=congrArg cF hn;o_head this
 rw[b7]at j;show(λh=>(d,by rw[b7]at h;lia),λw b=>?_);rw[cg]at b;cases hk:kvs[i]? with
 |none=>rw[hk]at b;cases b
 |some p=>
  rw[hk]at b;cases b;let k:=(cn.mp hk).1;show((d,by lia),?_);ext x m ⟨rfl,q,f,rfl⟩
  let:q.1=p.1:=by
   let c:(us.map (·.1))[i]?=cL q.1:=by rw[cg,f];rfl
   rw[hn,cg,hk]at c;show (cL.inj c).symm
  rw[this];show(a6s _,g,.refl _ _)
section
variable{tg l:Expr}{tl:E3}
def a5I(hl:QE X l tl):QI X tg l (iD tl):=a5v (b3B hl.p) fun τ H B u=>u.un fun σ G R z A h t=>by
 show(σ,G,_,z,A,h,λw r v q d k c s=>?_);cases w with
 |ref a=>
  let(j,e,d):=d;let e||e:=e
  .let(g,f,i,n):=c _ _ e;show(a,g,k,.inl (f,λo=>?_));let m:TK X.K q (L2.upd q a (.frz o (.dK g))):=.dK f;show t _ _ _ _ _ d (a3R a0e i) (c.set m (o,g,a0e,i,n.mono m)) (s.trans m)
  .let x:=e;let(o,g,f,i,n):=c _ _ e;show(a,g,k,.inr (o,f,?_));let y:put r a (.dF j)=r:=by
    funext b
    unfold put
    split
    .simp_all
    .rfl
   rw[y]at d;show t _ _ _ _ _ d (a3R f i) c s
 |_=>show cb d
def i_iD(h:tl σ G λx G1=>wkD x G1 R):iD tl σ G R:=h
def b3C(e:G p=cL (.dK kvs)\/G p=cL (.dF kvs))(h:R (kvs.map λp=>keyW p.1) (λ_=>True) (put G p (.dF kvs))):wkD (.ref p) G R:=(kvs,e,h)
end
def b3D:∀{ss:List Str}{us:List Value},Vals (ss.map V.str) us->StrsAre us ss:=by ext z0;induction z0 with
 |nil=>ext us r;rw[cI]at r;cases r;show .nil
 |cons s ss I0=>
  ext us r;cases r with
  |cons r1 r2=>let(t,rfl):=r1;show .cons s t (I0 r2)
def a9a:∀{vs:List Value}{ss:List Str},StrsAre vs ss->Vals (ss.map V.str) vs:=by ext z0 y0 x0;induction x0 with
 |nil=>show .nil
 |cons s t h I0=>show .cons (t,rfl) (I0)
def b0W(K:Fg):List V->Hp->VK->Prop:=λxs H Q=>∃(p:Addr)(ss:List Str),xs=[.ref p]/\SqL K H p (ss.map V.str)/\ss.length<64 /\
 ∀(t:Addr)(ts:List Str),H t=jN->ts.Perm ss->sortedS ts=jO->Q (.ref t) (upd H t (.lst (ts.map V.str)))
def a4Z:CallR X (.builtin "sorted") (b0W X.K):=by
 ext k s σ H y z Q I r h;let(p,x,rfl,g,t,q):=h;let(u,rfl,i):=a2C r;cases i;let(c,n,m,_):=I.list g;let f:=b3D n;let v:=f.length;show sorted_strs m.isList f (by lia) λa b o d l=>?_;let(e,j):=sortedAll_at s.heap c a;show(.ref _,_,I.laid (λ_ _=>sortedAll_old) (dO _) (show ObjOk X.prog X.w _ _ _ (.lst _) from (by rw[b7,d.length_eq,g7];lia,a.toList,e,a9a o,↑j)),rfl,q _ b (I.hok.fresh (dO _)) d l)
def a60{K:Fg}:∀ss:List Str,Reps K H (ss.map Z.str) (ss.map V.str):=by ext z0;induction z0 with
 |nil=>rw[cI,cI,a0i]
 |cons s ss I0=>
  show(_,_,rfl,by rw[a0r],I0)
def a61{K:Fg}:∀{ss:List Str}{vs:List V},Reps K H (ss.map Z.str) vs->vs=ss.map V.str:=by ext z0;induction z0 with
 |nil=>ext vs h;rw[cI,a0i]at h;subst h;rfl
 |cons s ss I0=>
  ext vs h;let(v,r,rfl,a,b):=h;rw[a,I0 b];rfl
def a6t:List Z->Hq->K3->Prop:=λxs G R=>match xs with
 |[.ref p]=>∃ss:List Str,G p=cL (.lst (ss.map Z.str))/\ss.length<64/\∀(t:Addr)(ts:List Str),G t=jN->ts.Perm ss->sortedS ts=jO->R (.ref t) (put G t (.lst (ts.map Z.str)))
 |_=>False
def a9b:a1p X (.builtin "sorted") a6t:=a0W a4Z λu H Q n=>n.un λg G R j b h q=>by
 match g,h with
 |[.ref p],h=>
  let(v,rfl,r):=j.one;let(i,e,d,h):=h;let(s,k,l):=b _ _ e
  let:=a61 l
  subst this;show(p,i,by rw[r],SqL.of k,d,λt a c f m=>q _ _ _ _ (h t a (b.out c) f m) (by rw[a0g]) (b.set (.new c) (_,a0e,a60 a)) (.new c))
def a9c(e:G p=cL (.lst (ss.map Z.str)))(z:ss.length<64)(h:∀(t:Addr)(ts:List Str),G t=jN->ts.Perm ss->sortedS ts=jO->R (.ref t) (put G t (.lst (ts.map Z.str)))):a6t [.ref p] G R:=(ss,e,z,h)
structure Cl where
 x:Str
 np:Pos
 b₀:Stmt
 suite:List Stmt
 hp:Pos
noncomputable def Cl.h(n:Str)(c:Cl):ExceptHandler:=.ExceptHandler (cL (.Name c.x c.np)) (cL n) (c.b₀::c.suite) c.hp
inductive Picks (X:Cx) (C:Addr) (th:Addr->TS):List Cl->Prop
 |here {c:Cl} {cs:List Cl} {D:Addr} (hg:Gl X c.x) (hm:X.mg c.x=cL (.ref D)) (hd:(c.x==("__debug__":Str))=jP) (hD:PySem.W.exmOne X.K (.ref C) (.ref D)=cL jO)
   (hh:∀e oe,oe.cls=.ref C->oe.dict=jN->PySem.W.notCls oe=jO->PSs (X.hnd e oe) (c.b₀::c.suite) (th e)):Picks X C th (c::cs)
 |next {c:Cl} {cs:List Cl} {D:Addr} (hg:Gl X c.x) (hm:X.mg c.x=cL (.ref D)) (hd:(c.x==("__debug__":Str))=jP) (hD:PySem.W.exmOne X.K (.ref C) (.ref D)=cL jP) (hp:Picks X C th cs):Picks X C th (c::cs)
inductive Alt (X:Cx) (cs:List Cl):List (Addr×(Addr->X3))->Prop
 |nil:Alt X cs []
 |cons {C:Addr} {th:Addr->X3} {l:List (Addr×(Addr->X3))} (h:Picks X C (λe=>lowS X.K (th e)) cs) (hs:Alt X cs l):Alt X cs ((C,th,)::l)
theorem Alt.get:∀{l:List (Addr×(Addr->X3))},Alt X cs l->∀p∈l,Picks X p.1 (λe=>lowS X.K (p.2 e)) cs
 |_,.nil,p,h=>by simp at h
 |_,.cons h hs,p,hp=>by
  let rfl||hp:=cf.mp hp
  .cbv
  .show hs.get p hp
def Inv.melt(I:Inv X pins σ H s)(e:H a=cL (.frz o (.dK kvs)))(n:∀o u,X.H₀ a≠cL (.frz o u)):Inv X pins σ (upd H a (.dK kvs)) s:=by
 let(g,E,j,A,B,t):=(I.hok a _ e);let i:∀b,H b=jN->b≠a:=λb q z=>by rw[z,e]at q;cases q
 let k:∀b d,H b=cL (.tup d)->b≠a:=λb d q z=>by rw[z,e]at q;cases q
 let D:∀b f,H b=cL (.tbl f)->b≠a:=λb f q z=>by rw[z,e]at q;cases q
 let L:∀b c,H b=cL (.own c)->b≠a:=λb c q z=>by rw[z,e]at q;cases q
 show(I.ok,I.os,I.bare,(I.base.keep,I.base.slot,λb o F C y=>?_,I.base.there,λb d q=>?_,λb o u q=>?_,λb f q=>?_),I.loc,I.cell,?_,λx c q=>?_,λp M=>?_,λb u q=>?_,I.len)
 .let h:=I.base.free b o F C y;rw[a0b (i b h)];show h
 .let h:=I.base.tups b d q;rw[a0b (k b d h)];show h
 .rw[a0b (λz=>n o u (by simp_all))];show I.base.frzs b o u q
 .let(m,h):=I.base.tbls b f q;show(m,by rw[a0b (D b _ h)];show h)
 .rw[a0b (i _ I.free)];show I.free
 .let h:=I.freeC x c q;rw[a0b (i _ h)];show h
 .let(G,l,J):=I.pin p M;show(G,by rw[a0b (i _ l)];show l,J)
 .by_cases hb:b=a
  .subst hb;rw[a0e]at q;cases q;show(E,j,A,B,t)
  .rw[a0b hb]at q;show (I.hok b u q).stay (λc v _ r=>r) (λc r=>by rw[a0b (L c b r)];show r) λc d r=>by rw[a0b (k c d r)];show r
section
variable{K:Fg}{H1:Hp}{a:Addr}{us us1:List (Key×V)}{o:Obj}{e:Expr}{t:E3}{G:Hq}{kvs:List (Key×Z)}
def a3g(h:H1 a=cL (.frz o (.dK us1))):TW K H1 (upd H1 a (.dK us1)):=
 (λc b q=>by rw[a0b (λz=>by rw[z,h]at q;cases q)];show q,λc b q=>by
  let(o',q)||q:=q
  .show .inl (o',by rw[a0b (λz=>by rw[z,h]at q;cases q)];show q)
  .show .inr q)
def b3E(h0:H a=cL (.dK us))(t:TK K H H1)(h:H1 a=cL (.frz o (.dK us1))):TK K H (upd H1 a (.dK us1)):=
 (λc b q=>(a3g (K:=K) h).tup c b (t.tup c b q),λc b q=>(a3g (K:=K) h).frz c b (t.frz c b q),λc d u q=>by
  rw[a0b (λz=>by rw[z,h0]at q;cases q)];show t.frd c d u q)
def b8x(t:TW K H H1)(fc:∀b o c q,H b=cL (.frz o (a8i c q))->H1 b=cL (.frz o (a8i c q)))(e:H1 b=H b)(h:ROb K H b o'):ROb K H1 b o':=by
 cases o' with
 |lst ws=>let(a,q,r):=h;show(a,e.trans q,r.monoW t)
 |dK kvs=>let(a,q,n,r):=h;show(a,e.trans q,n,r.monoW t)
 |ins C dx fs=>let(a,q,n,r):=h;show(a,e.trans q,n,r.monoW t)
 |dF kvs=>let(d,a,q,n,r):=h;show(d,a,e.trans q,n,r.monoW t)
 |dT ks=>let(a,q,n):=h;show(a,e.trans q,n)
 |tab p q=>show Tab.stay (λb o c k=>fc b o c _ k) e h
def b3F(g:RH K G H1)(e1:G a=cL (.dF kvs)):∃o us1,H1 a=cL (.frz o (.dK us1))/\RH K (put G a (.dK kvs)) (upd H1 a (.dK us1)):=by
 let(o,d,h,f,i):=g _ _ e1;show(o,d,h,λb e q=>?_)
 by_cases hb:b=a
 .subst hb;rw[a0a]at q;cases q;show(d,a0e,f,i.monoW (a3g h))
 .rw[a0j hb]at q;show b8x (a3g h) (λc o x y z=>by rw[a0b (λw=>by rw[w,h]at z;cases z)];show z) (a0b hb) (g b e q)
def uUnf(t:E3):E3:=fun σ G R=>∃a kvs,G a=cL (.dK kvs)/\t σ G λv G'=>G' a=cL (.dF kvs)/\R v (put G' a (.dK kvs))
def b0X(h:QE X e t):QE X e (uUnf t):=⟨λf s τ H Q I z=>by
 let(σ,G,R,y,j,(a,d,x,A),C):=z;let(F,k,L,J):=j _ _ x;show thn (h.p f s τ H (λv c=>∃w b,Rep X.K c w v/\RH X.K b c/\TK X.K H c/\b a=cL _/\R w _) I (σ,G,_,y,j,A,λw b v c q r g t=>(w,b,r,g,t,q.1,q.2))) λu E (v,c,l,m,w,b,r,g,t,n,q)=>?_;let(o,D,i,B):=b3F g n;show(v,_,l.melt i (λo u z=>by let:=I.base.frzs a o u z;rw[k]at this;cases this),m,C w _ v _ q (r.monoW (a3g i)) B (b3E k t i))⟩
def b0Y(e:G a=cL (.dK kvs))(h:t σ G λv G'=>G' a=cL (.dF kvs)/\R v (put G' a (.dK kvs))):uUnf t σ G R:=(a,kvs,e,h)
end
namespace DictP
def a3S:entryFor table "dict.update.loop"=cL gY.«dict.update.loop»:=entryFor_of_tree (by kernel_rfl)
def a2t:plainId "dict.update.loop"=jO:=by decide +kernel
def b3G:typeLookup (.type "list") "keys"=pure jN:=am_miss_of_fast (by decide +kernel)
section
variable{a:Addr}{xs:Array Value}{k:Nat}{sl:Array (Option Value)}
def a9d(hx:s.heap.get? a=cL { cls:=.type "list",dict:=jN,data:=.seq xs k,slots:=sl })(hA:A.handled=jN)
  (h:∀h' tk,(∀b ob,s.heap.get? b=cL ob->h'.get? b=cL ob)->Q jN { s with heap:=h',toks:=tk }):wpAny (model prog w) A (getAttr? (.ref a) "keys") Q E s:=by
 let(hp,g,d,tk,os):=s;let hT:∀tk',((hp,g,d,tk',os):Shared).TypeIs (.ref a) "list":=λ_=>(_,hx,rfl);let f1:=sub_AttributeError;let f3:=F.slot_list_getattribute.lookup;let f4:=F.slot_list_getattribute.bind (.ref a);let f5:=am_list_getattr_none;unfold getAttr? getAttrBy? getAttrBy
 repeat (any_goals (first |assumption |show hT _ | ((with_reducible change wpAny _ _ (call (Value.builtin "list.__getattribute__") _ _) _ _ _);show jD F.slot_list_getattribute (hT _) am_entry_list_getattribute (F.args_list_getattribute_2 _ _) (meets_getattribute_miss_list a xs k sl "keys" _ b3G (by decide +kernel)) (hx,hA,λh' tk' e hx'=>?_)) |wp_step))
 let(t',u',he):=hx'.there
 change wpAny _ _ (getattributeRaised _ _ _ _ _ _ _) _ _ _
 unfold getattributeRaised
 repeat (any_goals (first |assumption |wp_step))
 show h _ _ hx'.keeps
def a62(g:s.heap.get? t=cL o)(hc:o.cls=.type "tuple")(hd:o.data=.seq #[x,y] n)(h:Q [x,y] s):wpAny (model prog w) A (gY.Dict.pairItems (.ref t)) Q E s:=by
 let(c,a,b,e):=o;simp only at hc hd;subst hc hd
 repeat (any_goals (first |assumption |wp_step))
end
abbrev Sv(h h':Heap):Prop:=∀b o,h.get? b=cL o->h'.get? b=cL o
section
variable{R:Result->Shared->Prop}{I:Addr}{fp wr:List Addr}{G:Array jp->Array jp->Prop}{n:Nat}{P:Nat->Value->Prop}{St:Nat->Shared->Prop}
def b14(prog:gO)(w:World)(A:Around)(h0:Heap)(D:Nat->Heap->Prop)(d:Addr)(i:Nat)(v:Value):Prop:=∃t o x y m,v=.ref t/\h0.get? t=cL o/\o.cls=.type "tuple"/\o.data=.seq #[x,y] m /\
 ∀(E:Value->Shared->Prop)(s:Shared)(Q:Unit->Shared->Prop),Sv h0 s.heap->D i s.heap->(∀h' tk,s.toks<=tk->D (i+1) h'->Heap.SameBut d s.heap h'->Q () { s with heap:=h',toks:=tk })->wpAny (model prog w) A (dictSet d x y) Q E s
def b8y(W:WalksS prog w A.in1 I fp wr G n P St)(d:Addr)(hdf:d∉fp)(dm:∀i h h',D i h->Sv h0 h->Sv h0 h'->(∀o,h.get? d=cL o->h'.get? d=cL o)->D i h')
  (nw:∀b o,h0.get? b=cL o->b≠d/\b∉wr) (hP:∀j v,P j v->b14 prog w A.in1 h0 D d j v) :
  ∀(k i:Nat)(s:Shared),n-i=k->i<=n->St i s->Sv h0 s.heap->D i s.heap->(∀s',Moved (d::wr) G s s'->D n s'.heap->R (.ok (.ret .none)) s') ->
   iE (model prog w) A (.builtin "dict.update.loop" ([.ref d,.ref I,rawInt i,.none],[])) R s:=by
 let r:=λh=>hdf (W.sub _ h);let V:∀b∈wr,b∈d::wr:=λb q=>cT _ q;ext k
 induction k with
 |zero=>
  ext i s hk hi p l F E;let L:i=n:=by lia
  subst L;show codeAny_builtin a3S (gK (W.done s _ _ p λa c=>(gK (gS (gS (E a (c.mono V) (dm _ _ _ F l (λb o e=>c.heap b o (nw b o e).2 (l b o e)) λo e=>c.heap d o r e)))))))
 |succ k ih=>
  ext i s hk hi p l F E;show codeAny_builtin a3S ?_;rw[Around.under_plainId a2t _];show gK (W.item i s _ _ (by lia) p λv a M B c=>?_);let(t,o,x,y,m,rfl,g,hc,X,N):=hP i v M;let f:=λb o e=>c.heap b o (nw b o e).2 (l b o e);show gK (ic (gK (wpAny_tryCatch (a62 (f t o g) hc X (ic (N _ _ _ f (dm _ _ _ F l f λo e=>c.heap d o r e) λS tk J T Q=>?_))))));let u:∀b o,b≠d->a.heap.get? b=cL o->S.get? b=cL o:=λb o Y e=>by rw[Q.2 b Y];show e
  show gS (plainId_quiet a2t _,?_);show ih (i+1) { a with heap:=S,toks:=tk } (by lia) (by lia) (W.frame _ a _ _ B J λb q o e=>u b o (λz=>hdf (z▸q)) e) (λb o e=>u b o (nw b o e).1 (f b o e)) T
   λU H C=>E U (Moved.trans W.gtrans ((c.mono V).then_heap J λb o q e=>u b o (λz=>q (z▸dg)) e) H) C
def a9e(hh:A.handled=jN)
  (hl:s.heap.get? l=cL { cls:=.type "list",dict:=jN,data:=.seq items c,slots:=sl }) (dm:∀i h h',D i h->Sv s.heap h->Sv s.heap h'->(∀o,h.get? s.heap.objs.size=cL o->h'.get? s.heap.objs.size=cL o)->D i h')
  (d0:D 0 (s.heap.push { cls:=.type "dict",data:=.dict #[] })) (hi:∀(j:Nat) v,items[j]?=cL v->b14 prog w A.in1.in1 s.heap D s.heap.objs.size j v)
  (h:∀(h':Heap)(tk:Nat),D items.size h'->Sv s.heap h'->Q (.ref s.heap.objs.size) { s with heap:=h',toks:=tk }) :
  wpAny (model prog w) A (call (.type "dict") [.ref l]) Q E s:=by
 show callType_codes (Q₁:=λm u=>m=.ref s.heap.objs.size/\u={ s with heap:=s.heap.push { cls:=.type "dict",data:=.dict #[] } }) F.kt_called_dict (F.kt_typeCall_dict_1 _) F.entry_dict_init (kt_code_dict_new _ (rfl,rfl)) ?_;ext m u ⟨rfl,rfl⟩;let f:(s.heap.push { cls:=.type "dict",data:=.dict #[] }).get? l=cL { cls:=.type "list",dict:=jN,data:=.seq items c,slots:=sl }:=Heap.get?_push_of_some _ hl;let L:Shared.TypeIs { s with heap:=s.heap.push { cls:=.type "dict",data:=.dict #[] } } (.ref l) "list":=(_,f,rfl);let H:Shared.TypeIs { s with heap:=s.heap.push { cls:=.type "dict",data:=.dict #[] } } (.ref s.heap.objs.size) "dict":=(_,Heap.get?_push_size _ rfl,rfl);show(H,F.args_dict_init_2 _ _,?_);show gK (gK (wpAny_notOrdered_dict H (gS ?_)))
 change wpAny _ _ (gY.Dict.updateFrom "dict.__init__" s.heap.objs.size (.ref l) [] .none) _ _ _
 show gK (wpAny_typeOf L (gK (a9d f (by lia) λa t1 k=>?_)));let C:a.IsList l items:=(_,k l _ f,rfl,c,rfl);show gK (ja (gK (jx C (gS (plainId_quiet a2t _,?_)))));let t:=Heap.lt_size hl;let p:=Heap.lt_size (k _ _ (Heap.get?_push_size _ rfl));let Y:A.in1.in1.handled=jN:=by lia
 let W:s.heap.objs.size∉[a.objs.size,l]:=by grind
 let q:∀b o,s.heap.get? b=cL o->b≠s.heap.objs.size/\b∉[a.objs.size]:=λb o e=>by
  let r:=Heap.lt_size e;show(cv r,λn=>by rw[cc.mp n]at r;show du _ (e8 r p))
 let d:∀x,Sv s.heap (a.push x):=λx b o e=>Heap.get?_push_of_some _ ((λb o e=>k b o (Heap.get?_push_of_some _ e)) b o e);show b8y ((Walks.list Y _ l (cv (e8 t p)) items).toS) s.heap.objs.size W dm q hi (items.size-0) 0 _ (by lia) (cM _)
  ((_,Heap.get?_push_size _ rfl,rfl,rfl),C.push _) (d _) (dm 0 _ _ d0 (λb o e=>Heap.get?_push_of_some _ e) (d _) λo e=>Heap.get?_push_of_some _ (k _ o e)) λR g V=>?_
 let(S,T,J,y,B):=R;let U:T=s.gens:=g.gens;let X:J=s.drawn:=g.drawn;let I:B=s.os:=g.os;subst U X I;show(rfl,h S y V λb o e=>g.heap b o (λn=>?_) (d _ b o e));let z||z:=cf.mp n
 .show (q b o e).1 z
 .simp_all
end
section
variable{K:Type}[DecidableEq K]{knd:KeyKind prog w K}
def PairAt(knd:KeyKind prog w K)(h:Heap)(v:Value)(r:K×Value):Prop:=∃t o key m,v=.ref t/\h.get? t=cL o/\o.cls=.type "tuple"/\o.data=.seq #[key,r.2] m/\knd.is r.1 key=jO
def call_pairs(hh:A.handled=jN)
  (hl:s.heap.get? l=cL { cls:=.type "list",dict:=jN,data:=.seq items c,slots:=sl }) (hi:∀(j:Nat) v,items[j]?=cL v->∃r,rows[j]?=cL r/\PairAt knd s.heap v r) (hn:items.size=rows.length) (hz:rows.length<=gI)
  (h:∀(h':Heap)(tk:Nat),h'.DictOf knd s.heap.objs.size (merged [] rows)->(∀b o,s.heap.get? b=cL o->h'.get? b=cL o)->Q (.ref s.heap.objs.size) { s with heap:=h',toks:=tk }) :
  wpAny (model prog w) A (call (.type "dict") [.ref l]) Q E s:=by
 show a9e (D:=λi h=>h.DictOf knd s.heap.objs.size (merged [] (rows.take i))) hh hl (by ext i h d ⟨o,G,C,z,n⟩ _ _ q;show(o,G,C,q _ z,n)) (Heap.DictOf.new s.heap) (λj v e=>?_) λd H a F=>h d H (by simp_all) F;let(r,B,t,o,p,m,rfl,g,y,x,k):=hi j v e;show(t,o,p,r.2,m,rfl,g,y,x,λE J Q I a q=>wpAny_dictSet_pairs k a (λd f u=>q d _ (dO _) (by rw[<- merged_take_succ _ _ _ _ B]at f;show f) u) ?_)
 let:=merged_length_le [] (rows.take j)
 simp at this
 lia
end
end DictP
noncomputable def a63(rows:List (Addr×Key×V))(acc:List (Key×V)):List (Key×V):=rows.foldl (λacc r=>putK acc r.2.1 r.2.2) acc
def b6o(X:Cx):List V->Hp->VK->Prop:=λxs H Q=>∃(p:Addr)(rows:List (Addr×Key×V)),xs=[.ref p]/\SqL X.K H p (rows.map λr=>V.ref r.1)/\(∀r∈rows,H r.1=cL (.tup [kV r.2.1,r.2.2]))/\rows.length<=1000 /\
 ∀t,H t=jN->Q (.ref t) (upd H t (.dK (a63 rows [])))
def b0Z(ok:HOk P w H h):∀{rows:List (Addr×Key×V)},(∀r∈rows,H r.1=cL (.tup [kV r.2.1,r.2.2]))->∃vs:List (Key×Value),vs.length=rows.length /\
  (∀(j:Nat) r,rows[j]?=cL r->∃q,vs[j]?=cL q/\DictP.PairAt (a0p P w) h (.ref r.1) q)/\∀acc bcc,KV acc bcc->KV (a63 rows acc) (merged bcc vs):=by ext z0;induction z0 with
 |nil=>ext _;show([],rfl,λj r e=>by simp at e,λ_ _ k=>k)
 |cons r rows I0=>
  ext hr;let(m,p,d,l):=I0 λr a=>hr r (.tail _ a);let(_,y,s,o,i,f,n,t):=(ok _ _ (hr r (.head _)));let(b,u,rfl,g,c):=Vals.two s;show((r.2.1,u,)::m,by rw[ci,ci,p],λj q e=>?_,λx v k=>l _ _ (k.put r.2.1 c));cases j with
  |zero=>
   cases e;show(_,rfl,r.1,o,b,n,rfl,i,f,t,a33 g)
  |succ j=>show d j q (by simp_all)
def a9f:∀(rows:List (Addr×Key×V))(acc:List (Key×V)),(a63 rows acc).length<=acc.length+rows.length:=by ext z0;induction z0 with
 |nil=>ext _;show b8 _
 |cons r rows I0=>
  ext acc
  let:=I0 (putK acc r.2.1 r.2.2)
  let:=a08 acc r.2.1 r.2.2
  change (a63 rows (putK acc r.2.1 r.2.2)).length<=_
  rw[ci];lia
def a64(hc:X.calm=jO):CallR X (.type "dict") (b6o X):=by
 ext f s σ H xs us Q I r h;let(p,rows,rfl,T,ht,hz,q):=h;let(u,rfl,V):=a2C r;cases V;let(d,z,(o,n,F,C,E,B),_):=I.list T;let(c,dd,dt,sl):=o;subst C E B;let(A,k,h2,W):=b0Z I.hok ht;let G:d.length=rows.length:=by let:=z.length;rw[b7]at this;lia
 let b:A.length<=sizeLine:=by grind
 show DictP.call_pairs (knd:=a0p X.prog X.w) (I.ok.hd hc) F (λj v e=>?_) (by grind) b λg t M U=>?_
 .let l:d[j]?=cL v:=↑e
  obtain⟨r,D⟩:∃r,rows[j]?=cL r:=(rows[j]'(by grind),cu _);let(q,m,pa):=h2 j r D;let(u,y,N):=z.get (by rw[cg,D];rfl);rw[l]at y;cases y;rw[N];show(q,m,pa)
 .let L:=W [] [] .nil;let Y:=(a34 (P:=X.prog) (w:=X.w) (H:=λ_=>jN) s.heap I.big).2.1;let R:=a9f rows [];let J:=
   I.laid (t':=t) U (b8 _) (show ObjOk X.prog X.w _ g _ (.dK _) from (by rw[g7];simp at R;lia,Y,_,L,M))
  show(.ref s.heap.objs.size,_,J,rfl,q _ (I.hok.fresh (b8 s.heap.objs.size)))
section
variable{K:Fg}
def a6u(h:Rep K H (keyW k) v):v=kV k:=by
 match k,h with
 |.inl (cL i),h=>rw[show keyW _=.int i from rfl,a0f]at h;show h
 |.inl jN,h=>rw[show keyW _=.non from rfl,a0u]at h;show h
 |.inr x,h=>rw[show keyW _=.str x from rfl,a0r]at h;show h
noncomputable def prZ(r:Key×Z):Z:=.tup [keyW r.1,r.2]
def b3H:∀{rows:List (Key×Z)}{vs:List V},Reps K H (rows.map prZ) vs->∃rs:List (Addr×Key×V),vs=rs.map (λr=>V.ref r.1)/\(∀r∈rs,H r.1=cL (.tup [kV r.2.1,r.2.2]))/\rs.length=rows.length /\
  ∀acc bcc,bcc.map (·.1)=acc.map (·.1)->Reps K H (acc.map (·.2)) (bcc.map (·.2))->(a63 rs bcc).map (·.1)=(a1h acc rows).map (·.1)/\Reps K H ((a1h acc rows).map (·.2)) ((a63 rs bcc).map (·.2)):=by ext z0;induction z0 with
 |nil=>
  ext vs h;show([],h,λr e=>by simp at e,rfl,λf g b c=>(b,c))
 |cons r rows I0=>
  ext vs h;let(v,x,rfl,b,c):=h;let(t,rfl,l,n,u):=I0 c;let(a,y,rfl,p,e):=b;let(z,w,rfl,j,i):=e.two
  let:=a6u j
  subst this;show((a,r.1,w,)::t,rfl,λq d=>?_,by rw[ci,ci,n],λf g b s=>?_)
  .let rfl||d:=cf.mp d
   .grind
   .show l q d
  .let(m,o):=a4j i b s;show u _ _ m o
def b15:List Z->Hq->K3->Prop:=λxs G R=>match xs with
 |[.ref p]=>∃rows:List (Key×Z),G p=cL (.lst (rows.map prZ))/\rows.length<=1000/\∀t,G t=jN->R (.ref t) (put G t (.dK (a1h [] rows)))
 |_=>False
def a3h(hc:X.calm=jO):a1p X (.type "dict") b15:=a0W (a64 hc) λx H Q n=>n.un λg G R d b h q=>by
 match g,h with
 |[.ref p],h=>
  let(v,rfl,r):=d.one;let(c,e,w,h):=h;let(s,j,l):=b _ _ e;let(d,rfl,f,u,k):=b3H l;let(m,i):=k [] [] rfl .nil;show(p,d,by rw[r],SqL.of j,f,by lia,λt a=>q _ _ _ _ (h t (b.out a)) (by rw[a0g]) (b.set (.new a) (_,a0e,m,i.mono (.new a))) (.new a))
def a3i(e:G p=cL (.lst (rows.map prZ)))(z:rows.length<=1000)(h:∀t,G t=jN->R (.ref t) (put G t (.dK (a1h [] rows)))):b15 [.ref p] G R:=(rows,e,z,h)
theorem Reps.dropLast:∀{ws:List Z}{vs:List V},Reps K H ws vs->Reps K H ws.dropLast vs.dropLast
 |[],vs,h=>by rw[a0i]at h;subst h;show .nil
 |[w],vs,h=>by
  let(v,rfl,_):=h.one;show .nil
 |w::w'::ws,vs,h=>by
  let(v,r,rfl,c,b):=h;let a:=b;let(e,d,rfl,_,_):=a;show .cons c (Reps.dropLast b)
end
section
open Tim
noncomputable def ptV:Pz->V
 |.inl jN=>.non
 |.inl (cL i)=>.int i
 |.inr s=>.str s
theorem b8z:∀{x:Pz}{u:Value},RelV (ptV x) u->PtIs x u
 |.inl jN,_,h=>h
 |.inl (cL _),_,h=>h
 |.inr _,_,h=>h
def a5J:∀{xs:List Pz}{us:List Value},Vals (xs.map ptV) us->PtsAre xs us:=by ext z0;induction z0 with
 |nil=>ext us r;rw[cI]at r;cases r;trivial
 |cons x xs I0=>
  ext us r;cases r with
  |cons r1 r2=>show(b8z r1,I0 r2)
def b00:∀{bs:List Addr}{us:List Value},Vals (bs.map V.ref) us->us=bs.map Value.ref:=by ext z0;induction z0 with
 |nil=>ext us r;rw[cI]at r;cases r;rfl
 |cons b bs I0=>
  ext us r;cases r with
  |cons r1 r2=>rw[I0 r2,r1];rfl
def a3T:∀bs:List Addr,Vals (bs.map V.ref) (bs.map Value.ref):=by ext z0;induction z0 with
 |nil=>show .nil
 |cons b bs I0=>show .cons rfl (I0)
def a3U:∀{bs:List Addr}{out:List Value},out.Perm (bs.map Value.ref)->∃cs:List Addr,out=cs.map Value.ref:=λ{g a} h=>by
 let:∀v∈a,∃b,v=Value.ref b:=λv f=>by
  let(b,_,e):=cm.mp (h.mem_iff.mp f);show(b,e.symm)
 clear h
 induction a with
 |nil=>show([],rfl)
 |cons v a ih=>
  let(b,rfl):=this v (.head _);let(d,rfl):=ih λu c=>this u (.tail _ c);show(b::d,rfl)
def a17(H:Hp)(bs:List Addr)(rows:List (List Pz)):Prop:=bs.length=rows.length/\∀(i:Nat)(b:Addr)(x:List Pz),bs[i]?=cL b->rows[i]?=cL x->H b=cL (.tup (x.map ptV))
theorem a3j(I:Inv X pins σ H s):∀{bs:List Addr}{rows:List (List Pz)},a17 H bs rows->RowsIn s.heap (bs.map Value.ref) rows
 |[],[],_=>trivial
 |[],_::_,h=>by let:=h.1;simp at this
 |_::_,[],h=>by let:=h.1;simp at this
 |b::bs,x::rows,h=>by
  show(?_,a3j I (by let:=h.1;o_head this,λi c y e d=>h.2 (i+1) c y (by simp_all) (by simp_all)));let(_,j,r,o,g,a,n,f):=(I.hok b _ (h.2 0 b x rfl rfl));show(b,o,_,n,rfl,g,a,f,↑(a5J r))
def b01(K:Fg):List V->Hp->VK->Prop:=λxs H Q=>∃(p:Addr)(bs:List Addr)(rows:List (List Pz))(m:Nat),xs=[.ref p]/\SqL K H p (bs.map V.ref)/\a17 H bs rows/\bs.length<=100000/\(a20 rows\/a21 rows)/\(∀x∈rows,x.length=m)/\(∀x∈rows,∀y∈rows,cmpT x y=jO) /\
 ∀(t:Addr)(cs:List Addr)(os:List (List Pz)),H t=jN->a17 H cs os->os.Perm rows->os.Pairwise (λx y=>ltT y x=jP)->Q (.ref t) (upd H t (.lst (cs.map V.ref)))
def a40:CallR X (.builtin "sorted") (b01 X.K):=by
 ext t s σ H xs us Q I r h;let(p,a,k,m,rfl,hq,C,hbl,hf,hm,hc,q):=h;let(u,rfl,rx):=a2C r;cases rx;let(N,rv,pl,_):=I.list hq
 let:=b00 rv
 subst this;let R:(a.map Value.ref).length<=sizeLine:=by rw[b7,g7];cbv
 show Calls.call_function_entry kind_sorted plain_sorted entry_sorted (args_sorted1 _) ?_;unfold gY.«sorted»;show gK (gS (gK (collect_list pl.isList ?_ R)));let G:∀b o,s.heap.get? b=cL o->((s.heap.push (seqObj "list" #[] 0)).update s.heap.objs.size (Obj.mapSeq (·++(a.map Value.ref).toArray))).get? b=cL o:=λb o e=>by
  let d:=Heap.lt_size e;rw[Heap.get?_update_ne _ _ _ _ (cv d)];show Heap.get?_push_of_some _ e
 generalize (s.heap.push (seqObj "list" #[] 0)).update s.heap.objs.size (Obj.mapSeq (·++(a.map Value.ref).toArray))=g at G ⊢;let z:=I.kept (t':=s.toks) G;show gK (jK ?_ R);let D:(g.push _).get? g.objs.size=cL (seqObj "list" (a.map Value.ref).toArray 0):=Heap.get?_push_size _ rfl;let U:Inv X t σ H { s with heap:=g.push (seqObj "list" (a.map Value.ref).toArray 0) }:=z.kept (t':=s.toks) λb o e=>Heap.get?_push_of_some _ e;show gK (ic (ji slot_list_sort (_,D,rfl) entry_list_sort (Tim.sort_tups D (by rw[b7];cbv) (a3j U C) hf hm hc λout S A F a3 a4=>(_,rfl,?_)) (args_list_sort _)));let l:=sortedHeap_at (out:=out.toArray) D;let(n,l):=l;let(f,rfl):=a3U A;let hcl:f.length=a.length:=by let:=A.length_eq;o_head this
 let tc:a17 H f S:=by
  show(by rw[F,b7,b7],λi c x T M=>?_);rw[F,cg,cg,T]at M;cases M;let B:=A.mem_iff.mp (cS (cx T));let(c',E,e):=cm.mp B;cases e;let(j,L):=d9 E;obtain⟨y,hy⟩:∃y,k[j]?=cL y:=(k[j]'(by let:=(cn.mp L).1;rw[<- C.1];show this),by simp);let J:=C.2 j c y L hy;let(_,N,r,o,Y,W,n,h3):=(U.hok c _ J)
  let:RowIn (g.push (seqObj "list" (a.map Value.ref).toArray 0)) (.ref c) y:=(c,o,_,n,rfl,Y,W,h3,↑(a5J r))
  change H c=cL _
  rw[a0T this];show J
 show gS (_,rfl,?_);show(.ref g.objs.size,_,z.laid (t':=s.toks) (λb o e=>by
  let d:=Heap.lt_size e;rw[sortedHeap_old (cv d) (by rw[Heap.size_push];show eL d)];show Heap.get?_push_of_some _ e) (b8 _) (show ObjOk X.prog X.w _ _ _ (.lst (f.map V.ref)) from (by rw[b7,g7];cbv,f.map Value.ref,n,a3T f,↑l)),rfl,q _ f S (z.hok.fresh (b8 _)) tc a3 a4)
end
section
open Tim
noncomputable def ptZ:Pz->Z
 |.inl jN=>.non
 |.inl (cL i)=>.int i
 |.inr s=>.str s
noncomputable def tupZ(x:List Pz):Z:=.tup (x.map ptZ)
theorem rep_pt{K:Fg}:∀{x:Pz}{v:V},Rep K H (ptZ x) v↔v=ptV x
 |.inl jN,v=>by unfold ptZ ptV;rw[a0u]
 |.inl (cL _),v=>by unfold ptZ ptV;rw[a0f]
 |.inr _,v=>by unfold ptZ ptV;rw[a0r]
theorem reps_pts{K:Fg}:∀{xs:List Pz}{vs:List V},Reps K H (xs.map ptZ) vs↔vs=xs.map ptV
 |[],vs=>by rw[cI,a0i,cI]
 |x::xs,vs=>by
  rw[cr,a0v,cr]
  constructor
  .ext⟨v,r,rfl,a,b⟩;rw[rep_pt.mp a,reps_pts.mp b]
  .ext rfl;show(_,_,rfl,rep_pt.mpr rfl,reps_pts.mpr rfl)
def a9g{K:Fg}:∀{rows:List (List Pz)}{vs:List V},Reps K H (rows.map tupZ) vs->∃bs:List Addr,vs=bs.map V.ref/\a17 H bs rows:=by ext z0;induction z0 with
 |nil=>
  ext vs h;subst h;show([],rfl,rfl,λi b x e=>by simp at e)
 |cons x rows I0=>
  ext vs h;let(v,r,rfl,c,m):=h;let(a,n,rfl,e,k):=c;rw[reps_pts.mp k]at e;let(l,rfl,j,g):=I0 m;show(a::l,rfl,by rw[ci,ci,j],λi b y d f=>?_);cases i with
  |zero=>cases d;cases f;show e
  |succ i=>show g i b y (by simp_all) (by simp_all)
theorem a3k{K:Fg}:∀{bs:List Addr}{rows:List (List Pz)},a17 H bs rows->Reps K H (rows.map tupZ) (bs.map V.ref)
 |[],[],_=>by rw[cI,cI,a0i]
 |[],_::_,h=>by let:=h.1;simp at this
 |_::_,[],h=>by let:=h.1;simp at this
 |b::bs,x::rows,h=>by
  show(_,_,rfl,?_,a3k (by let:=h.1;o_head this,λi c y d a=>h.2 (i+1) c y (by simp_all) (by simp_all)));show(b,_,rfl,h.2 0 b x rfl rfl,reps_pts.mpr rfl)
def a6v:List Z->Hq->K3->Prop:=λxs G R=>match xs with
 |[.ref p]=>∃(rows:List (List Pz))(m:Nat),G p=cL (.lst (rows.map tupZ))/\rows.length<=100000/\(a20 rows\/a21 rows)/\(∀x∈rows,x.length=m)/\(∀x∈rows,∀y∈rows,cmpT x y=jO)/\∀(t:Addr)(os:List (List Pz)),G t=jN->os.Perm rows->os.Pairwise (λx y=>ltT y x=jP)->R (.ref t) (put G t (.lst (os.map tupZ)))
 |_=>False
def a9h:a1p X (.builtin "sorted") a6v:=a0W a40 λL H Q y=>y.un λn G R B d h J=>by
 match n,h with
 |[.ref p],h=>
  let(v,rfl,r):=B.one;let(c,m,e,w,k,I,s,h):=h;let(M,u,D):=d _ _ e;let(A,rfl,g):=a9g D;show(p,A,c,m,by rw[r],SqL.of u,g,by rw[g.1];show w,k,I,s,λt N f a j l E=>J _ _ _ _ (h t f (d.out a) l E) (by rw[a0g]) (d.set (.new a) (_,a0e,a3k (j.1,λi b x C F=>by
   let q:=j.2 i b x C F;rw[a0b (λz=>by rw[z,a]at q;cases q)];show q))) (.new a))
def a9i(e:G p=cL (.lst (rows.map tupZ)))(z:rows.length<=100000)(hf:a21 rows)(hm:∀x∈rows,x.length=jQ)(hc:∀x∈rows,∀y∈rows,cmpT x y=jO)(h:∀(t:Addr)(os:List (List Pz)),G t=jN->os.Perm rows->os.Pairwise (λx y=>ltT y x=jP)->R (.ref t) (put G t (.lst (os.map tupZ)))):a6v [.ref p] G R:=(rows,jQ,e,z,.inr hf,hm,hc,h)
end
def b02:IxR X (λx y H Q=>∃a kvs k v,x=.ref a/\y=kV k/\Rd H a (.dK kvs)/\valV kvs k=cL v/\Q v H):=by
 intro h i b s σ H x y v u Q I B j (a,D,k,w,A,m,e,l,q) p;subst A m;cases B;let(z,E,t,d,c):=a77 I.hok e;let(f,C,g):=RelO.some_of (l▸d.val k);show jj c.typeIs PySem.F.slot_dict_getitem.lookup (jM (a33 j) c.mapOf C (rfl,w,H,I.tok _,g,q)) p
def b6p:R3:=λx y G R=>match x with
 |.ref p=>∃kvs k z,(G p=cL (.dK kvs)\/G p=cL (.dF kvs))/\keyZ y=cL k/\valZ kvs k=cL z/\R z G
 |_=>False
def b6q:IxQ X b6p:=b2N b02 λx y H Q u=>u.un λa b G R l o j h v=>by
 cases a with
 |ref p=>
  let(i,k,z,e,m,t,h):=h;obtain⟨c,f,d,g⟩:∃c,Rd H p (.dK c)/\c.map _=i.map _/\Reps X.K H _ (c.map _):=by
   let e||e:=e
   .let(c,f,d,g):=j _ _ e;show(c,.inl f,d,g)
   .let(q,c,f,d,g):=j _ _ e;show(c,.inr (q,f),d,g)
  let(s,n,r):=(a0K d g).2 z t;show(p,c,k,s,l,a02 m o,f,n,v _ _ _ _ h r j (.refl _ _))
 |_=>show cb h
def b6r(e:G p=cL (.dK kvs)\/G p=cL (.dF kvs))(a:keyZ y=cL k)(v:valZ kvs k=cL jQ)(h:R jQ G):b6p (.ref p) y G R:=(kvs,k,jQ,e,a,v,h)
namespace DictP
section
variable{K:Type}[DecidableEq K]{knd:KeyKind prog w K}
def a9j(x:(ig knd).is h k a)(q:∀o,h.get? a=cL o->h'.get? a=cL o):(ig knd).is h' k a:=by
 let(o,b,n,e,r):=x;show(o,b,n,q o e,r)
noncomputable def mergedH(acc rows:List (List K×Addr×Value)):List (List K×Addr×Value):=rows.foldl (λacc r=>iB acc r.1 r.2.1 r.2.2) acc
def a65{k:List K}(h:x∈iB xs k a v):x.2.1=a\/∃y∈xs,x.2.1=y.2.1:=by
 unfold iB at h
 split at h
 .let(y,b,rfl):=cm.mp h;show .inr (y,b,?_);unfold putAt
  split<;>rfl
 .let h||h:=b9.mp h
  .show .inr (x,h,rfl)
  .rw[cc.mp h];show .inl rfl
def a66{k:List K}:(iB xs k a v).length<=xs.length+1:=by
 unfold iB
 split<;>simp
def a5K:∀{rows acc:List (List K×Addr×Value)}{x:List K×Addr×Value},x∈mergedH acc rows->(∃y∈rows,x.2.1=y.2.1)\/∃y∈acc,x.2.1=y.2.1:=by ext z0;induction z0 with
 |nil=>ext acc x h;show .inr (x,h,rfl)
 |cons r rows I0=>
  ext acc x h;let(y,hy,e)||(y,hy,e):=I0 h
  .show .inl (y,.tail _ hy,e)
  .let e2||(z,hz,e2):=a65 hy
   .show .inl (r,.head _,e.trans e2)
   .show .inr (z,hz,e.trans e2)
theorem a3l:∀{rows acc:List (List K×Addr×Value)},(mergedH acc rows).length<=acc.length+rows.length
 |[],_=>b8 _
 |r::rows,acc=>by
  let c:=a3l (rows:=rows) (acc:=iB acc r.1 r.2.1 r.2.2);let b:=a66 (xs:=acc) (k:=r.1) (a:=r.2.1) (v:=r.2.2)
  change (mergedH (iB acc r.1 r.2.1 r.2.2) rows).length<=_
  rw[ci];lia
def a41{rows:List (List K×Addr×Value)}(h:rows[i]?=cL r):mergedH [] (rows.take (i+1))=iB (mergedH [] (rows.take i)) r.1 r.2.1 r.2.2:=by
 unfold mergedH;rw[dh,h,f9]
 rfl
def b3I{h h':Heap}(D:h.DictOfH (ig knd) d xs)(hd:∀o,h.get? d=cL o->h'.get? d=cL o)(q:∀x∈xs,∀o,h.get? x.2.1=cL o->h'.get? x.2.1=cL o):h'.DictOfH (ig knd) d xs:=by
 let(o,e,j,b,g,f,i,k,c):=D;show(o,e,j,hd o b,g,f,i,λx a=>a9j (k x a) (q x a),c)
def PairT(knd:KeyKind prog w K)(h:Heap)(v:Value)(r:List K×Addr×Value):Prop:=∃t o m,v=.ref t/\h.get? t=cL o/\o.cls=.type "tuple"/\o.data=.seq #[.ref r.2.1,r.2.2] m/\(ig knd).is h r.1 r.2.1
def call_pairsT(hh:A.handled=jN)(hu:A.units+5<cLine)
  (hl:s.heap.get? l=cL { cls:=.type "list",dict:=jN,data:=.seq items c,slots:=sl }) (hi:∀(j:Nat) v,items[j]?=cL v->∃r,rows[j]?=cL r/\PairT knd s.heap v r) (hn:items.size=rows.length) (hz:rows.length<=gI)
  (h:∀(h':Heap)(tk:Nat),h'.DictOfH (ig knd) s.heap.objs.size (mergedH [] rows)->(∀b o,s.heap.get? b=cL o->h'.get? b=cL o)->Q (.ref s.heap.objs.size) { s with heap:=h',toks:=tk }) :
  wpAny (model prog w) A (call (.type "dict") [.ref l]) Q E s:=by
 let G:∀r∈rows,∃o,s.heap.get? r.2.1=cL o:=λr p=>by
  let(j,z):=d9 p;let R:=(cn.mp z).1;let(S,F,t,o,m,_,_,_,_,U,_,_,M,_):=hi j (items[j]'(by lia)) (by simp);rw[z]at F;cases F;show(_,M)
 show a9e (D:=λi h=>h.DictOfH (ig knd) s.heap.objs.size (mergedH [] (rows.take i))) hh hl (λi h d a n C q=>b3I a q λx N o e=>?_) (Heap.DictOfH.new s.heap) (λj v e=>?_) λd L a H=>h d L (by simp_all) H
 .let(y,hy,e')||(y,hy,_):=a5K N
  .let(T,B):=G y (dJ hy);rw[e']at e ⊢
   let:=n _ _ B
   rw[e]at this;cases this;show C _ _ B
  .simp at hy
 .let(r,p,t,o,m,rfl,g,J,I,k):=hi j v e;show(t,o,.ref r.2.1,r.2.2,m,rfl,g,J,I,λE V Q n a q=>wpAny_dictSet_heap (i6 (show A.units+1+1<cLine by lia)) (a9j k λo e=>n _ o e) a (λd f u=>q d _ (Nat.le_add_right _ _) (by rw[<- a41 p]at f;show f) u) ?_)
  let:=a3l (acc:=[]) (rows:=rows.take j)
  simp at this
  lia
end
end DictP
noncomputable def a42(rows:List (Addr×Addr×List Key×V))(acc:List (List Key×V)):List (List Key×V):=rows.foldl (λacc r=>putK acc r.2.2.1 r.2.2.2) acc
def b6s(X:Cx):List V->Hp->VK->Prop:=λxs H Q=>∃(p:Addr)(rows:List (Addr×Addr×List Key×V)),xs=[.ref p]/\SqL X.K H p (rows.map λr=>V.ref r.1)/\(∀r∈rows,H r.1=cL (.tup [.ref r.2.1,r.2.2.2])/\H r.2.1=cL (.tup (r.2.2.1.map kV)))/\rows.length<=1000 /\
 ∀t,H t=jN->Q (.ref t) (upd H t (.dT (a42 rows [])))
def a9k(ok:HOk P w H h):∀{rows:List (Addr×Addr×List Key×V)},(∀r∈rows,H r.1=cL (.tup [.ref r.2.1,r.2.2.2])/\H r.2.1=cL (.tup (r.2.2.1.map kV)))->∃vs:List (List Key×Addr×Value),vs.length=rows.length /\
  (∀(j:Nat) r,rows[j]?=cL r->∃q,vs[j]?=cL q/\DictP.PairT (a0p P w) h (.ref r.1) q)/\∀acc bcc,KT H acc bcc->KT H (a42 rows acc) (DictP.mergedH bcc vs):=by ext z0;induction z0 with
 |nil=>ext _;show([],rfl,λj r e=>by simp at e,λ_ _ k=>k)
 |cons r rows I0=>
  ext hr;let(l,m,t,s):=I0 λr c=>hr r (.tail _ c);let(b,a):=hr r (.head _);let(_,z,g,o,f,p,n,x):=(ok _ _ b);let(d,u,rfl,v,i):=Vals.two g;cases (v);show((r.2.2.1,r.2.1,u,)::l,by rw[ci,ci,m],λj q e=>?_,λA y k=>s _ _ (k.put r.2.2.1 a i));cases j with
  |zero=>
   cases e;show(_,rfl,r.1,o,n,rfl,f,p,x,a3J ok a)
  |succ j=>show t j q ↑e
def a9l:∀(rows:List (Addr×Addr×List Key×V))(acc:List (List Key×V)),(a42 rows acc).length<=acc.length+rows.length:=by ext z0;induction z0 with
 |nil=>ext _;show b8 _
 |cons r rows I0=>
  ext acc
  let:=I0 (putK acc r.2.2.1 r.2.2.2)
  let:=a08 acc r.2.2.1 r.2.2.2
  change (a42 rows (putK acc r.2.2.1 r.2.2.2)).length<=_
  rw[ci];cbv
def a67(hc:X.calm=jO)(hu:X.A.units+66<cLine):CallR X (.type "dict") (b6s X):=by
 ext k s σ H xs us Q I r h;let(p,rows,rfl,T,ht,hz,q):=h;let(u,rfl,rx):=a2C r;cases rx;let(f,m,(o,n,R,D,t,J),_):=I.list T;let(c,dd,dt,sl):=o;simp only at D t J;subst D t J;let(B,E,h2,U):=a9k I.hok ht;let hl:f.length=rows.length:=by let:=m.length;rw[b7]at this;lia
 let d:B.length<=sizeLine:=by rw[E,g7];lia
 show DictP.call_pairsT (knd:=a0p X.prog X.w) (I.ok.hd hc) (by lia) R (λj v e=>?_) (by rw[E,cN];show hl) d λg G hD kp=>?_
 .let C:f[j]?=cL v:=↑e
  obtain⟨r,z⟩:∃r,rows[j]?=cL r:=(rows[j]'(by grind),cu _);let(q,y,pa):=h2 j r z;let(u,F,V):=m.get (by rw[cg,z];rfl);rw[C]at F;cases F;rw[V];show(q,y,pa)
 .let k0:=U [] [] .nil;let l:=I.hok.fresh (b8 s.heap.objs.size);let N:=(a34 (P:=X.prog) (w:=X.w) (H:=λ_=>jN) s.heap I.big).2.1;let S:=a9l rows [];let(ob,es,ep,M,g2,g3,L,_,Y):=hD;let W:=
   I.laid (t':=G) kp (b8 _) (show ObjOk X.prog X.w _ g _ (.dT (a42 rows [])) from (by rw[g7];simp at S;lia,N,_,k0.keeps λb ys e=>by rw[a0b (a0t e l)];show e,ob,es,ep,M,g2,g3,L,Y))
  show(.ref s.heap.objs.size,_,W,rfl,q _ l)
section
variable{K:Fg}
def a9m:∀{k:List Key}{vs:List V},Reps K H (k.map keyW) vs->vs=k.map kV:=by ext z0;induction z0 with
 |nil=>ext vs h;rw[cI,a0i]at h;show h
 |cons k ks I0=>
  ext vs h;let(v,r,rfl,b,a):=h;rw[a6u b,I0 a];rfl
def a6w{k:List Key}(h:Rep K H (.tup (k.map keyW)) v):∃b,v=.ref b/\H b=cL (.tup (k.map kV)):=by
 let(a,e,rfl,d,c):=h;show(a,rfl,by rw[d,a9m c])
noncomputable def prT(r:List Key×Z):Z:=.tup [.tup (r.1.map keyW),r.2]
def b03{k j:List Key}:j∈(putK kvs k v).map (·.1)↔j=k\/j∈kvs.map (·.1):=by
 unfold putK
 split
 .next hc=>
  let(p,b,c):=dY.mp hc;let e:(kvs.map λa=>if a.1=k then (a.1,v,) else a).map (·.1)=kvs.map (·.1):=by
   rw[dl];show d1 λx _=>?_
   change (if x.1=k then _ else x).1=x.1
   split<;>rfl
  rw[e];show(.inr,λh=>h.elim (λz=>?_) id);rw[z,<- of_decide_eq_true c];show cS b
 .rw[cq,b9]
  constructor
  .ext (h |h)
   .show .inr h
   .show .inl (by simp_all)
  .ext (h |h)
   .show .inr (by simp[h])
   .show .inl h
def b04:∀{rows:List (List Key×Z)}{vs:List V},Reps K H (rows.map prT) vs->∃rs:List (Addr×Addr×List Key×V),vs=rs.map (λr=>V.ref r.1)/\(∀r∈rs,H r.1=cL (.tup [.ref r.2.1,r.2.2.2])/\H r.2.1=cL (.tup (r.2.2.1.map kV)))/\rs.length=rows.length /\
  ∀bcc j,j∈(a42 rs bcc).map (·.1)↔j∈rows.map (·.1)\/j∈bcc.map (·.1):=by ext z0;induction z0 with
 |nil=>
  ext vs h;show([],h,λr f=>by simp at f,rfl,λc j=>by simp[a42])
 |cons r rows I0=>
  ext vs h;let(v,w,rfl,e,k):=h;let(i,rfl,n,m,p):=I0 k;let(a,t,rfl,l,f):=e;let(x,g,rfl,s,u):=f.two;let(b,rfl,o):=a6w s;show((a,b,r.1,g,)::i,rfl,λq d=>?_,by rw[ci,ci,m],λc j=>?_)
  .let rfl||d:=cf.mp d
   .simp_all
   .show n q d
  .change j∈(a42 i _).map _↔_
   rw[p,b03,cr,cf]
   constructor
   .ext (h |h |h)
    .show .inl (.inr h)
    .show .inl (.inl h)
    .show .inr h
   .ext ((h |h) |h)
    .show .inr (.inl h)
    .show .inl h
    .show .inr (.inr h)
def b16:List Z->Hq->K3->Prop:=λxs G R=>match xs with
 |[.ref p]=>∃rows:List (List Key×Z),G p=cL (.lst (rows.map prT))/\rows.length<=1000/\∀t ks,G t=jN->(∀j,j∈ks↔j∈rows.map (·.1))->R (.ref t) (put G t (.dT ks))
 |_=>False
def a9n(hc:X.calm=jO)(hu:X.A.units+66<cLine):a1p X (.type "dict") b16:=a0W (a67 hc hu) λq H Q i=>i.un λf G R c a h n=>by
 match f,h with
 |[.ref p],h=>
  let(v,rfl,r):=c.one;let(g,e,u,h):=h;let(s,l,k):=a _ _ e;let(c,rfl,d,w,m):=b04 k;show(p,c,by rw[r],SqL.of l,d,by lia,λt b=>n _ _ _ _ (h t _ (a.out b) λj=>by rw[m [] j];simp) (by rw[a0g]) (a.set (.new b) (_,a0e,rfl)) (.new b))
def a9o{rows:List (List Key×Z)}(e:G p=cL (.lst (rows.map prT)))(z:rows.length<=1000)(h:∀t ks,G t=jN->(∀j,j∈ks↔j∈rows.map (·.1))->R (.ref t) (put G t (.dT ks))):b16 [.ref p] G R:=(rows,e,z,h)
noncomputable def hasK(ks:List (List Key))(k:List Key):Bool:=ks.any λj=>decide (j=k)
def b05:hasK ks k=jO↔k∈ks:=by simp[hasK]
def zTIn(f:Bool->Bool):R3:=λx y G R=>match y with
 |.ref p=>∃ks k,G p=cL (.dT ks)/\x=.tup (k.map keyW)/\R (.bl (f (hasK ks k))) G
 |_=>False
def a9p:(valV kvs k).isSome=hasK (kvs.map (·.1)) k:=by
 rw[<- a59];unfold hasK;rw[List.any_map]
 rfl
def a6x(hu:X.A.units+66<cLine):OpQ X (gQ .NotIn) (zTIn not):=a2q (a4W hu) λx y H Q g=>g.un λa b G R n f d h i=>by
 cases b with
 |ref p=>
  let(o,k,e,rfl,h):=h;let(l,j,rfl):=d _ _ e;let(c,rfl,m):=a6w n;show(p,valV l k,f,DGet.t j m,i _ _ _ _ h (by rw[a0q,a9p]) d (.refl _ _))
 |_=>show cb h
def b6t(e:G p=cL (.dT ks))(ex:x=.tup (k.map keyW))(h:R (.bl (f (hasK ks k))) G):zTIn f x (.ref p) G R:=(ks,k,e,ex,h)
end
namespace Tim
open PySem.W
def RowQ(h:Heap)(v:Value)(xs:List Pz):Prop:=∃a o its n ps b,v=.ref a/\h.get? a=cL o/\o.cls=.type "tuple"/\o.data=.seq its n/\its.toList=ps++[Value.ref b]/\PtsAre xs ps
def RowQ.uniq(r:RowQ h v xs)(q:RowQ h v ys):xs=ys:=by
 let(a,o,s,n,x,b,rfl,j,_,m,l,g):=r;let(z,y,k,u,t,w,i,f,_,d,c,p):=q;cases i;rw[j]at f;cases f;rw[m]at d;cases d;rw[l]at c;let e:=(List.append_inj' c rfl).1;subst e;show g.uniq p
def RowsQ(h:Heap):List Value->List (List Pz)->Prop
 |[],[]=>True
 |v::vs,x::xs=>RowQ h v x/\RowsQ h vs xs
 |_,_=>False
theorem RowsQ.mem:∀{vs:List Value}{rows:List (List Pz)},RowsQ h vs rows->∀v∈vs,∃x∈rows,RowQ h v x
 |v::vs,x::xs,(r,q),u,hu=>by
  let rfl||hu:=cf.mp hu
  .show(x,.head _,r)
  .let(y,a,b):=q.mem u hu;show(y,.tail _ a,b)
 |[],[],_,u,hu=>by simp at hu
 |[],_::_,r,_,_=>r.elim
 |_::_,[],r,_,_=>r.elim
theorem RowsQ.inj:∀{vs:List Value}{rows:List (List Pz)},RowsQ h vs rows->rows.Nodup->∀{v u x},v∈vs->u∈vs->RowQ h v x->RowQ h u x->v=u
 |w::vs,y::ys,(r,q),nd,v,u,x,hv,hu,e1,e2=>by
  let(e,g):=dw.mp nd;let c:∀{z},z∈vs->RowQ h z x->RowQ h w x->False:=λf a b=>by
   let(j,d,i):=q.mem _ f;rw[i.uniq a]at d;rw[b.uniq r]at d;show e d
  let c1||c1:=cf.mp hv
  .let c2||c2:=cf.mp hu
   .simp_all
   .rw[c1]at e1;show (c c2 e2 e1).elim
  .let c2||c2:=cf.mp hu
   .rw[c2]at e2;show (c c1 e1 e2).elim
   .show q.inj g c1 c2 e1 e2
 |[],[],_,_,_,_,_,hv,_,_,_=>by simp at hv
 |[],_::_,r,_,_,_,_,_,_,_,_=>r.elim
 |_::_,[],r,_,_,_,_,_,_,_,_=>r.elim
def RowQ.mid{vs ws:List Value}(ho:h.get? a=cL (seqObj "list" ws.toArray n))(r:RowQ h v x):RowQ (a1e h a vs) v x:=by
 let(b,o,f,m,i,c,j,d,e,k,g):=r;show(b,o,f,m,i,c,j,b1Y (λz=>?_) d,e,k,g);rw[z,ho]at d;cases d;simp at e
theorem RowsQ.mid{us ws:List Value}(ho:h.get? a=cL (seqObj "list" ws.toArray n)):∀{vs:List Value}{rows:List (List Pz)},RowsQ h vs rows->RowsQ (a1e h a us) vs rows
 |[],[],_=>trivial
 |_::_,_::_,(r,q)=>(r.mid ho,q.mid ho)
 |[],_::_,r=>r.elim
 |_::_,[],r=>r.elim
theorem RowsQ.kat:∀{vs:List Value}{rows:List (List Pz)},RowsQ h vs rows->a20 rows->∃fs:List Value,KatTups h vs fs/\fs.length=vs.length/\∀v∈fs,∃f:Str,PtIs (.inr f) v
 |[],[],_,_=>([],trivial,rfl,λv a=>by simp at a)
 |v::vs,x::xs,(r,q),hf=>by
  let(j,g,s,u):=q.kat λy t=>hf y (.tail _ t);let(y,z,rfl):=hf x (.head _);let(b,o,w,m,n,c,rfl,i,p,l,e,d):=r;cases n with
  |nil=>show d.elim
  |cons f fr=>
   let(k,_):=d;show(f::j,KatTups.cons i p l (by rw[<- dk,e];rfl) g,by rw[ci,ci,s],λv a=>?_);let rfl||a:=cf.mp a
   .show(y,k)
   .simp_all
 |[],_::_,r,_=>r.elim
 |_::_,[],r,_=>r.elim
end Tim
section
variable{pl:List (Addr×Obj)}{σ:St}{h':Heap}{b:Addr}
def Inv.adopt(I:Inv X pl σ H s)(fb:FpOk X pl H b)(k:∀c u,c≠b->s.heap.get? c=cL u->h'.get? c=cL u)(new:ObjOk X.prog X.w (upd H b o) h' b o)(th:∃u,h'.get? b=cL u):Inv X pl σ (upd H b o) { s with heap:=h',toks:=t' }:=by
 let(A,g,D,B,j,h):=fb;let f:∀c u,H c=cL u->c≠b:=λc u e z=>by rw[z,A]at e;cases e
 show I.step (ch:=[b]) (λc a=>?_) (λc u _ _ a e _=>k c u ↑a e) (λc u _ _ a e _=>(u.slots,k c u ↑a e)) (λc u a _ n=>by rw[a0b ↑a];show n) (λc u a e=>(u,k c u ↑a e))
  (λc x e=>by rw[a0b (f c _ e)];show e) (λc _ _ e=>by rw[a0b (f c _ e)];show e) (λc C e=>(#[],by rw[a0b (f c _ e),f8];show e)) (λm t=>?_) (λc u e=>?_) I.bare
 .rw[cc.mp a];show(B,g,j,h)
 .let(u,l,i,p,r):=t;show(u,l,i,k _ u (λz=>g z.symm) p,r)
 .by_cases hb:c=b
  .subst hb;rw[a0e]at e;cases e;show new
  .rw[a0b hb]at e;show (I.hok c u e).stay (λd v y q=>k d v ?_ q) (λd q=>by rw[a0b (f d _ q)];show q) λd x q=>by rw[a0b (f d _ q)];show q
   let z||z:=y
   .rw[z];show hb
   .show f d _ z
end
section
variable{f:Addr}
def FpOk.re(f:FpOk X pl H b)(h:H' b=jN):FpOk X pl H' b:=(h,f.2)
end
noncomputable def ItI(o:Obj)(a:Addr)(kvs:List (Key×V)):It:=
 (λi H=>H a=cL (.frz o (.dK kvs))/\i<kvs.length,λi H x H'=>∃T p,H T=jN/\kvs[i]?=cL p/\x=.ref T/\H'=upd H T (.tup [kV p.1,p.2]),λi H=>H a=cL (.frz o (.dK kvs))/\kvs.length<=i)
def a9q:∀{kvs:List (Key×V)}{vs:List (Key×Value)}{i:Nat}{p:Key×V},KV kvs vs->kvs[i]?=cL p->∃q,vs[i]?=cL q/\p.1=q.1/\RelV p.2 q.2:=by
 ext a
 induction a with
 |nil=>ext b i p h e;simp at e
 |cons p0 a ih=>
  ext b i p h e;cases h with
  |cons h1 h2=>
   cases i with
   |zero=>cases e;show(_,rfl,h1)
   |succ i=>show ih (i:=i) h2 ↑e
def b17{X:Cx}{pins:List (Addr×Obj)}{σ:St}{H:Hp}{s:Shared}{a:Addr}{o:Obj}{kvs:List (Key×V)}{es:Array iO}{ep:Nat}(I:Inv X pins σ H s)(hd:o.data=.dict es ep)(ha:H a=cL (.frz o (.dK kvs))):∃vs,KV kvs vs/\vs.length=kvs.length/\(a==ie)=jP/\s.heap.DictAt (a0p X.prog X.w) a vs ep:=by
 let(g,hz,hsm,vs,kv,dof):=(show ObjOk X.prog X.w H s.heap a (.frz o (.dK kvs)) from I.hok a _ ha);show(vs,kv,a3Q kv,hsm,?_);let(o',es',ep',h1,h2,h3,h4):=dof;rw[g]at h1;cases h1;rw[hd]at h3;cases h3;show(o,es,g,h2,hd,h4)
def a3m{P:gO}{w:World}{A:Around}{E:Value->Shared->Prop}{s:Shared}{it d:Addr}{i n ep:Nat}{ok ov:Value}{Q:Value->Shared->Prop}(hit:IsItemIter s.heap it d i n ep ok ov)(h:Q (.ref it) s):wpAny (model P w) A (pyIter (.ref it)) Q E s:=by
 let hT:s.TypeIs (.ref it) "dict_itemiterator":=(_,hit,rfl);show wpAny_pyIter_slot hT F.slot_dict_itemiterator_iter (ji (b:=gY.«dict_keyiterator.__iter__») F.slot_dict_itemiterator_iter hT (entryFor_alias (id':="dict_keyiterator.__iter__") (by kernel_rfl) (by decide +kernel) (by decide +kernel) (by kernel_rfl)) ?_ (by unfold argsOk;kernel_rfl))
 change wpAny _ _ (ret (.ref it)) _ _ s
 show gS (_,rfl,"dict_itemiterator",_,hT,F.slot_dict_itemiterator_next.lookup,h)
theorem a68{P:gO}{w:World}{K:Fg}{elts:List Expr}{x1}{tpos:Pos}(a it:Addr){o:Obj}(kvs:List (Key×V)){es:Array iO}{ep:Nat}(hd:o.data=.dict es ep) :
  Turn P w K (.Tuple elts x1 tpos) (ItI o a kvs) [it] it (λi h=>∃ok ov,IsItemIter h it a i kvs.length ep ok ov) where
 mem:=by simp
 obj:=λi h st b hb=>by
  let e:b=it:=↑hb
  subst e;let(ok,ov,st):=st;show(_,st,λv z=>by cases z)
 keep:=λi h h' st k=>by
  let(ok,ov,st):=st;show(ok,ov,k it (by simp) _ st)
 item:=by
  ext X hP hw hK hc i pins s σ H E I hf st hg;subst hP hw hK;let(ok,ov,st):=st;let(ha,hi):=hg;let(vs,kv,hl,hsm,dat):=b17 I hd ha;obtain⟨p,hp⟩:∃p,kvs[i]?=cL p:=(kvs[i],cu hi);let((k,v),hq,e1,e2):=a9q kv hp;show wpAny_pyNext_items_item (by rw[hl];show st) dat hq λkey h' hk out tup sz kp=>(_,rfl,?_);show wpAny_letOwnedTupleGo_items (s:={ s with heap:=h' }) out λh2 st2 sb=>?_;let hlt:it<s.heap.objs.size:=Heap.lt_size st;let nT:it≠s.heap.objs.size:=cv hlt;rw[hl]at st2;show(.ref s.heap.objs.size,upd H s.heap.objs.size (.tup [kV p.1,p.2]),?_,rfl,(_,p,I.hok.fresh (b8 _),hp,rfl,rfl),(key,v,st2),λb hb=>?_)
  .change Inv X pins σ (upd H s.heap.objs.size (.tup [kV p.1,p.2])) { s with heap:=h2 }
   show I.turnedT (t':=s.toks) (ch:=[it]) (us:=[key,v]) (λb hb=>hf b hb) (λb o hb e=>?_) (b8 _) (.cons (by rw[e1];show b3A hk) (.cons e2 .nil)) (by change 2<=_;rw[g7];cbv) ?_
   .let hb':b≠it:=↑hb
    show sb.extBut b o hb' (kp b o hb' e)
   .show(_,sb.extBut _ _ nT.symm tup,rfl,_,rfl)
  .let e:b=it:=↑hb
   subst e;rw[a0b nT];show (hf b (by simp)).1
 done:=by
  ext X hP hw hK hc i pins s σ H E I hf st hg;subst hP hw hK;let(ok,ov,st):=st;let(ha,hi):=hg;let(vs,kv,hl,hsm,dat):=b17 I hd ha;let(f0,f1,f2,f3,f4,f5):=hf it (by simp);show wpAny_pyNext_items_end (I.ok.hd hc) (by rw[hl];show st) dat (f7 (by cbv)) λh' eb=>(rfl,I.turned (t':=s.toks) (λb o hb e=>eb b o hb e) f0 f1 f3 f4 f5)
 self:=λ_ _ _ _ _ st h=>by let(ok,ov,st):=st;show a3m st h
section
variable{o:Expr}{to:TE}{elts:List Expr}{x1:_}
def iDv(J:Obj->Addr->List (Key×V)->It)(tl:TE):TI:=fun σ H R=>tl σ H λx H1=>∃a kvs,x=.ref a/\((H1 a=cL (.dK kvs)/\∀o,R (J o a kvs) (upd H1 a (.frz o (.dK kvs))))\/∃o,H1 a=cL (.frz o (.dK kvs))/\R (J o a kvs) H1)
def b06(ho:PE X o to)(hbase:iF o "items" X.env (eval o X.env)=eval o X.env:=by rfl)(hline:(apos.endLine==pos.line)=jO:=by rfl):PI X (.Tuple elts x1 tpos) (.Call (.Attribute o "items" apos) [] [] pos) (iDv ItI to):=by
 ext pins s σ H R I h;show wpAny_Call_method (T:="dict") (id:="dict.items") hbase rfl hline F.plainAttrs_dict F.slot_dict_items F.type_dict_items (thn (ho pins s σ H _ I h) λv s1 (x,H1,I1,r1,q1)=>?_);let(a,kvs,e,q):=q1;subst e;cases r1;obtain⟨o,H2,I2,ea,q⟩:∃o H2,Inv X pins σ H2 s1/\H2 a=cL (.frz o (.dK kvs))/\R (ItI o a kvs) H2:=by
  let(ea,q)||(o,ea,q):=q
  .let(o,I2):=I1.freeze ea;show(o,_,I2,a0e,q o)
  .show(o,H1,I1,ea,q)
 let(g,hz,hsm,vs,kv,dof):=(show ObjOk X.prog X.w H2 s1.heap a (.frz o (.dK kvs)) from I2.hok a _ ea);show(dof.typeIs,dof.mapOf.noDict,?_)
 change wpAny _ _ (ik pos (.builtin "dict.items") [.ref a] [] []) _ _ _
 show method_meetsIn F.slot_dict_items F.entry_dict_items rfl (PySem.evalArgs_none (rfl,dof.typeIs,F.args_dict_items_1 _,_,meets_dict_items (a0p X.prog X.w) a hsm,(vs,dof),?_));let(ep,dat):=dof.dictAt;let dat':=dat;let(o',es,g',_,hd,_):=dat';rw[g]at g';cases g';let hl:=a3Q kv;show wpAny_pyIter_items (s:={ s1 with heap:=s1.heap.push { cls:=.type "dict_items",data:=.fields #[.ref a] } }) (v:=s1.heap.objs.size) (_,Heap.get?_push_size _ rfl,rfl,rfl) (Heap.DictAt.at dat λo e=>Heap.get?_push_of_some _ e) ?_;let I3:Inv X pins σ H2 { s1 with heap:=s1.heap.push { cls:=.type "dict_items",data:=.fields #[.ref a] } }:=I2.kept (t':=s1.toks) λb o e=>Heap.get?_push_of_some _ e;show(_,[_],_,_,H2,rfl,I3.kept (t':=s1.toks) λb o e=>Heap.get?_push_of_some _ e,a68 a _ kvs hd,(.none,.none,by rw[<- hl];show Heap.get?_push_size _ rfl),λb hb=>?_,q);rw[cc.mp hb];show I3.fpOk (b8 _) (I3.hok.fresh (b8 _))
end
def wkDv(f:Key×Z->Z)(x:Z)(G:Hq)(R:List Z->(Hq->Prop)->Hq->Prop):Prop:=match x with
 |.ref a=>∃kvs,(G a=cL (.dK kvs)\/G a=cL (.dF kvs))/\R (kvs.map f) (λ_=>True) (put G a (.dF kvs))
 |_=>False
noncomputable def fIt:Key×Z->Z:=λp=>.tup [keyW p.1,p.2]
def iDvZ(f:Key×Z->Z)(tl:E3):I3:=fun σ G R=>tl σ G λx G1=>wkDv f x G1 R
def a5L{us:List (Key×V)}{kvs:List (Key×Z)}{K:Fg}(hn:us.map (·.1)=kvs.map (·.1))(rr:Reps K H (kvs.map (·.2)) (us.map (·.2))){i:Nat}(e:kvs[i]?=cL p):∃u,us[i]?=cL u/\u.1=p.1/\Rep K H p.2 u.2:=by
 let(v,a,c):=rr.get (by rw[cg,e];rfl);rw[cg]at a;cases hu:us[i]? with
 |none=>rw[hu]at a;cases a
 |some u=>
  rw[hu]at a;cases a;let b:(us.map (·.1))[i]?=cL u.1:=by rw[cg,hu];rfl
  rw[hn,cg,e]at b;show(u,rfl,(cL.inj b).symm,c)
def a5M{K:Fg}{a:Addr}{o:Obj}{us:List (Key×V)}{kvs:List (Key×Z)}{H0:Hp}(e:H0 a=cL (.frz o (.dK us)))(hn:us.map (·.1)=kvs.map (·.1))(rr:Reps K H0 (kvs.map (·.2)) (us.map (·.2))):a3x K (kvs.map fIt) (λ_=>True) (ItI o a us) H0:=λi G H hg t ok hi=>by
 let e1:=t.frd _ _ _ e;let hl:us.length=kvs.length:=by let:=congrArg cF hn;o_head this
 rw[b7]at hi;show(λh=>(e1,by rw[b7]at h;cbv),λw hw=>?_);rw[cg]at hw;cases hk:kvs[i]? with
 |none=>rw[hk]at hw;cases hw
 |some p=>
  rw[hk]at hw;cases hw;let hlt:=(cn.mp hk).1;show((e1,by cbv),λx H' hy=>?_);let(T,u,hT,hu,rfl,rfl):=hy;let(u',hu',ek,rv):=a5L hn rr hk;rw[hu]at hu';cases hu';show(?_,hg.hid hT,.new hT);unfold fIt;rw[a0N];show(T,_,rfl,a0e,.cons ?_ (.cons ((rv.mono t).mono (.new hT)) .nil));rw[ek];show a6s _
section
variable{tg l:Expr}{tl:E3}
def b6u{J:Obj->Addr->List (Key×V)->It}{f:Key×Z->Z}(hJ:∀{K:Fg}{a:Addr}{o:Obj}{us:List (Key×V)}{kvs:List (Key×Z)}{H0:Hp},H0 a=cL (.frz o (.dK us))->us.map (·.1)=kvs.map (·.1)->Reps K H0 (kvs.map (·.2)) (us.map (·.2))->a3x K (kvs.map f) (λ_=>True) (J o a us) H0)
  (h:PI X tg l (iDv J (low X.K tl))):QI X tg l (iDvZ f tl):=a5v h fun τ H R2 hx=>hx.un fun σ G R hs hg h up=>by
 show(σ,G,_,hs,hg,h,λw G1 v H1 h1 rv hg1 t1=>?_);cases w with
 |ref a=>
  rw[a0g]at rv;let(kvs,e,h1):=h1;let e||e:=e
  .let(us,e',hn,rr):=hg1 _ _ e;show(a,us,rv,.inl (e',λo=>?_));let tk:TK X.K H1 (L2.upd H1 a (.frz o (.dK us))):=.dK e';show up _ _ _ _ _ h1 (hJ a0e hn (rr.mono tk)) (hg1.set (o:=.dF kvs) tk (o,us,a0e,hn,rr.mono tk)) (t1.trans tk)
  .let e0:=e;let(o,us,e',hn,rr):=hg1 _ _ e;show(a,us,rv,.inr (o,e',?_));let eG:put G1 a (.dF kvs)=G1:=by
    funext b
    unfold put
    split
    .next hb=>rw[hb,e0]
    .rfl
   rw[eG]at h1;show up _ _ _ _ _ h1 (hJ e' hn rr) hg1 t1
 |_=>show cb h1
def b07{o:Expr}{apos pos tpos:Pos}{elts:List Expr}{x1:_}(ho:QE X o tl)(hbase:iF o "items" X.env (eval o X.env)=eval o X.env:=by rfl)(hline:(apos.endLine==pos.line)=jO:=by rfl):QI X (.Tuple elts x1 tpos) (.Call (.Attribute o "items" apos) [] [] pos) (iDvZ fIt tl):=b6u a5M (b06 ho.p hbase hline)
def b8A{f:Key×Z->Z}{σ:S3}{G:Hq}{R:List Z->(Hq->Prop)->Hq->Prop}(h:tl σ G λx G1=>wkDv f x G1 R):iDvZ f tl σ G R:=h
def b6v{f:Key×Z->Z}{p:Addr}{kvs:List (Key×Z)}{G:Hq}{R:List Z->(Hq->Prop)->Hq->Prop}(e:G p=cL (.dK kvs)\/G p=cL (.dF kvs))(h:R (kvs.map f) (λ_=>True) (put G p (.dF kvs))):wkDv f (.ref p) G R:=(kvs,e,h)
end
namespace Tim
open PySem.W
def RowIn.up(r:RowIn h v x)(k:∀b o,h.get? b=cL o->h'.get? b=cL o):RowIn h' v x:=by
 let(a,o,c,n,e,d,r):=r;show(a,o,c,n,e,k _ _ d,r)
end Tim
abbrev NsG(K:Fg)(x:Str)(v:Option Value):Prop:=PySem.W.nsIn K gU x=cL v
def Br(K:Fg)(mg:Str->Option Value):Prop:=∀x v,NsG K x v->mg x=v
def b8B{K:Fg}(X:K.In h)(G:h.Ns gU mg):Br K mg:=λ_ v e=>match v,e with
 |some _,e=>PySem.W.mg_of X G e
 |none,e=>PySem.W.mg_none_of X G e
def FX(K:Fg)(x:Str)(st:Stmt):Prop:=∃f d,NsG K x (cL (.ref f))/\Fun K x x st f d
def MX(K:Fg)(C:Addr)(m q:Str)(st:Stmt):Prop:=∃f d,Meth K C m f/\Fun K m q st f d
def AllF(K:Fg)(tp:Nat->Stmt)(l:List (Str×Nat)):Prop:=∀(i:Nat)(r:Str×Nat),l[i]?=cL r->FX K r.1 (tp r.2)
def AllM(K:Fg)(tp:Nat->Stmt)(C:Addr)(l:List (Str×Str×Nat×Nat)):Prop:=∀(i:Nat)(r:Str×Str×Nat×Nat),l[i]?=cL r->MX K C r.1 r.2.1 (a30 (tp r.2.2.1) r.2.2.2)
def AllB(K:Fg)(l:List Str):Prop:=∀(i:Nat) x,l[i]?=cL x->NsG K x jN
def AllN(K:Fg)(C:Addr)(l:List Str):Prop:=∀(i:Nat) x,l[i]?=cL x->NoAttr K C x
section
variable{K:Fg}{tp:Nat->Stmt}{x q:Str}{n j:Nat}{f C:Addr}{oc:Value}{od an:Option Addr}{osl:Array (Option Value)}{kV doc pm cdv ct:Value}
def af0:AllF K tp []:=λ_ _ h=>nomatch h
def af1(a:PySem.W.nsIn K gU x=cL (cL (.ref f)))(e:K.lookup f=cL (oc,od,.func (PySem.W.fnOf x x (a1L (tp n)) (a0M (tp n)) (a0h (tp n)) .none kV doc pm an cdv ct),osl))
  (c:PySem.W.codeIn K cdv x=jO) (k:PySem.W.keepIn K (.ref f)=jO) (t:AllF K tp l):AllF K tp ((x,n,)::l):=λi r h=>by
 cases i with
 |zero=>cases h;show(f,_,a,b1D e c k)
 |succ i=>show t i r h
def ab0:AllB K []:=λ_ _ h=>nomatch h
def ab1(a:PySem.W.nsIn K gU x=cL jN)(t:AllB K l):AllB K (x::l):=λi y h=>by
 cases i with
 |zero=>cases h;show a
 |succ i=>show t i y h
def an0:AllN K C []:=λ_ _ h=>nomatch h
def an1(a:PySem.W.findIn K (.ref C) x=cL jN)(t:AllN K C l):AllN K C (x::l):=λi y h=>by
 cases i with
 |zero=>cases h;show a
 |succ i=>show t i y h
def am0:AllM K tp C []:=λ_ _ h=>nomatch h
def am1(a:PySem.W.findIn K (.ref C) m=cL (cL (.ref f)))(g:PySem.W.isFn K (.ref f)=jO)
  (e:K.lookup f=cL (oc,od,.func (PySem.W.fnOf m q (a1L (a30 (tp n) j)) (a0M (a30 (tp n) j)) (a0h (a30 (tp n) j)) .none kV doc pm an cdv ct),osl))
  (c:PySem.W.codeIn K cdv q=jO) (k:PySem.W.keepIn K (.ref f)=jO) (t:AllM K tp C l):AllM K tp C ((m,q,n,j,)::l):=λi r h=>by
 cases i with
 |zero=>cases h;show(f,_,(a,g,k),b1D e c k)
 |succ i=>show t i r h
end
section
variable{K:Fg}{mg:Str->Option Value}{base:Heap}{x q:Str}{st:Stmt}{f C:Addr}{d:g9}{N:List Str}{k n:Nat}
def Fd(P:gO)(w:World)(K:Fg)(mg:Str->Option Value)(base:Heap)(CX:CXT)(k:Nat)(f:Addr)(s:Sp):Prop:=∃d ps,FnOk P w K mg base CX k f d ps s/\Binds K d ps []
structure Cal (P:gO) (w:World) (K:Fg) (mg:Str->Option Value) (base:Heap) (CX:CXT) (k:Nat) (x:Str) (s:Sp):Prop where
 ex:∃f,Fd P w K mg base CX k f s/\mg x=cL (.ref f)/\PySem.W.keepIn K (.ref f)=jO
def Mal(P:gO)(w:World)(K:Fg)(mg:Str->Option Value)(base:Heap)(CX:CXT)(k:Nat)(C:Addr)(x:Str)(s:Sp):Prop:=∃f,Fd P w K mg base CX k f s/\Meth K C x f
abbrev Bd0(P:gO)(w:World)(K:Fg)(mg:Str->Option Value)(base:Heap)(N:List Str)(q:Str)(st:Stmt)(k:Nat)(sp:P3):Prop:=∀(f:Addr)(cdv:Value)(A:Around)(outer:List Env)(s:Shared)(H:Hp)(E:XK)(ws:List Z)(G:Hq)(R:K3),Room k (A.deeper (envOfC q (a0h st) s.heap.objs.size f cdv))->N.Nodup->sp ws G R ->
 ∃t,QSs (cxOf CX0 P w K mg base N q (a0h st) f cdv A outer s H E).nox (a0M st) t/\t (λ_ G'=>R .non G') R (λ_ _=>False) (λ_ _=>False) (a1F N ws) G
abbrev BdX(P:gO)(w:World)(K:Fg)(mg:Str->Option Value)(base:Heap)(N:List Str)(q:Str)(st:Stmt)(k:Nat)(sp:PX3):Prop:=∀(f:Addr)(cdv:Value)(A:Around)(outer:List Env)(s:Shared)(H:Hp)(E:XK)(ws:List Z)(G:Hq)(R:K3)(EE:Addr->Hq->Prop),Room k (A.deeper (envOfC q (a0h st) s.heap.objs.size f cdv))->N.Nodup->sp ws G R EE->UpX K H EE E ->
 ∃t,QSs (cxOf (CXx P w) P w K mg base N q (a0h st) f cdv A outer s H E) (a0M st) t/\t (λ_ G'=>R .non G') R (λ_ _=>False) (λ_ _=>False) (a1F N ws) G
abbrev Pl(x q:Str)(st:Stmt)(ps:List Str):Prop:=∀(kV doc pm:Value)(an:Option Addr)(cdv ct:Value)(us:List Value),us.length=ps.length->jy (PySem.W.fnOf x q (a1L st) (a0M st) (a0h st) .none kV doc pm an cdv ct) (us,[])=pure (ps.zip us)
def fnd(F:Fun K x q st f d)(b:Bd0 P w K mg base N q st k sp)(S:FnScope N (N.take n) (a0h st))(len:∀ws G R,sp ws G R->ws.length=(N.take n).length):FnOk P w K mg base CX0 (k+1) f d (N.take n) (lowP K sp):=
 fn3 F S len λc A a s H E e G R g h=>b f c A a s H E e G R g S.nd h
def fnc(n:Nat)(B:Br K mg)(F:FX K x st)(b:Bd0 P w K mg base N x st k sp)(len:∀ws G R,sp ws G R->ws.length=(N.take n).length:=by ext ws G R h;repeat' first | (let(rfl,_):=h;rfl) | (cases h<;>rename_i h))(S:FnScope N (N.take n) (a0h st):=by show(rfl,rfl,rfl,by decide +kernel,rfl,by decide +kernel,by decide +kernel))(pl:Pl x x st (N.take n):=by ext _ _ _ _ _ _;(repeat show lnS λ_=>?_);show ln0 rfl):Cal P w K mg base CX0 (k+1) x (lowP K sp):=by
 let(f,d,e,F):=F;show⟨(f,(d,_,fnd F b S len,F.binds pl),B _ _ e,F.kp)⟩
def fnm(n:Nat)(F:MX K C x q st)(b:Bd0 P w K mg base N q st k sp)(len:∀ws G R,sp ws G R->ws.length=(N.take n).length:=by ext ws G R h;repeat' first | (let(rfl,_):=h;rfl) | (cases h<;>rename_i h))(S:FnScope N (N.take n) (a0h st):=by show(rfl,rfl,rfl,by decide +kernel,rfl,by decide +kernel,by decide +kernel))(pl:Pl x q st (N.take n):=by ext _ _ _ _ _ _;(repeat show lnS λ_=>?_);show ln0 rfl):Mal P w K mg base CX0 (k+1) C x (lowP K sp):=by
 let(f,d,e,F):=F;show(f,(d,_,fnd F b S len,F.binds pl),e)
def fndX(F:Fun K x q st f d)(S:FnScope N (N.take n) (a0h st))(len:∀ws G R EE,jQ ws G R EE->ws.length=(N.take n).length)(b:BdX P w K mg base N q st k jQ):FnOk P w K mg base (CXx P w) (k+1) f d (N.take n) (a1D K jQ):=
 fn3x F S len λc A a s H E e G R g i h j=>b f c A a s H E e G R g i S.nd h j
def fncX{sp:PX3}(n:Nat)(B:Br K mg)(F:FX K x st)(b:BdX P w K mg base N x st k sp)(len:∀ws G R EE,sp ws G R EE->ws.length=(N.take n).length:=by ext ws G R EE h;repeat' first | (let(rfl,_):=h;rfl) | (cases h<;>rename_i h))(S:FnScope N (N.take n) (a0h st):=by show(rfl,rfl,rfl,by decide +kernel,rfl,by decide +kernel,by decide +kernel))(pl:Pl x x st (N.take n):=by ext _ _ _ _ _ _;(repeat show lnS λ_=>?_);show ln0 rfl):Cal P w K mg base (CXx P w) (k+1) x (a1D K sp):=by
 let(f,d,e,F):=F;show⟨(f,(d,_,fndX F S len b,F.binds pl),B _ _ e,F.kp)⟩
def fnmX{sp:PX3}(n:Nat)(F:MX K C x q st)(b:BdX P w K mg base N q st k sp)(len:∀ws G R EE,sp ws G R EE->ws.length=(N.take n).length:=by ext ws G R EE h;repeat' first | (let(rfl,_):=h;rfl) | (cases h<;>rename_i h))(S:FnScope N (N.take n) (a0h st):=by show(rfl,rfl,rfl,by decide +kernel,rfl,by decide +kernel,by decide +kernel))(pl:Pl x q st (N.take n):=by ext _ _ _ _ _ _;(repeat show lnS λ_=>?_);show ln0 rfl):Mal P w K mg base (CXx P w) (k+1) C x (a1D K sp):=by
 let(f,d,e,F):=F;show(f,(d,_,fndX F S len b,F.binds pl),e)
end
noncomputable def nst:Expr->Bool
 |.Starred _ _=>jP
 |_=>jO
def se_(h:nst e=jO):gM (e::es) env=(jP,eval e env,)::gM es env:=by cases e<;>first |rfl |cases h
def hp_:∀{es:List Expr},es.all nst=jO->(backTo pos (gM es env)).any (·.1)=jP:=by ext z0;induction z0 with
 |nil=>ext _;show a4M
 |cons e es I0=>
  ext h;rw[cB,cV]at h;show b2S (se_ h.1) (I0 h.2)
def s1_(h:(e::es).all nst=jO):gM (e::es) env=(jP,eval e env,)::gM es env:=se_ (by simp_all)
def h1_(h:(e::es).all nst=jO):(backTo pos (gM es env)).any (·.1)=jP:=hp_ (by rw[cB,cV]at h;show h.2)
section
variable{e o:Expr}{t:A3}{te:E3}{x:Str}{k j:Nat}{C:Addr}{p:Pos}{sq:PX3}{E:XK}{EE:Addr->Hq->Prop}{pl:Sem Bool}
def q_c(c:Cal X.prog X.w X.K X.mg X.base CX0 k x (lowP X.K sp))(hr:Room j X.A)(ha:QA X (e::es) t)(hn:(e::es).all nst=jO:=by rfl)(hk:k<=j:=by decide)(hg:Gl X x:=by rfl)
  (hdb:(x==("__debug__":Str))=jP:=by decide):QE X (.Call (.Name x p) (e::es) [] pos) (b2W sp t):=by
 let(f,(d,h,F,b),g,a):=c.ex;show b5n F (hr.mono hk) hg g a b ha hdb (s1_ hn) (h1_ hn)
def q_cX(hp:a0V (CXx X.prog X.w) X E)(hU:UpN X.K EE E)(c:Cal X.prog X.w X.K X.mg X.base (CXx X.prog X.w) k x (a1D X.K sq))(hr:Room j X.A)(ha:QA X (e::es) t)(hn:(e::es).all nst=jO:=by rfl)(hk:k<=j:=by decide)(hg:Gl X x:=by rfl)
  (hdb:(x==("__debug__":Str))=jP:=by decide):QE X (.Call (.Name x p) (e::es) [] pos) (a86 sq EE t):=by
 let(f,(d,h,F,b),a,g):=c.ex;show b3x hp hU F (hr.mono hk) hg a g b ha hdb (s1_ hn) (h1_ hn)
def q_m(ho:QE X o to)(c:Cls X.K C)(M:Mal X.prog X.w X.K X.mg X.base CX0 k C m (lowP X.K sp))(hr:Room j X.A)(ha:QA X (e::es) t)(hn:(e::es).all nst=jO:=by rfl)(hk:k<=j:=by decide)
  (ht:eval (.Call (.Attribute o m apos) (e::es) [] pos) X.env=(do
   let ov <- eval o X.env
   hI apos.atName
   let (f,first,) <- g0 [ov] (ij ov m pl)
   ik pos f first (backTo pos (gM (e::es) X.env)) (im pos (io [] X.env))):=by rfl):QE X (.Call (.Attribute o m apos) (e::es) [] pos) (a6Y C m sp to t):=by
 let(f,(d,g,F,a),b):=M;show b6b ho c b F (hr.mono hk) a ha (s1_ hn) (h1_ hn) ht
def q_m0(ho:QE X o to)(c:Cls X.K C)(M:Mal X.prog X.w X.K X.mg X.base CX0 k C m (lowP X.K sp))(hr:Room j X.A)(hk:k<=j:=by decide)
  (ht:eval (.Call (.Attribute o m apos) [] [] pos) X.env=(do
   let ov <- eval o X.env
   hI apos.atName
   let (f,first,) <- g0 [ov] (ij ov m pl)
   ik pos f first (backTo pos (gM [] X.env)) (im pos (io [] X.env))):=by rfl):QE X (.Call (.Attribute o m apos) [] [] pos) (a6Y C m sp to uNil):=by
 let(f,(d,e,F,a),b):=M;show b3l ho c b F (hr.mono hk) a ht
def q_mX(hp:a0V (CXx X.prog X.w) X E)(hU:UpN X.K EE E)(ho:QE X o to)(c:Cls X.K C)(M:Mal X.prog X.w X.K X.mg X.base (CXx X.prog X.w) k C m (a1D X.K sq))(hr:Room j X.A)(ha:QA X (e::es) t)(hn:(e::es).all nst=jO:=by rfl)(hk:k<=j:=by decide)
  (ht:eval (.Call (.Attribute o m apos) (e::es) [] pos) X.env=(do
   let ov <- eval o X.env
   hI apos.atName
   let (f,first,) <- g0 [ov] (ij ov m pl)
   ik pos f first (backTo pos (gM (e::es) X.env)) (im pos (io [] X.env))):=by rfl):QE X (.Call (.Attribute o m apos) (e::es) [] pos) (a87 C m sq EE to t):=by
 let(f,(d,g,F,a),b):=M;show b3y hp hU ho c b F (hr.mono hk) a ha (s1_ hn) (h1_ hn) ht
def b8C(mk:PySem.W.makesIn X.K C=jO/\PySem.W.keepIn X.K (.ref C)=jO)(M:Mal X.prog X.w X.K X.mg X.base CX0 k C "__init__" (lowP X.K sp))(hr:Room j X.A)(hm:X.mg x=cL (.ref C))(hk:k+1<=j:=by decide)(hg:Gl X x:=by rfl)
  (hdb:(x==("__debug__":Str))=jP:=by decide):QE X (.Call (.Name x p) [] [] pos) (a84 C sp uNil):=by
 let(f,(d,b,F,a),h):=M;show b3m (mk.1,h.at_,h.fn,mk.2) F (hr.mono hk) hg hm a hdb
def q_k(ha:QE X e te)(hr:QA X es t)(h:nst e=jO:=by rfl):QA X (e::es) (b2T te t):=b5m ha hr (se_ h)
def q_B{id:String}(hc:a1p X (.builtin id) r)(hm:X.mg x=jN)(ha:QA X (e::es) t)(hv:iy x=cL (.builtin id):=by rfl)(hn:(e::es).all nst=jO:=by rfl)(hg:Gl X x:=by rfl)(h1:x≠"__name__":=by decide)(h2:(x==("__debug__":Str))=jP:=by decide) :
  QE X (.Call (.Name x p) (e::es) [] pos) (uCB r t):=b2U hc hg hm hv ha h1 h2 (s1_ hn) (h1_ hn)
def q_Y{id:String}(hc:a1p X (.type id) r)(hm:X.mg x=jN)(ha:QA X (e::es) t)(hv:iy x=cL (.type id):=by rfl)(hn:(e::es).all nst=jO:=by rfl)(hg:Gl X x:=by rfl)(h1:x≠"__name__":=by decide)(h2:(x==("__debug__":Str))=jP:=by decide) :
  QE X (.Call (.Name x p) (e::es) [] pos) (uCB r t):=b0z hc hg hm hv ha h1 h2 (s1_ hn) (h1_ hn)
structure Nm (X:Cx) (x:Str) (i:Nat):Prop where
 nd:X.N.Nodup
 ix:X.N[i]?=cL x
 lc:Loc X.env.scope x
 fn:X.fn x=jO\/X.env.scope.names.lookup x=cL .local
def nmI(i:Nat)(nd:X.N.Nodup)(ix:X.N[i]?=cL x:=by rfl)(lc:Loc X.env.scope x:=by first |show dA rfl |show cU rfl)(fn:X.fn x=jO\/X.env.scope.names.lookup x=cL .local:=by first |show .inl rfl |show .inr rfl |assumption):Nm X x i:=(nd,ix,lc,fn)
def z_st(h:Nm X x i)(he:QE X e te)(hs:ii e (cL (.Name x pos')) pos.line X.env=pure jP:=by rfl):QS X (.Assign [.Name x pos'] e pos) (uAsg te (.nm i)):=b7L h.nd h.ix h.lc he hs h.fn
def z_au(h:Nm X x i)(he:QE X e te)(ho:OpQ X (iu op) r):QS X (.AugAssign (.Name x pos') op e pos) (uAug i te r):=b5v h.nd h.ix h.lc he ho h.fn
def p_nm(h:Nm X x i):QP X (.Name x pos) (.nm i):=a7y h.nd h.ix h.lc h.fn
def QPg(X:Cx)(es:List Expr)(is:List Nat):Prop:=PGs X es (gsOf is)/\(ir es X.env).length=is.length/\(ir es X.env).findIdx? (·.1)=jN
def b8D:QPg X [] []:=(b2u,rfl,rfl)
def b6w(h:Nm X x i)(t:QPg X es is):QPg X (.Name x pos::es) (i::is):=(a94 (a7y h.nd h.ix h.lc h.fn) t.1,congrArg Nat.succ t.2.1,by
 change List.findIdx? _ (_::ir es X.env)=jN
 rw[List.findIdx?_cons,if_neg nofun,t.2.2];rfl)
def p_tp(hc:X.calm=jO)(h:QPg X es is):QP X (.Tuple es c pos) (.tp is):=b4B hc h.1 h.2.1 h.2.2
section
variable{CX:CXT}{K:Fg}{mg:Str->Option Value}{base:Heap}{N:List Str}{q:Str}{so:Scope}{f:Addr}{cd:Value}{outer:List Env}{E:XK}
def cxN:(cxOf CX P w K mg base N q so f cd A outer s H E).nox.N=N:=rfl
def cxS:(cxOf CX P w K mg base N q so f cd A outer s H E).nox.env.scope=so:=rfl
def cxN':(cxOf CX P w K mg base N q so f cd A outer s H E).N=N:=rfl
def cxS':(cxOf CX P w K mg base N q so f cd A outer s H E).env.scope=so:=rfl
end
def cxcN:(cxC X EW N' sc D s H fp).N=N':=rfl
section
variable{Nj:List Str}{so sc:Scope}{wi:I3}{tg iter elt:Expr}{ifs:List Expr}{tt:T3}{i:Nat}
def q_l(N':List Str)(cap:List (Option Nat))(pt:Pt)(hi:QI X tg iter wi:=by ac_rfl)(ht:∀C s H fp,QIfs (cxC X E0 N' sc C s H fp) ifs tt:=by walk_at "r4")(he:∀C s H fp,QE (cxC X E0 N' sc C s H fp) elt te:=by walk_at "r4")(hg:∀C s H fp,N'.Nodup->QP (cxC X E0 N' sc C s H fp) tg pt:=by walk_at "r5")
  (hNN:X.N=Nj:=by first |show cxN |show cxN' |show cxcN) (hso:X.env.scope=so:=by first |show cxS |show cxS' |rfl) (ck:capB Nj so sc N' cap=jO:=by first |decide +kernel |rfl) (hp:(pt.slots.all λj=>decide (cap[j]?=cL jN))=jO:=by rfl)
  (nd:N'.Nodup:=by decide +kernel) (hc:X.calm=jO:=by rfl) (hs:∀x,iC iter X.env x=pure x:=by ext _;rfl):QE X (.ListComp elt [(tg,iter,ifs,0)] sc pos) (uLC wi cap pt tt te):=q_lc hc hNN hso ck hp hi (λC s H a=>hg C s H a nd) ht he hs
def z_l(h:Nm X x i)(N':List Str)(cap:List (Option Nat))(pt:Pt)(hi:QI X tg iter wi:=by ac_rfl)(ht:∀C s H fp,QIfs (cxC X E0 N' sc C s H fp) ifs tt:=by walk_at "r4")(he:∀C s H fp,QE (cxC X E0 N' sc C s H fp) elt te:=by walk_at "r4")(hg:∀C s H fp,N'.Nodup->QP (cxC X E0 N' sc C s H fp) tg pt:=by walk_at "r5")
  (hNN:X.N=Nj:=by first |show cxN |show cxN' |show cxcN) (hso:X.env.scope=so:=by first |show cxS |show cxS' |rfl) (ck:capB Nj so sc N' cap=jO:=by first |decide +kernel |rfl) (hp:(pt.slots.all λj=>decide (cap[j]?=cL jN))=jO:=by rfl)
  (nd:N'.Nodup:=by decide +kernel) (hl:X.env.scope.names.lookup x=cL .local:=by rfl) (hsw:ii (.ListComp elt [(tg,iter,ifs,0)] sc pos) (cL (.Name x pos')) spos.line X.env=pure jO:=by rfl) (hc:X.calm=jO:=by rfl) (hs:∀x,iC iter X.env x=pure x:=by ext _;rfl) :
  QS X (.Assign [.Name x pos'] (.ListComp elt [(tg,iter,ifs,0)] sc pos) spos) (uAsg (uLC wi cap pt tt te) (.nm i)):=b22 h.nd h.ix hl hc hNN hso ck hp hi (λC s H a=>hg C s H a nd) ht he hsw hs
end
end
def At(N:List Str)(i:Nat)(x:Str):Prop:=N[i]?=cL x
def at_0:At (x::l) 0 x:=rfl
def at_1:At (c0::x::l) 1 x:=rfl
def at_2:At (c0::c1::x::l) 2 x:=rfl
def at_3:At (c0::c1::c2::x::l) 3 x:=rfl
def at_4:At (c0::c1::c2::c3::x::l) 4 x:=rfl
def at_5:At (c0::c1::c2::c3::c4::x::l) 5 x:=rfl
def at_6:At (c0::c1::c2::c3::c4::c5::x::l) 6 x:=rfl
def at_7:At (c0::c1::c2::c3::c4::c5::c6::x::l) 7 x:=rfl
def at_8:At (c0::c1::c2::c3::c4::c5::c6::c7::x::l) 8 x:=rfl
def at_9:At (c0::c1::c2::c3::c4::c5::c6::c7::c8::x::l) 9 x:=rfl
def b6x:At (c0::c1::c2::c3::c4::c5::c6::c7::c8::c9::x::l) 10 x:=rfl
def b6y:At (c0::c1::c2::c3::c4::c5::c6::c7::c8::c9::c10::x::l) 11 x:=rfl
section
variable{x:Str}
def qv(i:Nat)(hN:X.N[i]?=cL x:=by rfl)(hv:Vis X.env.scope x:=by first |show dA rfl |show cU (dA rfl) |show cU (cU rfl))(hd:(x==("__debug__":Str))=jP:=by decide)
  (hcd:(x==("__classdict__":Str))=jP:=by decide):QE X (.Name x pos) (uVar i):=b5d (a7v hN hv hd hcd)
def qw(h:X.N=N)(a:At N i x)(hv:Vis X.env.scope x:=by first |show dA rfl |show cU (dA rfl) |show cU (cU rfl))(hd:(x==("__debug__":Str))=jP:=by decide)
  (hcd:(x==("__classdict__":Str))=jP:=by decide):QE X (.Name x pos) (uVar i):=b5d (a7v (h▸a) hv hd hcd)
def nwI(h:X.N=N)(a:At N i x)(nd:X.N.Nodup)(lc:Loc X.env.scope x:=by first |show dA rfl |show cU rfl)(fn:X.fn x=jO\/X.env.scope.names.lookup x=cL .local:=by first |show .inl rfl |show .inr rfl |assumption):Nm X x i:=(nd,by rw[h];show a,lc,fn)
end
def newK(e:put G a o=G')(h:G a=jN):G' a=cL o/\Sm G G':=by subst e;show(a0a,Sm.new h)
namespace SetW
section
variable{a b:Addr}{K:Type}[DecidableEq K]{kd:KeyKind prog w K}
def SO.fresh(g:h.get? a=cL (a6o w)):SO kd h a #[] 0 (.fresh 0 0 (!byT w)) []:=((_,g,(rfl,rfl,rfl),rfl),λe b=>by simp at b,.nil,by decide,rfl,(.nil,rfl,rfl))
end
end SetW
section
variable{a b:Expr}{p:Pos}
def KeysS(G:Hq)(ws:List Z)(ns:List Str):Prop:=∃(p:Addr)(kvs:List (Key×Z)),ws=[.ref p]/\(G p=cL (.dK kvs)\/G p=cL (.dF kvs))/\kvs.map (·.1)=ns.map .inr/\ns.length<=4
def KeysS.low{K:Fg}(h:KeysS G ws ns)(rs:Reps K H ws vs)(hg:RH K G H) :
  ∃(p:Addr)(kvs:List (Key×V)),vs=[.ref p]/\(H p=cL (.dK kvs)\/∃o,H p=cL (.frz o (.dK kvs)))/\kvs.map (·.1)=ns.map .inr:=by
 let(p,f,rfl,e,d,_):=h;let(v,rfl,r):=rs.one;let e||e:=e
 .let(a,c,b,_):=hg _ _ e;show(p,a,by rw[r],.inl c,by rw[b,d])
 .let(o,a,c,b,_):=hg _ _ e;show(p,a,by rw[r],.inr (o,c),by rw[b,d])
end
section
variable{e:Expr}{t:A3}{x:Str}{k j:Nat}{C:Addr}{p:Pos}
def q_mk(mk:PySem.W.makesIn X.K C=jO/\PySem.W.keepIn X.K (.ref C)=jO)(M:Mal X.prog X.w X.K X.mg X.base CX0 k C "__init__" (lowP X.K sp))(hr:Room j X.A)(hm:X.mg x=cL (.ref C))(ha:QA X (e::es) t)(hn:(e::es).all nst=jO:=by rfl)(hk:k+1<=j:=by decide)(hg:Gl X x:=by rfl)
  (hdb:(x==("__debug__":Str))=jP:=by decide):QE X (.Call (.Name x p) (e::es) [] pos) (a84 C sp t):=by
 let(f,(d,ps,F,hb),h):=M;show b6c (mk.1,h.at_,h.fn,mk.2) F (hr.mono hk) hg hm hb ha hdb (s1_ hn) (h1_ hn)
end
section
variable{CX:CXT}{K:Fg}{mg:Str->Option Value}{base:Heap}{N:List Str}{q:Str}{so:Scope}{f:Addr}{cd:Value}{outer:List Env}{E:XK}
def cxNn:(cxOf CX P w K mg base N q so f cd A outer s H E).nox.nox.N=N:=rfl
def cxNh{e:Addr}{oe:Obj}:((cxOf CX P w K mg base N q so f cd A outer s H E).nox.hnd e oe).N=N:=rfl
end
section
variable{ce:Expr}{x n:Str}{D:Addr}{np hpos:Pos}
def PB(X:Cx)(ss:List Stmt)(t:XK->TS):Prop:=∀(pins:List (Addr×Obj))(s:Shared)(σ:St)(H:Hp)(D:Ends)(E:XK),Inv X pins σ H s->t E D σ H ->
 wpAny (model X.prog X.w) X.A (execs ss X.env) (SP X pins D) (λev s'=>∃H1 s1,Inv X pins σ H1 s1/\CXx X.prog X.w X.stack H1 s1 E ev s') s
def b3J{tc:XK->TE}(hb:PX X ce tc)(hs:ii ce jN pos.line X.env=pure jP:=by rfl):PB X [.Expr ce pos] (λE D σ H=>tc E σ H λ_ H1=>D.nx σ H1):=λpins s σ H D E I h=>
 jc (wpAny_Expr_any (gX (hb pins s σ H _ E I h) (λv s1 (y,H1,I1,r1,q1)=>iG (σ,H1,I1,q1)) λ_ _ z=>z) I.quiet hs)
def b8E{c:Expr}{sa sb:List Stmt}{tc:TT}{ta tb:XK->TS}(hc:PT X.nox c tc)(ha:PB X sa ta)(hb:PB X sb tb):PB X [.If c sa sb pos] (λE D σ H=>tc σ H λb H1=>if b=jO then ta E D σ H1 else tb E D σ H1):=by
 ext pins s σ H D E I h;show jc (wpAny_If (gX (hc pins s σ H _ (I.wish _) h) (λd s1 (H1,I1,q1)=>?_) λ_ _ z=>cb z));let I1:=I1.unwish;cases d with
 |true=>show gX (ha pins s1 σ H1 D E I1 q1) (λfl s2 q=>by cases fl with |next=>show iG q |_=>show q) λ_ _ z=>z
 |false=>show gX (hb pins s1 σ H1 D E I1 q1) (λfl s2 q=>by cases fl with |next=>show iG q |_=>show q) λ_ _ z=>z
def b8F(PC:Addr->Prop)(i:Nat)(tb:XK->TS)(th:Addr->Addr->TS):TS:=λD σ H=>∃E:XK,tb E D σ H/\∀c H',E c jN H'->∃C,c=.ref C/\PC C/\∀e,H' e=jN ->
 th C e { nx:=fun σ' H''=>D.nx (σ'.set i jN) H'',rt:=D.rt,bk:=fun σ' H''=>D.bk (σ'.set i jN) H'',ct:=fun σ' H''=>D.ct (σ'.set i jN) H'' } (σ.set i (cL (.ref e))) H'
def b3K{body:List Stmt}{b₀:Stmt}{suite:List Stmt}{i:Nat}{tb:XK->TS}{PC:Addr->Prop}{th:Addr->Addr->TS}(hst:X.stack=X.env::X.outer)(hex:X.ex=[])(hfm:X.env.frame=cL X.env.locals)(hb:PB X body tb)(hg:Gl X x)(hm:X.mg x=cL (.ref D))(hD:∀C,PC C->PySem.W.exmOne X.K (.ref C) (.ref D)=cL jO)
  (hN:X.N.Nodup) (hi:X.N[i]?=cL n) (hl:X.env.scope.names.lookup n=cL .local) (hh:∀C e oe,PC C->oe.cls=.ref C->oe.dict=jN->PySem.W.notCls oe=jO->PSs (X.hnd e oe) (b₀::suite) (th C e))
  (hd:(x==("__debug__":Str))=jP:=by decide) :
  PS X (.Try body [.ExceptHandler (cL (.Name x np)) (cL n) (b₀::suite) hpos] [] [] tpos) (b8F PC i tb th):=by
 intro pins s σ H D' I (E,hc,hE);show wpAny_Try_except (gX (hb pins s σ H _ E I hc) (λfl s1 q=>?_) λev s' q=>?_)
 .cases fl with
  |next=>show iG q
  |_=>show q
 let(H1,s1,I1,e,C,H',rfl,os,bare,un,hok,((T,f,nT,fT),ne,fe),q):=q;let(C0,hC,hPC,hth):=hE _ _ q;cases hC;let I2:Inv X pins σ H' s':=I1.call' (ch:=[]) os un hok bare λ_ z=>nomatch z;let fr:X.A.frames=cL (X.env::X.outer):=by rw[<- hst];show I.ok.frames
 let fl:s'.heap.FunFrames X.base (X.env::X.outer):=by rw[<- hst];show I2.stack
 let young:∀b,s1.heap.get? b=jN->H' b=jN->X.s₀.heap.get? b=jN/\H' b=jN/\b≠X.env.locals/\(∀x c,X.env.cells.lookup x=cL c->c≠b)/\∀p∈X.pn++pins,p.1≠b:=λb h1 h2=>by
  show(?_,h2,λz=>?_,λx c hx z=>?_,λp hp z=>?_)
  .cases q0:X.s₀.heap.get? b with
   |none=>rfl
   |some o=>
    let(o',e'):=I1.base.there b o q0 (by rw[hex];show dG);rw[h1]at e';cases e'
  .let(m,(o,_,_,e',_),_):=I1.loc;rw[z,e']at h1;cases h1
  .let(v,o,e',_):=I1.cell x c hx;rw[z,h1]at e';cases e'
  .let e':=(I1.pin p hp).1;rw[z,h1]at e';cases e'
 show b1F (base:=X.base) fr fl hfm f λh1 T1 k1 f1 z1=>b0m (s:={ s' with heap:=h1 }) f1 λh2 k2 f2=>?_;let yT:∀b,b=e\/b=T->X.s₀.heap.get? b=jN/\H' b=jN/\b≠X.env.locals/\(∀x c,X.env.cells.lookup x=cL c->c≠b)/\∀p∈X.pn++pins,p.1≠b:=λb hb=>by
  let rfl||rfl:=hb
  .show young _ ne fe
  .show young _ nT fT
 let tk:∀b,b=T1->(b=e\/b=T)\/s'.heap.objs.size<=b:=λb hb=>by
  rw[hb];let z||z:=z1
  .show .inl (.inr z)
  .show .inr z
 let k12:=k1.trans (k2 _) tk;let I3:Inv X pins σ H' { s' with heap:=h2 }:=I2.lk0 (by rw[hst];show k12) yT;let mk:∀{h:Heap},FlyT e (.ref C) T1 .none h->Inv X pins σ H' { s' with heap:=h }->∃oe,oe.cls=.ref C/\oe.dict=jN/\PySem.W.notCls oe=jO/\Inv (X.hnd e oe) pins σ H' { s' with heap:=h }:=λ{h} f I=>by
  let(oe,vs,_,_,g1,g2,g3,_):=f;show(oe,g2.1,g2.2,by unfold PySem.W.notCls;rw[g3],I.hnd g1 fe (young e ne fe).2.2.1 (λz=>?_) (λv=>by rw[g3];show λz=>nomatch z));let(_,ob,hob,no):=I.funs.mem z;let hob':h.get? e=cL ob:=hob;rw[g1]at hob';cases hob';show no vs g3
 let(oe,c1,c2,c3,J3):=mk f2 I3;show wpAny_handleBy_cons (codeAny_handlers_test (a2k (X:=X.hnd e oe) J3 hg hm ?_ hd)) (by ext q;cases q);let LT:PySem.W.Looks (model X.prog X.w) h2 (typeOf (.ref e)) (.ref C):=by
  let he:=(J3.pin (e,oe,) (.head _)).1;show c1▸(PySem.W.Looks.ld he).andThen .now
 show (PySem.W.exm_one I3.kIn LT (hD C hPC)).at ?_;show codeAny_handlers_suite_as ?_;show b0m (s:={ s' with heap:=h2 }) f2 λh3 k3 f3=>?_;let I4:Inv X pins σ H' { s' with heap:=h3 }:=I2.lk0 (by rw[hst];show k12.trans (k3 _) tk) yT;let(oe,c1,c2,c3,J4):=mk f3 I4;show a2V (X:=X.hnd e oe) J4 hN hi (.inl hl) (v:=.ref e) rfl (λs5 J5=>?_) (.inr hl);show gX (hh C e oe hPC c1 c2 c3 pins s5 _ H' _ J5 (hth e fe)) (λfl s6 q6=>?_) λ_ _ z=>cb z;cases fl with
 |next=>
  let(σ6,H6,J6,q):=q6;show a1Z (J6.unhnd I.ok) hN hi hl λs7 I7=>(_,H6,I7,q)
 |brk=>
  let(σ6,H6,J6,q):=q6;show a1Z (J6.unhnd I.ok) hN hi hl λs7 I7=>(_,H6,I7,q)
 |cont=>
  let(σ6,H6,J6,q):=q6;show a1Z (J6.unhnd I.ok) hN hi hl λs7 I7=>(_,H6,I7,q)
 |ret u=>
  let(v,σ6,H6,J6,r6,q):=q6;show a1Z (J6.unhnd I.ok) hN hi hl λs7 I7=>(v,_,H6,I7,r6,q)
end
abbrev B3:=(Addr->Hq->Prop)->X3
def lowB(K:Fg)(t:B3):XK->TS:=λE D τ H=>∃σ G nx rt bk ct EE,RSt K H σ τ/\RH K G H/\t EE nx rt bk ct σ G/\UpS K H nx D.nx/\UpV K H rt D.rt/\UpS K H bk D.bk/\UpS K H ct D.ct/\UpX K H EE E
structure QB (X:Cx) (ss:List Stmt) (t:B3):Prop where
 p:PB X ss (lowB X.K t)
section
variable{x n:Str}{D C:Addr}{np hpos p cp:Pos}{e o:Expr}{t:A3}{k j:Nat}{sp:PX3}{PC:Addr->Prop}
def b6z{ss:List Stmt}{t t':XK->TS}(h:PB X ss t')(i:∀E D σ H,t E D σ H->t' E D σ H):PB X ss t:=λpins s σ H D E I q=>h pins s σ H D E I (i E D σ H q)
def uBmt(C:Addr)(m:Str)(to:E3)(t:A3)(sp:PX3):B3:=λEE nx _ _ _ σ G=>to σ G λx G1=>∃q dx fs,x=.ref q/\G1 q=cL (.ins C dx fs)/\fs.lookup m=jN/\t σ G1 λws G2=>sp (.ref q::ws) G2 (λ_ G3=>nx σ G3) EE
def a5N{pl:Sem Bool}(ho:QE X.nox o to)(c:Cls X.K C)(M:Mal X.prog X.w X.K X.mg X.base (CXx X.prog X.w) k C m (a1D X.K sp))(hr:Room j X.A)(ha:QA X.nox (e::es) t)(hn:(e::es).all nst=jO:=by rfl)(hk:k<=j:=by decide)
  (ht:eval (.Call (.Attribute o m apos) (e::es) [] cp) X.env=(do
   let ov <- eval o X.env
   hI apos.atName
   let (f,first,) <- g0 [ov] (ij ov m pl)
   ik cp f first (backTo cp (gM (e::es) X.env)) (im cp (io [] X.env))):=by rfl)
  (hs:ii (.Call (.Attribute o m apos) (e::es) [] cp) jN pos.line X.env=pure jP:=by rfl):QB X [.Expr (.Call (.Attribute o m apos) (e::es) [] cp) pos] (uBmt C m to t sp):=by
 let(f,(d,ps,F,hb),hmt):=M;show⟨b6z (b3J (b2M ho.p c hmt F (hr.mono hk) hb ha.p (s1_ hn) (h1_ hn) ht) hs) λE D τ H hx=>?_⟩;let(σ,G,nx,rt,bk,ct,EE,hs,hg,h,u1,u2,u3,u4,ux):=hx;show(σ,G,_,hs,hg,h,λw G1 v H1 (q,dx,fs,ew,ea,el,hq) rv hg1 t1=>?_);subst ew;rw[a0g]at rv;let(gs,e1,e2,e3):=hg1 _ _ ea;show(q,dx,gs,rv,e1,(a1f e2 e3).1 el,σ,G1,_,hs.mono t1,hg1,hq,λws G2 vs H2 h2 rs hg2 t2=>?_);show(.ref q::ws,G2,_,_,by rw[cE,a0v];show(v,vs,rfl,by rw[a0g];show rv,rs),hg2,h2,λw G3 v H3 h3 _ hg3 t3=>u1 _ _ _ _ h3 (hs.mono ((t1.trans t2).trans t3)) hg3 ((t1.trans t2).trans t3),λC' G3 H3 h3 r3 t3=>ux C' G3 H3 h3 r3 ((t1.trans t2).trans t3))
def b8G{EE:Addr->Hq->Prop}{nx bk ct:C3}{rt:K3}{σ:S3}{G:Hq}(h:to σ G λx G1=>∃q dx fs,x=.ref q/\G1 q=cL (.ins C dx fs)/\fs.lookup m=jN/\t σ G1 λws G2=>sp (.ref q::ws) G2 (λ_ G3=>nx σ G3) EE):uBmt C m to t sp EE nx rt bk ct σ G:=h
def uBif(tc:T3)(ta tb:B3):B3:=λEE nx rt bk ct σ G=>tc σ G λb G1=>if b=jO then ta EE nx rt bk ct σ G1 else tb EE nx rt bk ct σ G1
def b6A{c:Expr}{sa sb:List Stmt}{tc:T3}{ta tb:B3}(hc:QT X.nox c tc)(ha:QB X sa ta)(hb:QB X sb tb):QB X [.If c sa sb pos] (uBif tc ta tb):=
 ⟨b6z (b8E hc.p ha.p hb.p) λE D τ H hx=>by
  let(σ,G,nx,rt,bk,ct,EE,hs,hg,h,u1,u2,u3,u4,ux):=hx;show(σ,G,_,hs,hg,h,λb G1 H1 h1 hg1 t1=>?_);cases b with
  |true=>rw[if_pos rfl]at h1 ⊢;show(σ,G1,nx,rt,bk,ct,EE,hs.mono t1,hg1,h1,u1.mono t1,u2.mono t1,u3.mono t1,u4.mono t1,λC G H' z r t=>ux C G H' z r (t1.trans t))
  |false=>rw[if_neg (by simp)]at h1 ⊢;show(σ,G1,nx,rt,bk,ct,EE,hs.mono t1,hg1,h1,u1.mono t1,u2.mono t1,u3.mono t1,u4.mono t1,λC G H' z r t=>ux C G H' z r (t1.trans t))⟩
def b6B(PC:Addr->Prop)(i:Nat)(tb:B3)(th:Addr->Addr->X3):X3:=λnx rt bk ct σ G=>tb (λC' G3=>PC C'/\∀e,th C' e (fun σ' G'=>nx (σ'.set i jN) G') rt (fun σ' G'=>bk (σ'.set i jN) G') (fun σ' G'=>ct (σ'.set i jN) G') (σ.set i (cL (.ref e))) G3) nx rt bk ct σ G
def b6C{tb:B3}{th:Addr->Addr->X3}{i:Nat}{nx bk ct:C3}{rt:K3}{σ:S3}{G:Hq}(h:tb (λC' G3=>PC C'/\∀e,th C' e (fun σ' G'=>nx (σ'.set i jN) G') rt (fun σ' G'=>bk (σ'.set i jN) G') (fun σ' G'=>ct (σ'.set i jN) G') (σ.set i (cL (.ref e))) G3) nx rt bk ct σ G):b6B PC i tb th nx rt bk ct σ G:=h
def b8H{tc:T3}{ta tb:B3}{EE:Addr->Hq->Prop}{nx bk ct:C3}{rt:K3}{σ:S3}{G:Hq}(h:tc σ G λb G1=>if b=jO then ta EE nx rt bk ct σ G1 else tb EE nx rt bk ct σ G1):uBif tc ta tb EE nx rt bk ct σ G:=h
def z_tB{body:List Stmt}{b₀:Stmt}{suite:List Stmt}{i:Nat}{tb:B3}{th:Addr->Addr->X3}(PC:Addr->Prop)(hb:QB X body tb)(hm:X.mg x=cL (.ref D))(hD:∀C,PC C->PySem.W.exmOne X.K (.ref C) (.ref D)=cL jO)(hN:X.N.Nodup)
  (hh:∀C e oe,PC C->oe.cls=.ref C->oe.dict=jN->PySem.W.notCls oe=jO->QSs (X.hnd e oe) (b₀::suite) (th C e)) (hi:X.N[i]?=cL n:=by rfl) (hl:X.env.scope.names.lookup n=cL .local:=by rfl) (hst:X.stack=X.env::X.outer:=by rfl) (hex:X.ex=[]:=by rfl) (hfm:X.env.frame=cL X.env.locals:=by rfl) (hg:Gl X x:=by rfl)
  (hd:(x==("__debug__":Str))=jP:=by decide):QS X (.Try body [.ExceptHandler (cL (.Name x np)) (cL n) (b₀::suite) hpos] [] [] tpos) (b6B PC i tb th):=
 ⟨a1k (b3K (PC:=PC) (th:=λC e=>lowS X.K (th C e)) (tpos:=tpos) (np:=np) (hpos:=hpos) hst hex hfm hb.p hg hm hD hN hi hl (λC e oe z h1 h2 h3=>(hh C e oe z h1 h2 h3).p) hd) λD τ H hx=>hx.un fun σ G nx rt bk ct hs hg h u1 u2 u3 u4=>by
  show(λc _ H'=>∃C' G',c=.ref C'/\(PC C'/\∀e,th C' e (fun σ' G'=>nx (σ'.set i jN) G') rt (fun σ' G'=>bk (σ'.set i jN) G') (fun σ' G'=>ct (σ'.set i jN) G') (σ.set i (cL (.ref e))) G')/\RH X.K G' H'/\TK X.K H H',?_,?_)
  .show(σ,G,nx,rt,bk,ct,_,hs,hg,h,u1,u2,u3,u4,λC' G2 H2 h2 r2 t2=>(C',G2,rfl,h2,r2,t2))
  .ext c H' ⟨C',G',rfl,⟨hC',hth⟩,hg',t'⟩;show(C',rfl,hC',λe _=>(σ.set i (cL (.ref e)),G',_,_,_,_,(hs.mono t').set (by rw[a0g]) i,hg',hth e,?_,u2.mono t',?_,?_))
   .show fun σ2 G2 τ2 H2 h2 hs2 hg2 t2=>u1 _ _ _ _ h2 (RSt.unset hs2 i) hg2 (t'.trans t2)
   .show fun σ2 G2 τ2 H2 h2 hs2 hg2 t2=>u3 _ _ _ _ h2 (RSt.unset hs2 i) hg2 (t'.trans t2)
   .show fun σ2 G2 τ2 H2 h2 hs2 hg2 t2=>u4 _ _ _ _ h2 (RSt.unset hs2 i) hg2 (t'.trans t2)⟩
end
section
open Tim
section
variable{o i:Expr}{to ti tv:TE}
def b3L(to ti tv:TE)(r:R2):TS:=λD σ H=>to σ H λx H1=>ti σ H1 λy H2=>∃a kvs k v,x=.ref a/\y=kV k/\H2 a=cL (.dK kvs)/\valV kvs k=cL v/\tv σ H2 λz H3=>r v z H3 λn H4=>∃H5,DPut H4 a y n H5/\D.nx σ H5
def a9r{op:jd}{r:R2}(hu:X.A.units+66<cLine)(ho:PE X o to)(hi:PE X i ti)(hv:PE X value tv)(hop:OpR X (iu op) r)(hs:∀ov iv new,augStore i ov iv new=(do g0 [new,ov,iv] (iN ov iv new);je [new,ov,iv] [];pure .next):=by intros;rfl):PS X (.AugAssign (.Subscript o i tpos) op value pos) (b3L to ti tv r):=by
 ext pins s σ H D I h;show wpAny_AugAssign_SubscriptAny (thn (ho pins s σ H _ I h) λov s1 (x,H1,I1,rx,q1)=>thn (hi pins s1 σ H1 _ I1 q1) λiv s2 (y,H2,I2,ry,a,kvs,k,v,ex,ey,e,l,q2)=>?_) hs;subst ex ey;cases rx;let(z,hd,vs,rel,dd):=a78 I2.hok e;let(w',hw,rw'):=RelO.some_of (v:=v) (o:=iM vs k) (by rw[<- l];show rel.val k);show jM (a33 ry) dd.mapOf hw ?_;show thn (hv pins _ σ H2 _ (I2.tok _) q2) λu s3 (zv,H3,I3,rz,q3)=>thn (hop pins s3 σ H3 v zv w' u _ I3 rw' rz q3) λn s4 (nv,H4,I4,rn,H5,dp,q4)=>?_;show thn (L2.set_dict hu pins s4 σ H4 (.ref a) (kV k) nv (.ref a) iv n _ I4 rfl ry rn (a,H5,rfl,dp,q4)) λ_ s5 (H',I5,q5)=>(σ,H',I5,q5)
end
noncomputable def ItE(K:Fg)(a:Addr):It:=(λ_ _=>False,λ_ _ _ _=>False,λ_ H=>SqL K H a [])
theorem a9s{P:gO}{w:World}{K:Fg}{tg:Expr}(a e it:Addr):Turn P w K tg (ItE K a) [e,it] e (λi h=>i=0/\IsEnum h e it 0 .none/\h.IsListIter it a 0) where
 mem:=by simp
 obj:=λi h st b hb=>by
  let(_,h1,o,e,c,d):=st;simp only[cf,dG,or_false]at hb;let rfl||rfl:=hb
  .show(_,h1,λv z=>by cases z)
  .show(o,e,λv z=>by rw[d]at z;cases z)
 keep:=λi h h' st k=>(st.1,k e (by simp) _ st.2.1,let (o,e,r):=st.2.2;(o,k it (by simp) _ e,r))
 item:=λ_ _ _ _ _ _ _ _ _ _ _ _ _ _ z=>z.elim
 done:=by
  ext X hP hw hK hc i pins s σ H E I hf st hg;subst hP hw hK;let(rfl,h1,h2):=st;let(its,rv,p,hz):=I.list hg;cases rv;let(f0,f1,f2,f3,f4,f5):=hf it (by simp);show wpAny_pyNext_enum_end (i:=0) (I.ok.hd hc) h1 h2 p.isList rfl λh' eb=>(rfl,I.turned (t':=s.toks) (λb o hb e=>eb b o hb e) f0 f1 f3 f4 f5)
 self:=λ_ _ _ _ _ st h=>wpAny_pyIter_enum st.2.1 h
def b6D(K:Fg)(ta:TA):TI:=fun σ H R=>ta σ H λvs H1=>∃a,vs=[.ref a]/\SqL K H1 a []/\R (ItE K a) H1
def b3M{X:Cx}{tg e:Expr}{p pos:Pos}{ta:TA}(hg:Gl X "enumerate")(hm:X.mg "enumerate"=jN)(ha:PA X [e] ta)
  (he:gM [e] X.env=(jP,eval e X.env,)::gM [] X.env:=by rfl):PI X tg (.Call (.Name "enumerate" p) [e] [] pos) (b6D X.K ta):=by
 ext pins s σ H R I h;show Call_ (a4C I hg hm (u:=.type "enumerate") rfl (PyProof.Rows.callWith_type1 (thn (ha pos pins s σ H _ I h) λus s1 (vs,H1,I1,r1,q1)=>?_) he rfl));let(a,rfl,hq,q):=q1;let(u,rfl,r):=a2C r1;cases r;let(its,rv,pl,hz):=I1.list hq;show call_enumerate_list pl.isList λh' h1 h2 h3 k=>?_;let I2:Inv X pins σ H1 { s1 with heap:=h' }:=I1.kept (t':=s1.toks) k;show wpAny_pyIter_enum (s:={ s1 with heap:=h' }) h1 (_,[_,_],_,_,H1,rfl,I2,a9s a _ _,(rfl,h1,h2),λb hb=>?_,q);simp only[cf,dG,or_false]at hb;let rfl||rfl:=hb
 .show I1.fpOk (dO _) (I1.hok.fresh (dO _))
 .show I1.fpOk (b8 _) (I1.hok.fresh (b8 _))
inductive Tps (H:Hp):Hp->Prop
 |refl:Tps H H
 |step {H1:Hp} {a:Addr} {vs:List V} (h:Tps H H1) (n:H1 a=jN):Tps H (upd H1 a (.tup vs))
theorem Inv.tups{pins:List (Addr×Obj)}{σ:St}{H:Hp}{s:Shared}:∀{as:List Addr}{xs:List (List V)},Inv X pins σ H s->as.length=xs.length->as.Nodup->(∀a∈as,FpOk X pins H a)->(∀(j:Nat) a vs,as[j]?=cL a->xs[j]?=cL vs->vs.length<=gI/\∃its:List Value,Vals vs its/\IsTup s.heap a its.toArray) ->
  ∃H',Tps H H'/\Inv X pins σ H' s/\(∀b,b∉as->H' b=H b)/\∀(j:Nat) a vs,as[j]?=cL a->xs[j]?=cL vs->H' a=cL (.tup vs)
 |[],xs,I,_,_,_,_=>(H,.refl,I,λ_ _=>rfl,λj a vs e=>by simp at e)
 |a::as,[],_,h,_,_,_=>by simp at h
 |a::as,x::xs,I,hl,nd,fp,ht=>by
  let(n1,n2):=dw.mp nd;let(H1,t1,I1,k1,e1):=Inv.tups (as:=as) (xs:=xs) I ↑hl n2 (λb hb=>fp b (.tail _ hb)) λj b vs h1 h2=>ht (j+1) b vs ↑h1 ↑h2;let fa:=fp a (.head _);let ha:H1 a=jN:=by rw[k1 a n1];show fa.1
  let(h3,its,h4,h5):=ht 0 a x rfl rfl;show(_,.step (vs:=x) t1 ha,?_,λb hb=>?_,λj b vs h1 h2=>?_)
  .let h6:=h5;let(u,hu,_):=h6;show I1.adopt (t':=s.toks) (ha,fa.2) (λc u _ e=>e) (h3,its,h4,h5) (u,hu)
  .rw[cf,not_or]at hb;rw[a0b hb.1];show k1 b hb.2
  .cases j with
   |zero=>cases h1;cases h2;show a0e
   |succ j=>
    let h1:as[j]?=cL b:=↑h1
    let:b≠a:=λz=>n1 (z▸cx h1)
    rw[a0b this];show e1 j b vs h1 ↑h2
noncomputable def a6y(t a:Addr):HO:=.ext λh=>h.IsItemsView t a
def b08{o:Expr}{to:TE}{apos pos:Pos}(ho:PE X o to)(hbase:iF o "items" X.env (eval o X.env)=eval o X.env:=by rfl)(hline:(apos.endLine==pos.line)=jO:=by rfl):PE X (.Call (.Attribute o "items" apos) [] [] pos) (fun σ H Q=>to σ H λx H1=>∃a kvs,x=.ref a/\H1 a=cL (.dK kvs)/\∀t,H1 t=jN->Q (.ref t) (upd H1 t (a6y t a))):=by
 ext pins s σ H Q I h;show wpAny_Call_method (T:="dict") (id:="dict.items") hbase rfl hline F.plainAttrs_dict F.slot_dict_items F.type_dict_items (thn (ho pins s σ H _ I h) λv s1 (x,H1,I1,r1,a,kvs,e,ea,q)=>?_);subst e;cases r1;let(hz,hsm,vs,rel,dof):=a78 I1.hok ea;show(dof.typeIs,dof.mapOf.noDict,?_)
 change wpAny _ _ (ik pos (.builtin "dict.items") [.ref a] [] []) _ _ _
 show method_meetsIn F.slot_dict_items F.entry_dict_items rfl (PySem.evalArgs_none (rfl,dof.typeIs,F.args_dict_items_1 _,_,meets_dict_items (a0p X.prog X.w) a hsm,(vs,dof),?_));show(.ref s1.heap.objs.size,_,I1.laid (t':=s1.toks) (λb o e=>Heap.get?_push_of_some _ e) (b8 _) (show ObjOk X.prog X.w _ _ _ (a6y s1.heap.objs.size a) from ((_,Heap.get?_push_size _ rfl,rfl,rfl),(_,Heap.get?_push_size _ rfl),λ_ _ (o,e,r) y=>(o,y o e,r))),rfl,q _ (I1.hok.fresh (b8 _)))
noncomputable def rowI(p:Str×Int):List Pz:=[.inr p.1,.inl (cL p.2)]
def b6E:List V->Hp->VK->Prop:=λxs H Q=>∃(t a:Addr)(ps:List (Str×Int)),xs=[.ref t]/\H t=cL (a6y t a)/\H a=cL (.dK (ps.map λp=>(Sum.inr p.1,V.int p.2,)))/\ps.length<=1000 /\
 ∀(H':Hp)(u:Addr)(cs:List Addr)(os:List (List Pz)),Tps H H'->H' u=jN->a17 H' cs os->os.Perm (ps.map rowI)->os.Pairwise (λx y=>ltT y x=jP)->Q (.ref u) (upd H' u (.lst (cs.map V.ref)))
def a69(hc:X.calm=jO):CallR X (.builtin "sorted") b6E:=by
 ext pins s σ H xs us Q I r h;let(t,a,ps,rfl,ht,ha,hl,q):=h;let(u,rfl,rx):=a2C r;cases rx;let V0:s.heap.IsItemsView t a:=(I.hok t _ ht).1;let(hz,hsm,vs,rel,dd):=a78 I.hok ha;let(ep,dat):=dd.dictAt;let hvl:=a3Q rel;rw[b7]at hvl;show Calls.call_function_entry kind_sorted plain_sorted entry_sorted (args_sorted1 _) ?_;unfold gY.«sorted»;show gK (m:=checkCount "sorted" 1 1 _) (gS (gK (PySem.W.kdx_collect (I.ok.hd hc) V0 dat (by rw[hvl,g7];cbv) λg tk bs kp hal hG=>?_)));let I0:Inv X pins σ H { s with heap:=g,toks:=tk }:=I.kept (t':=tk) kp;let(H1,tp,I1,_,hat):=I0.tups (as:=bs) (xs:=(ps.map rowI).map (·.map ptV)) (by rw[b7,b7];cbv) (hG.rise.imp λh z=>by rw[z]at h;show du _ h) (λb hb=>I.fpOk (df (hG.above b hb)) (I.hok.fresh (df (hG.above b hb)))) λj b x h1 h2=>by
  let(key,k,v,e1,e2,e3):=hG.pairs j b h1;rw[cg,cg]at h2;cases hp:ps[j]? with
  |none=>rw[hp]at h2;cases h2
  |some p=>
  rw[hp]at h2;cases h2;let(q,hq,q1,q2):=a9q rel (i:=j) (p:=(Sum.inr p.1,V.int p.2,)) (by rw[cg,hp];rfl);rw[e1]at hq;cases hq;let q1:Sum.inr p.1=k:=q1;subst q1;show(by change 2<=_;rw[g7];cbv,[key,v],.cons (b3A e2) (.cons q2 .nil),_,e3,rfl,_,rfl)
 let ht:a17 H1 bs (ps.map rowI):=(by rw[b7];cbv,λj b x h1 h2=>hat j b _ h1 (by rw[cg,h2];rfl));let hz:(bs.map Value.ref).length<=sizeLine:=by rw[b7,g7];cbv
 let rw1:∀x∈ps.map rowI,∃p:Str×Int,x=rowI p:=λx hx=>let (p,_,e):=cm.mp hx;(p,e.symm)
 show gK (jK ?_ hz);let ho:(g.push (seqObj "list" (bs.map Value.ref).toArray 0)).get? g.objs.size=cL (seqObj "list" (bs.map Value.ref).toArray 0):=Heap.get?_push_size _ rfl;let I2:Inv X pins σ H1 { s with heap:=g.push (seqObj "list" (bs.map Value.ref).toArray 0),toks:=tk }:=I1.kept (t':=tk) λb o e=>Heap.get?_push_of_some _ e;show gK (ic (ji slot_list_sort (_,ho,rfl) entry_list_sort (Tim.sort_tups (jR:=2) ho (by rw[b7];cbv) (a3j I2 ht) (.inl λx hx=>by let(p,rfl):=rw1 x hx;show(_,_,rfl)) (λx hx=>by let(p,rfl):=rw1 x hx;rfl) (λx hx y hy=>by
  let(p,rfl):=rw1 x hx;let(q,rfl):=rw1 y hy;unfold rowI cmpT
  split
  .unfold cmpT
   split
   .rfl
   .rfl
  .rfl) λout os a1 a2 a3 a4=>(_,rfl,?_)) (args_list_sort _)))
 let hat:=sortedHeap_at (out:=out.toArray) ho;let(n,hat):=hat;let(cs,rfl):=a3U a1;let hcl:cs.length=bs.length:=by let:=a1.length_eq;o_head this
 let tc:a17 H1 cs os:=by
  show(by rw[a2,b7,b7],λi c x e1 e2=>?_);rw[a2,cg,cg,e1]at e2;cases e2;let hmem:Value.ref c∈bs.map Value.ref:=a1.mem_iff.mp (cS (cx e1));let(c',hc',e):=cm.mp hmem;cases e;let(j,hj):=d9 hc';obtain⟨y,hy⟩:∃y,(ps.map rowI)[j]?=cL y:=((ps.map rowI)[j]'(by let:=(cn.mp hj).1;rw[<- ht.1];show this),cu _);let hH:=ht.2 j c y hj hy;let(_,its,r,o,h1,h2,n,h3):=(show ObjOk X.prog X.w H1 _ c (.tup (y.map ptV)) from I2.hok c _ hH)
  let:RowIn (g.push (seqObj "list" (bs.map Value.ref).toArray 0)) (.ref c) y:=(c,o,_,n,rfl,h1,h2,h3,↑(a5J r))
  change H1 c=cL (.tup ((a5E _ (Value.ref c)).map ptV))
  rw[a0T this];show hH
 show gS (_,rfl,?_);show(.ref g.objs.size,_,I1.laid (t':=tk) (λb o e=>by
  let hlt:=Heap.lt_size e;rw[sortedHeap_old (cv hlt) (by rw[Heap.size_push];show eL hlt)];show Heap.get?_push_of_some _ e) (b8 _) (show ObjOk X.prog X.w _ _ _ (.lst (cs.map V.ref)) from (by rw[b7,g7];cbv,cs.map Value.ref,n,a3T cs,↑hat)),rfl,q _ _ cs os tp (I1.hok.fresh (b8 _)) tc a3 a4)
end
section
open Tim
section
variable{e o i:Expr}{ti te:E3}{t:A3}{x:Str}{p ipos:Pos}{r:R3}
def b09{K:Fg}{G:Hq}{H H':Hp}(h:Tps H H')(g:RH K G H):RH K G H'/\TK K H H':=by
 induction h with
 |refl=>show(g,.refl _ _)
 |step _ n ih=>show(ih.1.hid n,ih.2.trans (.new n))
def uSI(to:E3):E3:=fun σ G R=>to σ G λx G1=>∃(a:Addr)(ps:List (Str×Int)),x=.ref a/\G1 a=cL (.dK (ps.map λp=>(Sum.inr p.1,Z.int p.2,)))/\ps.length<=1000 /\
 ∀(t:Addr)(os:List (List Pz)),G1 t=jN->os.Perm (ps.map rowI)->os.Pairwise (λx y=>ltT y x=jP)->R (.ref t) (put G1 t (.lst (os.map tupZ)))
def i_si{σ:S3}{G:Hq}{R:K3}(h:to σ G λx G1=>∃(a:Addr)(ps:List (Str×Int)),x=.ref a/\G1 a=cL (.dK (ps.map λp=>(Sum.inr p.1,Z.int p.2,)))/\ps.length<=1000 /\
 ∀(t:Addr)(os:List (List Pz)),G1 t=jN->os.Perm (ps.map rowI)->os.Pairwise (λx y=>ltT y x=jP)->R (.ref t) (put G1 t (.lst (os.map tupZ)))):uSI to σ G R:=h
theorem a9t{K:Fg}{H:Hp}:∀{ps:List (Str×Int)}{us:List (Key×V)},us.map (·.1)=(ps.map λp=>((Sum.inr p.1:Key),Z.int p.2,)).map (·.1)->Reps K H ((ps.map λp=>((Sum.inr p.1:Key),Z.int p.2,)).map (·.2)) (us.map (·.2))->us=ps.map λp=>(Sum.inr p.1,V.int p.2,)
 |[],us,h,_=>↑h
 |p::ps,[],h,_=>by simp at h
 |p::ps,(k,v,)::us,h,r=>by
  simp only[cr,dC.injEq]at h;let(rfl,h):=h;simp only[cr]at r;rw[a0v]at r;let(v',r',e,r1,r2):=r;let(rfl,rfl):=dC.inj e;rw[a0f]at r1;rw[a9t h r2,r1];rfl
def q_si(hm:X.mg "sorted"=jN)(ho:QE X o to)(hc:X.calm=jO:=by rfl)(hg:Gl X "sorted":=by rfl)(hbase:iF o "items" X.env (eval o X.env)=eval o X.env:=by rfl)(hline:(apos.endLine==ipos.line)=jO:=by rfl) :
  QE X (.Call (.Name "sorted" p) [.Call (.Attribute o "items" apos) [] [] ipos] [] pos) (uSI to):=⟨a0E (a58 (a69 hc) hg hm rfl (a7Q (b08 ho.p hbase hline) b1C rfl) (by decide) (by decide) rfl rfl) fun τ H Q hx=>hx.un fun σ G R hs hg h up=>
 (σ,G,_,hs,hg,h,λw G1 v H1 (a,ps,ew,e1,z,h1) rv hg1 t1=>by
  subst ew;rw[a0g]at rv;let(us,e',hn,rr):=hg1 _ _ e1;let eu:=a9t hn rr;subst eu;show(a,_,rv,e',λt ht=>(t,a,ps,rfl,a0e,by rw[a0b λz=>by rw[z,ht]at e';cases e'];show e',z,λH' u cs os tp hu tc pm so=>?_));let(g2,k2):=b09 tp (hg1.hid (u:=a6y t a) ht);show up _ _ _ _ (h1 u os (g2.out hu) pm so) (by rw[a0g]) (g2.set (o:=.lst (os.map tupZ)) (.new hu) (_,a0e,a3k (tc.1,λi b x q1 q2=>by
   let q:=tc.2 i b x q1 q2;rw[a0b (λz=>by rw[z,hu]at q;cases q)];show q))) (t1.trans ((TK.new ht).trans (k2.trans (.new hu)))))⟩
def b6F(t:A3):I3:=fun σ G R=>t σ G λws G1=>∃a,ws=[.ref a]/\G1 a=cL (.lst [])/\R [] (λG=>G a=cL (.lst [])) G1
def a43{tg:Expr}(hg:Gl X "enumerate")(hm:X.mg "enumerate"=jN)(ha:QA X [e] t)
  (he:gM [e] X.env=(jP,eval e X.env,)::gM [] X.env:=by rfl):QI X tg (.Call (.Name "enumerate" p) [e] [] pos) (b6F t):=a5v (b3M hg hm ha.p he) fun τ H R2 hx=>hx.un fun σ G R hs hg h up=>by
 show(σ,G,_,hs,hg,h,λws G1 vs H1 (a,e,ea,h1) rv hg1 t1=>?_);subst e;let(v,rfl,r):=rv.one;rw[a0g]at r;subst r;let(us,e',rs):=hg1 a _ ea;rw[a0i]at rs;subst rs;show(a,rfl,SqL.of e',up _ _ _ _ _ h1 (λi G H hg t ok hi=>by
  let(vs,e,rs):=hg a _ ok;rw[a0i]at rs;subst rs;show(λ_=>SqL.of e,λw hw=>by simp at hw)) hg1 t1)
def b6G{σ:S3}{G:Hq}{Ri:List Z->(Hq->Prop)->Hq->Prop}(h:t σ G λws G1=>∃a,ws=[.ref a]/\G1 a=cL (.lst [])/\Ri [] (λG=>G a=cL (.lst [])) G1):b6F t σ G Ri:=h
def uSub(to ti te:E3)(r:R3):X3:=λnx _ _ _ σ G=>to σ G λx G1=>ti σ G1 λy G2=>∃a kvs k v,x=.ref a/\keyZ y=cL k/\G2 a=cL (.dK kvs)/\valZ kvs k=cL v/\te σ G2 λz G3=>r v z G3 λn G4=>∃kvs',G4 a=cL (.dK kvs')/\kvs'.length<1000/\nx σ (put G4 a (.dK (putZ kvs' k n)))
def b8I{op:jd}(hu:X.A.units+66<cLine)(ho:QE X o to)(hi:QE X i ti)(hv:QE X value te)(hop:OpQ X (iu op) r)(hs:∀ov iv new,augStore i ov iv new=(do g0 [new,ov,iv] (iN ov iv new);je [new,ov,iv] [];pure .next):=by intros;rfl):QS X (.AugAssign (.Subscript o i tpos) op value pos) (uSub to ti te r):=⟨a1k (a9r hu ho.p hi.p hv.p hop hs) λD τ H hx=>hx.un fun σ G nx rt bk ct hs hg h u1 u2 u3 u4=>by
 show(σ,G,_,hs,hg,h,λw G1 v H1 h1 rv hg1 t1=>(σ,G1,_,hs.mono t1,hg1,h1,λy G2 yv H2 (a,kvs,k,z,ew,hk,e,l,h2) ry hg2 t2=>?_));subst ew;rw[a0g]at rv;let(us,e',hn,rr):=hg2 _ _ e;let(u',e1,e2):=(a0K hn rr).2 z l;let hs2:=hs.mono (t1.trans t2);show(a,us,k,u',rv,a02 hk ry,e',e1,σ,G2,_,hs2,hg2,h2,λzz G3 zv H3 h3 rz hg3 t3=>(z,zz,G3,_,e2.mono t3,rz,hg3,h3,λn G4 nv H4 (kvs',e4,l4,h4) rn hg4 t4=>?_));let(us4,e4',hn4,rr4):=hg4 _ _ e4;let hp:=a4j (k:=k) rn hn4 rr4;let t5:=(t3.trans t4).trans (TK.dK (K:=X.K) (o:=.dK (putK us4 k nv)) e4');show(upd H4 a (.dK (putK us4 k nv)),?_,u1 _ _ _ _ h4 (hs2.mono t5) (hg4.set (o:=.dK (putZ kvs' k n)) (.dK e4') (_,a0e,hp.1,hp.2.mono (.dK e4'))) ((t1.trans t2).trans t5));rw[a02 hk ry];show DPut.k e4' (by rw[a8Y hn4,g7];cbv)⟩
end
end
set_option genInjectivity false in
inductive Ex4 {α0 α1 α2 α3:Type}(p:α0->α1->α2->α3->Prop):Prop
 |mk (a0:α0) (a1:α1) (a2:α2) (a3:α3) (h:p a0 a1 a2 a3):Ex4 p
set_option genInjectivity false in
inductive Ex5 {α0 α1 α2 α3 α4:Type}(p:α0->α1->α2->α3->α4->Prop):Prop
 |mk (a0:α0) (a1:α1) (a2:α2) (a3:α3) (a4:α4) (h:p a0 a1 a2 a3 a4):Ex5 p
set_option genInjectivity false in
inductive Ex6 {α0 α1 α2 α3 α4 α5:Type}(p:α0->α1->α2->α3->α4->α5->Prop):Prop
 |mk (a0:α0) (a1:α1) (a2:α2) (a3:α3) (a4:α4) (a5:α5) (h:p a0 a1 a2 a3 a4 a5):Ex6 p
set_option genInjectivity false in
inductive Ex7 {α0 α1 α2 α3 α4 α5 α6:Type}(p:α0->α1->α2->α3->α4->α5->α6->Prop):Prop
 |mk (a0:α0) (a1:α1) (a2:α2) (a3:α3) (a4:α4) (a5:α5) (a6:α6) (h:p a0 a1 a2 a3 a4 a5 a6):Ex7 p
set_option genInjectivity false in
inductive Ex9 {α0 α1 α2 α3 α4 α5 α6 α7 α8:Type}(p:α0->α1->α2->α3->α4->α5->α6->α7->α8->Prop):Prop
 |mk (a0:α0) (a1:α1) (a2:α2) (a3:α3) (a4:α4) (a5:α5) (a6:α6) (a7:α7) (a8:α8) (h:p a0 a1 a2 a3 a4 a5 a6 a7 a8):Ex9 p
set_option genInjectivity false in
inductive Ex11 {α0 α1 α2 α3 α4 α5 α6 α7 α8 α9 α10:Type}(p:α0->α1->α2->α3->α4->α5->α6->α7->α8->α9->α10->Prop):Prop
 |mk (a0:α0) (a1:α1) (a2:α2) (a3:α3) (a4:α4) (a5:α5) (a6:α6) (a7:α7) (a8:α8) (a9:α9) (a10:α10) (h:p a0 a1 a2 a3 a4 a5 a6 a7 a8 a9 a10):Ex11 p
end L2
namespace Lw
open PySem L2
noncomputable def top(i:Nat):Stmt:=PySem.Challenge.pw_twotimes_k54_refused_by_a_book.main.body.getD i (.Pass (0,0,0,0))
def UnLt(n:Nat):Prop:=n+66<cLine
def b6H{A:Around}{k:Nat}(hr:Room k A):UnLt A.units:=by let:=hr.un;unfold UnLt;cbv
noncomputable def tF:List (Str×Nat):=("is_name",15,)::("is_moment",16,)::("is_stretch",17,)::("earlier_end",18,)::("ahead_of",21,)::("with_alike_joined",23,)::("from_on",22,)::("put_on",20,)::("check_in_reach",29,)::("check_name",27,)::("run_of",38,)::("is_standing",39,)::("stands_at",40,)::("table_at",25,)::("check_stretch",28,)::("check_telling",31,)::("line_behind",32,)::("with_line",35,)::("tiled_on",37,)::("fresh",44,)::("_law_cell_at",46,)::("_law_names",47,)::("_law_stretch",48,)::("_law_telling",49,)::("_law_none",50,)::("_law_no_stretch",51,)::("_law_bad",52,)::("_law_refused",53,)::("_law_look",54,)::("law",55,)::[]
noncomputable def tB:List Str:=["all","isinstance","str","len","bool","int","min","max","sorted","dict","tuple","list","range","enumerate","ValueError"]
noncomputable def a6z:List (Str×Str×Nat×Nat):=("check_knowing","Sheet.check_knowing",33,7,)::("known_line","Tiled.known_line",41,2,)::("line_at","Sheet.line_at",33,5,)::("keys_at","Sheet.keys_at",33,6,)::("keep_line","Tiled.keep_line",41,1,)::("tell","Sheet.tell",33,1,)::("knowings","Sheet.knowings",33,2,)::("__init__","Sheet.__init__",33,0,)::[]
noncomputable def a6A:List Str:=["last","kept"]
noncomputable def a9u:List (Str×Str×Nat×Nat):=("sheet","Book.sheet",43,4,)::("check_rules","Book.check_rules",43,7,)::("knowings","Book.knowings",43,2,)::("tables_behind","Book.tables_behind",43,6,)::("tell","Book.tell",43,1,)::("known","Book.known",43,5,)::("tellings","Book.tellings",43,3,)::("__init__","Book.__init__",43,0,)::[]
noncomputable def a9v:List Str:=["sheets","rules","taken"]
set_option genInjectivity false in
structure Ad where
 c_Tiled:Addr
 c_Book:Addr
 x_NoKnowing:Addr
 x_NoName:Addr
 x_NoStretch:Addr
 x_NoSheet:Addr
 x_TimesError:Addr
 x_Broken:Addr
 x_Forgotten:Addr
 x_NoFit:Addr
 x_NoLog:Addr
 x_NoRow:Addr
structure Txt (K:Fg) (mg:Str->Option Value) (a:Ad):Prop where
 br:Br K mg
 f:AllF K top tF
 b0:AllB K tB
 mg_Tiled:mg "Tiled"=cL (.ref a.c_Tiled)
 cl_Tiled:Cls K a.c_Tiled
 m_Tiled:AllM K top a.c_Tiled a6z
 n_Tiled:AllN K a.c_Tiled a6A
 mk_Tiled:PySem.W.makesIn K a.c_Tiled=jO/\PySem.W.keepIn K (.ref a.c_Tiled)=jO
 mg_Book:mg "Book"=cL (.ref a.c_Book)
 cl_Book:Cls K a.c_Book
 m_Book:AllM K top a.c_Book a9u
 n_Book:AllN K a.c_Book a9v
 mk_Book:PySem.W.makesIn K a.c_Book=jO/\PySem.W.keepIn K (.ref a.c_Book)=jO
 x_NoKnowing:mg "NoKnowing"=cL (.ref a.x_NoKnowing)
 x_NoName:mg "NoName"=cL (.ref a.x_NoName)
 x_NoStretch:mg "NoStretch"=cL (.ref a.x_NoStretch)
 x_NoSheet:mg "NoSheet"=cL (.ref a.x_NoSheet)
 x_TimesError:mg "TimesError"=cL (.ref a.x_TimesError)
 x_Broken:mg "Broken"=cL (.ref a.x_Broken)
 x_Forgotten:mg "Forgotten"=cL (.ref a.x_Forgotten)
 x_NoFit:mg "NoFit"=cL (.ref a.x_NoFit)
 x_NoLog:mg "NoLog"=cL (.ref a.x_NoLog)
 x_NoRow:mg "NoRow"=cL (.ref a.x_NoRow)
 xi_NoKnowing:PySem.W.excIn K a.x_NoKnowing veM "ValueError.__new__"=jO
 xi_NoName:PySem.W.excIn K a.x_NoName veM "ValueError.__new__"=jO
 xi_NoStretch:PySem.W.excIn K a.x_NoStretch veM "ValueError.__new__"=jO
 xi_NoSheet:PySem.W.excIn K a.x_NoSheet veM "ValueError.__new__"=jO
 xm_NoSheet_TimesError:PySem.W.exmOne K (.ref a.x_NoSheet) (.ref a.x_TimesError)=cL jO
 xm_NoName_TimesError:PySem.W.exmOne K (.ref a.x_NoName) (.ref a.x_TimesError)=cL jO
 xm_NoStretch_TimesError:PySem.W.exmOne K (.ref a.x_NoStretch) (.ref a.x_TimesError)=cL jO
 xm_NoKnowing_TimesError:PySem.W.exmOne K (.ref a.x_NoKnowing) (.ref a.x_TimesError)=cL jO
 xk_NoKnowing:ExK K a.x_NoKnowing
 xk_NoName:ExK K a.x_NoName
 xk_NoSheet:ExK K a.x_NoSheet
 xk_NoStretch:ExK K a.x_NoStretch
 kt_NoSheet_NoName:PySem.W.kitOne K (.ref a.x_NoSheet) (.ref a.x_NoName)=cL jP
 kt_NoSheet_NoStretch:PySem.W.kitOne K (.ref a.x_NoSheet) (.ref a.x_NoStretch)=cL jP
 kt_NoSheet_NoKnowing:PySem.W.kitOne K (.ref a.x_NoSheet) (.ref a.x_NoKnowing)=cL jP
 kt_NoSheet_ValueError:PySem.W.kitOne K (.ref a.x_NoSheet) (.type "ValueError")=cL jO
 kt_NoName_NoSheet:PySem.W.kitOne K (.ref a.x_NoName) (.ref a.x_NoSheet)=cL jP
 kt_NoName_NoStretch:PySem.W.kitOne K (.ref a.x_NoName) (.ref a.x_NoStretch)=cL jP
 kt_NoName_NoKnowing:PySem.W.kitOne K (.ref a.x_NoName) (.ref a.x_NoKnowing)=cL jP
 kt_NoName_ValueError:PySem.W.kitOne K (.ref a.x_NoName) (.type "ValueError")=cL jO
 kt_NoStretch_NoSheet:PySem.W.kitOne K (.ref a.x_NoStretch) (.ref a.x_NoSheet)=cL jP
 kt_NoStretch_NoName:PySem.W.kitOne K (.ref a.x_NoStretch) (.ref a.x_NoName)=cL jP
 kt_NoStretch_NoKnowing:PySem.W.kitOne K (.ref a.x_NoStretch) (.ref a.x_NoKnowing)=cL jP
 kt_NoStretch_ValueError:PySem.W.kitOne K (.ref a.x_NoStretch) (.type "ValueError")=cL jO
 kt_NoKnowing_NoSheet:PySem.W.kitOne K (.ref a.x_NoKnowing) (.ref a.x_NoSheet)=cL jP
 kt_NoKnowing_NoName:PySem.W.kitOne K (.ref a.x_NoKnowing) (.ref a.x_NoName)=cL jP
 kt_NoKnowing_NoStretch:PySem.W.kitOne K (.ref a.x_NoKnowing) (.ref a.x_NoStretch)=cL jP
 kt_NoKnowing_ValueError:PySem.W.kitOne K (.ref a.x_NoKnowing) (.type "ValueError")=cL jO
 ka_NoSheet_0:PySem.W.kitAny K (.ref a.x_NoSheet) [.ref a.x_Broken,.ref a.x_Forgotten,.ref a.x_NoFit,.ref a.x_NoLog,.ref a.x_NoRow]=cL jP
 ka_NoName_1:PySem.W.kitAny K (.ref a.x_NoName) [.ref a.x_Broken,.ref a.x_Forgotten,.ref a.x_NoFit,.ref a.x_NoLog,.ref a.x_NoRow]=cL jP
 ka_NoStretch_2:PySem.W.kitAny K (.ref a.x_NoStretch) [.ref a.x_Broken,.ref a.x_Forgotten,.ref a.x_NoFit,.ref a.x_NoLog,.ref a.x_NoRow]=cL jP
 ka_NoKnowing_3:PySem.W.kitAny K (.ref a.x_NoKnowing) [.ref a.x_Broken,.ref a.x_Forgotten,.ref a.x_NoFit,.ref a.x_NoLog,.ref a.x_NoRow]=cL jP
 c_LONGEST_NAME:∃t,mg "LONGEST_NAME"=cL (.int 8 t)
 c_LAST_MOMENT:∃t,mg "LAST_MOMENT"=cL (.int 1000000000000 t)
def Txt.b{K:Fg}{mg:Str->Option Value}{a:Ad}(T:Txt K mg a)(i:Nat){x:Str}(h:tB[i]?=cL x:=by rfl):mg x=jN:=T.br _ _ (T.b0 i x h)
set_option hygiene false in
local macro_rules | `(tactic| walk_at "in")=>`(tactic| (ext f cdv A outer s H E ws G R hr nd h;let hu:=b6H hr))
set_option hygiene false in
local macro_rules | `(tactic| walk_at "inx")=>`(tactic| (ext f cdv A outer s H E ws G R EE hr nd h ux;let hu:=b6H hr))
set_option hygiene false in
local macro_rules | `(tactic| ac_rfl)=>`(tactic| repeat' first
 | ((with_reducible change QE _ _ _);first | ((with_reducible change QE _ (.Name _ _) _);first | show qw (by first | show cxN | show cxcN | show cxN' | show cxNn | show cxNh) (by with_reducible first | show at_0 | show at_1 | show at_2 | show at_3 | show at_4 | show at_5 | show at_6 | show at_7 | show at_8 | show at_9 | show b6x | show b6y) | show b1I (a6B rfl T.c_LONGEST_NAME) | show b1I (a6B rfl T.c_LAST_MOMENT) | show q_ty (a1J (v:=.ty "str") rfl (T.b 2) rfl rfl) | show q_ty (a1J (v:=.ty "bool") rfl (T.b 4) rfl rfl) | show q_ty (a1J (v:=.ty "int") rfl (T.b 5) rfl rfl) | show q_ty (a1J (v:=.ty "dict") rfl (T.b 9) rfl rfl) | show q_ty (a1J (v:=.ty "tuple") rfl (T.b 10) rfl rfl) | show q_ty (a1J (v:=.ty "list") rfl (T.b 11) rfl rfl)) | show a8o | show b7E | show a8p | show q_bl | refine' a8t x_sl ?_ ?_ ?_ | refine' q_ix x_ix ?_ ?_ (λ_ _=>rfl) | apply q_op | ((with_reducible change QE _ (.Call (.Name "len" _) _ _ _) _);refine' q_B b5B (T.b 3) ?_ (hv:=PySem.boot_len)) | ((with_reducible change QE _ (.Call (.Name "min" _) _ _ _) _);refine' q_B (b7V rfl) (T.b 6) ?_) | ((with_reducible change QE _ (.Call (.Name "max" _) _ _ _) _);refine' q_B (b7U rfl) (T.b 7) ?_) | ((with_reducible change QE _ (.Call (.Name "all" _) _ _ _) _);refine' q_B (b5C rfl) (T.b 0) ?_) | ((with_reducible change QE _ (.Call (.Name "isinstance" _) _ _ _) _);refine' q_B b7W (T.b 1) ?_) | ((with_reducible change QE _ (.Call (.Name "list" _) _ _ _) _);refine' q_Y b5E (T.b 11) ?_) | ((with_reducible change QE _ (.Call (.Name "tuple" _) _ _ _) _);refine' q_Y b3w (T.b 10) ?_) | refine' q_c (by walk_at "c") hr ?_ | apply a6T | apply b0y | ((with_reducible change QE _ (.Call (.Attribute _ "append" _) _ _ _) _);refine' q_bm PySem.F.plainAttrs_list PySem.F.slot_list_append PySem.F.type_list_append a4d ?_ ?_) | ((with_reducible change QE _ (.Call (.Attribute _ "extend" _) _ _ _) _);refine' q_bm PySem.F.plainAttrs_list PySem.F.slot_list_extend PySem.F.type_list_extend b0F ?_ ?_) | ((with_reducible change QE _ (.Call (.Attribute _ "find" _) _ _ _) _);refine' q_bm PySem.F.plainAttrs_str PySem.F.slot_str_find PySem.F.type_str_find b58 ?_ ?_) | ((with_reducible change QE _ (.Call (.Attribute _ "get" _) _ _ _) _);first | refine' q_bm PySem.F.plainAttrs_dict PySem.F.slot_dict_get PySem.F.type_dict_get (a6p hu) ?_ ?_ | refine' q_bm PySem.F.plainAttrs_dict PySem.F.slot_dict_get PySem.F.type_dict_get (b3s hu) ?_ ?_) | apply b5f | refine' b2O ?_ ?_ ?_ ?_ ?_ | apply b7G | refine' q_un b7S ?_ | apply b5k | apply a8r | apply b7F | apply q_if)
 | ((with_reducible change QA _ _ _);first | show a0m | refine' q_k ?_ ?_)
 | ((with_reducible change OpQ _ _ _);first | ((with_reducible change OpQ _ (gZ .Add) _);show b0A) | ((with_reducible change OpQ _ (gQ .Eq) _);show (o_eq hu)) | ((with_reducible change OpQ _ (gZ .FloorDiv) _);show b5w) | ((with_reducible change OpQ _ (gQ .Gt) _);show o_gt) | ((with_reducible change OpQ _ (gQ .Is) _);show o_is) | ((with_reducible change OpQ _ (gQ .IsNot) _);show b26) | ((with_reducible change OpQ _ (gQ .Lt) _);show o_lt) | ((with_reducible change OpQ _ (gQ .LtE) _);show o_le) | ((with_reducible change OpQ _ (gZ .Mod) _);show b7Q) | ((with_reducible change OpQ _ (gZ .Mult) _);show b7P) | ((with_reducible change OpQ _ (gQ .NotEq) _);show (o_ne hu)) | ((with_reducible change OpQ _ (gQ .NotIn) _);show (b25 hu)) | ((with_reducible change OpQ _ (gZ .Pow) _);show b7R) | ((with_reducible change OpQ _ (gZ .Sub) _);show b7O) | ((with_reducible change OpQ _ (iu .Add) _);show a8B))
 | ((with_reducible change iH _ _=_);first | show a55 _ | with_unfolding_all rfl)
 | ((with_reducible change QT _ _ _);first | apply a3L | refine' b0x ?_ ?_ ?_ ?_ ?_ | refine' QW.qt (e:=.BoolOp _ _ _) ?_ | apply b5h | refine' b7H (a:=.Call _ _ _ _) ?_ | refine' b2R ?_ (λ_=>rfl))
 | ((with_reducible change QW _ _ _);first | apply b1J | apply b5g | apply b2P | apply q_or)
 | ((with_reducible change QO _ _ _);first | show a6e | apply b1K)
 | ((with_reducible change QI _ _ _ _);first | ((with_reducible change QI _ _ (.Call (.Name "range" _) _ _ _) _);first | refine' a6V rfl (T.b 12) ?_) | apply a3a)
 | ((with_reducible change QP _ _ _);first | apply p_nm | refine' p_tp rfl ?_)
 | ((with_reducible change QPg _ _ _);first | show b8D | apply b6w)
 | ((with_reducible change Nm _ _ _);show nwI (by first | show cxN | show cxcN | show cxN' | show cxNn | show cxNh) (by with_reducible first | show at_0 | show at_1 | show at_2 | show at_3 | show at_4 | show at_5 | show at_6 | show at_7 | show at_8 | show at_9 | show b6x | show b6y) nd)
 | ((with_reducible change QS _ _ _);first | apply a1q | refine' z_st ?_ ?_ | refine' a0Y ?_ | apply z_if | refine' b5u ?_ ?_ | refine' a4O iA.never rfl ?_ ?_ ?_ | apply z_au | show b5p | show b2Y | show b5q | show b5t)
 | ((with_reducible change QSs _ _ _);first | show a4a | apply a0w | apply a0d)
 | ((with_reducible change QIfs _ _ _);first | show b20 | apply a5y)
 | ((with_reducible change Cal _ _ _ _ _ _ _ _ _);walk_at "c")
 | ((with_reducible change _<=_);decide))
local macro_rules | `(tactic| walk_at "r4")=>`(tactic| (ext _ _ _ _;ac_rfl))
set_option hygiene false in
local macro_rules | `(tactic| walk_at "r5")=>`(tactic| (ext _ _ _ _ nd;ac_rfl))
set_option hygiene false in
local macro_rules | `(tactic| walk_at "c")=>`(tactic| first | show a5c T | show a3A T | show a3p T | show a2I T | show a4o T | show a1m T | show a5a T | show a5R T | show a5X T | show a2M T | show a3C T | show a2i T | show a0P T | show a1I T | show a2e T | show a7o T | show a7b T | show b1w T | show a7j T | show a7l T | show b4f T | show a4A T | show b69 T | show a7q T | show b4k T)
def a6B(hg:Gl X x)(hm:∃t,X.mg x=cL (.int i t))(hd:(x==("__debug__":Str))=jP:=by decide):PE X (.Name x pos) (tC (.int i)):=by
 let(t,h):=hm;show a7w hg h (t,rfl) hd
def a44:P3:=λws G R=>∃a ns,ws=[.scr a ns]/\ns.length<=63/\∀G',R (.bl jO) G'
def a9w{K:Fg}{H:Hp}{E:XK}(a:Addr)(ns:List Int)(hl:ns.length<=63)(f:Fz K H a (ns.map V.int)):lowP K a44 [.ref a] H (λv _=>v=.bl jO) E:=
 ([.scr a ns],λ_=>jN,λw _=>w=.bl jO,.cons (by rw[a2o];show(rfl,f)) .nil,λ_ _ e=>(nomatch e),(a,ns,rfl,hl,λ_=>rfl),λw G v H' e r _ _=>by subst e;rw[a0q]at r;show r)
def lenK(h:Nat.ble n 1000=jO):n<=sizeLine:=df (a0l (fL h))
def a0Q(h:n<=1000):n<=sizeLine:=df (a0l h)
def b6I(x w:Int):Prop:=w=0\/(w=1/\0<=x/\x<536870909)
abbrev RowO(x w:Int):O:=.lst [.int x,.int w]
def RowAt(G:Hq)(r:Addr):Prop:=∃x w,G r=cL (RowO x w)/\b6I x w
local macro_rules | `(tactic| walk_at "sd")=>`(tactic| first | assumption | (show a0Q (by first | decide | cbv | (simp;done) | (simp;cbv))) | (show a0l (by first | decide | cbv | (simp;done) | (simp;cbv))) | decide | cbv)
local macro_rules | `(tactic| walk_at "hp")=>`(tactic| first | assumption | show a0a | (show a0c ?_ (by assumption);walk_at "hp") | (show Sm.get (by assumption) ?_;walk_at "hp"))
local macro_rules | `(tactic| walk_at "go1")=>`(tactic| with_reducible (first
 | apply b75 | show b7X (by with_unfolding_all rfl) ?_ | apply i_c | apply i_op | apply i_un | apply b5J | apply b29 | apply b7Y | apply i_or | apply b7Z | apply b5K | apply b70 | apply b5L | apply i_if
 | apply b71 | apply i_truI | apply i_truB | apply i_sl | apply b0G | apply b5M | apply b72 | apply b5N | apply b73 | apply b74 | apply i_cb | apply i_uss | apply i_bm0 | apply i_bm | apply b5O
 | apply b5P | apply b5Q | apply b76 | apply i_retN | apply b77 | apply b78 | apply b79 | show i_aug (by with_unfolding_all rfl) ?_ | apply i_break | apply i_cont | apply b5W | apply b8i | apply i_iL | apply i_iT | apply i_iS | apply b8j | apply i_iR2 | apply b8k | apply b8l | apply b8m | apply i_tt
 | apply b5R | apply i_I0 | apply b8a | apply i_CI | apply i_CS | apply b3a | apply i_isB | apply b5S | apply i_eqB | apply b5T | apply b8b | apply i_inS | apply b5U | apply i_nm | show a3y (by with_unfolding_all rfl) ?_ | apply i_lenT | apply b5V | apply i_mm | apply b8h
 | apply ifT | apply ifF | apply ifNN | apply ifNI | apply ifNS | apply ifNU | apply ifMN | apply ifMI | apply ifMS | apply ifMU | show a3y at0 ?_ | show a3y at1 ?_ | show a3y at2 ?_ | apply b59 | apply i_iRev | apply i_iR3 | apply i_iZip | apply b6d | apply b3n | apply b3o | apply b6e | apply b6f | apply i_disp | apply i_pcons | apply i_pnil | show(_,rfl,?_)))
local macro_rules | `(tactic| walk_at "go")=>`(tactic| repeat walk_at "go1")
local macro_rules | `(tactic| lk)=>`(tactic| walk_at "go")
def a7a:P3:=λws G R=>∃p ns k,ws=[.scr p ns,.int k]/\0<=k/\∀i,R (.int i) G
variable{P:gO}{w:World}{K:Fg}{mg:Str->Option Value}{base:Heap}{a:Ad}
set_option tactic.hygienic true in
def a7b(T:Txt K mg a):Cal P w K mg base CX0 1 "_law_cell_at" (lowP K a7a):=by
 show fnc 2 (N:=["script","k"]) T.br (T.f 20 _ rfl) ?_;walk_at "in";show(_,(by ac_rfl),?_);let(p,ns,k,rfl,hk,q):=h;lk;show ifD (λc=>?_) λ_=>?_
 .let(j,rfl):=d3 hk;let hj:j<ns.length:=by lia
  lk;show b8c (a1K (cu hj)) (q _)
 .lk;show q _
def RowAt.new(h:RowAt G r)(n:G p=jN):RowAt (put G p o) r:=by
 let(x,w,e,k):=h;show(x,w,a0c e n,k)
def RowAt.at{G:Hq}{r:Addr}{x w:Int}(k:b6I x w):RowAt (put G r (RowO x w)) r:=(x,w,a0a,k)
structure Rw where
 b:Int
 e:Option Int
 w:List Z
@[reducible] noncomputable def oz:Option Int->Z
 |none=>.non
 |some i=>.int i
def b6J(h:oz x=oz y):x=y:=by
 cases x<;>cases y<;>first |rfl |cases h<;>rfl
noncomputable def Rw.z(r:Rw):Z:=.tup (.int r.b::oz r.e::r.w)
def Rw.z_inj{r s:Rw}(h:r.z=s.z):r=s:=by
 let(b,e,w):=r;simp only[Rw.z,Z.tup.injEq,dC.injEq,Z.int.injEq]at h;let(rfl,a,rfl):=h;rw[b6J a]
noncomputable def bef(t:Int):Option Int->Bool
 |none=>jO
 |some e=>decide (t<e)
noncomputable def Rw.has(r:Rw)(t:Int):Bool:=decide (r.b<=t)&&bef t r.e
def Rw.good(r:Rw):Prop:=bef r.b r.e=jO
noncomputable def val(l:List Rw)(t:Int):Option (List Z):=(l.find? (·.has t)).map (·.w)
def a1s:val [] t=jN:=rfl
def a0s:val (r::l) t=if r.has t=jO then cL r.w else val l t:=by
 unfold val;rw[da];cases h:r.has t<;>simp
def a0J:val (l++m) t=(val l t).or (val m t):=by
 unfold val;rw[gb];cases h:l.find? _<;>simp
def Lt(r s:Rw):Prop:=∃e,r.e=cL e/\e<=s.b
def Lt2(r s:Rw):Prop:=∃e,r.e=cL e/\e<=s.b/\(e=s.b->r.w≠s.w)
def Rise(l:List Rw):Prop:=(∀r∈l,r.good)/\l.Pairwise Lt
def Can(l:List Rw):Prop:=(∀r∈l,r.good)/\l.Pairwise Lt2
def Lt2.lt{r s:Rw}(h:Lt2 r s):Lt r s:=let (e,a,b,_):=h;(e,a,b)
noncomputable def Can.rise(h:Can l):Rise l:=(h.1,h.2.imp Lt2.lt)
def Can.nil:Can []:=(λ_ h=>by simp at h,.nil)
def Rise.nil:Rise []:=Can.nil.rise
def Can.tail(h:Can (r::l)):Can l:=(λs a=>h.1 s (.tail _ a),(cG.mp h.2).2)
def Rise.tail(h:Rise (r::l)):Rise l:=(λs a=>h.1 s (.tail _ a),(cG.mp h.2).2)
def a7c{r:Rw}(h:r.good):r.has r.b=jO:=by
 unfold Rw.has;rw[h];simp
noncomputable def Lt.has(h:Lt r s)(a:r.has t=jO):s.has t=jP:=by
 let(e,c,d):=h;unfold Rw.has at a ⊢;rw[c]at a;simp only[bef,cV,decide_eq_true_eq]at a
 let:decide (s.b<=t)=jP:=decide_eq_false (by lia)
 rw[this,ge]
def Lt.b(g:r.good)(h:Lt r s):r.b<s.b:=by
 let(e,a,c):=h
 let:bef r.b r.e=jO:=g
 rw[a]at this;simp only[bef,decide_eq_true_eq]at this
 lia
def a4l(h:∀r∈l,r.has t=jP):val l t=jN:=by simp_all[val]
def b1a{l:List Rw}{t:Int}{w:List Z}(h:val l t=cL w):∃r∈l,r.has t=jO/\r.w=w:=by
 induction l with
 |nil=>cases h
 |cons r l ih=>
  rw[a0s]at h
  split at h
  .next e=>cases h;show(r,.head _,e,rfl)
  .let(s,h1,h2):=ih h;show(s,.tail _ h1,h2)
def b6K{r:Rw}(h:t<r.b):r.has t=jP:=by
 unfold Rw.has;rw[decide_eq_false (by lia),ge]
def b6L(h:Can (r::l))(h':Can (s::m))(q:∀t,val (r::l) t=val (s::m) t):¬ r.b<s.b:=λc=>by
 let d:=q r.b;rw[a0s,a7c (h.1 r (.head _)),if_pos rfl,a4l]at d
 .grind
 .ext x a;show b6K ?_;let rfl||a:=cf.mp a
  .cbv
  .let:=(((cG.mp h'.2).1 x a).lt).b (h'.1 s (.head _))
   lia
def b3N(h:Can (r::l))(hb:r.b=s.b)(hw:r.w=s.w)(q:∀t,val (r::l) t=val (s::m) t)(he:r.e=cL e):bef e s.e=jP:=by
 cases hc:bef e s.e with
 |false=>rfl
 |true=>
  exfalso;let g:bef r.b r.e=jO:=h.1 r (.head _)
  rw[he]at g;simp only[bef,decide_eq_true_eq]at g;let c:=q e;let i:s.has e=jO:=by unfold Rw.has;rw[hc,decide_eq_true (show s.b<=e by lia)];rfl
  let k:r.has e=jP:=by unfold Rw.has;rw[he];simp[bef]
  rw[a0s,a0s,i,k,if_pos rfl,if_neg (by simp)]at c;let(x,n,a,d):=b1a c;let(u,f,p,j):=(cG.mp h.2).1 x n;rw[he]at f;cases f;let o:x.b<=e:=by unfold Rw.has at a;simp at a;show a.1
  show j (by lia) (by simp_all)
theorem b18:∀{l m:List Rw},Can l->Can m->(∀t,val l t=val m t)->l=m
 |[],[],_,_,_=>rfl
 |[],s::m,_,h',q=>by
  let:=q s.b
  rw[a1s,a0s,a7c (h'.1 s (.head _)),if_pos rfl]at this;cases this
 |r::l,[],h,_,q=>by
  let:=q r.b
  rw[a1s,a0s,a7c (h.1 r (.head _)),if_pos rfl]at this;cases this
 |r::l,s::m,h,h',q=>by
  let a:r.b=s.b:=by
   let f:=b6L h h' q;let g:=b6L h' h λt=>(q t).symm
   lia
  let c:r.w=s.w:=by
   let f:=q r.b;let g:s.has r.b=jO:=a▸a7c (h'.1 s (.head _));rw[a0s,a0s,a7c (h.1 r (.head _)),g,if_pos rfl,if_pos rfl]at f;show cL.inj f
  let i:r.e=s.e:=by
   cases e1:r.e with
   |none=>
    cases e2:s.e with
    |none=>rfl
    |some e=>
     let:=b3N h' a.symm c.symm (λt=>(q t).symm) e2
     rw[e1]at this;cases this
   |some e=>
    let:=b3N h a c q e1
    cases e2:s.e with
    |none=>rw[e2]at this;cases this
    |some e'=>
     let k:=b3N h' a.symm c.symm (λt=>(q t).symm) e2;rw[e1]at k;rw[e2]at this;simp only[bef,decide_eq_false_iff_not]at this k
     congr 1
     lia
  let j:r=s:=by
   let(_,_,_):=r;simp only at a c i;rw[a,c,i]
  subst j
  congr 1
  show b18 h.tail h'.tail λt=>?_;cases ht:r.has t with
  |true=>
   rw[a4l λx d=>((cG.mp h.2).1 x d).lt.has ht,a4l λx d=>((cG.mp h'.2).1 x d).lt.has ht]
  |false=>
   let:=q t
   rw[a0s,a0s,ht,if_neg (by simp),if_neg (by simp)]at this;show this
noncomputable def jn(told:List Rw)(p:Rw):List Rw:=match told.getLast? with
 |some l=>if l.e=cL p.b/\l.w=p.w then told.dropLast++[(l.b,p.e,p.w)] else told++[p]
 |none=>told++[p]
noncomputable def join(ps:List Rw):List Rw:=ps.foldl jn []
def a18{α:Type}{l:List α}{x:α}(h:l.getLast?=cL x):l=l.dropLast++[x]:=by
 let(a,rfl):=List.getLast?_eq_some_iff.mp h;simp
def b8J(h:Can told)(g:p.good)(hlt:∀r∈told,Lt r p):Can (jn told p)/\(∀t,val (jn told p) t=(val told t).or (val [p] t))/\(∀x,(∀r∈told,Lt r x)->Lt p x->∀r∈jn told p,Lt r x)/\(jn told p).length<=told.length+1/\∀r∈jn told p,r.w=p.w\/∃r'∈told,r.w=r'.w:=by
 unfold jn;cases hl:told.getLast? with
 |none=>
  let:told=[]:=gg.mp hl
  subst this;show((λr a=>by simp at a;rw[a];show g,by simp),λt=>by simp[a1s],λx _ f r a=>by simp at a;rw[a];show f,by simp,λr a=>by simp at a;rw[a];show .inl rfl)
 |some l=>
  let d:=a18 hl;generalize told.dropLast=init at d;subst d;let i:l∈init++[l]:=by simp
  let k:=cy.mp h.2;dsimp only
  split
  .next hc=>
   let(n,o):=hc;let D:l.b<p.b:=by
    let:bef l.b l.e=jO:=h.1 l i
    rw[n]at this;simpa[bef]using this
   let v:((l.b,p.e,p.w):Rw).good:=by
    change bef l.b p.e=jO
    let:bef p.b p.e=jO:=g
    cases hpe:p.e with
    |none=>rfl
    |some e=>
     rw[hpe]at this;simp only[bef,decide_eq_true_eq]at this ⊢
     lia
   show((λr a=>?_,?_),λt=>?_,λx m f r a=>?_,by simp,λr a=>?_)
   .let a||a:=b9.mp a
    .show h.1 r (by simp[a])
    .rw[cc.mp a];show v
   .show cy.mpr (k.1,by simp,λr a s d=>?_);rw[cc.mp d];let(e,c,j,A):=k.2.2 r a l (by simp);show(e,c,j,λz=>by rw[<- o];show A z)
   .rw[a0J,a0J];cases val init t with
    |some w=>rfl
    |none=>
     let y:((l.b,p.e,p.w):Rw).has t=(l.has t||p.has t):=by
      unfold Rw.has;rw[n]
      let:bef p.b p.e=jO:=g
      cases hpe:p.e with
      |none=>
       simp only[bef,d4]
       by_cases c1:l.b<=t<;>by_cases c2:t<p.b<;>by_cases c3:p.b<=t<;>simp[c1,c2,c3]<;>lia
      |some e=>
       rw[hpe]at this;simp only[bef,decide_eq_true_eq]at this ⊢
       by_cases c1:l.b<=t<;>by_cases c2:t<p.b<;>by_cases c3:p.b<=t<;>by_cases c4:t<e<;>simp[c1,c2,c3,c4]<;>lia
     simp only[a0s,a1s,y,o,Option.none_or];cases l.has t<;>cases p.has t<;>simp
   .let a||a:=b9.mp a
    .show m r (by simp[a])
    .rw[cc.mp a];let(e,c,j):=f;show(e,c,j)
   .let a||a:=b9.mp a
    .show .inr (r,by simp[a],rfl)
    .rw[cc.mp a];show .inl rfl
  .next hc=>
   show((λr a=>?_,?_),λt=>a0J,λx m f r a=>?_,by simp,λr a=>?_)
   .let a||a:=b9.mp a
    .show h.1 r a
    .rw[cc.mp a];show g
   .show cy.mpr (h.2,by simp,λr a s d=>?_);rw[cc.mp d];let(e,c,j):=hlt r a;show(e,c,j,λz u=>?_);let hr'||hr':=b9.mp a
    .let(C,q,B,_):=k.2.2 r hr' l (by simp);rw[c]at q;cases q
     let:=(hlt l i).b (h.1 l i)
     lia
    .simp_all
   .let a||a:=b9.mp a
    .show m r a
    .rw[cc.mp a];show f
   .let a||a:=b9.mp a
    .show .inr (r,a,rfl)
    .rw[cc.mp a];show .inl rfl
def b3O:∀(ps told:List Rw),Can told->Rise ps->(∀r∈told,∀p∈ps,Lt r p)->Can (ps.foldl jn told)/\(∀t,val (ps.foldl jn told) t=(val told t).or (val ps t))/\(ps.foldl jn told).length<=told.length+ps.length/\∀r∈ps.foldl jn told,∃r'∈told++ps,r.w=r'.w:=by ext z0;induction z0 with
 |nil=>ext told h _ _;show(h,λt=>by simp[a1s],by simp,λr f=>(r,↑f,rfl))
 |cons p ps I0=>
  ext told h f hlt;let a:=b8J h (f.1 p (.head _)) λr q=>hlt r q p (.head _);let b:=I0 _ a.1 f.tail λr q x j=>a.2.2.1 x (λg k=>hlt g k x (.tail _ j)) ((cG.mp f.2).1 x j) r q;show(b.1,λt=>?_,?_,λr i=>?_)
  .change val (ps.foldl jn _) t=_
   rw[b.2.1 t,a.2.1 t,show p::ps=[p]++ps from rfl,a0J,Option.or_assoc]
  .grind
  .let(g,c,d):=b.2.2.2 r i;let c||c:=b9.mp c
   .let e||(r2,e1,e2):=a.2.2.2.2 g c
    .show(p,by simp,d.trans e)
    .grind
   .show(g,by simp[c],d)
def b3P(h:Rise ps):Can (join ps)/\(∀t,val (join ps) t=val ps t)/\(join ps).length<=ps.length/\∀r∈join ps,∃r'∈ps,r.w=r'.w:=by
 let:=b3O ps [] .nil h λr a=>by simp at a
 unfold join;show(this.1,λt=>by rw[this.2.1 t];rfl,↑this.2.2.1,↑this.2.2.2)
noncomputable def emin:Option Int->Option Int->Option Int
 |none,o=>o
 |some e,jN=>cL e
 |some e,cL o=>cL (if o<e then o else e)
noncomputable def a1G(m:Option Int)(r:Rw):Option Rw:=if bef r.b m=jO then cL (r.b,emin r.e m,r.w) else jN
noncomputable def ahead(m:Option Int)(l:List Rw):List Rw:=l.filterMap (a1G m)
noncomputable def a4m(m:Int)(r:Rw):Option Rw:=if bef m r.e=jO then cL (if m > r.b then m else r.b,r.e,r.w) else jN
noncomputable def fromOn(m:Int)(l:List Rw):List Rw:=l.filterMap (a4m m)
def b19(h1:∀r r',f r=cL r'->r'.has t=(r.has t&&c)/\r'.w=r.w)(h2:∀r,f r=jN->(r.has t&&c)=jP):∀l:List Rw,val (l.filterMap f) t=if c=jO then val l t else jN:=by ext z0;induction z0 with
 |nil=>simp[a1s]
 |cons r l I0=>
  let a:=I0;rw[cW];cases hf:f r with
  |none=>
   let:=h2 r hf
   rw[a,a0s];cases c with
   |true=>rw[d4]at this;rw[this];rfl
   |false=>rfl
  |some r'=>
   let(d,b):=h1 r r' hf;rw[a0s,a,d,b,a0s];cases c<;>cases r.has t<;>rfl
def a6C:bef t (emin x y)=(bef t x&&bef t y):=by
 cases x with
 |none=>cases y<;>simp[bef,emin]
 |some a=>
  cases y with
  |none=>simp[bef,emin]
  |some b=>
   simp only[bef,emin];rw[<- Bool.decide_and];apply a0L;rw[eq_iff_iff]
   split<;>cbv
def a45(m:Option Int)(l:List Rw)(t:Int):val (ahead m l) t=if bef t m=jO then val l t else jN:=by
 show b19 (λr a h=>?_) (λr h=>?_) l
 .unfold a1G at h
  split at h
  .cases h;show(?_,rfl);unfold Rw.has;simp only[a6C,Bool.and_assoc]
  .cases h
 .unfold a1G at h
  split at h
  .cases h
  .next hc=>
   unfold Rw.has;cases m with
   |none=>show absurd rfl hc
   |some m=>
    simp only[bef,decide_eq_true_eq]at hc ⊢
    by_cases c1:r.b<=t
    .rw[decide_eq_false (show ¬ t<m by lia),dy]
    .rw[decide_eq_false c1];rfl
def b1b(m:Int)(l:List Rw)(t:Int):val (fromOn m l) t=if m<=t then val l t else jN:=by
 let:(if m<=t then val l t else jN)=if decide (m<=t)=jO then val l t else jN:=by simp
 rw[this];show b19 (λr a h=>?_) (λr h=>?_) l
 .unfold a4m at h
  split at h
  .cases h;unfold Rw.has
   let:decide ((if m > r.b then m else r.b)<=t)=(decide (r.b<=t)&&decide (m<=t)):=by grind
   rw[this];cases decide (r.b<=t)<;>cases decide (m<=t)<;>simp
  .cases h
 .unfold a4m at h
  split at h
  .cases h
  .next hc=>
   unfold Rw.has;cases he:r.e with
   |none=>rw[he]at hc;show absurd rfl hc
   |some e=>
    rw[he]at hc;simp only[bef]at hc ⊢
    by_cases c1:m<=t
    .grind
    .simp_all
def a19(h:x∈ahead m l):∃r∈l,bef r.b m=jO/\x=(r.b,emin r.e m,r.w):=by
 let(r,d,a):=dH.mp h;unfold a1G at a
 split at a
 .next c=>cases a;show(r,d,c,rfl)
 .cases a
def a23(h:x∈fromOn m l):∃r∈l,bef m r.e=jO/\x=(if m > r.b then m else r.b,r.e,r.w):=by
 let(r,d,a):=dH.mp h;unfold a4m at a
 split at a
 .next c=>cases a;show(r,d,c,rfl)
 .cases a
def b6M(hf:∀r s r' s',R r s->f r=cL r'->f s=cL s'->R r' s'):∀{l:List Rw},l.Pairwise R->(l.filterMap f).Pairwise R:=by ext z0;induction z0 with
 |nil=>ext _;simp
 |cons r l I0=>
  ext h;let b:=cG.mp h;let c:=I0 b.2;rw[cW];cases e:f r with
  |none=>show c
  |some r'=>
   show cG.mpr (λs i=>?_,c);let(a,d,g):=dH.mp i;show hf r a r' s (b.1 a d) e g
def b3Q{x:Int}{m:Option Int}:∃e,emin (cL x) m=cL e/\e<=x:=by
 cases m with
 |none=>show(x,rfl,cK _)
 |some o=>
  show(_,rfl,?_)
  split<;>lia
def a7d(m:Option Int)(h:Rise l):Rise (ahead m l):=by
 show(λx j=>?_,b6M (λr s t p d a c=>?_) h.2)
 .let(r,k,i,rfl):=a19 j
  change bef r.b _=jO
  rw[a6C,i,d4];show h.1 r k
 .unfold a1G at a c
  split at a
  .split at c
   .cases a;cases c;let(e,g,o):=d;let(f,n,q):=@b3Q e m;show(f,by rw[<- n,<- g],by change f<=s.b;lia)
   .grind
  .grind
def a9x(m:Int)(h:Rise l):Rise (fromOn m l):=by
 show(λx j=>?_,b6M (λr s n k d a c=>?_) h.2)
 .let(r,f,g,rfl):=a23 j
  split
  .show g
  .show h.1 r f
 .unfold a4m at a c
  split at a
  .split at c
   .cases a;cases c;let(e,i,o):=d;show(e,i,by change e<=(if m > s.b then m else s.b);split<;>cbv)
   .grind
  .grind
def a46(m:Option Int)(l:List Rw):(ahead m l).length<=l.length:=dU _ _
def b1c(m:Int)(l:List Rw):(fromOn m l).length<=l.length:=dU _ _
def b1d(hbe:b<=e):∀{l:List Rw},Rise l->(ahead (cL b) l).length+(fromOn e l).length<=l.length+1:=by ext z0;induction z0 with
 |nil=>ext _;simp[ahead,fromOn]
 |cons r l I0=>
  ext h;let i:=I0 h.tail;let c:(ahead (cL b) (r::l)).length=(if bef r.b (cL b)=jO then 1 else 0)+(ahead (cL b) l).length:=by
   unfold ahead;unfold a1G
   split
   .grind
   .grind
  let a:(fromOn e (r::l)).length=(if bef e r.e=jO then 1 else 0)+(fromOn e l).length:=by
   unfold fromOn;unfold a4m
   split
   .grind
   .grind
  rw[c,a,ci]
  by_cases c1:bef r.b (cL b)=jO
  .by_cases c2:bef e r.e=jO
   .let:ahead (cL b) l=[]:=by
     unfold ahead;rw[List.filterMap_eq_nil_iff];ext s g;unfold a1G;let(j,f,k):=((cG.mp h.2).1) s g;rw[f]at c2;simp only[bef,decide_eq_true_eq]at c1 c2 ⊢;rw[if_neg (by lia)]
    let:=b1c e l
    simp_all
    lia
   .grind
  .rw[if_neg c1];split<;>lia
noncomputable def a1i(l:List Rw)(b:Int)(e:Option Int)(w:Option (List Z)):List Rw:=
 ahead (cL b) l++(match w with |some w=>[(b,e,w)] |none=>[])++(match e with |some e=>fromOn e l |none=>[])
def a47{l:List Rw}{b:Int}{e:Option Int}{w:Option (List Z)}(h:Rise l)(g:bef b e=jO):Rise (a1i l b e w)/\(∀t,val (a1i l b e w) t=if (decide (b<=t)&&bef t e)=jO then w else val l t)/\(a1i l b e w).length<=l.length+2:=by
 let hA:=a7d (cL b) h;let eA:∀r∈ahead (cL b) l,∃x,r.e=cL x/\x<=b:=λr hr=>by
  let(r0,_,_,rfl):=a19 hr
  change ∃x,emin r0.e (cL b)=cL x/\x<=b
  cases r0.e with
  |none=>show(b,rfl,cK _)
  |some x=>show(_,rfl,?_);split<;>cbv
 let hM:Rise (match w with |some w=>[((b,e,w):Rw)] |none=>[]):=by
  cases w with
  |none=>show .nil
  |some w=>show(λr hr=>by rw[cc.mp hr];show g,by simp)
 let mM:∀r∈(match w with |some w=>[((b,e,w):Rw)] |none=>[]),r.b=b/\r.e=e:=λr hr=>by
  cases w with
  |none=>simp at hr
  |some w=>rw[cc.mp hr];show(rfl,rfl)
 let vM:∀t,val (match w with |some w=>[((b,e,w):Rw)] |none=>[]) t=if (decide (b<=t)&&bef t e)=jO then w else jN:=λt=>by
  cases w with
  |none=>simp[a1s]
  |some w=>rw[a0s,a1s];rfl
 let app:∀{A B:List Rw},Rise A->Rise B->(∀r∈A,∀s∈B,Lt r s)->Rise (A++B):=λha hb hab=>(λr hr=>(b9.mp hr).elim (ha.1 r) (hb.1 r),cy.mpr (ha.2,hb.2,hab));unfold a1i;cases e with
 |none=>
  dsimp only;rw[cE];show(app hA hM λr hr s hs=>?_,λt=>?_,?_)
  .let(x,a1,a2):=eA r hr;show(x,a1,by rw[(mM s hs).1];show a2)
  .rw[a0J,a45,vM];simp only[bef,d4,decide_eq_true_eq]
   by_cases c:b<=t
   .rw[if_neg (by cbv),if_pos c,if_pos c];rfl
   .rw[if_pos (by cbv),if_neg c,if_neg c];simp
  .rw[cj]
   let:=a46 (cL b) l
   cases w<;>simp<;>cbv
 |some e=>
  let hbe:b<e:=by simpa[bef]using g
  let hF:=a9x e h;let bF:∀s∈fromOn e l,e<=s.b:=λs hs=>by
   let(r0,_,_,rfl):=a23 hs
   change e<=(if e > r0.b then e else r0.b)
   split<;>cbv
  dsimp only;show(app (app hA hM λr hr s hs=>?_) hF λr hr s hs=>?_,λt=>?_,?_)
  .let(x,a1,a2):=eA r hr;show(x,a1,by rw[(mM s hs).1];show a2)
  .let hs':=bF s hs;let hr||hr:=b9.mp hr
   .let(x,a1,a2):=eA r hr;show(x,a1,by cbv)
   .show(e,(mM r hr).2,hs')
  .rw[a0J,a0J,a45,vM,b1b];simp only[bef,cV,decide_eq_true_eq]
   by_cases c1:b<=t
   .by_cases c2:t<e
    .rw[if_neg (by cbv),if_pos (c1,c2),if_neg (by cbv),if_pos (c1,c2)];simp
    .rw[if_neg (by cbv),if_neg (by cbv),if_pos (by cbv),if_neg (by cbv)];rfl
   .rw[if_pos (by cbv),if_neg (by cbv),if_neg (by cbv),if_neg (by cbv)];simp
  .rw[cj,cj]
   let:=b1d (b:=b) (e:=e) (by cbv) h
   cases w<;>simp<;>cbv
noncomputable def a2A(puts:List Rw)(t:Int):Z:=match puts.reverse.find? (·.has t) with
 |some r=>r.w.headD .non
 |none=>.non
noncomputable def optW(z:Z):Option (List Z):=if z=.non then jN else cL [z]
def a5O(puts:List Rw)(p:Rw)(t:Int):a2A (puts++[p]) t=if p.has t=jO then p.w.headD .non else a2A puts t:=by
 unfold a2A;rw[dD,dR,List.reverse_nil,dL,eS,da];cases p.has t<;>rfl
noncomputable def a48(l:List Rw)(b:Int)(e:Option Int)(w:Option (List Z)):List Rw:=join (a1i l b e w)
def b1e{l:List Rw}{b:Int}{e:Option Int}{w:Option (List Z)}(h:Rise l)(g:bef b e=jO):Can (a48 l b e w)/\(∀t,val (a48 l b e w) t=if (decide (b<=t)&&bef t e)=jO then w else val l t)/\(a48 l b e w).length<=l.length+2:=by
 let a:=a47 (w:=w) h g;let j:=b3P a.1;show(j.1,λt=>by rw[<- a.2.1 t];show j.2.1 t,cw j.2.2.1 a.2.2)
def okW(w:List Z):Prop:=w≠[]/\w.length<=4/\w.all (flat 4)=jO
def OkR(l:List Rw):Prop:=∀r∈l,okW r.w
def a1t:∀{n m:Nat}{z:Z},n<=m->flat n z=jO->flat m z=jO:=by
 ext n
 induction n with
 |zero=>ext m z _ h;cases z<;>first | (simp[flat]at h;done) | (cases m<;>simp_all[flat])
 |succ n ih=>
  ext m z b h;cases m with
  |zero=>lia
  |succ m=>
   cases z with
   |tup ws=>
    simp only[flat,dB]at h ⊢;show λx a=>ih (by lia) (h x a)
   |_=>first | (simp[flat];done) | (simp[flat]at h;done) | (simp only[flat]at h ⊢;show h)
def b1f{ws:List Z}(hm:n<=m)(h:ws.all (flat n)=jO):ws.all (flat m)=jO:=by
 rw[dB]at h ⊢;show λx a=>a1t hm (h x a)
def b1g:flat n (.int i)=jO:=by cases n<;>rfl
def b1h:flat n .non=jO:=by cases n<;>rfl
def b8K(h:R (.bl (!e.isSome)) G):zIs jP (oz e) .non G R:=by
 cases e with
 |none=>show b3a h
 |some e=>show b3a h
def b6N(h:R (.bl (decide (e=cL b))) G):zEq id (oz e) (.int b) G R:=by
 cases e with
 |none=>
  show ((b1h,b1g,?_))
  let:decide (Z.non=Z.int b)=decide (jN=cL b):=by simp
  show h
 |some e=>
  show b5T ?_
  let:decide (e=b)=decide (cL e=cL b):=a0L (by simp)
  rw[this];show h
def b8L(h1:flat 8 (.tup xs)=jO)(h2:flat 8 (.tup ys)=jO)(h:R (.bl (f (decide (xs=ys)))) G):zEq f (.tup xs) (.tup ys) G R:=by
 show ((h1,h2,?_));rw[a0L (Z.tup.injEq _ _)];show h
def a2H:P3:=λws G R=>∃x y,ws=[oz x,oz y]/\R (oz (emin x y)) G
set_option tactic.hygienic true in
def a2I(T:Txt K mg a):Cal P w K mg base CX0 1 "earlier_end" (lowP K a2H):=by
 show fnc 2 (N:=["end","other"]) T.br (T.f 3 _ rfl) ?_;walk_at "in";show(_,(by ac_rfl),?_);let(x,y,rfl,q):=h;cases x with
 |none=>
  lk;cases y<;>show q
 |some x=>
  cases y with
  |none=>
   lk;show q
  |some y=>
   lk;show q
def a9y{α β:Type}{l:List α}{g:α->Z}{g':β->Z}(f:α->Option β)(hok:∀ys,ok (put G1 D (.lst ys)))(hz:l.length<=1000)
  (turn:∀x,x∈l->∀(ys:List Z)(K1:K3)(K2:Hq->Prop),(∀y,f x=cL y->K1 (g' y) (put G1 D (.lst ys)))->(f x=jN->K2 (put G1 D (.lst ys)))->∃σ',a2E pt (g x) (cap3 cap σ)=cL σ'/\tt σ' (put G1 D (.lst ys)) λb G4=>if b=jO then te σ' G4 K1 else K2 G4)
  (fin:R (.ref D) (put G1 D (.lst ((l.filterMap f).map g')))):LCB (l.map g) ok cap pt tt te σ R D G1:=by
 show a4P (λi c G=>c=((l.take i).filterMap f).map g'/\G=put G1 D (.lst c)) (by simp,rfl) ?_ ?_ ?_
 .simp_all
 .ext i x c G d ⟨e,rfl⟩;rw[cg]at d;cases hx':l[i]? with
  |none=>rw[hx']at d;cases d
  |some a=>
   rw[hx']at d;cases d;show turn a (cx hx') c _ _ (λy j=>(a0a,?_,?_,?_)) λh=>(?_,rfl)
   .rw[e,b7];show eI (cw (dU _ _) (by rw[cz];lia)) (a0l (b8 1000))
   .rw[a0C hx',j,e,cq];rfl
   .rw[a2p]
   .rw[a0C hx',h,e];simp
 .simp_all
def One(l:List Rw):Prop:=∀r∈l,∃x,r.w=[x]
def a4n:P3:=λws G R=>∃p l m,ws=[.ref p,oz m]/\G p=cL (.lst (l.map Rw.z))/\One l/\l.length<=1000/\∀t,G t=jN->R (.ref t) (put G t (.lst ((ahead m l).map Rw.z)))
set_option tactic.hygienic true in
def a4o(T:Txt K mg a):Cal P w K mg base CX0 2 "ahead_of" (lowP K a4n):=by
 show fnc 2 (N:=["line","moment"]) T.br (T.f 4 _ rfl) ?_;walk_at "in";show(_,(a0w (a1q (q_l ["begin","end","worth","moment"] [jN,jN,jN,cL 1] (.tp [0,1,2])))),?_);let(p,l,m,rfl,hp,h1,hz,q):=h;lk;show a12 hp ?_;ext D hD;show a9y (a1G m) (λys=>a0c hp hD) hz ?_ (q D hD);ext r hr ys K1 K2 k1 k2;let(x,hx):=h1 r hr;let(b,e,w):=r;cases hx;show(_,rfl,?_);cases m with
 |none=>
  lk;show(e,jN,rfl,?_);lk;show(lenK rfl,?_);show k1 _ rfl
 |some m=>
  lk;show ifD (λc=>?_) λc=>?_
  .lk;show(e,cL m,rfl,?_);lk;show(lenK rfl,?_);show k1 (b,emin e (cL m),[x]) ?_;unfold a1G;rw[if_pos (by simpa[bef]using c)]
  .show k2 ?_;unfold a1G;rw[if_neg (by simpa[bef]using c)]
def a49:P3:=λws G R=>∃p l m,ws=[.ref p,.int m]/\G p=cL (.lst (l.map Rw.z))/\One l/\l.length<=1000/\∀t,G t=jN->R (.ref t) (put G t (.lst ((fromOn m l).map Rw.z)))
set_option tactic.hygienic true in
def a5a(T:Txt K mg a):Cal P w K mg base CX0 1 "from_on" (lowP K a49):=by
 show fnc 2 (N:=["line","moment"]) T.br (T.f 6 _ rfl) ?_;walk_at "in";show(_,(a0w (a1q (q_l ["begin","end","worth","moment"] [jN,jN,jN,cL 1] (.tp [0,1,2])))),?_);let(p,l,m,rfl,hp,h1,hz,q):=h;lk;show a12 hp ?_;ext D hD;show a9y (a4m m) (λys=>a0c hp hD) hz ?_ (q D hD);ext r hr ys K1 K2 k1 k2;let(x,hx):=h1 r hr;let(b,e,w):=r;cases hx;show(_,rfl,?_);cases e with
 |none=>
  lk;show(lenK rfl,?_);show k1 (if m > b then m else b,jN,[x]) rfl
 |some e=>
  lk;show ifD (λc=>?_) λc=>?_
  .lk;show(lenK rfl,?_);show k1 (if m > b then m else b,cL e,[x]) ?_;unfold a4m;rw[if_pos (by simpa[bef]using c)]
  .show k2 ?_;unfold a4m;rw[if_neg (by simpa[bef]using c)]
def a9z(h:0<n):ixN n (-1)=cL (n-1):=by grind [ixN]
def a5P{α:Type}{l:List α}{x:α}(h:l.getLast?=cL x):atI l (-1)=cL x:=by
 let a:l≠[]:=λz=>by subst z;simp at h
 unfold atI;rw[a9z (dW.mpr a)]
 change l[l.length-1]?=cL x
 rw[<- List.getLast?_eq_getElem?];show h
def b1i{α:Type}{l:List α}{x y:α}(h:l.getLast?=cL x):l.set (l.length-1) y=l.dropLast++[y]:=by
 let a:=a18 h;generalize l.dropLast=i at a;subst a;simp
def sIx2{a b:Z}{w:List Z}:HT.sIx (a::b::w).length 0 (cL 2)=2:=by
 let:=HT.sIx_nat (a::b::w).length 0 2
 rw[show ((2:Nat):Int)=2 from rfl]at this;rw[this];simp
def cut2{a b:Z}{w:List Z}:cutZ (a::b::w) (cL 2) jN=w:=by
 unfold cutZ;rw[sIx2,HT.sIx_none];simp
def a9A{a b:Z}{w:List Z}:¬ (HT.sIx (a::b::w).length 0 (cL 2)=0/\HT.sIx (a::b::w).length (a::b::w).length jN=(a::b::w).length):=by
 rw[sIx2];ext h;show absurd h.1 (by decide)
def a0G:P3:=λws G R=>∃p ps,ws=[.ref p]/\G p=cL (.lst (ps.map Rw.z))/\OkR ps/\ps.length<=1000/\∀t,G t=jN->R (.ref t) (put G t (.lst ((join ps).map Rw.z)))
def b3R{G:Hq}{R:K3}{a b:Z}{w:List Z}(h:R (.tup w) G):zSl (.tup (a::b::w)) (cL 2) jN G R:=b0H a9A (by rw[cut2];show h)
def a9B{w:List Z}(h:okW w):flat 8 (.tup w)=jO:=b1f (n:=4) (m:=7) (by decide) h.2.2
set_option tactic.hygienic true in
def b1j:∀(ps told:List Rw),OkR told->OkR ps->OkR (ps.foldl jn told):=by ext z0;induction z0 with
 |nil=>ext _ h _;show h
 |cons p ps I0=>
  ext told h h';show I0 _ (λr a=>?_) λr a=>h' r (.tail _ a);unfold jn at a
  split at a
  .next l hl=>
   split at a
   .let a||a:=b9.mp a
    .show h r (gj _ a)
    .rw[cc.mp a];show h' p (.head _)
   .let a||a:=b9.mp a
    .show h r a
    .rw[cc.mp a];show h' p (.head _)
  .let a||a:=b9.mp a
   .show h r a
   .rw[cc.mp a];show h' p (.head _)
def b6O(told:List Rw)(p:Rw):(jn told p).length<=told.length+1:=by
 unfold jn
 split
 .split<;>simp
 .simp
def b1k:∀(ps told:List Rw),(ps.foldl jn told).length<=told.length+ps.length:=by ext z0;induction z0 with
 |nil=>ext told;simp
 |cons p ps I0=>
  ext told;let b:=I0 (jn told p);let a:=b6O told p
  change (ps.foldl jn (jn told p)).length<=_
  rw[ci]
  lia
def a9C{ps:List Rw}(h:ps[i]?=cL p):(ps.take (i+1)).foldl jn []=jn ((ps.take i).foldl jn []) p:=by
 rw[dh,h];simp
set_option tactic.hygienic true in
def a1m(T:Txt K mg a):Cal P w K mg base CX0 1 "with_alike_joined" (lowP K a0G):=by
 show fnc 1 (N:=["pieces","told","piece"]) T.br (T.f 5 _ rfl) ?_;walk_at "in";show(_,(a0d (by ac_rfl)
  (a0d (a4O (pt:=(.nm 2)) iA.never rfl (by ac_rfl) (p_nm (nmI 2 nd))
  (a0w (z_if (by ac_rfl)
  (a0w (a6f (by ac_rfl) (qv 1) (by ac_rfl) b7T))
  (by ac_rfl))))
  (by ac_rfl))),?_)
 let(p,ps,rfl,hp,hok,hz,q):=h;lk;show(lenK rfl,λt ht=>?_);lk;show a12 (a0c hp ht) ?_;show a11 (λi σ G'=>∃v,σ=[cL (.ref p),cL (.ref t),v]/\G'=put G t (.lst (((ps.take i).foldl jn []).map Rw.z))) (_,rfl,by simp) (by ext i σ G' _ ⟨v,_,e⟩;show by rw[e];show a0c hp ht) ?_ ?_
 .ext i x σ G' hx ⟨v,rfl,rfl⟩;rw[cg]at hx;cases hx':ps[i]? with
  |none=>rw[hx']at hx;cases hx
  |some r=>
   rw[hx']at hx;cases hx;let hr:=hok r (cx hx');let hot:OkR ((ps.take i).foldl jn []):=b1j _ _ (λr hr=>by simp at hr) λr hr=>hok r (dJ hr);let hlt:=b1k (ps.take i) [];rw[cz]at hlt;let hi:=(cn.mp hx').1;rw[a9C hx'];generalize (ps.take i).foldl jn []=told at hot hlt ⊢;simp only[gk]at hlt;show(_,rfl,?_);let app:∀G',G'=put G t (.lst (told.map Rw.z))->jn told r=told++[r]->a5A (.ref t) [r.z] G' (λ_ G1=>∃v,([cL (.ref p),cL (.ref t),cL r.z]:S3)=[cL (.ref p),cL (.ref t),v]/\G1=put G t (.lst ((jn told r).map Rw.z))):=by
    ext _ rfl e;show a2W a0a (by rw[b7];show a0l (by cbv)) (_,rfl,?_);rw[a2p,e,cq]
    rfl
   lk;show a8L a0a ?_;cases hl:told.getLast? with
   |none=>
    let e0:told=[]:=gg.mp hl;subst e0;show ifF ?_;lk;show a8N a0a ?_;lk;show app _ rfl (by unfold jn;rw[hl])
   |some k=>
    let hne:told≠[]:=λz=>by subst z;simp at hl
    let hlm:(told.map Rw.z).getLast?=cL k.z:=by rw[List.getLast?_map,hl];rfl
    let he:(told.map Rw.z).isEmpty=jP:=by cases told with |nil=>show absurd rfl hne |cons _ _=>rfl
    let hk:=hot k (List.mem_of_getLast? hl);rw[he];show ifT ?_;lk;show a1P a0a (a5P hlm) ?_;lk;show a3y at1 ?_;lk;show a3y at0 ?_;show b6N ?_;lk;show ifD (λc1=>?_) λc1=>?_
    .lk;show a1P a0a (a5P hlm) ?_;lk;show b3R ?_;lk;show b3R ?_;show b8L (a9B hk) (a9B hr) ?_;lk;show ifD (λc2=>?_) λc2=>?_
     .lk;show a1P a0a (a5P hlm) ?_;lk;show a3y at0 ?_;lk;show a3y at1 ?_;lk;show(lenK rfl,?_);lk;show b3R ?_;show b1R (by simp) (a0Q (by let:=hr.2.1;simp;cbv)) ?_;lk;show b8e a0a (a9z (by rw[b7];show dW.mpr hne)) ?_;show(_,rfl,?_);rw[a2p,b1i hlm]
      congr 1
      unfold jn;rw[hl];dsimp only;rw[if_pos (c1,c2),cq,List.map_dropLast]
      rfl
     .lk;show a8N a0a ?_;lk;show app _ rfl (by unfold jn;rw[hl];dsimp only;rw[if_neg λz=>c2 z.2])
    .show ifF ?_;lk;show a8N a0a ?_;lk;show app _ rfl (by unfold jn;rw[hl];dsimp only;rw[if_neg λz=>c1 z.1])
 .ext σ G' ⟨v,rfl,rfl⟩;lk;rw[b7,dr];show q t ht
def Rise.drop(h:Rise l)(k:Nat):Rise (l.drop k):=(λr a=>h.1 r (eP a),h.2.sublist (fR _ _))
def drop_get{α:Type}{l:List α}{x:α}(h:l[k]?=cL x):l.drop k=x::l.drop (k+1):=by
 let(b,a):=cn.mp h;rw[eN b,a]
def take_snoc{α:Type}{l:List α}{x:α}(h:l[i]?=cL x):l.take (i+1)=l.take i++[x]:=by rw[dh,h];rfl
def a9D(h:OkR l):OkR (ahead m l):=λx a=>by
 let(r,b,_,rfl):=a19 a;show h r b
def b1l(h:OkR l):OkR (fromOn m l):=λx a=>by
 let(r,b,_,rfl):=a23 a;show h r b
def okV(z:Z):Prop:=flat 4 z=jO
def b6P(h:okV z):okW [z]:=(by simp,by simp,by rw[cB,h];rfl)
def a7e(h:OkR l)(hz:okV z):OkR (a1i l b e (optW z)):=by
 ext r a;let a||a:=b9.mp a
 .let a||a:=b9.mp a
  .show a9D h r a
  .unfold optW at a
   split at a
   .next w e=>
          split at e
          .cases e
          .cases e;rw[cc.mp a];show b6P hz
   .simp_all
 .cases e with
  |none=>simp at a
  |some e=>show b1l h r a
def a5Q:P3:=λws G R=>Ex5 λp l b e z=>ws=[.ref p,.int b,oz e,z]/\G p=cL (.lst (l.map Rw.z))/\Rise l/\OkR l/\One l/\l.length<=900/\bef b e=jO/\okV z /\
 ∀t G',G t=jN->Sm G G'->G' t=cL (.lst ((a48 l b e (optW z)).map Rw.z))->R (.ref t) G'
set_option tactic.hygienic true in
def a5R(T:Txt K mg a):Cal P w K mg base CX0 3 "put_on" (lowP K a5Q):=by
 show fnc 4 (N:=["line","begin","end","worth","pieces"]) T.br (T.f 7 _ rfl) ?_;walk_at "in";show(_,(a0d (by ac_rfl)
  (a4b (by ac_rfl)
  (a4b (by ac_rfl)
  (by ac_rfl)))),?_)
 let(p,l,b,e,z,rfl,hp,hr,hok,h1,hz,g,hv,q):=h;let hpc:=(a47 (w:=optW z) hr g).2.2;lk;show(p,l,cL b,rfl,hp,h1,by cbv,λt ht=>?_);lk;let la:=a46 (cL b) l;show a4e (fun σ' G'=>σ'=[cL (.ref p),cL (.int b),cL (oz e),cL z,cL (.ref t)]/\G'=put G t (.lst ((ahead (cL b) l++(match optW z with |some w=>[((b,e,w):Rw)] |none=>[])).map Rw.z))) ?_ ?_
 .lk;show ifN (λc=>?_) λc=>?_
  .lk;show a8N a0a ?_;lk;show(lenK rfl,?_);lk;show a2W a0a (by rw[b7];show a0l (by cbv)) (rfl,?_);rw[a2p,optW,if_neg c,cq];rfl
  .lk;show(rfl,?_);rw[optW,if_pos c];simp
 .ext σ' G' ⟨rfl,rfl⟩;let hp1:∀o,put G t o p=cL (.lst (l.map Rw.z)):=λo=>a0c hp ht;let fin:∀G' ,Sm G G'->G' t=cL (.lst ((a1i l b e (optW z)).map Rw.z))->a0G [.ref t] G' R:=λG' s ht'=>by
   show(t,_,rfl,ht',a7e hok hv,by cbv,λu hu=>?_);show q u _ (s.free hu) (s.trans (Sm.new hu)) a0a
  show a4e (fun σ' G'=>σ'=[cL (.ref p),cL (.int b),cL (oz e),cL z,cL (.ref t)]/\Sm G G'/\G' t=cL (.lst ((a1i l b e (optW z)).map Rw.z))) ?_ ?_
  .cases e with
   |none=>
    lk;show(rfl,Sm.new ht,?_);unfold a1i;rw[cE];show a0a
   |some e=>
    lk;show a8N a0a ?_;lk;show(p,l,e,rfl,hp1 _,h1,by cbv,λu hu=>?_);let hut:t≠u:=λz=>by subst z;rw[a0a]at hu;cases hu
    let hpl:(a1i l b (cL e) (optW z)).length=(ahead (cL b) l++(match optW z with |some w=>[((b,cL e,w):Rw)] |none=>[])).length+(fromOn e l).length:=by
     unfold a1i;show cj
    generalize hA:(ahead (cL b) l++(match optW z with |some w=>[((b,cL e,w):Rw)] |none=>[]))=A at hu hpl ⊢
    let e1:put (put G t (.lst (A.map Rw.z))) u (.lst ((fromOn e l).map Rw.z)) t=cL (.lst (A.map Rw.z)):=by rw[a0j hut];show a0a
    lk;show b0I e1 a0a (by rw[b7,b7];show a0Q (by cbv)) ?_;show(rfl,?_,?_)
    .show ((Sm.new ht).trans (Sm.new hu)).put ht
    .rw[a0a,<- cq,<- hA]
     rfl
  .ext σ' G' ⟨rfl,s,ht'⟩;lk;show fin G' s ht'
def okS(s:Str):Prop:=s.length<=1000/\PyData.strOk s=jO
def Th(G:Hq):Z->Prop
 |.non=>True
 |.bl _=>True
 |.int _=>True
 |.str s=>okS s
 |.tup _=>True
 |.ref p=>(∃ws,G p=cL (.lst ws))\/∃kvs,G p=cL (.dK kvs)
 |_=>False
def Th.sm(s:Sm G G')(h:Th G x):Th G' x:=by
 cases x with
 |ref p=>
  let(ws,e)||(ws,e):=h
  .show .inl (ws,s _ _ e)
  .show .inr (ws,s _ _ e)
 |_=>show h
structure Kd (G:Hq) (x:Z) (n:String):Prop where
 ty:tyN G x=cL n
 is:n="NoneType"\/n="bool"\/n="int"\/n="str"\/n="tuple"\/n="list"\/n="dict"
def Th.kd(h:Th G x):∃n,Kd G x n:=by
 cases x with
 |non=>show(_,rfl,.inl rfl)
 |bl _=>show(_,rfl,.inr (.inl rfl))
 |int _=>show(_,rfl,.inr (.inr (.inl rfl)))
 |str _=>show(_,rfl,.inr (.inr (.inr (.inl rfl))))
 |tup _=>show(_,rfl,.inr (.inr (.inr (.inr (.inl rfl)))))
 |ref p=>
  let(ws,e)||(ws,e):=h
  .show("list",by simp[tyN,e],.inr (.inr (.inr (.inr (.inr (.inl rfl))))))
  .show("dict",by simp[tyN,e],.inr (.inr (.inr (.inr (.inr (.inr rfl))))))
 |_=>show cb h
def b3S(h:n="NoneType"\/n="bool"\/n="int"\/n="str"\/n="tuple"\/n="list"\/n="dict"):kit0 n "str"=cL (decide (n="str")):=by
 let rfl||rfl||rfl||rfl||rfl||rfl||rfl:=h<;>decide +kernel
def b1m(h:n="NoneType"\/n="bool"\/n="int"\/n="str"\/n="tuple"\/n="list"\/n="dict"):kit0 n "bool"=cL (decide (n="bool")):=by
 let rfl||rfl||rfl||rfl||rfl||rfl||rfl:=h<;>decide +kernel
def b3T(h:n="NoneType"\/n="bool"\/n="int"\/n="str"\/n="tuple"\/n="list"\/n="dict"):kit0 n "int"=cL (decide (n="int")||decide (n="bool")):=by
 let rfl||rfl||rfl||rfl||rfl||rfl||rfl:=h<;>decide +kernel
noncomputable def isS:Z->Bool
 |.str _=>jO
 |_=>jP
noncomputable def isB:Z->Bool
 |.bl _=>jO
 |_=>jP
noncomputable def isI:Z->Bool
 |.int _=>jO
 |.bl _=>jO
 |_=>jP
def b8M(h:Th G x)(q:R (.bl (isS x)) G):zIsT [x,.ty "str"] G R:=by
 let(n,k):=h.kd;show(n,_,k.ty,b3S k.is,?_);let e:decide (n="str")=isS x:=by
  let:=k.ty
  cases x with
  |ref p=>let(ws,e)||(ws,e):=h<;>(simp[tyN,e]at this;subst this;change _=jP;decide)
  |_=>first | (cases this;change _=jP;decide;done) | (cases this;change _=jO;decide;done) |show cb h
 rw[e];show q
def b6Q(h:Th G x)(q:R (.bl (isB x)) G):zIsT [x,.ty "bool"] G R:=by
 let(n,k):=h.kd;show(n,_,k.ty,b1m k.is,?_);let e:decide (n="bool")=isB x:=by
  let:=k.ty
  cases x with
  |ref p=>let(ws,e)||(ws,e):=h<;>(simp[tyN,e]at this;subst this;change _=jP;decide)
  |_=>first | (cases this;change _=jP;decide;done) | (cases this;change _=jO;decide;done) |show cb h
 rw[e];show q
def b6R(h:Th G x)(q:R (.bl (isI x)) G):zIsT [x,.ty "int"] G R:=by
 let(n,k):=h.kd;show(n,_,k.ty,b3T k.is,?_);let e:(decide (n="int")||decide (n="bool"))=isI x:=by
  let:=k.ty
  cases x with
  |ref p=>let(ws,e)||(ws,e):=h<;>(simp[tyN,e]at this;subst this;change _=jP;decide)
  |_=>first | (cases this;change _=jP;decide;done) | (cases this;change _=jO;decide;done) |show cb h
 rw[e];show q
noncomputable def okC(c:Nat):Bool:=decide (97<=c)&&decide (c<=122)
noncomputable def a0F:Z->Bool
 |.str s=>decide (1<=s.length)&&decide (s.length<=8)&&s.cps.toList.all okC
 |_=>jP
noncomputable def momB:Z->Bool
 |.int i=>decide (0<=i)&&decide (i<=1000000000000)
 |_=>jP
def a3n:momB (.int i)=(decide (0<=i)&&decide (i<=1000000000000)):=rfl
noncomputable def strB(x y:Z):Bool:=momB x&&match y with
 |.non=>jO
 |.int j=>momB (.int j)&&match x with |.int i=>decide (i<j) |_=>jP
 |_=>jP
def spB1(f:Z->Bool):P3:=λws G R=>∃x,ws=[x]/\Th G x/\∀G',Sm G G'->R (.bl (f x)) G'
def b6S(h:spB1 f ws G R):ws.length=1:=by let(_,rfl,_):=h;rfl
def spB2(f:Z->Z->Bool):P3:=λws G R=>∃x y,ws=[x,y]/\Th G x/\Th G y/\∀G',Sm G G'->R (.bl (f x y)) G'
def b8N(h:spB2 f ws G R):ws.length=2:=by let(_,_,rfl,_):=h;rfl
abbrev a5b:P3:=spB1 a0F
abbrev a3z:P3:=spB1 momB
abbrev a3o:P3:=spB2 strB
def a9E(a b:Nat):ltS ⟨#[a]⟩ ⟨#[b]⟩=decide (a<b):=by
 by_cases h:a<b
 .rw[decide_eq_true h];show decide_eq_true (gm.mpr (.inl h))
 .rw[decide_eq_false h];show decide_eq_false λq=>?_;let q||q:=gm.mp q
  .simp_all
  .simp_all
def strA:(Str.ofString "a")=⟨#[97]⟩:=by decide +kernel
def strZ:(Str.ofString "z")=⟨#[122]⟩:=by decide +kernel
def b1n(x:Str)(g:Nat->Option Z)(f:Z->Option Z)(h:∀c,f (.str ⟨#[c]⟩)=g c):(a2G x).filterMap f=x.cps.toList.filterMap g:=by
 unfold a2G;rw[fJ]
 congr 1
 funext c
 show h c
def a9F(h:x.length<=1000):(a2G x).length<=1000:=by unfold a2G;rw[b7,d8];show h
def b6T(l:List Nat):(l.filterMap λc=>cL (Z.bl (okC c)))=(l.map okC).map Z.bl:=by simp
def b3U(l:List Nat):(l.map okC).all id=l.all okC:=by simp
def a1B:a0F (.str s)=(decide (1<=s.length)&&decide (s.length<=8)&&s.cps.toList.all okC):=rfl
def a5c(T:Txt K mg a):Cal P w K mg base CX0 1 "is_name" (lowP K a5b):=by
 show fnc 1 (N:=["thing"]) T.br (T.f 0 _ rfl) ?_ (len:=λws G R h=>(by show b6S h));walk_at "in";show(_,(a0d (by ac_rfl)
  (a0d (by ac_rfl)
  (a0w (a1q (q_B (b5C rfl) (T.b 0) (q_k (q_l ["sign"] [jN] (.nm 0) (hi:=(b5I (qv 0)))) a0m)))))),?_)
 let(x,rfl,g,q):=h;lk;show b8M g ?_;lk;show ifNB (λc=>?_) λc=>?_
 .lk;let e:a0F x=jP:=by cases x<;>first |rfl |cases c
  let:=q G (Sm.refl G)
  rw[e]at this;show this
 .obtain⟨s,rfl⟩:∃s,x=.str s:=by cases x<;>first |show(_,rfl) |cases c
  let d:okS s:=g;lk;show a6h (a0Q d.1) ?_;lk;let j:a0F (.str s)=jP->R (.bl jP) G:=λe=>by let:=q G (Sm.refl G);rw[e]at this;show this
  show ifD (λm=>?_) λm=>?_
  .lk;show j (by rw[a1B,decide_eq_false (show ¬ 1<=s.length by lia)];rfl)
  .lk;show a6h (a0Q d.1) ?_;lk;show ifD (λo=>?_) λo=>?_
   .lk;show j (by rw[a1B,decide_eq_false (show ¬ s.length<=8 by lia),dy];rfl)
   .lk;ext D n;show a8A (λx=>match x with |.str z=>cL (.bl (!ltS z (Str.ofString "a")&&!ltS (Str.ofString "z") z)) |_=>jN) (λ_=>True.intro) (a9F d.1) ?_ ?_
    .ext x i v t p k u;unfold a2G at i;let(c,_,rfl):=cm.mp i;show(_,rfl,?_);lk;show ifB (λz=>?_) λz=>?_
     .lk;show k _ ?_;dsimp only;rw[z];rfl
     .show k _ ?_;dsimp only;rw[z];rfl
    .let e:(a2G s).filterMap (λx=>match x with |.str z=>cL (.bl (!ltS z (Str.ofString "a")&&!ltS (Str.ofString "z") z)) |_=>jN)=(s.cps.toList.map okC).map Z.bl:=by
      rw[b1n s (λc=>cL (.bl (okC c))) _ λc=>?_,b6T];dsimp only;rw[strA,strZ,a9E,a9E];unfold okC
      congr 2
      by_cases h1:c<97<;>by_cases h2:122<c<;>simp[h1,h2]<;>lia
     let l:a0F (.str s)=s.cps.toList.all okC:=by rw[a1B,decide_eq_true (show 1<=s.length by lia),decide_eq_true (show s.length<=8 by lia),cO,cO]
     show b8f (by rw[e];show a0a) ?_;rw[b3U,<- l];show q _ (Sm.new n)
def a3A(T:Txt K mg a):Cal P w K mg base CX0 1 "is_moment" (lowP K a3z):=by
 show fnc 1 (N:=["thing"]) T.br (T.f 1 _ rfl) ?_ (len:=λws G R h=>(by show b6S h));walk_at "in";show(_,(by ac_rfl),?_);let(x,rfl,hx,q):=h;let no:momB x=jP->R (.bl jP) G:=λe=>by let:=q G (Sm.refl G);rw[e]at this;show this
 lk;show b6Q hx ?_;lk;show ifB (λc=>?_) λc=>?_
 .lk;show no (by cases x<;>first |rfl |cases c)
 .lk;show b6R hx ?_;lk;show ifNB (λc2=>?_) λc2=>?_
  .lk;show no (by cases x<;>first |rfl |cases c2)
  .obtain⟨i,rfl⟩:∃i,x=.int i:=by cases x<;>first |show(_,rfl) | (cases c;done) | (cases c2;done)
   lk;show ifD (λz=>?_) λz=>?_
   .lk
    let:=q G (Sm.refl G)
    rw[a3n,decide_eq_true z,cO]at this;show this
   .show no (by rw[a3n,decide_eq_false z];rfl)
def a3p(T:Txt K mg a):Cal P w K mg base CX0 2 "is_stretch" (lowP K a3o):=by
 show fnc 2 (N:=["begin","end"]) T.br (T.f 2 _ rfl) ?_ (len:=λws G R h=>(by show b8N h));walk_at "in";show(_,(by ac_rfl),?_);let(x,y,rfl,t,r,q):=h;lk;show(x,rfl,t,λC g=>?_);let m:∀d,Sm G d->strB x y=jP->R (.bl jP) d:=λd s e=>by let:=q d s;rw[e]at this;show this
 lk;show ifNB (λc=>?_) λc=>?_
 .lk;show m _ g (by unfold strB;rw[c];rfl)
 .lk;show ifD (λz=>?_) λz=>?_
  .lk
   let:=q _ g
   unfold strB at this;rw[c,z]at this;show this
  .lk;show(y,rfl,r.sm g,λB p=>?_);let k:=g.trans p;lk;show ifB (λf=>?_) λf=>?_
   .obtain⟨i,rfl⟩:∃i,x=.int i:=by cases x<;>first |show(_,rfl) |cases c
    obtain⟨j,rfl⟩:∃j,y=.int j:=by cases y<;>first |show(_,rfl) |cases f
    lk
    let:=q _ k
    unfold strB at this;rw[c]at this;dsimp only at this;rw[f,cO,cO]at this;show this
   .show m _ k ?_;unfold strB;rw[c,cO];cases y<;>first |rfl |show absurd rfl z | (dsimp only;rw[f];rfl)
def isL(c:Nat):Prop:=97<=c/\c<=122
def nmOk(s:Str):Prop:=1<=s.cps.toList.length/\s.cps.toList.length<=8/\∀c∈s.cps.toList,isL c
def a06(s:Str):s.length=s.cps.toList.length:=by rw[d8];rfl
def a2a(h:∀c∈s.cps.toList,isL c):PyData.strOk s=jO:=by
 unfold PyData.strOk;rw[gq];ext c a
 let:=(h c (by simp_all)).2
 show decide_eq_true (by lia)
def b3V(h:nmOk s):flat n (.str s)=jO:=by
 let:=a2a h.2.2
 cases n<;>show this
def a4p(h:nmOk s):Th G (.str s):=(by rw[a06];let:=h.2.1;lia,a2a h.2.2)
def nm_b(h:nmOk s):a0F (.str s)=jO:=by
 rw[a1B,decide_eq_true (by rw[a06];show h.1),decide_eq_true (by rw[a06];show h.2.1)];rw[cO,cO,dB];ext c b;let(a,d):=h.2.2 c b;unfold okC;rw[decide_eq_true a,decide_eq_true d];rfl
noncomputable def T12:Int:=1000000000000
def stOk(b:Int)(e:Option Int):Prop:=0<=b/\b<=T12/\∀x,e=cL x->b<x/\x<=T12
noncomputable def stOk.bef(h:stOk b e):bef b e=jO:=by
 cases e with
 |none=>rfl
 |some x=>simp only[Lw.bef,decide_eq_true_eq];show (h.2.2 x rfl).1
def st_b(h:stOk b e):strB (.int b) (oz e)=jO:=by
 let(c,g,a):=h;unfold T12 at *;unfold strB;rw[a3n,decide_eq_true c,decide_eq_true g];cases e with
 |none=>rfl
 |some x=>
  let(f,d):=a x rfl
  change (jO&&(momB _&&decide _))=jO
  rw[a3n,decide_eq_true (show 0<=x by lia),decide_eq_true d,decide_eq_true f];rfl
def Plain(l:List Rw):Prop:=∀r∈l,∃x,r.w=[x]/\flat 0 x=jO
def Plain.one(h:Plain l):One l:=λr a=>by let(x,e,_):=h r a;show(x,e)
def Plain.okR(h:Plain l):OkR l:=λr a=>by
 let(x,e,f):=h r a;rw[e];show b6P (a1t (by simp) f)
def Plain.nil:Plain []:=λr hr=>by simp at hr
def a9G(h:Plain L)(f:flat 0 z=jO):Plain (a48 L b e (optW z)):=λr a=>by
 let m:Plain (a1i L b e (optW z)):=λr a=>by
  let a||a:=b9.mp a
  .let a||a:=b9.mp a
   .let(j,i,_,rfl):=a19 a;show h j i
   .unfold optW at a
    split at a
    .next w e=>
           split at e
           .cases e
           .cases e;rw[cc.mp a];show(z,rfl,f)
    .simp_all
  .cases e with
   |none=>simp at a
   |some e=>
    let(j,i,_,rfl):=a23 a;show h j i
 let l:∀d c,Plain c->Plain d->Plain (d.foldl jn c):=by
  ext d
  induction d with
  |nil=>show λ_ h _=>h
  |cons p d ih=>
   ext c k g;show ih _ (λr a=>?_) λr a=>g r (.tail _ a)
   let:=g p (.head _)
   unfold jn at a
   split at a
   .split at a
    .let a||a:=b9.mp a
     .show k r (gj _ a)
     .simp_all
    .let a||a:=b9.mp a
     .show k r a
     .simp_all
   .simp_all
 show l _ [] Plain.nil m r a
structure Tl where
 key:Str
 w:Option Str
 b:Int
 e:Option Int
abbrev sPut:Str:=Str.ofString "put"
abbrev a9H:Str:=Str.ofString "clear"
noncomputable def Tl.z(τ:Tl):Z:=match τ.w with
 |some w=>.tup [.str sPut,.str τ.key,.str w,.int τ.b,oz τ.e]
 |none=>.tup [.str a9H,.str τ.key,.int τ.b,oz τ.e]
noncomputable def Tl.v(τ:Tl):Z:=match τ.w with
 |some w=>.str w
 |none=>.non
structure Tl.Ok (τ:Tl):Prop where
 k:nmOk τ.key
 w:∀s,τ.w=cL s->nmOk s
 st:stOk τ.b τ.e
noncomputable def Tl.Ok.v{τ:Tl}(h:τ.Ok):flat 0 τ.v=jO:=by
 unfold Tl.v;cases e:τ.w with
 |none=>rfl
 |some w=>show b3V (h.w w e)
noncomputable def Tl.rw(τ:Tl):Rw:=(τ.b,τ.e,[τ.v])
noncomputable def a1E(T:List Tl)(k:Str):List Rw:=(T.filter fun τ=>decide (τ.key=k)).map Tl.rw
def a7f:a1E (T++[τ]) k=a1E T k++(if τ.key=k then [τ.rw] else []):=by
 unfold a1E
 by_cases c:τ.key=k<;>simp[c]
def OkT(T:List Tl):Prop:=∀τ∈T,τ.Ok
structure IsLine (T:List Tl) (k:Str) (L:List Rw):Prop where
 can:Can L
 pl:Plain L
 len:L.length<=2*T.length
 v:∀t,val L t=optW (a2A (a1E T k) t)
def IsLine.nil(h:a1E T k=[]):IsLine T k []:=(Can.nil,Plain.nil,by simp,λt=>by rw[h];rfl)
def IsLine.snoc(h:IsLine T τ.key L)(o:τ.Ok):IsLine (T++[τ]) τ.key (a48 L τ.b τ.e (optW τ.v)):=by
 let a:=b1e (w:=optW τ.v) h.can.rise o.st.bef;show(a.1,a9G h.pl o.v,by let:=a.2.2;let:=h.len;simp;lia,λt=>?_);rw[a7f,if_pos rfl,a5O,a.2.1 t,h.v t]
 change _=optW (if (decide (τ.b<=t)&&bef t τ.e)=jO then τ.v else a2A _ t)
 split<;>rfl
noncomputable def ixF(k:Str):Nat->List Tl->List Int
 |_,[]=>[]
 |n,τ::T=>(if τ.key=k then [(n:Int)+1] else [])++ixF k (n+1) T
noncomputable def ix(T:List Tl)(k:Str):List Int:=ixF k 0 T
def b1o:∀(n:Nat)(T:List Tl),ixF k n (T++[τ])=ixF k n T++(if τ.key=k then [(n+T.length:Int)+1] else []):=by ext z0 y0;induction y0 generalizing z0 with
 |nil=>simp[ixF]
 |cons σ T I0=>
  rw[dM,ixF,I0,ixF,cC]
  congr 2
  split
  .congr 1;rw[ci];lia
  .rfl
def a5S:ix (T++[τ]) k=ix T k++(if τ.key=k then [(T.length:Int)+1] else []):=by
 unfold ix;rw[b1o];simp
def b2a:∀{n:Nat}{T:List Tl}{i:Int},i∈ixF k n T->(n:Int)+1<=i/\i<=n+T.length:=by ext z0 y0;induction y0 generalizing z0 with
 |nil=>ext i h;simp[ixF]at h
 |cons τ T I0=>
  ext i h;rw[ci];let h||h:=b9.mp h
  .split at h
   .rw[cc.mp h];lia
   .simp_all
  .let:=I0 h;lia
def b6U(h:i∈ix T k):1<=i/\i<=T.length:=by
 let:=b2a h
 o_head this
def b3W:∀(n:Nat)(T:List Tl),(ixF k n T).length<=T.length:=by ext z0 y0;induction y0 generalizing z0 with
 |nil=>simp[ixF]
 |cons τ T I0=>
  let:=I0 (z0+1)
  rw[ixF,cj,ci]
  split<;>simp<;>lia
def b6V(T:List Tl)(k:Str):(ix T k).length<=T.length:=b3W 0 T
def a7g:∀(n:Nat)(T:List Tl),(ixF k n T).Pairwise (·<·):=by ext z0 y0;induction y0 generalizing z0 with
 |nil=>show .nil
 |cons τ T I0=>
  show cy.mpr (by split<;>simp,I0 _,λx a y b=>?_)
  let:=b2a b
  split at a
  .rw[cc.mp a];cbv
  .grind
def a5d(T:List Tl)(k:Str):(ix T k).Pairwise (·<·):=a7g 0 T
theorem a24:∀(n:Nat)(T:List Tl)(s q:Nat),s<=q->(∀i∈ixF k n T,(i:Int)<=n+s\/(n+q:Int)<i)->a1E (T.take q) k=a1E (T.take s) k
 |n,[],s,q,_,_=>by simp
 |n,τ::T,s,0,hs,_=>by grind
 |n,τ::T,0,q+1,hs,h=>by
  let d:¬ τ.key=k:=λe=>by
   let:=h (n+1) (by rw[ixF,if_pos e];simp)
   lia
  let a:=a24 (k:=k) (n+1) T 0 q (by lia) λi b=>by
   let c||c:=h i (by rw[ixF];simp[b])
   lia
   lia
  rw[fx];unfold a1E at a ⊢;rw[db,if_neg ↑d,a];simp
 |n,τ::T,s+1,q+1,hs,h=>by
  let a:=a24 (k:=k) (n+1) T s q (by lia) λi b=>by
   let c||c:=h i (by rw[ixF];simp[b])
   .left;lia
   lia
  rw[fx,fx];unfold a1E at a ⊢;rw[db,db]
  split
  .grind
  .show a
def IsLine.cut{s q:Nat}(h:IsLine (T.take s) k L)(hs:s<=q)(hi:∀i∈ix T k,i<=(s:Int)\/(q:Int)<i):IsLine (T.take q) k L:=by
 let e:=a24 0 T s q hs λi h=>by let:=hi i h;o_head this
 show(h.can,h.pl,by let:=h.len;rw[cz]at this ⊢;lia,λt=>by rw[e];show h.v t)
def a5e{q:Nat}(h:∀i∈ix T k,(q:Int)<i):a1E (T.take q) k=[]:=by
 let:=a24 0 T 0 q (cM _) λi a=>by right;let:=h i a;o_head this
 rw[this];rfl
def b3X(h:Rise l)(hr:r∈l)(ht:r.has t=jO):val l t=cL r.w:=by
 induction l with
 |nil=>simp at hr
 |cons s l ih=>
  rw[a0s];let rfl||hr:=cf.mp hr
  .rw[if_pos ht]
  .rw[if_neg]
   .show ih h.tail hr
   .ext z
    let:=(gw h.2 hr).has z
    rw[ht]at this;cases this
def a7h{T:List Tl}{k:Str}{t:Int}:a2A (a1E T k) t=.non\/∃w,a2A (a1E T k) t=.str w:=by
 unfold a2A;cases e:(a1E T k).reverse.find? _ with
 |none=>show .inl rfl
 |some r=>
  let:=eW e
  rw[List.mem_reverse]at this;let(τ,a,rfl):=cm.mp this;unfold Tl.rw Tl.v;cases τ.w with
  |none=>show .inl rfl
  |some w=>show .inr (w,rfl)
def a4q(h:IsLine T k L)(hr:r∈L):∃w,r.w=[.str w]:=by
 let a:=b3X h.can.rise hr (a7c (h.can.1 r hr));rw[h.v]at a;unfold optW at a
 split at a
 .cases a
 .next q=>
  let e||(w,e):=@a7h T k r.b
  .show absurd e q
  .rw[e]at a;injection a with a;show(w,a.symm)
structure Ti where
 r:Rw
 s:Int
 u:Option Int
noncomputable def Ti.z(k:Str)(t:Ti):Z:=.tup [.str k,t.r.w.headD .non,.int t.r.b,oz t.r.e,.int t.s,oz t.u]
noncomputable def Ti.at_(t:Ti)(q:Int):Bool:=decide (t.s<=q)&&bef q t.u
noncomputable def hasR(L:List Rw)(r:Rw):Bool:=L.any λx=>decide (x.z=r.z)
def hasR_iff:hasR L r=jO↔r∈L:=by
 unfold hasR;rw[dY];show(by ext⟨x,h,e⟩;show Rw.z_inj (of_decide_eq_true e)▸h,λh=>(r,h,decide_eq_true rfl))
def hasR_no:hasR L r=jP↔r∉L:=by
 rw[<- hasR_iff,Bool.not_eq_true]
noncomputable def stR(ts:List Ti):List Rw:=(ts.filter (·.u.isNone)).map (·.r)
noncomputable def endR(L:List Rw)(n:Int)(t:Ti):Ti:=if (t.u.isNone&&!hasR L t.r)=jO then (t.r,t.s,cL n) else t
noncomputable def newR(n:Int)(r:Rw):Ti:=(r,n,jN)
noncomputable def tOn(ts:List Ti)(L:List Rw)(n:Int):List Ti:=ts.map (endR L n)++(L.filter λr=>!hasR (stR ts) r).map (newR n)
noncomputable def a0R(ts:List Ti)(q:Int):List Rw:=(ts.filter (·.at_ q)).map (·.r)
def b3Y:(endR L n t).r=t.r:=by unfold endR;split<;>rfl
def b6W:(endR L n t).s=t.s:=by unfold endR;split<;>rfl
def b1p:a0R (ts++us) q=a0R ts q++a0R us q:=by simp[a0R]
def b2b{α β:Type}{f:α->α}{g:α->β}{p p':α->Bool}:∀{l:List α},(∀t∈l,p (f t)=p' t)->(∀t∈l,g (f t)=g t)->((l.map f).filter p).map g=(l.filter p').map g:=by ext z0;induction z0 with
 |nil=>ext _ _;show rfl
 |cons t l I0=>
  ext h1 h2;let a:=I0 (λt h=>h1 t (.tail _ h)) (λt h=>h2 t (.tail _ h));rw[cr,db,db,h1 t (.head _)]
  split
  .simp_all
  .cbv
def b1q(h:q<n):a0R (tOn ts L n) q=a0R ts q:=by
 unfold tOn;rw[b1p];let b:a0R ((L.filter λr=>!hasR (stR ts) r).map (newR n)) q=[]:=by
  unfold a0R;rw[fy,gx];ext t a;let(r,_,rfl):=cm.mp a;unfold Ti.at_ newR;rw[decide_eq_false (by grind)];simp
 rw[b,cE];show b2b (λt _=>?_) λt _=>b3Y;unfold Ti.at_;rw[b6W]
 congr 1
 unfold endR
 split
 .next c=>
  rw[cV,Option.isNone_iff_eq_none]at c;rw[c.1];show decide_eq_true h
 .rfl
structure TsOk (ts:List Ti) (n:Int):Prop where
 s:∀t∈ts,t.s<=n
 u:∀t∈ts,∀x,t.u=cL x->x<=n
def a5T(h:TsOk ts n)(hq:n<=q):a0R ts q=stR ts:=by
 unfold a0R stR
 congr 1
 show List.filter_congr λt a=>?_;unfold Ti.at_;rw[decide_eq_true (by let:=h.s t a;lia),cO];cases e:t.u with
 |none=>rfl
 |some x=>
  show decide_eq_false (by let:=h.u t a x e;lia)
def b8O:stR (tOn ts L n)=(stR ts).filter (hasR L)++L.filter λr=>!hasR (stR ts) r:=by
 let f:stR (ts.map (endR L n))=(stR ts).filter (hasR L):=by
  unfold stR
  conv=>rhs;rw[List.filter_map,List.filter_filter]
  show b2b (λt _=>?_) λt _=>b3Y;unfold endR;cases e:t.u with
  |none=>cases c:hasR L t.r<;>simp[c,e]
  |some x=>simp[e]
 let g:∀l:List Rw,stR (l.map (newR n))=l:=λl=>by
  unfold stR;rw[List.filter_eq_self.mpr (λt h=>by let(r,_,rfl):=cm.mp h;rfl),dl];show eV l
 let d:∀a b:List Ti,stR _=stR a++stR b:=λa b=>by unfold stR;rw[List.filter_append,cq]
 unfold tOn;rw[d,f,g]
def b3Z{S L:List Rw}(hS:S.Nodup)(hL:L.Nodup):(S.filter (hasR L)++L.filter λr=>!hasR S r).Perm L:=by
 show (List.perm_ext_iff_of_nodup ?_ hL).mpr λr=>?_
 .show dX.mpr (hS.sublist gy,hL.sublist gy,λx b y f e=>?_);subst e;let d:=(de.mp b).1;let a:=(de.mp f).2;rw[hasR_iff.mpr d]at a;cases a
 .rw[b9,de,de,hasR_iff]
  constructor
  .ext (h |h)
   .simp_all
   .show h.1
  .ext h
   by_cases c:r∈S
   .show .inl (c,h)
   .show .inr (h,by rw[hasR_no.mpr c];rfl)
def b8P(h:TsOk ts m)(hm:m<=n):TsOk (tOn ts L n) n:=by
 show(λt a=>?_,λt a x e=>?_)
 .let a||a:=b9.mp a
  .let(c,b,rfl):=cm.mp a;rw[b6W];let:=h.s c b;lia
  .let(r,_,rfl):=cm.mp a;show cK _
 .let a||a:=b9.mp a
  .let(c,b,rfl):=cm.mp a;unfold endR at e
   split at e
   .grind
   .let:=h.u c b x e;lia
  .let(r,_,rfl):=cm.mp a;cases e
def b6X:(tOn ts L n).length<=ts.length+L.length:=by grind [tOn]
noncomputable def TF(es:List (Int×List Rw)):List Ti:=es.foldl (λts e=>tOn ts e.2 e.1) []
noncomputable def a1H(es:List (Int×List Rw))(q:Int):List Rw:=match es.reverse.find? (λe=>decide (e.1<=q)) with
 |some e=>e.2
 |none=>[]
def a3q:TF (es++[e])=tOn (TF es) e.2 e.1:=by
 unfold TF;rw[f9];rfl
def a3r:a1H (es++[e]) q=if e.1<=q then e.2 else a1H es q:=by
 unfold a1H;rw[dD,dI,eS,da]
 by_cases c:e.1<=q
 .simp_all
 .rw[decide_eq_false c,if_neg c]
def a3s(h:Can L):L.Nodup:=by
 let:=(cZ.and_mem.mp h.2).imp λ{r s} (a,_,q)=>q.lt.b (h.1 r a)
 show this.imp λ{r s} q e=>by subst e;lia
def a5U{α:Type}{P:List α->Prop}(h0:P [])(h1:∀l a,P l->P (l++[a]))(l:List α):P l:=by
 rw[<- List.reverse_reverse l]
 induction l.reverse with
 |nil=>show h0
 |cons a l ih=>rw[dR];show h1 _ _ ih
structure Run (es:List (Int×List Rw)) (n:Int):Prop where
 ok:TsOk (TF es) n
 p:∀q,(a0R (TF es) q).Perm (a1H es q)
 c:∀q,Can (a1H es q)
def b1r:∀{es:List (Int×List Rw)}{n:Int},es.Pairwise (λa b=>a.1<b.1)->(∀e∈es,e.1<=n)->(∀e∈es,Can e.2)->Run es n:=by
 ext j
 induction j using a5U with
 |h0=>show λ_ _ _=>((λt h=>by simp[TF]at h,λt h=>by simp[TF]at h),λq=>.refl _,λq=>Can.nil)
 |h1 j e ih=>
  ext n w v k;let(m,_,r):=cy.mp w;let R:=ih m (λx f=>cQ (r x f e (.head _))) λx f=>k x (by simp[f]);let l:=k e (by simp);let g:=v e (by simp);let d:=b8P (L:=e.2) R.ok (cK e.1);show(by rw[a3q];show(λt i=>cD (d.s t i) g,λt i x f=>cD (d.u t i x f) g),λq=>?_,λq=>?_)
  .rw[a3q,a3r]
   by_cases c:e.1<=q
   .rw[if_pos c,a5T d c,b8O];show b3Z ?_ (a3s l);rw[<- a5T R.ok (cK e.1)];show (R.p e.1).nodup_iff.mpr (a3s (R.c e.1))
   .rw[if_neg c,b1q (by lia)];show R.p q
  .rw[a3r]
   split
   .lia
   .show R.c q
def b6Y:∀{es:List (Int×List Rw)}{m:Nat},(∀e∈es,e.2.length<=m)->(TF es).length<=es.length*m:=by
 ext a
 induction a using a5U with
 |h0=>show λ_=>by simp[TF]
 |h1 a e ih=>
  ext m h;let h1:=ih λx c=>h x (by simp[c]);let h2:=b6X (ts:=TF a) (L:=e.2) (n:=e.1);let h3:=h e (by simp);rw[a3q,cj,eF,Nat.add_mul,Nat.one_mul]
  lia
def b30(hi:es.map (·.1)=ix T k)(hl:∀e∈es,IsLine (T.take e.1.toNat) k e.2)(q:Nat):IsLine (T.take q) k (a1H es q):=by
 let b:es.reverse.Pairwise (λx y=>y.1<x.1):=by
  let:=a5d T k
  rw[<- hi]at this;rw[List.pairwise_reverse];show dE.mp this
 unfold a1H;cases e:es.reverse.find? _ with
 |none=>
  show IsLine.nil (a5e λi h=>?_);rw[<- hi]at h;let(x,a,rfl):=cm.mp h
  let:=fz.mp e x (by grind)
  o_head this
 |some x=>
  let(g,r,s,o,n):=List.find?_eq_some_iff_append.mp e;let a:x∈es:=by simp_all
  let g:=of_decide_eq_true g;show (hl x a).cut (by lia) λj l=>?_;rw[<- hi]at l;let(y,m,rfl):=cm.mp l;let d:y∈es.reverse:=by grind
  rw[o]at d b;let c||c:=b9.mp d
  .right
   let:=n y c
   o_head this
  .left
   let rfl||c:=cf.mp c
   .lia
   .let:=gw (cy.mp b).2.1 c
    lia
def a9I{es:List (Int×List Rw)}(hi:es.map (·.1)=ix T k):es.Pairwise (λa b=>a.1<b.1):=by
 let:=a5d T k
 rw[<- hi]at this;show dE.mp this
noncomputable def rnK(r:Rw):List Key:=[.inl (cL r.b),.inl r.e,match r.w with |[.str s]=>.inr s |_=>.inl jN]
def a9J{r:Rw}(h:∃w,r.w=[.str w]):.tup ((rnK r).map keyW)=r.z:=by
 let(w,h):=h;unfold rnK Rw.z;rw[h];cases r.e<;>rfl
def b8Q(h:∃w,r.w=[.str w]):L2.tupZ (rnK r)=r.z:=by
 let(w,h):=h;unfold L2.tupZ rnK Rw.z;rw[h];cases r.e<;>rfl
def b31(h:∃w,r.w=[.str w])(h':∃w,s.w=[.str w])(e:rnK r=rnK s):r=s:=Rw.z_inj (by rw[<- a9J h,<- a9J h',e])
def b1s:∀x:List Tim.Pz,Tim.cmpT x x=jO:=by ext z0;induction z0 with
 |nil=>show rfl
 |cons a x I0=>unfold Tim.cmpT;rw[if_pos rfl];show I0
def b6Z(h:Can L):∀r∈L,∀s∈L,Tim.cmpT (rnK r) (rnK s)=jO:=λr a s f=>by
 let d:=(cZ.and_mem.mp h.2).imp λ{r s} (a,_,q)=>q.lt.b (h.1 r a)
 by_cases c:r=s
 .rw[c];show b1s _
 .let g:=λe=>c ((cZ.forall_of_forall_of_flip (R:=λr s=>r.b=s.b->r=s) (λx _ _=>rfl) (d.imp λ{r s} q e=>by lia) (d.imp λ{r s} q e=>by let:=e;lia)) a f e);unfold rnK Tim.cmpT;rw[if_neg (by simp_all)]
  rfl
def a9K:∀{L M:List Rw},Can L->M.Perm L->(M.map rnK).Pairwise (λx y=>Tim.ltT y x=jP)->M=L:=λ{L M} h p s=>by
 let c:=(cZ.and_mem.mp h.2).imp λ{r s} (m,_,q)=>q.lt.b (h.1 r m);let d:M.Pairwise λr s=>r.b<s.b:=by
  show (cZ.and_mem.mp ((dE.mp s).and (p.nodup_iff.mpr (a3s h)))).imp λ{x y} (i,l,q,j)=>?_;let f:x.b≠y.b:=λe=>j ((cZ.forall_of_forall_of_flip (R:=λr s=>r.b=s.b->r=s) (λx _ _=>rfl) (c.imp λ{r s} q e=>by lia) (c.imp λ{r s} q e=>by let:=e;lia)) (p.mem_iff.mp i) (p.mem_iff.mp l) e);unfold rnK Tim.ltT at q;rw[if_neg ↑(Ne.symm f)]at q
  let:=q
  let:=of_decide_eq_false this
  lia
 show p.eq_of_pairwise (λa b _ _ n o=>by lia) d c
abbrev a5V:Str:=Str.ofString "last"
abbrev a9L:Str:=Str.ofString "kept"
noncomputable def shF(n:Int)(d:Addr):List (Str×Z):=[(a5V,.int n,),(a9L,.ref d,)]
def b81:¬ (a5V=a9L):=by decide +kernel
def b32:putQ a9L (.ref d) [(a5V,.int n,)]=shF n d:=by
 rfl
def b33:putQ a5V (.int m) (shF n d)=shF m d:=rfl
def a2u:(shF n d).lookup a5V=cL (.int n):=rfl
def a4r:(shF n d).lookup a9L=cL (.ref d):=rfl
def a2J(h1:(m==a5V)=jP)(h2:(m==a9L)=jP):(shF n d).lookup m=jN:=by
 unfold shF;rw[cA,h1,cA,h2];rfl
structure Tils (G:Hq) (S:Addr->Prop) (T:List Tl) (k:Str) (h:Addr) (es:List (Int×List Rw)):Prop where
 s:S h
 at_:G h=cL (.lst ((TF es).map (Ti.z k)))
 ix:es.map (·.1)=ix T k
 ne:es≠[]
 ln:∀e∈es,IsLine (T.take e.1.toNat) k e.2
def Rec(G:Hq)(S:Addr->Prop)(T:List Tl)(k:Str)(h:Addr):Prop:=∃es,Tils G S T k h es
def Rec.keepL{G G':Hq}{S:Addr->Prop}{T:List Tl}{k:Str}{h:Addr}(H:Rec G S T k h)(q:∀x ws,S x->G x=cL (.lst ws)->G' x=cL (.lst ws)):Rec G' S T k h:=let (es,H):=H;(es,H.s,q _ _ H.s H.at_,H.ix,H.ne,H.ln)
noncomputable def Rec.at_{G:Hq}{S:Addr->Prop}{T:List Tl}{k:Str}{h:Addr}(H:Rec G S T k h):S h/\∃ws,G h=cL (.lst ws):=let (_,H):=H;(H.s,_,H.at_)
structure ShM (a:Ad) (G:Hq) (p:Addr) (S:Addr->Prop) (T:List Tl) (n:Int) (dx d:Addr) (kvs:List (Key×Z)):Prop where
 ob:G p=cL (.ins a.c_Tiled dx (shF n d))
 sp:S p
 sd:S d
 dc:G d=cL (.dK kvs)
 len:kvs.length<=T.length
 no:∀k,valZ kvs (.inr k)=jN->ix T k=[]
 hs:∀k z,valZ kvs (.inr k)=cL z->∃h,z=.ref h/\Rec G S T k h
 inj:∀k k' z,valZ kvs (.inr k)=cL z->valZ kvs (.inr k')=cL z->k=k'
 al:∀b,S b->∃o,G b=cL o
 nd:(kvs.map (·.1)).Nodup
 sk:∀q∈kvs,∃s,q.1=Sum.inr s
def Sheet(a:Ad)(G:Hq)(p:Addr)(S:Addr->Prop)(T:List Tl):Prop:=∃dx d kvs,ShM a G p S T T.length dx d kvs
def KS(S:Addr->Prop)(G G':Hq):Prop:=∀b o,S b->G b=cL o->G' b=cL o
def KN(S:Addr->Prop)(G G':Hq):Prop:=∀b o,¬ S b->G b=cL o->G' b=cL o
def Sm.ks(s:Sm G G'):KS S G G':=λb o _ e=>s b o e
def Sm.kn(s:Sm G G'):KN S G G':=λb o _ e=>s b o e
def KN.trans(a:KN S G G1)(b:KN S G1 G2):KN S G G2:=λc o n e=>b c o n (a c o n e)
def ShM.keep{a:Ad}{G G':Hq}{p:Addr}{S:Addr->Prop}{T:List Tl}{n:Int}{dx d:Addr}{kvs:List (Key×Z)}(H:ShM a G p S T n dx d kvs)(q:KS S G G'):ShM a G' p S T n dx d kvs:=
 (q _ _ H.sp H.ob,H.sp,H.sd,q _ _ H.sd H.dc,H.len,H.no,λk z e=>let (h,c,g):=H.hs k z e;(h,c,g.keepL λx ws s e=>q x _ s e),H.inj,(λb hb=>let (o,e):=H.al b hb;(o,q b o hb e)),H.nd,H.sk)
def Sheet.keep{a:Ad}{G G':Hq}{p:Addr}{S:Addr->Prop}{T:List Tl}(H:Sheet a G p S T)(q:KS S G G'):Sheet a G' p S T:=let (dx,d,kvs,h):=H;(dx,d,kvs,h.keep q)
structure ShV (a:Ad) (G:Hq) (p:Addr) (S:Addr->Prop) (T:List Tl) (n:Int) (dx d:Addr) (kvs:List (Key×Z)):Prop where
 ob:G p=cL (.ins a.c_Tiled dx (shF n d))
 sp:S p
 sd:S d
 dc:G d=cL (.dK kvs)\/G d=cL (.dF kvs)
 len:kvs.length<=T.length
 no:∀k,valZ kvs (.inr k)=jN->ix T k=[]
 hs:∀k z,valZ kvs (.inr k)=cL z->∃h,z=.ref h/\Rec G S T k h
 al:∀b,S b->∃o,G b=cL o
 nd:(kvs.map (·.1)).Nodup
 sk:∀q∈kvs,∃s,q.1=Sum.inr s
noncomputable def ShM.v{a:Ad}{G:Hq}{p:Addr}{S:Addr->Prop}{T:List Tl}{n:Int}{dx d:Addr}{kvs:List (Key×Z)}(H:ShM a G p S T n dx d kvs):ShV a G p S T n dx d kvs:=(H.ob,H.sp,H.sd,.inl H.dc,H.len,H.no,H.hs,H.al,H.nd,H.sk)
def ShV.keep{a:Ad}{G G':Hq}{p:Addr}{S:Addr->Prop}{T:List Tl}{n:Int}{dx d:Addr}{kvs:List (Key×Z)}(H:ShV a G p S T n dx d kvs)(q:KS S G G'):ShV a G' p S T n dx d kvs:=
 (q _ _ H.sp H.ob,H.sp,H.sd,H.dc.imp (q _ _ H.sd) (q _ _ H.sd),H.len,H.no,λk z e=>let (h,c,g):=H.hs k z e;(h,c,g.keepL λx ws s e=>q x _ s e),(λb hb=>let (o,e):=H.al b hb;(o,q b o hb e)),H.nd,H.sk)
def SheetV(a:Ad)(G:Hq)(p:Addr)(S:Addr->Prop)(T:List Tl):Prop:=∃dx d kvs,ShV a G p S T T.length dx d kvs
noncomputable def Sheet.v{a:Ad}{G:Hq}{p:Addr}{S:Addr->Prop}{T:List Tl}(H:Sheet a G p S T):SheetV a G p S T:=let (dx,d,kvs,h):=H;(dx,d,kvs,h.v)
def SheetV.keep{a:Ad}{G G':Hq}{p:Addr}{S:Addr->Prop}{T:List Tl}(H:SheetV a G p S T)(q:KS S G G'):SheetV a G' p S T:=let (dx,d,kvs,h):=H;(dx,d,kvs,h.keep q)
def b34(h:t σ G λws G1=>sp ws G1 R EE):a86 sp EE t σ G R:=h
def b35(h:te σ G λ_ G1=>EE C G1):b12 EE C te nx rt bk ct σ G:=h
def b36(h:to σ G λx G1=>∃q dx fs,x=.ref q/\G1 q=cL (.ins C dx fs)/\fs.lookup m=jN/\t σ G1 λws G2=>sp (.ref q::ws) G2 R EE):a87 C m sp EE to t σ G R:=h
def b8R{A B:Prop}(h:A):if (!false)=jO then A else B:=h
def b8S{A B:Prop}(h:B):if (!true)=jO then A else B:=h
local macro_rules | `(tactic| walk_at "go1")=>`(tactic| with_reducible (first | apply b8R | apply b8S | apply b34 | apply b35 | apply b36))
def a3t(a:Ad):PX3:=λws G R EE=>∃x,ws=[x]/\Th G x/\∀G',Sm G G'->if a0F x=jO then R .non G' else EE a.x_NoName G'
set_option tactic.hygienic true in
def a1u(T:Txt K mg a):Cal P w K mg base (CXx P w) 2 "check_name" (a1D K (a3t a)):=by
 show fncX 1 (N:=["thing"]) T.br (T.f 9 _ rfl) ?_;walk_at "inx";show(_,(a0w (z_if (by ac_rfl)
  (a0w (a4k Outs.of ux rfl rfl T.x_NoName T.xi_NoName a8p (se_ rfl) a4M))
  a4a)),?_)
 let(x,rfl,hx,q):=h;lk;show(_,rfl,hx,λG' s1=>?_);let q':=q G' s1;lk;show ifNB (λc=>?_) λc=>?_
 .rw[c]at q';lk;show q'
 .rw[c]at q';lk;show q'
def a2b(a:Ad):PX3:=λws G R EE=>∃x y,ws=[x,y]/\Th G x/\Th G y/\∀G',Sm G G'->if strB x y=jO then R .non G' else EE a.x_NoStretch G'
set_option tactic.hygienic true in
def a2c(T:Txt K mg a):Cal P w K mg base (CXx P w) 3 "check_stretch" (a1D K (a2b a)):=by
 show fncX 2 (N:=["begin","end"]) T.br (T.f 14 _ rfl) ?_;walk_at "inx";show(_,(a0w (z_if (by ac_rfl)
  (a0w (a4k Outs.of ux rfl rfl T.x_NoStretch T.xi_NoStretch a8p (se_ rfl) a4M))
  a4a)),?_)
 let(x,y,rfl,hx,hy,q):=h;lk;show(_,_,rfl,hx,hy,λG' s1=>?_);let q':=q G' s1;lk;show ifNB (λc=>?_) λc=>?_
 .rw[c]at q';lk;show q'
 .rw[c]at q';lk;show q'
structure Tel (G:Hq) (z:Z) (h:Z) (nm:List Z) (x y:Z):Prop where
 e:z=.tup (h::(nm++[x,y]))
 l:(∃k,nm=[k])\/∃k w,nm=[k,w]
 n:∀z∈nm,Th G z
 x:Th G x
 y:Th G y
def Tel.sm{x y:Z}(T:Tel G z h nm x y)(s:Sm G G'):Tel G' z h nm x y:=(T.e,T.l,λz a=>(T.n z a).sm s,T.x.sm s,T.y.sm s)
def a2d(a:Ad):PX3:=λws G R EE=>Ex5 λ(z h:Z) (nm:List Z) (x y:Z)=>ws=[z]/\Tel G z h nm x y/\∀G',Sm G G'->if nm.all a0F=jO then (if strB x y=jO then R .non G' else EE a.x_NoStretch G') else EE a.x_NoName G'
def b8T:cutZ [h,k,x,y] (cL 1) (cL (-2))=[k]:=rfl
def b8U{h k w x y:Z}:cutZ [h,k,w,x,y] (cL 1) (cL (-2))=[k,w]:=rfl
def a5f{l:List Z}(h:x∈l)(c:f x=jP):l.all f=jP:=List.all_eq_false.mpr (x,h,by rw[c];decide)
def a6D{l:List Z}(h:(l.take i).all f=jO)(e:l[i]?=cL x)(c:f x=jO):(l.take (i+1)).all f=jO:=by
 rw[dh,eX,h,e]
 change (jO&&([x].all f))=jO
 rw[cB,c];rfl
set_option tactic.hygienic true in
def a03(T:Txt K mg a):Cal P w K mg base (CXx P w) 4 "check_telling" (a1D K (a2d a)):=by
 show fncX 1 (N:=["telling","name"]) T.br (T.f 15 _ rfl) ?_;walk_at "inx";show(_,(a0d (a4O (pt:=(.nm 1)) iA.leaving rfl (b1N (by ac_rfl)) (p_nm (nmI 1 nd))
  (a0w (a0Y (q_cX (a1Y Outs.of) ux.since (a1u T) hr (q_k (qv 1) a0m) ))))
  (a0w (a0Y (q_cX (a1Y Outs.of) ux.since (a2c T) hr (by ac_rfl) )))),?_)
 let(z,h,nm,x,y,rfl,(rfl,hl,hn,hx,hy),q):=h;let(k,rfl)||(k,w,rfl):=hl
 .change uSeq _ _ _ _ _ _ (a1F _ [.tup [h,k,x,y]]) _
  lk;show b0H (show ¬ (HT.sIx 4 0 (cL 1)=0/\HT.sIx 4 4 (cL (-2))=4) by decide) ?_;rw[b8T];lk;show a11 (λi σ G'=>∃v:Option Z,Sm G G'/\(([k]:List Z).take i).all a0F=jO/\σ=[cL (.tup [h,k,x,y]),v]) (_,Sm.refl _,rfl,rfl) (λ_ _ _ _ _=>True.intro) ?_ ?_
  .ext i u σ G' hu ⟨v,s,ha,rfl⟩;let hm:=cx hu;show(_,rfl,?_);lk;show(u,rfl,(hn u hm).sm s,λG1 s1=>?_);let q':=q G1 (s.trans s1);show ifB (λc=>?_) λc=>?_
   .lk;show(_,s.trans s1,a6D ha hu c,rfl)
   .rw[a5f hm c]at q';show q'
  .ext σ G' ⟨v,s,ha,rfl⟩;let ha:([k]:List Z).all a0F=jO:=ha;lk;show(x,y,rfl,hx.sm s,hy.sm s,λG1 s1=>?_);let q':=q G1 (s.trans s1);rw[ha]at q';show ifB (λc=>?_) λc=>?_
   .rw[c]at q';lk;show q'
   .rw[c]at q';show q'
 .change uSeq _ _ _ _ _ _ (a1F _ [.tup [h,k,w,x,y]]) _
  lk;show b0H (show ¬ (HT.sIx 5 0 (cL 1)=0/\HT.sIx 5 5 (cL (-2))=5) by decide) ?_;rw[b8U];lk;show a11 (λi σ G'=>∃v:Option Z,Sm G G'/\(([k,w]:List Z).take i).all a0F=jO/\σ=[cL (.tup [h,k,w,x,y]),v]) (_,Sm.refl _,rfl,rfl) (λ_ _ _ _ _=>True.intro) ?_ ?_
  .ext i u σ G' hu ⟨v,s,ha,rfl⟩;let hm:=cx hu;show(_,rfl,?_);lk;show(u,rfl,(hn u hm).sm s,λG1 s1=>?_);let q':=q G1 (s.trans s1);show ifB (λc=>?_) λc=>?_
   .lk;show(_,s.trans s1,a6D ha hu c,rfl)
   .rw[a5f hm c]at q';show q'
  .ext σ G' ⟨v,s,ha,rfl⟩;let ha:([k,w]:List Z).all a0F=jO:=ha;lk;show(x,y,rfl,hx.sm s,hy.sm s,λG1 s1=>?_);let q':=q G1 (s.trans s1);rw[ha]at q';show ifB (λc=>?_) λc=>?_
   .rw[c]at q';lk;show q'
   .rw[c]at q';show q'
def a1U(a:Ad):PX3:=λws G R EE=>∃q n:Int,ws=[.int q,.int n]/\if 0<=q/\q<=n then R .non G else EE a.x_NoKnowing G
set_option tactic.hygienic true in
def a0Z(T:Txt K mg a):Cal P w K mg base (CXx P w) 1 "check_in_reach" (a1D K (a1U a)):=by
 show fncX 2 (N:=["knowing","last"]) T.br (T.f 8 _ rfl) ?_;walk_at "inx";show(_,(a0w (z_if (by ac_rfl)
  (a0w (a4k Outs.of ux rfl rfl T.x_NoKnowing T.xi_NoKnowing a8p (se_ rfl) a4M))
  a4a)),?_)
 let(q,n,rfl,k):=h;lk;show ifD (λc=>?_) λc=>?_
 .rw[if_neg (by cbv)]at k;lk;show k
 .lk;show ifD (λc2=>?_) λc2=>?_
  .rw[if_neg (by cbv)]at k;lk;show k
  .rw[if_pos (by cbv)]at k;lk;show k
def a2K:P3:=λws G R=>∃(l:Addr)(L:List Rw)(τ:Tl),ws=[.ref l,τ.z]/\G l=cL (.lst (L.map Rw.z))/\Rise L/\Plain L/\L.length<=400/\τ.Ok /\
 ∀t G',G t=jN->Sm G G'->G' t=cL (.lst ((a48 L τ.b τ.e (optW τ.v)).map Rw.z))->R (.ref t) G'
def b8V:¬ (a9H=sPut):=by decide +kernel
set_option tactic.hygienic true in
def a0P(T:Txt K mg a):Cal P w K mg base CX0 4 "line_behind" (lowP K a2K):=by
 show fnc 2 (N:=["line","telling","worth"]) T.br (T.f 16 _ rfl) ?_;walk_at "in";show(_,(by ac_rfl),?_);let(l,L,(key,w,b,e),rfl,hl,hr,hp,hz,ok,q):=h;let hb:=ok.st.bef;let hv:=ok.v;cases w with
 |none=>
  unfold Tl.z;lk;show ifD (λc=>absurd c b8V) λ_=>?_;lk;show(l,L,b,e,.non,rfl,hl,hr,hp.okR,hp.one,by cbv,hb,rfl,q)
 |some w=>
  unfold Tl.z;lk;show ifD (λ_=>?_) λc=>absurd rfl c;lk;show(l,L,b,e,.str w,rfl,hl,hr,hp.okR,hp.one,by cbv,hb,a1t (by decide) hv,q)
def a2v(a:Ad):P3:=λws G R=>∃p dx,ws=[.ref p]/\G p=cL (.ins a.c_Tiled dx [])/\∀d G',G d=jN->(∀b o,G b=cL o->b≠p->G' b=cL o)->Sheet a G' p (λx=>x=p\/x=d) []->R .non G'
set_option tactic.hygienic true in
def a2w(T:Txt K mg a):Mal P w K mg base CX0 1 a.c_Tiled "__init__" (lowP K (a2v a)):=by
 show fnm 1 (N:=["self"]) (T.m_Tiled 7 _ rfl) ?_;walk_at "in";show(_,(a0d (a82 T.cl_Tiled (T.n_Tiled 0 _ rfl) (qv 0) a8o)
  (a0w (a82 T.cl_Tiled (T.n_Tiled 1 _ rfl) (qv 0) b5H))),?_)
 let(p,dx,rfl,hp,q):=h;lk;show(p,dx,[],rfl,hp,by decide,?_);lk;ext d hd;let hpd:p≠d:=a0k a0a hd;lk;show(p,dx,[(a5V,.int 0,)],rfl,by rw[a0j hpd];show a0a,by decide,?_);rw[b32];lk;let hd0:G d=jN:=by rw[a0j (Ne.symm hpd)]at hd;show hd
 show q d _ hd0 (λb o e nb=>?_) (dx,d,[],(a0a,.inl rfl,.inr rfl,?_,by simp,λk _=>rfl,(λk z e=>by cases e),(λk k' z e=>by cases e),?_,.nil,λq hq=>by simp at hq))
 .rw[a0j nb,a0j (a0k e hd0),a0j nb];show e
 .rw[a0j (Ne.symm hpd)];show a0a
 .ext b (rfl |rfl)
  .show(_,a0a)
  .show(_,by rw[a0j (Ne.symm hpd)];show a0a)
def a1n(a:Ad):P3:=λws G R=>Ex4 λ(p:Addr) (S:Addr->Prop) (T:List Tl) (q:Int)=>ws=[.ref p,.int q]/\SheetV a G p S T/\if 0<=q/\q<=T.length then R .non G else False
set_option tactic.hygienic true in
def a0H(T:Txt K mg a):Mal P w K mg base CX0 2 a.c_Tiled "check_knowing" (lowP K (a1n a)):=by
 show fnm 2 (N:=["self","knowing"]) (T.m_Tiled 0 _ rfl) ?_;walk_at "in";show(_,(a0w (a0Y (q_cX a05 up0 (a0Z T) hr (q_k (qv 1) (q_k (a1l T.cl_Tiled (T.n_Tiled 0 _ rfl) (qv 0)) a0m)) ))),?_);let(p,S,T',q,rfl,(dx,d,kvs,sh),k):=h;lk;show(p,dx,_,_,rfl,sh.ob,a2u,?_);lk;show(q,_,rfl,?_)
 by_cases c:0<=q/\q<=T'.length
 .rw[if_pos c]at k ⊢;lk;show k
 .rw[if_neg c]at k ⊢;show k
def a1V(a:Ad):P3:=λws G R=>Ex9 λ(p:Addr) (S:Addr->Prop) (T:List Tl) (k:Str) (q:Int) (n:Int) (dx d:Addr) (kvs:List (Key×Z))=>ws=[.ref p,.str k,.int q]/\ShV a G p S T n dx d kvs/\0<=q/\q<=T.length/\T.length<=200 /\
 ∀t L G',G t=jN->Sm G G'->G' t=cL (.lst (L.map Rw.z))->IsLine (T.take q.toNat) k L->R (.ref t) G'
def Nmd(l:List Rw):Prop:=∀r∈l,∃w,r.w=[.str w]
def NmT(ts:List Ti):Prop:=∀t∈ts,∃w,t.r.w=[.str w]
def a3V{α β:Type}{l:List α}{g:α->Z}{g':β->Z}(f:α->Option β)(hok:∀ys,ok (put G1 D (.lst ys)))(hz:l.length<=100000)
  (turn:∀x,x∈l->∀(ys:List Z)(K1:K3)(K2:Hq->Prop),(∀y,f x=cL y->K1 (g' y) (put G1 D (.lst ys)))->(f x=jN->K2 (put G1 D (.lst ys)))->∃σ',a2E pt (g x) (cap3 cap σ)=cL σ'/\tt σ' (put G1 D (.lst ys)) λb G4=>if b=jO then te σ' G4 K1 else K2 G4)
  (fin:R (.ref D) (put G1 D (.lst ((l.filterMap f).map g')))):LCB (l.map g) ok cap pt tt te σ R D G1:=by
 show a4P (λi c G=>c=((l.take i).filterMap f).map g'/\G=put G1 D (.lst c)) (by simp,rfl) ?_ ?_ ?_
 .simp_all
 .ext i x c G d ⟨e,rfl⟩;rw[cg]at d;cases hx':l[i]? with
  |none=>rw[hx']at d;cases d
  |some a=>
   rw[hx']at d;cases d;let k:=(cn.mp hx').1;show turn a (cx hx') c _ _ (λy j=>(a0a,?_,?_,?_)) λh=>(?_,rfl)
   .rw[e,b7];show eI (cw (dU _ _) (by rw[cz];lia:_<=99999)) (by decide)
   .rw[a0C hx',j,e,cq];rfl
   .rw[a2p]
   .rw[a0C hx',h,e];simp
 .simp_all
def a5W:P3:=λws G R=>∃(k:Str)(t:Ti),ws=[t.z k]/\(∃w,t.r.w=[.str w])/\R t.r.z G
set_option tactic.hygienic true in
def a5X(T:Txt K mg a):Cal P w K mg base CX0 1 "run_of" (lowP K a5W):=by
 show fnc 1 (N:=["tile"]) T.br (T.f 10 _ rfl) ?_;walk_at "in";show(_,(by ac_rfl),?_);let(k,((rb,re,rw0),s,u),rfl,(w,hw),q):=h;simp only at hw;subst hw;unfold Ti.z;lk;show(lenK rfl,?_);lk;show q
def a2L:P3:=λws G R=>∃(k:Str)(t:Ti),ws=[t.z k]/\R (.bl t.u.isNone) G
set_option tactic.hygienic true in
def a2M(T:Txt K mg a):Cal P w K mg base CX0 1 "is_standing" (lowP K a2L):=by
 show fnc 1 (N:=["tile"]) T.br (T.f 11 _ rfl) ?_;walk_at "in";show(_,(by ac_rfl),?_);let(k,(r,s,u),rfl,q):=h;unfold Ti.z;lk;show b8K ?_;rw[Option.not_isSome];show q
def a3B:P3:=λws G R=>∃(k:Str)(t:Ti)(n:Int),ws=[t.z k,.int n]/\R (.bl (t.at_ n)) G
set_option tactic.hygienic true in
def a3C(T:Txt K mg a):Cal P w K mg base CX0 2 "stands_at" (lowP K a3B):=by
 show fnc 2 (N:=["tile","knowing"]) T.br (T.f 12 _ rfl) ?_;walk_at "in";show(_,(by ac_rfl),?_);let(k,t,n,rfl,q):=h;unfold Ti.at_ at q;unfold Ti.z;lk;show ifD (λc=>?_) λc=>?_
 .rw[decide_eq_true c]at q;lk;show(k,t,rfl,?_);cases e:t.u with
  |none=>
   rw[e]at q;lk;show q
  |some x=>
   rw[e]at q;lk;rw[if_neg (by simp)];lk;show q
 .rw[decide_eq_false c]at q;lk;show q
def a4s:P3:=λws G R=>Ex6 λ(p l:Addr) (k:Str) (ts:List Ti) (L:List Rw) (n:Int)=>ws=[.ref p,.str k,.ref l,.int n]/\G p=cL (.lst (ts.map (Ti.z k)))/\G l=cL (.lst (L.map Rw.z))/\NmT ts/\Nmd L/\ts.length<=90000/\L.length<=900/\(stR ts).length<=900 /\
 ∀t G',G t=jN->Sm G G'->G' t=cL (.lst ((tOn ts L n).map (Ti.z k)))->R (.ref t) G'
noncomputable def prR(r:Rw):Z:=.tup [r.z,.bl jO]
noncomputable def prK(r:Rw):List Key×Z:=(rnK r,.bl jO,)
def b2c(h:Nmd L):L.map prR=(L.map prK).map prT:=by
 rw[dl];show d1 λr a=>?_
 change Z.tup [r.z,.bl jO]=.tup [.tup ((rnK r).map keyW),.bl jO]
 rw[a9J (h r a)]
def b2d(h:Nmd L)(hr:∃w,r.w=[.str w])(hk:∀j,j∈ks↔j∈(L.map prK).map (·.1)):hasK ks (rnK r)=hasR L r:=by
 rw[dN,b05,hasR_iff,hk,dl,cm];show(by ext⟨s,a,e⟩;show b31 (h s a) hr e▸a,λa=>(r,a,rfl))
def b8W(ts:List Ti):ts.filterMap (λt=>if t.u.isNone=jO then cL t.r else jN)=stR ts:=by
 unfold stR
 induction ts with
 |nil=>rfl
 |cons t ts ih=>
  rw[cW,db];cases t.u.isNone
  .show ih
  .change t.r::_=_
   rw[ih];rfl
def b37{α:Type}(l:List α):l.filterMap (λr=>cL r)=l:=by simp
def a9M{α:Type}{p:α->Bool}(l:List α):l.filterMap (λr=>if p r=jO then cL r else jN)=l.filter p:=by
 induction l with
 |nil=>rfl
 |cons r l ih=>
  rw[cW,db];cases p r
  .show ih
  .simp_all
def b2e{α β:Type}{f:α->β}(l:List α):l.filterMap (λr=>cL (f r))=l.map f:=by simp
def cut5{a b c d e f:Z}:cutZ [a,b,c,d,e,f] jN (cL 5)=[a,b,c,d,e]:=rfl
def b2f(h:NmT ts):Nmd (stR ts):=λr b=>by
 let(t,a,rfl):=cm.mp b;show h t (de.mp a).1
set_option tactic.hygienic true in
def a2e(T:Txt K mg a):Cal P w K mg base CX0 2 "tiled_on" (lowP K a4s):=by
 show fnc 4 (N:=["tiles","key","line","knowing","wanted","standing","begun","ended"]) T.br (T.f 18 _ rfl) ?_;walk_at "in";show(_,(a0d (z_st (nmI 4 nd) (q_Y (a9n rfl hu) (T.b 9) (q_k (q_l ["run"] [jN] (.nm 0)) a0m)))
  (a0d (z_st (nmI 5 nd) (q_Y (a9n rfl hu) (T.b 9) (q_k (q_l ["tile"] [jN] (.nm 0)) a0m)))
  (a0d (z_l (nmI 6 nd) ["run","standing"] [jN,cL 5] (.nm 0) (ht:=λ_ _ _ _=>(a5y (a3L (a6x hu) (qv 0) (qv 1) (by with_unfolding_all rfl)))))
  (a0d (z_l (nmI 7 nd) ["tile","wanted","knowing"] [jN,cL 4,cL 3] (.nm 0) (he:=λ_ _ _ _=>(q_if (QW.qt (b5g (by ac_rfl) (b1J (a3L (a6x hu) (by ac_rfl) (qv 1) (by with_unfolding_all rfl))))) (by ac_rfl) (qv 0))))
  (a0w (a1q (q_op b0A (qv 7) (q_l ["begin","end","worth","key","knowing"] [jN,jN,jN,cL 1,cL 3] (.tp [0,1,2]))))))))),?_)
 let(p,l,k,ts,L,n,rfl,gp,gl,nt,nl,zt,zl,zs,fin):=h;lk;show a12 gl ?_;ext D hD;show a3V (g':=prR) (λr=>cL r) (λys=>a0c gl hD) (by cbv) ?_ ?_
 .ext r hr ys K1 K2 k1 k2;show(_,rfl,?_);lk;show(lenK rfl,?_);lk;show k1 r rfl
 rw[b37,b2c nl];generalize ee:put G D _=G1;let(gD,s1):=newK ee hD;lk;show a9o gD (by rw[b7];cbv) λW ks hW hks=>?_;generalize ee:put G1 W _=G2;let(gW,s2):=newK ee hW;let s2:=s1.trans s2;clear gD s1 hD hW;lk;show a12 (s2 _ _ gp) ?_;ext E hE;show a3V (g':=prR) (λt=>if t.u.isNone=jO then cL t.r else jN) (λys=>a0c (s2 _ _ gp) hE) (by cbv) ?_ ?_
 .ext t ht ys K1 K2 k1 k2;show(_,rfl,?_);lk;show(k,t,rfl,?_);show(_,rfl,?_);show ifB (λc=>?_) λc=>?_
  .lk;show(k,t,rfl,nt t ht,?_);lk;show(lenK rfl,?_);lk;show k1 t.r (if_pos c)
  .show k2 (if_neg (by rw[c];simp))
 rw[b8W,b2c (b2f nt)];generalize ee:put G2 E _=G3;let(gE,s3):=newK ee hE;lk;show a9o gE (by rw[b7];cbv) λV vs hV hvs=>?_;generalize ee:put G3 V _=G4;let(gV,s4):=newK ee hV;let s4:=s3.trans s4;let gW4:=s4 _ _ gW;let s04:=s2.trans s4;clear gE s3 hE hV s2 s4 gW;lk;show a12 (s04 _ _ gl) ?_;ext B hB;show a3V (g':=Rw.z) (λr=>if (!hasR (stR ts) r)=jO then cL r else jN) (λys=>a0c (s04 _ _ gl) hB) (by cbv) ?_ ?_
 .ext r hr ys K1 K2 k1 k2;show(_,rfl,?_);lk;show b6t (a0c gV hB) (a9J (nl r hr)).symm ?_;rw[b2d (b2f nt) (nl r hr) hvs];show(_,rfl,?_);show ifB (λc=>?_) λc=>?_
  .lk;show k1 r (if_pos c)
  .show k2 (if_neg (by rw[c];simp))
 rw[a9M];generalize ee:put G4 B _=G5;let(gB,s5):=newK ee hB;let gW5:=s5 _ _ gW4;let s05:=s04.trans s5;lk;show a12 (s05 _ _ gp) ?_;ext N hN;show a3V (g':=Ti.z k) (λt=>cL (endR L n t)) (λys=>a0c (s05 _ _ gp) hN) (by cbv) ?_ ?_
 .ext t ht ys K1 K2 k1 k2;show(_,rfl,?_);let kk:∀t',endR L n t=t'->K1 (t'.z k) (put G5 N (.lst ys)):=λt' e=>k1 t' (by rw[e]);lk;show(k,t,rfl,?_);show(_,rfl,?_);show ifB (λc=>?_) λc=>?_
  .lk;show(k,t,rfl,nt t ht,?_);lk;show b6t (a0c gW5 hN) (a9J (nt t ht)).symm ?_;rw[b2d nl (nt t ht) hks];show(_,rfl,?_);show ifB (λc2=>?_) λc2=>?_
   .let kk:=kk _ (if_pos (by rw[c];show c2));lk;unfold Ti.z;show b0H (show ¬ (HT.sIx 6 0 jN=0/\HT.sIx 6 6 (cL 5)=6) by decide) ?_;rw[cut5];lk;show(lenK rfl,?_);lk;show b1R (by simp) (lenK rfl) ?_;show kk
   .let kk:=kk _ (if_neg (by rw[c,show (!hasR L t.r)=jP from c2];simp));lk;show kk
  .let kk:=kk _ (if_neg (by rw[c];simp));lk;show kk
 rw[b2e];generalize ee:put G5 N _=G6;let(gN,s6):=newK ee hN;let gB6:=s6 _ _ gB;let s06:=s05.trans s6;lk;show a12 gB6 ?_;ext M hM;show a3V (g':=Ti.z k) (λr=>cL (newR n r)) (λys=>a0c gB6 hM) (cw (gz _ _) (by cbv)) ?_ ?_
 .ext r hr ys K1 K2 k1 k2;let(w,hw):=nl r (de.mp hr).1;let(rb,re,rw0):=r;simp only at hw;subst hw;show(_,rfl,?_);lk;show(lenK rfl,?_);show k1 _ rfl
 rw[b2e];show a4Q (a0c gN hM) a0a ?_ λt ht=>?_
 .rw[b7,b7,b7,b7]
  let:=gz (λr=>!hasR (stR ts) r) L
  show cw (by cbv:_<=91000) (by decide)
 .let sM:Sm G (put G6 M (.lst (((L.filter λr=>!hasR (stR ts) r).map (newR n)).map (Ti.z k)))):=s06.trans (Sm.new hM);show fin t _ (sM.free ht) (sM.trans (Sm.new ht)) ?_;rw[a0a];unfold tOn;rw[cq]
def b8X:∀{es:List (Int×List Rw)},(∀e∈es,Nmd e.2)->NmT (TF es):=by
 ext b
 induction b using a5U with
 |h0=>show λ_ t a=>by simp[TF]at a
 |h1 b e ih=>
  ext h t a;rw[a3q]at a;let a||a:=b9.mp a
  .let(f,h0,rfl):=cm.mp a;rw[b3Y];show ih (λx d=>h x (by simp[d])) f h0
  .let(r,g,rfl):=cm.mp a;show h e (by simp) r (de.mp g).1
def b38(ts:List Ti)(q:Int):ts.filterMap (λt=>if t.at_ q=jO then cL t.r else jN)=a0R ts q:=by
 unfold a0R
 induction ts with
 |nil=>rfl
 |cons t ts ih=>
  rw[cW,db];cases t.at_ q
  .show ih
  .change t.r::_=_
   rw[ih];rfl
noncomputable def unK:List Key->Rw
 |[.inl (cL b),.inl e,.inr s]=>(b,e,[.str s])
 |_=>(0,jN,[])
def b2g(h:∃w,r.w=[.str w]):unK (rnK r)=r:=by
 let(b,e,w):=r;let(s,h):=h;subst h
 rfl
def b60(h:Nmd l):(l.map rnK).map unK=l:=by
 rw[dl];show (d1 λr a=>b2g (h r a)).trans (eV l)
def b2h(h:Nmd l):(l.map rnK).map L2.tupZ=l.map Rw.z:=by
 rw[dl];show d1 λr a=>b8Q (h r a)
def a9N{L M:List Rw}{os:List (List Key)}(hc:Can L)(nl:Nmd L)(p:M.Perm L)(ho:os.Perm (M.map rnK))(s:os.Pairwise (λx y=>Tim.ltT y x=jP)):os.map L2.tupZ=L.map Rw.z:=by
 let c:=λr a=>nl r (p.mem_iff.mp a);let b:(os.map unK).map rnK=os:=by
  rw[dl];show (d1 λx f=>?_).trans (eV os);let(r,a,rfl):=cm.mp (ho.mem_iff.mp f)
  change rnK _=rnK r
  rw[b2g (c r a)]
 let d:(os.map unK).Perm L:=by
  let:=ho.map unK
  rw[b60 c]at this;show this.trans p
 rw[<- b,(a9K hc d (by simp_all)),b2h nl]
structure TsV (T:List Tl) (k:Str) (es:List (Int×List Rw)):Prop where
 ix:es.map (·.1)=ix T k
 ln:∀e∈es,IsLine (T.take e.1.toNat) k e.2
def TsV.le{T:List Tl}{k:Str}{es:List (Int×List Rw)}(h:TsV T k es){e:Int×List Rw}(he:e∈es):1<=e.1/\e.1<=T.length:=b6U (h.ix▸cS he)
def TsV.run(h:TsV T k es):Run es T.length:=b1r (a9I h.ix) (λ_ a=>(h.le a).2) λe a=>(h.ln e a).can
def TsV.nm(h:TsV T k es):NmT (TF es):=b8X λe b r a=>a4q (h.ln e b) a
def TsV.len(h:TsV T k es)(hT:T.length<=200):(TF es).length<=80000:=by
 let d:=b6Y (m:=400) λe c=>by
  let:=(h.ln e c).len
  rw[cz]at this
  lia
 let a:es.length<=200:=by
  let b:=congrArg cF h.ix;rw[b7]at b
  let:=b6V T k
  lia
 lia
def TsV.line(h:TsV T k es)(q:Nat):IsLine (T.take q) k (a1H es q):=b30 h.ix h.ln q
def TsV.st(h:TsV T k es):(stR (TF es)).length<=2*T.length:=by
 rw[<- a5T h.run.ok (cK _),(h.run.p _).length_eq]
 let:=(h.line T.length).len
 rw[dr]at this;show this
def a6E{a:Ad}{G:Hq}{p:Addr}{S:Addr->Prop}{T:List Tl}{n:Int}{dx d t0:Addr}{kvs:List (Key×Z)}(sh:ShV a G p S T n dx d kvs)(ht0:G t0=jN)(k:Str) :
  ∃h es,(valZ kvs (.inr k)).getD (.ref t0)=.ref h/\put G t0 (.lst []) h=cL (.lst ((TF es).map (Ti.z k)))/\TsV T k es/\(valZ kvs (.inr k)=jN->es=[]):=by
 cases hv:valZ kvs (.inr k) with
 |none=>show(t0,[],rfl,a0a,(by rw[sh.no k hv];rfl,λe he=>by simp at he),λ_=>rfl)
 |some z=>
  let(h,rfl,es,H):=sh.hs k z hv;show(h,es,rfl,a0c H.at_ ht0,(H.ix,H.ln),λe=>by cases e)
def a0A(T:Txt K mg a):Mal P w K mg base CX0 3 a.c_Tiled "known_line" (lowP K (a1V a)):=by
 show fnm 3 (N:=["self","key","knowing"]) (T.m_Tiled 1 _ rfl) ?_ (len:=λws G R h=>(by let(_,_,_,_,_,_,_,_,_,rfl,_):=h;rfl));walk_at "in";show(_,(a0w (a1q (q_B a9h (T.b 8) (q_k (q_l ["tile","knowing"] [jN,cL 2] (.nm 0) (hi:=(a3a (q_bm PySem.F.plainAttrs_dict PySem.F.slot_dict_get PySem.F.type_dict_get (a6p hu) (a1l T.cl_Tiled (T.n_Tiled 1 _ rfl) (qv 0)) (by ac_rfl))))) a0m)))),?_);let(p,S,T,k,q,n,dx,d,kvs,rfl,sh,h0,h1,hT,fin):=h;let(q,rfl):=d3 h0;lk;show(p,dx,_,_,rfl,sh.ob,a4r,?_);show b8u sh.dc ?_;lk;show(lenK rfl,λt0 ht0=>?_);lk;show b3u (sh.dc.imp (λe=>a0c e ht0) λe=>a0c e ht0) rfl ?_;let s0:Sm G (put G t0 (.lst [])):=Sm.new ht0;let(h,es,hval,gh,tv,_):=a6E sh ht0 k;rw[hval];generalize put G t0 (.lst [])=G1 at s0 gh ⊢;lk;show a12 gh ?_;ext D hD;show a3V (g':=Rw.z) (λt=>if t.at_ (q:Int)=jO then cL t.r else jN) (λys=>a0c gh hD) (by let:=tv.len hT;cbv) ?_ ?_
 .ext t ht ys K1 K2 k1 k2;show(_,rfl,?_);lk;show(k,t,_,rfl,?_);show(_,rfl,?_);show ifB (λc=>?_) λc=>?_
  .lk;show(k,t,rfl,tv.nm t ht,k1 t.r (if_pos c))
  .show k2 (if_neg (by rw[c];simp))
 rw[b38];let il:=tv.line q;let nl:Nmd (a1H es q):=λr hr=>a4q il hr;let pm:=tv.run.p q;let nm:Nmd (a0R (TF es) q):=λr hr=>nl r (pm.mem_iff.mp hr);let s1:Sm G (put G1 D (.lst ((a0R (TF es) q).map Rw.z))):=s0.trans (Sm.new hD);show a9i (rows:=(a0R (TF es) q).map rnK) (jQ:=3) (by rw[b2h nm];show a0a) ?_ ?_ ?_ ?_ λt os ht hp hs=>?_
 .rw[b7,pm.length_eq]
  let:=il.len
  rw[cz]at this;cbv
 .ext x hx;let(r,hr,rfl):=cm.mp hx;show(r.b,_,rfl)
 .ext x hx;let(r,hr,rfl):=cm.mp hx
  rfl
 .ext x hx y hy;let(r,hr,rfl):=cm.mp hx;let(s,hs,rfl):=cm.mp hy;show b6Z il.can r (pm.mem_iff.mp hr) s (pm.mem_iff.mp hs)
 .rw[a9N il.can nl pm hp hs];show fin t (a1H es q) _ (s1.free ht) (s1.trans (Sm.new ht)) a0a ?_;rw[show ((q:Int)).toNat=q by cbv];show il
def a4t:valZ (putZ kvs k v) j=if j=k then cL v else valZ kvs j:=by
 unfold putZ
 split
 .next hc=>
  let m:∀kvs:List (Key×Z),valZ (kvs.map λkv=>if kv.1=k then (kv.1,v,) else kv) j=(valZ kvs j).map λx=>if j=k then v else x:=by
   ext kvs
   induction kvs with
   |nil=>rfl
   |cons p r ih=>
    unfold valZ at ih ⊢;rw[cr,da,da];let h:(if p.1=k then (p.1,v,) else p).1=p.1:=by split<;>rfl
    rw[h];cases c:decide (p.1=j) with
    |false=>show ih
    |true=>
     let d:=of_decide_eq_true c;simp
     by_cases ck:p.1=k
     .simp_all
     .simp_all
  rw[m]
  by_cases c:j=k
  .subst c;let(p,f,g):=dY.mp hc
   let:(kvs.find? λkv=>decide (kv.1=j)).isSome=jO:=gA.mpr (p,f,g)
   unfold valZ;cases e:kvs.find? λkv=>decide (kv.1=j) with
   |none=>rw[e]at this;cases this
   |some q=>simp
  .simp_all
 .next hc=>
  unfold valZ;rw[gb]
  by_cases c:j=k
  .subst c
   let:kvs.find? (λkv=>decide (kv.1=j))=jN:=by
    rw[fz];ext p i l;show hc (dY.mpr (p,i,l))
   rw[this];simp
  .rw[if_neg c]
   let:[(k,v,)].find? (λkv=>decide (kv.1=j))=jN:=by simp;show λz=>c z.symm
   rw[this,Option.or_none]
def a6F{kvs:List (Key×Z)}{k:Key}{v:Z}:(putZ kvs k v).length<=kvs.length+1:=by
 unfold putZ
 split<;>simp
def a5g(h:valZ kvs k=jN):∀q∈kvs,q.1≠k:=λq b e=>by
 unfold valZ at h
 let:(kvs.find? λa=>decide (a.1=k)).isSome=jO:=gA.mpr (q,b,decide_eq_true e)
 cases e2:kvs.find? λa=>decide (a.1=k) with
 |none=>rw[e2]at this;cases this
 |some x=>rw[e2]at h;cases h
def a9O(h:valZ kvs k=jN):putZ kvs k v=kvs++[(k,v,)]:=by
 unfold putZ;rw[if_neg λz=>?_];let(q,a,b):=dY.mp z;show a5g h q a (of_decide_eq_true b)
def b61(h:valZ kvs k=jN)(nd:(kvs.map (·.1)).Nodup):((putZ kvs k v).map (·.1)).Nodup:=by
 rw[a9O h,cq,dX];show(nd,by simp,λx a y c=>?_);let(q,b,rfl):=cm.mp a
 let:y=k:=↑c
 rw[this];show a5g h q b
def b62(sk:∀q∈kvs,∃s,q.1=Sum.inr s):∀q∈putZ kvs (.inr k) v,∃s,q.1=Sum.inr s:=λq a=>by
 unfold putZ at a
 split at a
 .let(d,c,e):=cm.mp a;let(s,b):=sk d c;show(s,?_);rw[<- e]
  split
  .cbv
  .cbv
 .let a||a:=b9.mp a
  .show sk q a
  .show(k,by rw[cc.mp a])
def a2f(a:Ad):P3:=λws G R=>Ex9 λ(p:Addr) (S:Addr->Prop) (T:List Tl) (τ:Tl) (l:Addr) (L:List Rw) (dx d:Addr) (kvs:List (Key×Z))=>ws=[.ref p,.str τ.key,.ref l]/\ShM a G p S T ((T.length:Int)+1) dx d kvs/\G l=cL (.lst (L.map Rw.z))/\¬ S l/\IsLine (T++[τ]) τ.key L/\T.length<=200 /\
 ∀(S':Addr->Prop) G',(∀b,S b->S' b)->(∀b,S' b->S b\/b=l\/G b=jN)->KN S G G'->Sheet a G' p S' (T++[τ])->R .non G'
def a6G(h:s∈ix T k):(T++[τ]).take s.toNat=T.take s.toNat:=by
 let:=b6U h
 rw[eU (by lia)]
def b1t:(T++[τ]).take ((T.length:Int)+1).toNat=T++[τ]:=by
 rw[di];rw[cj,eF]
 lia
def b1u(h:valZ kvs k≠jN):(putZ kvs k v).map (·.1)=kvs.map (·.1):=by
 unfold putZ;rw[if_pos]
 .rw[dl];show d1 λx _=>?_
  change (if x.1=k then _ else x).1=x.1
  split<;>rfl
 .rw[dY];unfold valZ at h;cases e:kvs.find? λa=>decide (a.1=k) with
  |none=>rw[e]at h;show absurd rfl h
  |some x=>
   let:=fA e
   show(x,eW e,this)
def b39(nd:(kvs.map (·.1)).Nodup):((putZ kvs k v).map (·.1)).Nodup:=by
 by_cases h:valZ kvs k=jN
 .show b61 h nd
 .rw[b1u h];show nd
def a2g(T:Txt K mg a):Mal P w K mg base CX0 3 a.c_Tiled "keep_line" (lowP K (a2f a)):=by
 show fnm 3 (N:=["self","key","line"]) (T.m_Tiled 4 _ rfl) ?_ (len:=λws G R h=>(by let(_,_,_,_,_,_,_,_,_,rfl,_):=h;rfl));walk_at "in";show(_,(a0w (a6f (q_c (a2e T) hr (q_k (q_bm PySem.F.plainAttrs_dict PySem.F.slot_dict_get PySem.F.type_dict_get (a6p hu) (a1l T.cl_Tiled (T.n_Tiled 1 _ rfl) (qv 0)) (by ac_rfl)) (q_k (qv 1) (q_k (qv 2) (q_k (a1l T.cl_Tiled (T.n_Tiled 0 _ rfl) (qv 0)) a0m)))) ) (a1l T.cl_Tiled (T.n_Tiled 1 _ rfl) (qv 0)) (qv 1) (a8Z hu))),?_);let(p,S,T,τ,l,L,dx,d,kvs,rfl,sh,gl,nl,il,hT,q):=h;lk;show(p,dx,_,_,rfl,sh.ob,a4r,?_);show b6h sh.dc ?_;lk;show(lenK rfl,λt0 ht0=>?_);lk;show b11 (a0c sh.dc ht0) rfl ?_;let s0:Sm G (put G t0 (.lst [])):=Sm.new ht0;let(h,es,hval,gh,tv,hno):=a6E sh.v ht0 τ.key;rw[hval];generalize put G t0 (.lst [])=G1 at s0 gh ⊢;lk;show(p,dx,_,_,rfl,s0 _ _ sh.ob,a2u,?_);lk;let lL:L.length<=900:=by let:=il.len;rw[cj,eF]at this;cbv
 show(h,l,τ.key,TF es,L,_,rfl,gh,s0 _ _ gl,tv.nm,λr hr=>a4q il hr,by let:=tv.len hT;cbv,lL,by let:=tv.st;cbv,λt G2 ht s2 gt=>?_);let s02:=s0.trans s2;let hGt:G t=jN:=s0.free ht;let npd:p≠d:=λz=>by let e:=sh.ob;rw[z,sh.dc]at e;cases e
 let ntd:t≠d:=λz=>by rw[z,s02 _ _ sh.dc]at gt;cases gt
 let hlen:((T++[τ]).length:Int)=(T.length:Int)+1:=by simp
 lk;show(p,dx,_,_,rfl,s02 _ _ sh.ob,a4r,?_);lk;show a80 (s02 _ _ sh.dc) rfl (a0l (by let:=sh.len;cbv)) ?_;let keep:∀b o,b≠d->G b=cL o->put G2 d (.dK (putZ kvs (.inr τ.key) (.ref t))) b=cL o:=λb o nb e=>by rw[a0j nb];show s02 _ _ e
 let nS:∀z h',z=Z.ref h'->S h'->z≠.ref t:=λz h' e hs e'=>by
  rw[e]at e';cases e';let(o,eo):=sh.al _ hs;rw[hGt]at eo;cases eo
 show q (λb=>S b\/b=t) _ (λb hb=>.inl hb) (λb hb=>hb.elim .inl λz=>.inr (.inr (by rw[z];show hGt))) (λb o nb e=>keep b o (λz=>nb (z▸sh.sd)) e) (dx,d,putZ kvs (.inr τ.key) (.ref t),?_);show(by rw[hlen];show keep _ _ npd sh.ob,.inl sh.sp,.inl sh.sd,a0a,by let h1:=sh.len;let h2:=@a6F kvs (.inr τ.key) (.ref t);simp;cbv,λk hk=>?_,λk z e=>?_,λk k' z e e'=>?_,(λb hb=>?_),b39 sh.nd,b62 sh.sk)
 .rw[a4t]at hk
  split at hk
  .cases hk
  .next c=>
   rw[a5S,sh.no k hk,if_neg λz=>c (by rw[z])]
   rfl
 .rw[a4t]at e
  split at e
  .next c=>
   cases e;let ck:k=τ.key:=↑c
   subst ck;show(t,rfl,es++[((T.length:Int)+1,L,)],.inr rfl,by rw[a0j ntd,gt,a3q],by rw[cq,tv.ix,a5S,if_pos rfl];rfl,by simp,λe he=>?_);let he||he:=b9.mp he
   .let:=tv.ln e he
    rw[a6G (k:=τ.key) (by rw[<- tv.ix];show cS (f:=(·.1)) he)];show this
   .rw[cc.mp he]
    change IsLine ((T++[τ]).take ((T.length:Int)+1).toNat) τ.key L
    rw[b1t];show il
  .next c=>
   let(h',ez,es',H'):=sh.hs k z e;show(h',ez,es',.inl H'.s,keep _ _ (λw=>by let e:=H'.at_;rw[w,sh.dc]at e;cases e) H'.at_,by rw[H'.ix,a5S,if_neg λz=>c (by rw[z]),cE],H'.ne,λe he=>?_)
   let:=H'.ln e he
   rw[a6G (k:=k) (by rw[<- H'.ix];show cS (f:=(·.1)) he)];show this
 .rw[a4t]at e e'
  split at e
  .next c=>
   split at e'
   .next c'=>o_head c.trans c'.symm
   .cases e;let(h',ez,H'):=sh.hs k' _ e';show absurd rfl (nS _ h' ez H'.at_.1)
  .split at e'
   .cases e';let(h',ez,H'):=sh.hs k _ e;show absurd rfl (nS _ h' ez H'.at_.1)
   .show sh.inj k k' z e e'
 .by_cases c2:b=d
  .rw[c2];show(_,a0a)
  .let hb||hb:=hb
   .let(o,e):=sh.al b hb;show(o,keep b o c2 e)
   .rw[hb];show(_,by rw[a0j ntd];show gt)
def a4u(a:Ad):P3:=λws G R=>∃(p:Addr)(S:Addr->Prop)(T:List Tl),Sheet a G p S T/\((∃τ:Tl,ws=[.ref p,τ.z]/\τ.Ok/\T.length<=150 /\
 ∀(S':Addr->Prop) G',(∀b,S b->S' b)->(∀b,S' b->S b\/G b=jN)->KN S G G'->Sheet a G' p S' (T++[τ])->R (.int ((T.length:Int)+1)) G')\/False)
def a9P{τ:Tl}:∃ws,τ.z=.tup ws/\atI ws 1=cL (.str τ.key):=by
 let(k,w,b,e):=τ;cases w<;>show(_,rfl,at1)
def b4a:Th G (oz e):=by cases e<;>show True.intro
def Tl.Ok.tel{τ:Tl}(ok:τ.Ok):∃(h:Z)(nm:List Z),Tel G τ.z h nm (.int τ.b) (oz τ.e)/\nm.all a0F=jO/\strB (.int τ.b) (oz τ.e)=jO:=by
 let(k,w,b,e):=τ;let d:=ok.k;let a:=ok.w;let f:=st_b ok.st;cases w with
 |none=>show(_,[.str k],(rfl,.inl (_,rfl),λz c=>by rw[cc.mp c];show a4p d,True.intro,b4a),by rw[cB,nm_b d];rfl,f)
 |some w=>
  let a:=a w rfl;show(_,[.str k,.str w],(rfl,.inr (_,_,rfl),λz c=>?_,True.intro,b4a),by rw[cB,nm_b d,cB,nm_b a];rfl,f);simp at c;let rfl||rfl:=c
  .show a4p d
  .show a4p a
set_option tactic.hygienic true in
def a4v(T:Txt K mg a):Mal P w K mg base CX0 5 a.c_Tiled "tell" (lowP K (a4u a)):=by
 show fnm 2 (N:=["self","telling","key","line"]) (T.m_Tiled 5 _ rfl) ?_;walk_at "in";show(_,(a0d (a0Y (q_cX a05 up0 (a03 T) hr (q_k (qv 1) a0m) ))
  (a0d (by ac_rfl)
  (a0d (z_st (nmI 3 nd) (q_c (a0P T) hr (q_k (q_m (qv 0) T.cl_Tiled (a0A T) hr (q_k (qv 2) (q_k (a1l T.cl_Tiled (T.n_Tiled 0 _ rfl) (qv 0)) a0m)) ) (q_k (qv 1) a0m)) ))
  (a0d (b0Q T.cl_Tiled (T.n_Tiled 0 _ rfl) (qv 0) a8o a8B)
  (a0d (a0Y (q_m (qv 0) T.cl_Tiled (a2g T) hr (q_k (qv 2) (q_k (qv 3) a0m)) ))
  (a0w (a1q (a1l T.cl_Tiled (T.n_Tiled 0 _ rfl) (qv 0))))))))),?_)
 let(p,S,T,(dx,d,kvs,sh),(τ,rfl,ok,hT,q)||⟨⟨⟩⟩):=h
 lk;let(th,tn,tel,ta,ts):=ok.tel (G:=G);show(_,_,_,_,_,rfl,tel,λG1 s1=>?_);rw[ta,ts];show ifT (ifT ?_);let sh1:=sh.keep (Sm.ks s1);let(ws,ez,ek):=@a9P τ;lk;rw[ez];show a3y ek ?_;rw[<- ez];lk;show(p,dx,_,rfl,sh1.ob,a2J (by decide +kernel) (by decide +kernel),?_);lk;show(p,dx,_,_,rfl,sh1.ob,a2u,?_);lk;show(p,S,T,τ.key,_,_,dx,d,kvs,rfl,sh1.v,by cbv,by cbv,by cbv,λt L G2 ht s2 gt il=>?_);rw[show ((T.length:Int)).toNat=T.length by cbv,dr]at il;let sh2:=sh1.keep (Sm.ks s2);lk;let hll:=il.len;show(t,L,τ,rfl,gt,il.can.rise,il.pl,by cbv,ok,λu G3 hu s3 gu=>?_);let sh3:=sh2.keep (Sm.ks s3);let S13:=(s1.trans s2).trans s3;let hu0:G u=jN:=(s1.trans s2).free hu;let nu:¬ S u:=λz=>by let(o,e):=sh.al u z;rw[hu0]at e;cases e
 lk;show(p,dx,_,_,rfl,sh3.ob,a2u,?_);lk;show(dx,_,sh3.ob,by change 2<1000;decide,?_);rw[b33];let hup:u≠p:=λz=>nu (z▸sh.sp);let sh4:ShM a (put G3 p (.ins a.c_Tiled dx (shF ((T.length:Int)+1) d))) p S T ((T.length:Int)+1) dx d kvs:=by
  let kp:∀x o,x≠p->G3 x=cL o->put G3 p (.ins a.c_Tiled dx (shF ((T.length:Int)+1) d)) x=cL o:=λx o nb e=>by rw[a0j nb];show e
  show(a0a,sh3.sp,sh3.sd,kp _ _ (λz=>by let e:=sh3.dc;rw[z,sh3.ob]at e;cases e) sh3.dc,sh3.len,sh3.no,λk z e=>?_,sh3.inj,(λb hb=>?_),sh3.nd,sh3.sk)
  .let(h,ez,H):=sh3.hs k z e;show(h,ez,H.keepL λx ws _ g1=>kp _ _ (λz=>by rw[z,sh3.ob]at g1;cases g1) g1)
  .by_cases c:b=p
   .rw[c];show(_,a0a)
   .let(o,e):=sh3.al b hb;show(o,kp b o c e)
 let gu4:put G3 p (.ins a.c_Tiled dx (shF ((T.length:Int)+1) d)) u=cL (.lst ((a48 L τ.b τ.e (optW τ.v)).map Rw.z)):=by rw[a0j hup];show gu
 let kn4:KN S G (put G3 p (.ins a.c_Tiled dx (shF ((T.length:Int)+1) d))):=λb o nb e=>by rw[a0j (show b≠p from λz=>nb (by rw[z];show sh.sp))];show S13 _ _ e
 let nn4:∀x,put G3 p (.ins a.c_Tiled dx (shF ((T.length:Int)+1) d)) x=jN->G x=jN:=λx e=>by
  by_cases c:x=p
  .rw[c,a0a]at e;cases e
  .rw[a0j c]at e;show S13.free e
 generalize put G3 p (.ins a.c_Tiled dx (shF ((T.length:Int)+1) d))=G4 at sh4 gu4 kn4 nn4 ⊢;lk;show(p,dx,_,rfl,sh4.ob,a2J (by decide +kernel) (by decide +kernel),?_);lk;show(p,S,T,τ,u,_,dx,d,kvs,rfl,sh4,gu4,nu,il.snoc ok,by cbv,λS' G5 i1 i2 kn5 sh5=>?_);let sh5':=sh5;let(dx5,d5,kvs5,m5):=sh5';lk;show(p,dx5,_,_,rfl,m5.ob,a2u,?_);let e:(((T++[τ]).length:Nat):Int)=(T.length:Int)+1:=by simp
 rw[e];show q S' G5 i1 (λb hb=>?_) (kn4.trans kn5) sh5;let h||h||h:=i2 b hb
 .show .inl h
 .rw[h];show .inr hu0
 .show .inr (nn4 b h)
local macro_rules | `(tactic| walk_at "go1")=>`(tactic| with_reducible (first | show i_intB ?_ | show i_iD ?_))
def ShV.frz{a:Ad}{G:Hq}{p:Addr}{S:Addr->Prop}{T:List Tl}{n:Int}{dx d:Addr}{kvs:List (Key×Z)}(H:ShV a G p S T n dx d kvs):ShV a (put G d (.dF kvs)) p S T n dx d kvs:=by
 let k:∀b o,b≠d->G b=cL o->put G d (.dF kvs) b=cL o:=λb o l e=>by rw[a0j l];show e
 let q:∀b f,G b=cL (.lst f)->b≠d:=λb f e z=>by
  rw[z]at e;let c||c:=H.dc<;>(rw[c]at e;cases e)
 show(k _ _ (λz=>?_) H.ob,H.sp,H.sd,.inr a0a,H.len,H.no,λi z e=>?_,λb m=>?_,H.nd,H.sk)
 .let e:=H.ob;rw[z]at e;let c||c:=H.dc<;>(rw[c]at e;cases e)
 .let(h,j,r):=H.hs i z e;show(h,j,r.keepL λx f _ g=>k _ _ (q _ _ g) g)
 .by_cases c:b=d
  .rw[c];show(_,a0a)
  .let(o,e):=H.al b m;show(o,k b o c e)
def a2x(a:Ad):P3:=λws G R=>∃(p:Addr)(S:Addr->Prop)(T:List Tl),ws=[.ref p]/\Sheet a G p S T/\R (.int T.length) G
set_option tactic.hygienic true in
def a07(T:Txt K mg a):Mal P w K mg base CX0 1 a.c_Tiled "knowings" (lowP K (a2x a)):=by
 show fnm 1 (N:=["self"]) (T.m_Tiled 6 _ rfl) ?_;walk_at "in";show(_,(a0w (a1q (a1l T.cl_Tiled (T.n_Tiled 0 _ rfl) (qv 0)))),?_);let(p,S,T',rfl,(dx,d,kvs,sh),q):=h;lk;show(p,dx,_,_,rfl,sh.ob,a2u,q)
def inR(T:List Tl)(q:Int):Prop:=0<=q/\q<=T.length
def a2N(a:Ad):P3:=λws G R=>Ex5 λ(p:Addr) (S:Addr->Prop) (T:List Tl) (x:Z) (q:Int)=>ws=[.ref p,x,.int q]/\Sheet a G p S T/\(∀G'',Th G'' x)/\T.length<=200 /\
 ((inR T q/\∃k,x=.str k/\nmOk k/\∀t L G',G t=jN->Sm G G'->G' t=cL (.lst (L.map Rw.z))->IsLine (T.take q.toNat) k L->R (.ref t) G')\/False)
set_option tactic.hygienic true in
def a1j(T:Txt K mg a):Mal P w K mg base CX0 4 a.c_Tiled "line_at" (lowP K (a2N a)):=by
 show fnm 3 (N:=["self","key","knowing"]) (T.m_Tiled 2 _ rfl) ?_;walk_at "in";show(_,(a0d (a0Y (q_m (qv 0) T.cl_Tiled (a0H T) hr (q_k (qv 2) a0m) ))
  (a0d (a0Y (q_cX a05 up0 (a1u T) hr (q_k (qv 1) a0m) ))
  (a0w (a1q (q_m (qv 0) T.cl_Tiled (a0A T) hr (q_k (qv 1) (q_k (qv 2) a0m)) ))))),?_)
 let(p,S,T',x,q,rfl,sh,hx,hT,h):=h;let sh':=sh;let(dx,d,kvs,sm):=sh';lk;show(p,dx,_,rfl,sm.ob,a2J (by decide +kernel) (by decide +kernel),?_);lk;show(p,S,T',q,rfl,sh.v,?_);let(hq,k,rfl,hk,fin)||⟨⟨⟩⟩:=h
 let hq':0<=q/\q<=T'.length:=hq;rw[if_pos hq'];lk;show(_,rfl,hx _,λG1 s1=>?_);rw[nm_b hk];show ifT ?_;let sm1:=sm.keep (Sm.ks s1);lk;show(p,dx,_,rfl,sm1.ob,a2J (by decide +kernel) (by decide +kernel),?_);lk;show(p,S,T',k,q,_,dx,d,kvs,rfl,sm1.v,hq.1,hq.2,hT,λt L G2 ht s2 gt il=>fin t L G2 (s1.free ht) (s1.trans s2) gt il)
def Rec.ne(H:Rec G S T k h):ix T k≠[]:=λz=>by
 let(a,H):=H
 let:=H.ix
 rw[z]at this;show H.ne (fy.mp this)
def NE(T:List Tl)(k:Str):Prop:=∃L,IsLine T k L/\L≠[]
structure KeysAt (T:List Tl) (ts:List Str):Prop where
 so:PyProof.Rows.sortedS ts=jO
 nd:ts.Nodup
 is:∀s,s∈ts↔NE T s
def IsLine.uniq(h:IsLine T k L)(g:IsLine T k M):L=M:=b18 h.can g.can λt=>by rw[h.v,g.v]
def a5Y(h:ix T k=[])(q:Nat):a1E (T.take q) k=[]:=a5e λi a=>by rw[h]at a;simp at a
def Few(T:List Tl):Prop:=T.length<=200/\∃kn:List Str,kn.length<=63/\∀τ∈T,τ.key∈kn
theorem b2i:∀{xs ys:List Str},xs.Nodup->(∀x∈xs,x∈ys)->xs.length<=ys.length
 |[],_,_,_=>cM _
 |x::xs,ys,h,m=>by
  rw[dw]at h;let b:=m x (.head _)
  let:=b2i (ys:=ys.erase x) h.2 λy a=>(List.mem_erase_of_ne (λz=>h.1 (by simp_all))).mpr (m y (.tail _ a))
  rw[List.length_erase_of_mem b]at this
  let:=List.length_pos_of_mem b
  rw[ci];lia
def b63:∀{T:List Tl}{k:Str}{n:Nat},ixF k n T≠[]->∃τ∈T,τ.key=k:=by ext z0;induction z0 with
 |nil=>ext _ _ h;show absurd rfl h
 |cons τ T I0=>
  ext k n h
  by_cases c:τ.key=k
  .show(τ,.head _,c)
  .unfold ixF at h;rw[if_neg c,dL]at h;let(σ,b,a):=I0 h;show(σ,.tail _ b,a)
def b64{ks:List Str}(h:kvs.map (·.1)=ks.map Sum.inr)(m:s∈ks):∃z,valZ kvs (.inr s)=cL z:=by
 unfold valZ;cases e2:kvs.find? λc=>decide (c.1=Sum.inr s) with
 |some q=>show(_,rfl)
 |none=>
  let a:(Sum.inr s)∈kvs.map (·.1):=h▸cS m;let(q,b,d):=cm.mp a
  let:=fz.mp e2 q b
  simp[d]at this
def a2O(a:Ad):P3:=λws G R=>Ex4 λ(p:Addr) (S:Addr->Prop) (T:List Tl) (q:Int)=>ws=[.ref p,.int q]/\Sheet a G p S T/\Few T /\
 ((inR T q/\∀t ts G',G t=jN->Sm G G'->G' t=cL (.lst (ts.map Z.str))->KeysAt (T.take q.toNat) ts->ts.length<=63->R (.ref t) G')\/False)
def a9Q:∀{kvs:List (Key×Z)},(∀q∈kvs,∃s,q.1=Sum.inr s)->∃ks:List Str,kvs.map (·.1)=ks.map Sum.inr/\(kvs.map λq=>keyW q.1)=ks.map Z.str:=by ext z0;induction z0 with
 |nil=>ext _;show([],rfl,rfl)
 |cons q kvs I0=>
  ext h;let(s,a):=h q (.head _);let(e,c,d):=I0 λq b=>h q (.tail _ b);show(s::e,by rw[cr,cr,c,a],by rw[cr,cr,d,a];rfl)
def a5Z{ks:List Str}(h:kvs.map (·.1)=ks.map Sum.inr)(e:valZ kvs (.inr s)=cL z):s∈ks:=by
 unfold valZ at e;cases e2:kvs.find? λg=>decide (g.1=Sum.inr s) with
 |none=>rw[e2]at e;cases e
 |some q=>
  let c:q.1=Sum.inr s:=by let:=fA e2;o_head this
  let:(Sum.inr s:Key)∈ks.map Sum.inr:=by rw[<- h,<- c];show cS (eW e2)
  let(x,b,d):=cm.mp this;cases d;show b
set_option tactic.hygienic true in
def a2P(T:Txt K mg a):Mal P w K mg base CX0 4 a.c_Tiled "keys_at" (lowP K (a2O a)):=by
 show fnm 2 (N:=["self","knowing"]) (T.m_Tiled 3 _ rfl) ?_;walk_at "in";show(_,(a0d (a0Y (q_m (qv 0) T.cl_Tiled (a0H T) hr (q_k (qv 1) a0m) ))
  (a0w (a1q (b0X (q_B a9b (T.b 8) (q_k (q_l ["key","knowing","self"] [jN,cL 1,cL 0] (.nm 0) (hi:=(a5I (a1l T.cl_Tiled (T.n_Tiled 1 _ rfl) (qv 0)))) (ht:=λ_ _ _ _=>(a5y (b2R (q_m (qv 2) T.cl_Tiled (a0A T) hr (q_k (qv 0) (q_k (qv 1) a0m)) ) (λ_=>rfl))))) a0m)))))),?_)
 let(p,S,T',q,rfl,sh,hT,h):=h;let sh':=sh;let(dx,d,kvs,sm):=sh';lk;show(p,dx,_,rfl,sm.ob,a2J (by decide +kernel) (by decide +kernel),?_);lk;show(p,S,T',q,rfl,sh.v,?_);let(hq,fin)||⟨⟨⟩⟩:=h
 rw[if_pos (show 0<=q/\q<=T'.length from hq)];lk;show b0Y sm.dc ?_;lk;show(p,dx,_,_,rfl,sm.ob,a4r,?_);lk;show b3C (.inl sm.dc) ?_;let smF:=sm.v.frz;let(ks,hk1,hk2):=a9Q sm.sk;let hnd:ks.Nodup:=by
  let:=sm.nd
  rw[hk1]at this;show (dE.mp this).imp λh z=>h (by rw[z])
 let(hT2,kn,kn1,kn2):=hT;let hkl:ks.length<=63:=cw (b2i hnd λs hs=>by
  let(z,ez):=b64 hk1 hs;let(h,_,hh):=sm.hs s z ez;let(τ,t1,t2):=b63 (T:=T') (k:=s) (n:=0) (λz=>hh.ne z);rw[<- t2];show kn2 τ t1) kn1
 rw[hk2];ext D hD;show a4P (λi ys G'=>∃ts:List Str,ys=ts.map Z.str/\ts.Nodup/\(∀s,s∈ts↔s∈ks.take i/\NE (T'.take q.toNat) s)/\ts.length<=i/\Sm (put G d (.dF kvs)) G'/\G' D=cL (.lst ys)) ([],rfl,.nil,λs=>by simp,b8 _,Sm.new hD,a0a) (λ_ _ _ _ _=>True.intro) ?_ ?_
 .ext i x ys G' hx ⟨ts,rfl,hn,hm,hl,s,gD⟩;rw[cg]at hx;cases hx':ks[i]? with
  |none=>rw[hx']at hx;cases hx
  |some k=>
  rw[hx']at hx;cases hx;let hi:=(cn.mp hx').1;let ht1:ks.take (i+1)=ks.take i++[k]:=by rw[dh,hx'];rfl
  let nk:k∉ks.take i:=λz=>by
   let h1:(ks.take (i+1)).Nodup:=hnd.sublist (e6 _ _);rw[ht1,dX]at h1;show h1.2.2 k z k (by simp) rfl
  let smA:=smF.keep (Sm.ks s);show(_,rfl,?_);lk;show(p,dx,_,rfl,smA.ob,a2J (by decide +kernel) (by decide +kernel),?_);lk;show(p,S,T',k,q,_,dx,d,kvs,rfl,smA,hq.1,hq.2,by cbv,λt L G2 ht s2 gt il=>?_);show a8L gt ?_;cases hL:L with
  |nil=>
   lk;show(ts,rfl,hn,λy=>?_,by cbv,s.trans s2,s2 _ _ gD);rw[hm,ht1,b9,cc]
   constructor
   .show λ(a1,a2)=>(.inl a1,a2)
   .ext⟨a1 |rfl,a2⟩
    .show(a1,a2)
    .let(M,m1,m2):=a2;show absurd (m1.uniq il) (by rw[hL];show m2)
  |cons r L'=>
   lk;show(_,rfl,s2 _ _ gD,by rw[b7];show a0l (by cbv),ts++[k],by rw[cq];rfl,?_,λy=>?_,by rw[cj];simp;cbv,(s.trans s2).put hD,a0a)
   .rw[dX];show(hn,by simp,λa1 h1 b1 h2 z=>nk (by rw[<- cc.mp h2,<- z];show ((hm a1).mp h1).1))
   .rw[b9,hm,ht1,b9,cc]
    constructor
    .ext (⟨a1,a2⟩ |rfl)
     .show(.inl a1,a2)
     .show(.inr rfl,L,il,by rw[hL];simp)
    .ext⟨a1 |rfl,a2⟩
     .show .inl (a1,a2)
     .show .inr rfl
 .ext ys G' ⟨ts,rfl,hn,hm,hl,s,gD⟩;rw[b7]at hm hl;rw[dr]at hm;lk;show a9c gD (by cbv) λt us ht hp hs=>?_;let gd:G' d=cL (.dF kvs):=s _ _ a0a;let td:t≠d:=Ne.symm (a0k gd ht);let fr:G t=jN:=by
   let h1:=s.free ht;rw[a0j td]at h1;show h1
  let sm2:Sm G (put (put G' t (.lst (us.map Z.str))) d (.dK kvs)):=λb o e=>by
   by_cases c:b=d
   .rw[c,a0a,<- sm.dc,<- c];show e
   .rw[a0j c];show a0c (s _ _ (by rw[a0j c];show e)) ht
  show(a0c gd ht,fin t us _ fr sm2 (by rw[a0j td];show a0a) (hs,hp.nodup_iff.mpr hn,λy=>?_) (by rw[hp.length_eq];cbv));rw[hp.mem_iff,hm]
  constructor
  .show λz=>z.2
  .ext z;show(?_,z);cases e:valZ kvs (.inr y) with
   |some w=>show a5Z hk1 e
   |none=>
    let(L,l1,l2):=z;show absurd (l1.uniq (IsLine.nil (a5Y (sm.no y e) _))) l2
def b4b(ok:OkT T)(h:NE T s):nmOk s:=by
 let(L,a,d):=h
 by_cases c:∃τ∈T,τ.key=s
 .let(τ,f,e):=c;rw[<- e];show (ok τ f).k
 .let:a1E T s=[]:=by
   unfold a1E;rw[fy,gx];ext τ b;o_head λz=>c (τ,b,z)
  show absurd (a.uniq (IsLine.nil this)) d
def a9R{a:Ad}{G:Hq}{p:Addr}{S:Addr->Prop}{T:List Tl}(h:Sheet a G p S T):∃dx n d,G p=cL (.ins a.c_Tiled dx (shF n d)):=let (_,_,_,m):=h;(_,_,_,m.ob)
structure TabD (G:Hq) (d:Addr) (T:List Tl) (ts:List Str) (kvs:List (Key×Z)):Prop where
 at_:G d=cL (.dK kvs)
 ks:kvs.map (·.1)=ts.map (λs=>(Sum.inr s:Key))
 ka:KeysAt T ts
 ln:∀k∈ts,∃l L,valZ kvs (.inr k)=cL (.ref l)/\G l=cL (.lst (L.map Rw.z))/\IsLine T k L
 no:∀k,k∉ts->valZ kvs (.inr k)=jN
def TabD.keep(h:TabD G d T ts kvs)(s:Sm G G'):TabD G' d T ts kvs:=(s _ _ h.at_,h.ks,h.ka,λk e=>by let(l,L,a,b,c):=h.ln k e;show(l,L,a,s _ _ b,c),h.no)
noncomputable def TabD.put{G:Hq}{d D:Addr}{T:List Tl}{ts:List Str}{kvs:List (Key×Z)}{o:O}(h:TabD G d T ts kvs)(n:d≠D)(nl:∀k l,valZ kvs (.inr k)=cL (.ref l)->l≠D):TabD (put G D o) d T ts kvs:=(by rw[a0j n];show h.at_,h.ks,h.ka,λk hk=>let (l,L,a,b,c):=h.ln k hk;(l,L,a,by rw[a0j (nl k l a)];show b,c),h.no)
def a2h(nd:(rows.map (·.1)).Nodup):a1h [] rows=rows:=by
 let c:∀a b,((b++a).map (·.1)).Nodup->a1h b a=b++a:=by
  ext a
  induction a with
  |nil=>ext b _;simp[a1h]
  |cons r a ih=>
   ext b h;let d:valZ b r.1=jN:=by
    cases e:valZ b r.1 with
    |none=>rfl
    |some z=>
     unfold valZ at e;cases e2:b.find? λi=>decide (i.1=r.1) with
     |none=>rw[e2]at e;cases e
     |some q=>
      rw[cq,dX]at h;let g:q.1=r.1:=by let:=fA e2;o_head this
      show absurd g (h.2.2 q.1 (cS (eW e2)) r.1 (by simp))
   change a1h (putZ b r.1 r.2) a=_
   rw[a9O d,ih _ (by simp_all)];simp
 o_head c rows [] (by simp_all)
def a25(nd:(kvs.map (·.1)).Nodup)(h:(k,z,)∈kvs):valZ kvs k=cL z:=by
 induction kvs with
 |nil=>simp at h
 |cons q kvs ih=>
  rw[cr,dw]at nd;unfold valZ;rw[da];let rfl||h:=cf.mp h
  .simp
  .let a:¬ q.1=k:=λb=>nd.1 (b▸cS h);rw[decide_eq_false a];show ih nd.2 h
def a4w(a:Ad):P3:=λws G R=>Ex4 λ(p:Addr) (S:Addr->Prop) (T:List Tl) (q:Int)=>ws=[.ref p,.int q]/\Sheet a G p S T/\OkT T/\Few T/\inR T q/\∀d ts kvs G',G d=jN->Sm G G'->TabD G' d (T.take q.toNat) ts kvs->ts.length<=63->(∀k l,valZ kvs (.inr k)=cL (.ref l)->G l=jN)->R (.ref d) G'
set_option tactic.hygienic true in
def a2i(T:Txt K mg a):Cal P w K mg base CX0 5 "table_at" (lowP K (a4w a)):=by
 show fnc 2 (N:=["sheet","knowing"]) T.br (T.f 13 _ rfl) ?_;walk_at "in";show(_,(a0w (a1q (q_Y (a3h rfl) (T.b 9) (q_k (q_l ["key","knowing","sheet"] [jN,cL 1,cL 0] (.nm 0) (hi:=(a3a (q_m (qv 0) T.cl_Tiled (a2P T) hr (q_k (qv 1) a0m) ))) (he:=λ_ _ _ _=>(a6T (q_k (qv 0) (q_k (q_m (qv 2) T.cl_Tiled (a1j T) hr (q_k (qv 0) (q_k (qv 1) a0m)) ) a0m))))) a0m)))),?_);let(p,S,T',q,rfl,sh,ok,few,hq,fin):=h;let(dx,n,d0,ob):=a9R sh;lk;show(p,dx,_,rfl,ob,a2J (by decide +kernel) (by decide +kernel),?_);lk;show(p,S,T',q,rfl,sh,few,.inl (hq,λt ts G1 ht s1 gt ka hl=>?_));lk;show a12 gt ?_;ext D hD;let nd:(ts.map (λs=>(Sum.inr s:Key))).Nodup:=dE.mpr (ka.nd.imp λh z=>h (by injection z));show a4P (λi ys G'=>∃rows:List (Key×Z),ys=rows.map prZ/\rows.map (·.1)=(ts.take i).map (λs=>(Sum.inr s:Key))/\(∀k∈ts.take i,∃l L,((Sum.inr k:Key),Z.ref l,)∈rows/\l≠D/\G l=jN/\G' l=cL (.lst (L.map Rw.z))/\IsLine (T'.take q.toNat) k L)/\Sm G1 G'/\G' D=cL (.lst ys)) ([],rfl,rfl,(λk h=>by simp at h),Sm.new hD,a0a) (by ext i ys G' _ ⟨_,_,_,_,s,_⟩;show s _ _ gt) ?_ ?_
 .ext i x ys G' hx ⟨rows,rfl,hr,hln,s,gD⟩;rw[cg]at hx;cases hx':ts[i]? with
  |none=>rw[hx']at hx;cases hx
  |some k=>
  rw[hx']at hx;cases hx;let hi:=(cn.mp hx').1;let hk:nmOk k:=b4b (fun τ hτ=>ok τ (dJ hτ)) ((ka.is k).mp (cx hx'));let sh2:=sh.keep (Sm.ks (s1.trans s));let(dx2,n2,d2,ob2):=a9R sh2;let hrl:rows.length<=63:=by let:=congrArg cF hr;rw[b7,b7,cz]at this;cbv
  show(_,rfl,?_);lk;show(p,dx2,_,rfl,ob2,a2J (by decide +kernel) (by decide +kernel),?_);lk;show(p,S,T',.str k,q,rfl,sh2,(λ_=>a4p hk),few.1,.inl (hq,k,rfl,hk,λl L G2 hl2 s2 gl il=>?_));let nlD:l≠D:=Ne.symm (a0k gD hl2);lk;show(lenK rfl,s2 _ _ gD,by rw[b7];show a0l (by cbv),rows++[(.inr k,.ref l,)],by rw[cq];rfl,by rw[cq,hr,take_snoc hx',cq];rfl,λj hj=>?_,(s.trans s2).put hD,a0a);rw[take_snoc hx']at hj;let hj||hj:=b9.mp hj
  .let(l',L',m1,m2,m0,m3,m4):=hln j hj;show(l',L',eY _ m1,m2,m0,by rw[a0j m2];show s2 _ _ m3,m4)
  .rw[cc.mp hj];show(l,L,by simp,nlD,s1.free (s.free hl2),by rw[a0j nlD];show gl,il)
 .ext ys G2 ⟨rows,rfl,hr,hln,s,gD⟩;rw[b7,dr]at hr hln;let hrl:rows.length=ts.length:=by let:=congrArg cF hr;rw[b7,b7]at this;show this
  let nd2:(rows.map (·.1)).Nodup:=by rw[hr];show nd
  lk;show a3i gD (by cbv) λd hd=>?_;rw[a2h nd2];let s2:=s.trans (Sm.new (o:=.dK rows) hd);show fin d ts rows _ (s1.free (s.free hd)) (s1.trans s2) (a0a,hr,ka,λk hk=>?_,λk hk=>?_) hl λk l e=>?_
  rotate_left 2
  .let(l',L,m1,m2,m0,m3,m4):=hln k (a5Z hr e);rw[a25 nd2 m1]at e;cases e;show m0
  .let(l,L,m1,m2,m0,m3,m4):=hln k hk;show(l,L,a25 nd2 m1,a0c m3 hd,m4)
  .cases e:valZ rows (.inr k) with
   |none=>rfl
   |some z=>show absurd (a5Z hr e) hk
def b7b:(Str.ofString "abcdefghijklmnopqrstuvwxyz").cps.toList=[97,98,99,100,101,102,103,104,105,106,107,108,109,110,111,112,113,114,115,116,117,118,119,120,121,122]:=by decide +kernel
def b65(h0:0<=k)(h1:k<26):atI (Str.ofString "abcdefghijklmnopqrstuvwxyz").cps.toList k=cL (97+k.toNat):=by
 let(j,rfl):=d3 h0;let a:j<26:=by lia
 show a1K ?_
 let:∀j:Fin 26,([97,98,99,100,101,102,103,104,105,106,107,108,109,110,111,112,113,114,115,116,117,118,119,120,121,122])[j.1]?=cL (97+j.1):=by decide
 show this (j,a)
def a1C(a b:Str):(a++b).cps.toList=a.cps.toList++b.cps.toList:=by
 change (a.cps++b.cps).toList=_
 rw[Array.toList_append]
def b66{p:Nat}(h:p<=s.cps.toList.length):(Txt.slice s jN (cL (p:Int))).cps.toList=s.cps.toList.take p:=by
 let:=eq_of_beq (PyProof.Rows.slice_closes_to (x:=s) (j:=p) (by lia,by lia))
 rw[this];simp
def a9S{p:Nat}(h:p<=s.cps.toList.length):(Txt.slice s (cL (p:Int)) jN).cps.toList=s.cps.toList.drop p:=by
 let:=PyProof.Rows.slice_from_eq (x:=s) (i:=p) (by simp) (by rw[a06];lia) rfl
 rw[this,a06,di (by simp)];simp
def letN(s:Str)(n:Nat):Prop:=s.cps.toList.length=n/\∀c∈s.cps.toList,isL c
def letN.nm(h:letN s n)(h1:1<=n)(h8:n<=8):nmOk s:=(by rw[h.1];show h1,by rw[h.1];show h8,h.2)
def letN.sz(h:letN s n)(h8:n<=100):s.length<=sizeLine:=a0Q (by rw[a06,h.1];cbv)
def letN.one(h:isL c):letN ⟨#[c]⟩ 1:=(rfl,λx a=>by
 let:x=c:=↑a
 rw[this];show h)
def letN.add{a b:Str}{n m:Nat}(h:letN a n)(g:letN b m):letN (a++b) (n+m):=(by rw[a1C,cj,h.1,g.1],λc hc=>by
 rw[a1C]at hc;let hc||hc:=b9.mp hc
 .show h.2 c hc
 .show g.2 c hc)
def letN.to(h:letN s n)(hp:p<=n):letN (Txt.slice s jN (cL (p:Int))) p:=(by rw[b66 (by rw[h.1];show hp),cz,h.1];cbv,λc a=>by
 rw[b66 (by rw[h.1];show hp)]at a;show h.2 c (dJ a))
def letN.from(h:letN s n)(hp:p<=n):letN (Txt.slice s (cL (p:Int)) jN) (n-p):=(by rw[a9S (by rw[h.1];show hp),cY,h.1],λc a=>by
 rw[a9S (by rw[h.1];show hp)]at a;show h.2 c (eP a))
def b8Y:(10:Int) ^ (12:Int).toNat=1000000000000:=by decide
def pow6:(1000003:Int) ^ (2:Int).toNat=1000006000009:=by decide
local macro_rules | `(tactic| walk_at "go1")=>`(tactic| first | show i_I (show (0:Int)<_ by decide) ?_ | (show i_I (by decide,by decide,by decide) ?_;first | rw[b8Y] | rw[pow6]) | show i_I (by decide,by decide) ?_)
def b1v:P3:=λws G R=>∃c:Int,ws=[.int c]/\∀(t:Addr)(ns:List Str)(G':Hq),G t=jN->Sm G G'->G' t=cL (.lst (ns.map Z.str))->ns.length=4->(∀s∈ns,nmOk s)->R (.ref t) G'
def letN.nil:letN (Str.ofString "") 0:=(by decide +kernel,λc hc=>by rw[show (Str.ofString "").cps.toList=[] by decide +kernel]at hc;simp at hc)
def abcL{k:Int}(h0:0<=k)(h1:k<26):∃c,atI (Str.ofString "abcdefghijklmnopqrstuvwxyz").cps.toList k=cL c/\letN ⟨#[c]⟩ 1:=(_,b65 h0 h1,letN.one (by unfold isL;cbv))
def b1w(T:Txt K mg a):Cal P w K mg base CX0 1 "_law_names" (lowP K b1v):=by
 show fnc 1 (N:=["cell","letters","base","rest","k","at","first","last","letter"]) T.br (T.f 21 _ rfl) ?_ (len:=λws G R h=>(by let(_,rfl,_):=h;rfl));walk_at "in";show(_,(by ac_rfl),?_);let(c,rfl,q):=h;lk;let hn:1<=1+c % 5/\1+c % 5<=5:=by cbv
 generalize 1+c % 5=n at hn ⊢;show(by cbv,by cbv,?_);show a11 (λi σ G'=>∃(s:Str)(r:Int)(v:Option Z),letN s i/\σ=[cL (.int c),cL (.str (Str.ofString "abcdefghijklmnopqrstuvwxyz")),cL (.str s),cL (.int r),v,jN,jN,jN,jN]/\G'=G) (_,_,_,letN.nil,rfl,rfl) (λ_ _ _ _ _=>True.intro) ?_ ?_
 .ext i x σ G' hx ⟨s,r,v,hs,rfl,rfl⟩;let(hi,rfl):=a5w hx;show(_,rfl,?_);lk;show i_I (.inr (by cbv,by cbv)) ?_;lk;show i_I (.inl (by cbv,by cbv)) ?_;lk;let(ch,e,hc):=abcL (k:=(r+5*(0+(i:Int))*(r / 31 % 7)) % 26) (by cbv) (by cbv);show a8M (lenK rfl) e ?_;show a2z (a0Q (by rw[a06,a06,hs.1,hc.1];cbv)) ?_;lk;show i_I (.inl (by decide,by decide)) ?_;lk;show(_,_,_,hs.add hc,rfl,rfl)
 .ext σ G' ⟨s,r,v,hs,rfl,rfl⟩;rw[a3N]at hs;let hm:1<=n.toNat/\n.toNat<=5:=by cbv
  generalize n.toNat=m at hs hm;let sz:=hs.sz (by cbv);let sl:s.length=m:=by rw[a06,hs.1]
  lk;show a6h sz ?_;lk;show i_I (show (0:Int)<(s.length:Int) by cbv) ?_;lk;let ha:0<=c / 7 % (s.length:Int)/\c / 7 % (s.length:Int)<(s.length:Int):=(Int.emod_nonneg _ (by cbv),Int.emod_lt_of_pos _ (by cbv));generalize c / 7 % (s.length:Int)=at' at ha ⊢;let(p,rfl):=d3 ha.1;let hp:p<s.cps.toList.length:=by rw[<- a06];cbv
  let(c1,e1,l1):=abcL (k:=c / 11 % 26) (by cbv) (by cbv);show a8M (lenK rfl) e1 ?_;lk;let(c2,e2,l2):=abcL (k:=(c / 11+1+c / 13 % 25) % 26) (by cbv) (by cbv);show a8M (lenK rfl) e2 ?_;lk;show a8M sz (a1K (cu hp)) ?_;lk;generalize b0P (Str.ofString "abcdefghijklmnopqrstuvwxyz") ⟨#[s.cps.toList[p]]⟩=fd;let(c3,e3,l3):=abcL (k:=(fd+1+c / 17 % 25) % 26) (by cbv) (by cbv);show a8M (lenK rfl) e3 ?_;lk;show a2z (a0Q (by rw[a06,a06,hs.1,l2.1];cbv)) ?_;lk;show a2z (a0Q (by rw[a06,a06,hs.1,l1.1];cbv)) ?_;lk;show b3b sz ?_;let g1:=hs.to (p:=p) (by rw[hs.1]at hp;cbv);let g2:=hs.from (p:=p+1) (by rw[hs.1]at hp;cbv);lk;show a2z (a0Q (by rw[a06,a06,g1.1,l3.1];rw[hs.1]at hp;cbv)) ?_;let g3:=g1.add l3;lk;show b3b sz ?_;rw[show ((p:Int)+1)=((p+1:Nat):Int) by cbv];lk;show a2z (a0Q (by rw[a06,a06,g3.1,g2.1];rw[hs.1]at hp;cbv)) ?_;let g4:=g3.add g2;lk;show(lenK rfl,λt ht=>q t [_,_,_,_] _ ht (Sm.new ht) a0a rfl λs' hs'=>?_);simp only[cf,dG,or_false]at hs';rw[hs.1]at hp;let rfl||rfl||rfl||rfl:=hs'
  .show hs.nm (by cbv) (by cbv)
  .show (hs.add l2).nm (by cbv) (by cbv)
  .show (l1.add hs).nm (by cbv) (by cbv)
  .show g4.nm (by cbv) (by cbv)
def a7i:P3:=λws G R=>∃c:Int,ws=[.int c]/\∀(b:Int)(e:Option Int),stOk b e->R (.tup [.int b,oz e]) G
def a7j(T:Txt K mg a):Cal P w K mg base CX0 1 "_law_stretch" (lowP K a7i):=by
 show fnc 1 (N:=["cell","begin","far"]) T.br (T.f 22 _ rfl) ?_ (len:=λws G R h=>(by let(_,rfl,_):=h;rfl));walk_at "in";show(_,(a0d (by ac_rfl)
  (a0d (by ac_rfl)
  (a4b (by ac_rfl)
  (a4b (by ac_rfl)
  (by ac_rfl))))),?_)
 let(c,rfl,q):=h;lk;show a4e (fun σ' G'=>∃b:Int,0<=b/\b<1000000000000/\G'=G/\σ'=[cL (.int c),cL (.int b),cL (.int (c / 13 % 9))]) ?_ ?_
 .lk;show ifD (λ_=>?_) λ_=>?_
  .lk;show(_,by cbv,by cbv,rfl,rfl)
  .lk;show(_,by cbv,by cbv,rfl,rfl)
 .ext σ' G' ⟨b,h0,hb,rfl,rfl⟩;show a4e (fun σ' G''=>∃b:Int,0<=b/\b<1000000000000/\G''=G'/\σ'=[cL (.int c),cL (.int b),cL (.int (c / 13 % 9))]) ?_ ?_
  .lk;show ifD (λ_=>?_) λ_=>?_
   .lk;show i_I (.inr (by decide,by decide)) ?_;lk;show(_,by cbv,by cbv,rfl,rfl)
   .lk;show(_,h0,hb,rfl,rfl)
  .ext σ' G'' ⟨b,h0,hb,rfl,rfl⟩;lk;show ifD (λ_=>?_) λ_=>?_
   .lk;show(lenK rfl,q b jN (h0,by unfold T12;cbv,λx h=>nomatch h))
   .lk;show(lenK rfl,q b (cL _) (h0,by unfold T12;cbv,λx h=>?_));cases h;unfold T12
    split<;>cbv
def a9T{ns:List Str}{k:Int}(h0:0<=k)(h1:k<(ns.length:Int)):∃s,atI (ns.map Z.str) k=cL (.str s)/\s∈ns:=by
 let(j,rfl):=d3 h0;let hj:j<ns.length:=by cbv
 show(ns[j],a1K (by rw[cg,cu hj];rfl),ff hj)
def a7k:P3:=λws G R=>∃(c:Int)(p:Addr)(ns:List Str),ws=[.int c,.ref p]/\G p=cL (.lst (ns.map Z.str))/\ns.length=4/\(∀s∈ns,nmOk s)/\∀τ:Tl,τ.Ok->τ.key∈ns->R τ.z G
def a7l(T:Txt K mg a):Cal P w K mg base CX0 2 "_law_telling" (lowP K a7k):=by
 show fnc 2 (N:=["cell","names","begin","end"]) T.br (T.f 23 _ rfl) ?_ (len:=λws G R h=>(by let(_,_,_,rfl,_):=h;rfl));walk_at "in";show(_,(by ac_rfl),?_);let(c,p,ns,rfl,gp,hl,hn,q):=h;lk;show(_,rfl,λb e hb=>?_);lk;show ifD (λ_=>?_) λ_=>?_
 .lk;let(k,e1,mk):=a9T (ns:=ns) (k:=c / 5 % 4) (by cbv) (by cbv);show a1P gp e1 ?_;lk;show(lenK rfl,q (k,jN,b,e) (hn k mk,(λw h=>nomatch h),hb) mk)
 .lk;let(k,e1,mk):=a9T (ns:=ns) (k:=c / 5 % 4) (by cbv) (by cbv);show a1P gp e1 ?_;lk;let(w,e2,mw):=a9T (ns:=ns) (k:=c / 20 % 3) (by cbv) (by cbv);show a1P gp e2 ?_;lk;show(lenK rfl,q (k,cL w,b,e) (hn k mk,(λv h=>by cases h;show hn w mw),hb) mk)
abbrev sShs:Str:=Str.ofString "sheets"
abbrev sRul:Str:=Str.ofString "rules"
abbrev sTak:Str:=Str.ofString "taken"
noncomputable def bkF(d r t:Addr):List (Str×Z):=[(sShs,.ref d,),(sRul,.ref r,),(sTak,.ref t,)]
noncomputable def nmB:Bool->Str |false=>Str.ofString "a" |true=>Str.ofString "b"
noncomputable def wzB(w:Bool×Tl):Z:=.tup [.str (nmB w.1),w.2.z]
noncomputable def TB(W:List (Bool×Tl))(b:Bool):List Tl:=W.filterMap λw=>if w.1=b then cL w.2 else jN
noncomputable def dcZ(g:Bool->Z):List (Key×Z):=[(.inr (nmB jP),g jP,),(.inr (nmB jO),g jO,)]
abbrev dcB(q:Bool->Addr):List (Key×Z):=dcZ λb=>.ref (q b)
structure BkM (a:Ad) (G:Hq) (p:Addr) (S:Bool->Addr->Prop) (W:List (Bool×Tl)) (q:Bool->Addr) (dx ds rl tk:Addr):Prop where
 ob:G p=cL (.ins a.c_Book dx (bkF ds rl tk))
 sh:∀b,Sheet a G (q b) (S b) (TB W b)
 dj:∀b c x,S b x->S c x->b=c
 dc:G ds=cL (.dK (dcB q))
 er:G rl=cL (.lst [])
 et:G tk=cL (.lst (W.map wzB))
 no:∀b,¬ S b p/\¬ S b ds/\¬ S b rl/\¬ S b tk
 ne:tk≠rl
def Bok(a:Ad)(G:Hq)(p:Addr)(B:Addr->Prop)(W:List (Bool×Tl)):Prop:=Ex6 λS q dx ds rl tk=>BkM a G p S W q dx ds rl tk/\∀x,B x↔(x=p\/x=ds\/x=rl\/x=tk\/∃b,S b x)
def BkM.keep{a:Ad}{G G':Hq}{p:Addr}{S:Bool->Addr->Prop}{W:List (Bool×Tl)}{q:Bool->Addr}{dx ds rl tk:Addr}(h:BkM a G p S W q dx ds rl tk)(s:Sm G G'):BkM a G' p S W q dx ds rl tk:=(s _ _ h.ob,λb=>(h.sh b).keep (Sm.ks s),h.dj,s _ _ h.dc,s _ _ h.er,s _ _ h.et,h.no,h.ne)
def Bok.keep{a:Ad}{G G':Hq}{p:Addr}{B:Addr->Prop}{W:List (Bool×Tl)}(h:Bok a G p B W)(s:Sm G G'):Bok a G' p B W:=let (S,q,dx,ds,rl,tk,h,e):=h;(S,q,dx,ds,rl,tk,h.keep s,e)
def b1x{d r t:Addr}:(bkF d r t).lookup sShs=cL (.ref d):=by unfold bkF;rw[cA,beq_self_eq_true]
def b8Z{d r t:Addr}:(bkF d r t).lookup sRul=cL (.ref r):=by unfold bkF;rw[cA,show (sRul==sShs)=jP by decide +kernel,cA,beq_self_eq_true]
def b1y{d r t:Addr}:(bkF d r t).lookup sTak=cL (.ref t):=by unfold bkF;rw[cA,show (sTak==sShs)=jP by decide +kernel,cA,show (sTak==sRul)=jP by decide +kernel,cA,beq_self_eq_true]
def a00{d r t:Addr}{m:Str}(h:(m==sShs||m==sRul||m==sTak)=jP):(bkF d r t).lookup m=jN:=by
 rw[gC,gC]at h;unfold bkF;rw[cA,h.1.1,cA,h.1.2,cA,h.2];rfl
def a7m:¬ (nmB jP=nmB jO):=by decide +kernel
def a9U{b c:Bool}(h:nmB b=nmB c):b=c:=by
 cases b<;>cases c<;>first |rfl |show absurd h a7m |show absurd h.symm a7m
def vB{g:Bool->Z}{b:Bool}:valZ (dcZ g) (.inr (nmB b))=cL (g b):=by
 unfold valZ dcZ;cases b
 .rw[gF (by simp)];rfl
 .rw[fB (by simp[a7m]),gF (by simp)];rfl
def vN{g:Bool->Z}{s:Str}(h:∀b,s≠nmB b):valZ (dcZ g) (.inr s)=jN:=by
 unfold valZ dcZ;rw[fB (by simp;show λz=>h jP z.symm),fB (by simp;show λz=>h jO z.symm)];rfl
def pB{g:Bool->Z}{b:Bool}{z:Z}:putZ (dcZ g) (.inr (nmB b)) z=dcZ λc=>if c=b then z else g c:=by
 let n:=a7m;let n':¬ (nmB jO=nmB jP):=λz=>n z.symm;unfold putZ dcZ;cases b<;>simp[n,n']
def a9V{g:Bool->Z}:((dcZ g).map (·.1)).Nodup:=by
 unfold dcZ;simp;show a7m
def b4c{g:Bool->Z}{i:Nat}{kv:Key×Z}(h:(dcZ g)[i]?=cL kv):∃b,kv=(.inr (nmB b),g b,):=by
 unfold dcZ at h
 match i,h with
 |0,h=>cases h;show(jP,rfl)
 |1,h=>cases h;show(jO,rfl)
def a3W{G G':Hq}{d:Addr}{kvs:List (Key×Z)}(e:G d=cL (.dK kvs))(s:Sm (put G d (.dF kvs)) G'):G' d=cL (.dF kvs)/\Sm G (put G' d (.dK kvs))/\(∀x,G' x=jN->G x=jN)/\∀x o,G' x=cL o->x≠d->put G' d (.dK kvs) x=cL o:=by
 let gd:G' d=cL (.dF kvs):=s _ _ a0a;show(gd,λb o h=>?_,λx hx=>?_,λx o h n=>by rw[a0j n];show h)
 .by_cases c:b=d
  .rw[c,a0a,<- e,<- c];show h
  .rw[a0j c];show s _ _ (by rw[a0j c];show h)
 .let n:x≠d:=Ne.symm (a0k gd hx);let h1:=s.free hx;rw[a0j n]at h1;show h1
def b1z{α:Type}{x y:α}{os:List α}(h:os.Perm [x,y]):os=[x,y]\/os=[y,x]:=by
 match os,h.length_eq with
 |[u,v],_=>
  let rfl||rfl:=(↑(h.mem_iff.mp (dg)):u=x\/u=y)
  .let:=gG.mp ((gH u).mp h)
   rw[this];show .inl rfl
  .let:=gG.mp ((gH u).mp (h.trans (.swap _ _ _)))
   rw[this];show .inr rfl
def a2Q(a:Ad):P3:=λws G R=>∃(p:Addr)(B:Addr->Prop)(W:List (Bool×Tl)),ws=[.ref p]/\Bok a G p B W/\R (.int W.length) G
set_option tactic.hygienic true in
def a0x(T:Txt K mg a):Mal P w K mg base CX0 1 a.c_Book "knowings" (lowP K (a2Q a)):=by
 show fnm 1 (N:=["self"]) (T.m_Book 2 _ rfl) ?_;walk_at "in";show(_,(a0w (a1q (q_B b5B (T.b 3) (q_k (a1l T.cl_Book (T.n_Book 2 _ rfl) (qv 0)) a0m) (hv:=PySem.boot_len)))),?_);let(p,B,W,rfl,(S,q,dx,ds,rl,tk,m,e),fin):=h;lk;show(p,dx,_,_,rfl,m.ob,b1y,?_);show b1S m.et ?_;rw[b7];show fin
def a7n:P3:=λws G R=>∃τ:Tl,ws=[τ.z]/\∀G',Sm G G'->R τ.z G'
def a7o(T:Txt K mg a):Cal P w K mg base CX0 1 "fresh" (lowP K a7n):=by
 show fnc 1 (N:=["telling"]) T.br (T.f 19 _ rfl) ?_ (len:=λws G R h=>(by let(_,rfl,_):=h;rfl));walk_at "in";show(_,(by ac_rfl),?_);let(τ,rfl,fin):=h;let(ws,ez,_):=@a9P τ;rw[ez]at fin ⊢;lk;ext t ht;lk;show(ws,a0a,fin _ (Sm.new ht))
def a2R(a:Ad):P3:=λws G R=>∃(p:Addr)(B:Addr->Prop)(W:List (Bool×Tl)),ws=[.ref p]/\Bok a G p B W/\W.length<=63/\∀t G',G t=jN->Sm G G'->G' t=cL (.lst (W.map wzB))->R (.ref t) G'
set_option tactic.hygienic true in
def a2S(T:Txt K mg a):Mal P w K mg base CX0 2 a.c_Book "tellings" (lowP K (a2R a)):=by
 show fnm 1 (N:=["self"]) (T.m_Book 6 _ rfl) ?_;walk_at "in";show(_,(a0w (a1q (q_l ["name","telling"] [jN,jN] (.tp [0,1]) (hi:=(a3a (a1l T.cl_Book (T.n_Book 2 _ rfl) (qv 0))))))),?_);let(p,B,W,rfl,(S,q,dx,ds,rl,tk,m,e),hW,fin):=h;lk;show(p,dx,_,_,rfl,m.ob,b1y,?_);show a12 m.et ?_;ext D hD;show a4P (λi ys G'=>ys=(W.take i).map wzB/\Sm G G'/\G' D=cL (.lst ys)) (rfl,Sm.new hD,a0a) (by ext i ys G' _ ⟨_,s,_⟩;show s _ _ m.et) ?_ ?_
 .ext i x ys G' hx ⟨rfl,s,gD⟩;rw[cg]at hx;cases hx':W[i]? with
  |none=>rw[hx']at hx;cases hx
  |some w=>
  rw[hx']at hx;cases hx;let hi:=(cn.mp hx').1;show(_,rfl,?_);lk;show(w.2,rfl,λG2 s2=>?_);lk;show(lenK rfl,s2 _ _ gD,by rw[b7,cz];show a0l (by cbv),by rw[take_snoc hx',cq];rfl,(s.trans s2).put hD,a0a)
 .ext ys G2 ⟨rfl,s,gD⟩;rw[b7,dr]at gD;show fin D G2 hD s gD
def a4x(a:Ad):PX3:=λws G R EE=>Ex9 λ(p:Addr) (S:Bool->Addr->Prop) (W:List (Bool×Tl)) (q:Bool->Addr) (dx ds rl tk:Addr) (s:Str)=>ws=[.ref p,.str s]/\BkM a G p S W q dx ds rl tk/\(∀b,s=nmB b->R (.ref (q b)) G)/\((∀b,s≠nmB b)->EE a.x_NoSheet G)
set_option tactic.hygienic true in
def a1g(T:Txt K mg a):Mal P w K mg base (CXx P w) 1 a.c_Book "sheet" (a1D K (a4x a)):=by
 show fnmX 2 (N:=["self","name"]) (T.m_Book 0 _ rfl) ?_;walk_at "inx";show(_,(a0d (z_if (QW.qt (q_or (by ac_rfl) (b2P (a3L (b0U hu) (qv 1) (a1l T.cl_Book (T.n_Book 0 _ rfl) (qv 0)) (by with_unfolding_all rfl)))))
  (a0w (a4k Outs.of ux rfl rfl T.x_NoSheet T.xi_NoSheet a8p (se_ rfl) a4M))
  a4a)
  (a0w (a1q (q_ix b3t (a1l T.cl_Book (T.n_Book 0 _ rfl) (qv 0)) (qv 1) (λ_ _=>rfl))))),?_)
 let(p,S,W,q,dx,ds,rl,tk,s,rfl,m,q1,q2):=h;lk;show b8g rfl rfl ?_;lk;show(p,dx,_,_,rfl,m.ob,b1x,?_)
 by_cases c:∃b,s=nmB b
 .let(b,rfl):=c;show(_,_,m.dc,rfl,?_);rw[vB];show(_,rfl,?_);rw[if_neg (by simp)];lk;show(p,dx,_,_,rfl,m.ob,b1x,?_);lk;show b3v m.dc rfl vB (q1 b rfl)
 .let c':∀b,s≠nmB b:=λb z=>c (b,z);show(_,_,m.dc,rfl,?_);rw[vN c'];show(_,rfl,?_);rw[if_pos (by simp)];lk;show q2 c'
def a9W{W:List (Bool×Tl)}{b:Bool}:(TB W b).length<=W.length:=dU _ _
def b2j{W:List (Bool×Tl)}{b c:Bool}{τ:Tl}:TB (W++[(b,τ,)]) c=if b=c then TB W c++[τ] else TB W c:=by
 unfold TB;rw[fO]
 by_cases h:b=c
 .rw[if_pos h];simp[h]
 .rw[if_neg h];simp[h]
def b1A{α:Type}{l:List α}{n:Nat}:cutZ l jN (cL (n:Int))=l.take n:=by
 unfold cutZ
 let:=HT.sIx_nat l.length l.length n
 rw[this,HT.sIx_none];simp
theorem a5h:∀{rows acc:List (Key×Z)},(a1h acc rows).length<=acc.length+rows.length
 |[],acc=>b8 _
 |r::rows,acc=>by
  let h1:=a5h (rows:=rows) (acc:=putZ acc r.1 r.2);let h2:=a6F (kvs:=acc) (k:=r.1) (v:=r.2)
  change (a1h (putZ acc r.1 r.2) rows).length<=acc.length+(rows.length+1)
  cbv
noncomputable def cntB(W:List (Bool×Tl))(b:Bool):Int:=((TB W b).length:Int)
def a4y(a:Ad):PX3:=λws G R EE=>Ex4 λ(p:Addr) (B:Addr->Prop) (W:List (Bool×Tl)) (n:Int)=>ws=[.ref p,.int n]/\Bok a G p B W/\W.length<=63/\(n=W.length->∀t G',G t=jN->Sm G G'->G' t=cL (.lst [.tup [.str (nmB jP),.int (cntB W jP)],.tup [.str (nmB jO),.int (cntB W jO)]])->R (.ref t) G')/\(n=W.length\/n<0\/(W.length:Int)<n)/\(n≠W.length->EE a.x_NoKnowing G)
set_option tactic.hygienic true in
def a2j(T:Txt K mg a):Mal P w K mg base (CXx P w) 2 a.c_Book "known" (a1D K (a4y a)):=by
 show fnmX 2 (N:=["self","knowing","counts","name","telling"]) (T.m_Book 5 _ rfl) ?_;walk_at "inx";show(_,(a0d (a0Y (q_cX (a1Y Outs.of) ux.since (a0Z T) hr (q_k (qv 1) (q_k (q_m0 (qv 0) T.cl_Book (a0x T) hr) a0m)) ))
  (a0d (z_st (nmI 2 nd) (b0X (q_Y (a3h rfl) (T.b 9) (q_k (q_l ["name"] [jN] (.nm 0) (hi:=(a5I (a1l T.cl_Book (T.n_Book 0 _ rfl) (qv 0))))) a0m))))
  (a0d (a4O (pt:=(.tp [3,4])) iA.leaving rfl (a3a (a8t x_sl (a1l T.cl_Book (T.n_Book 2 _ rfl) (qv 0)) a6e (b1K (qv 1)))) (by ac_rfl)
  (a0w (b8I hu (qv 2) (qv 3) a8o a8B)))
  (a0w (a1q (q_si (T.b 8) (qv 2))))))),?_)
 let(p,B,W,n,rfl,bk,hW,fin,hn,hE):=h;let bk':=bk;let(S,q,dx,ds,rl,tk,m,e):=bk';lk;show(p,dx,_,rfl,m.ob,a00 (by decide +kernel),?_);lk;show(p,B,W,rfl,bk,?_);show(n,_,rfl,?_)
 by_cases c:n=W.length
 .subst c;rw[if_pos (by cbv)];lk;show b0Y m.dc ?_;lk;show(p,dx,_,_,rfl,m.ob,b1x,?_);show b3C (.inl m.dc) ?_;ext D hD;show a8A (λz=>cL (.tup [z,.int 0])) (λ_=>True.intro) (by change 2<=1000;decide) (λx _ ys K1 K2 k1 k2=>(_,rfl,?_)) ?_
  .lk;show(lenK rfl,k1 _ rfl)
  lk;show a3i (rows:=dcZ λ_=>.int 0) a0a (by decide) λc hc=>?_;rw[a2h a9V];let s1:Sm (put G ds (.dF (dcB q))) (put (put (put G ds (.dF (dcB q))) D (.lst (((dcB q).map λp=>keyW p.1).filterMap λz=>cL (.tup [z,.int 0])))) c (.dK (dcZ λ_=>.int 0))):=(Sm.new hD).trans (Sm.new hc);let gc:put (put (put G ds (.dF (dcB q))) D (.lst (((dcB q).map λp=>keyW p.1).filterMap λz=>cL (.tup [z,.int 0])))) c (.dK (dcZ λ_=>.int 0)) c=cL (.dK (dcZ λ_=>.int 0)):=a0a;let hc0:=(a3W m.dc (Sm.new (o:=.lst (((dcB q).map λp=>keyW p.1).filterMap λz=>cL (.tup [z,.int 0]))) hD)).2.2.1 c hc;generalize put (put (put G ds (.dF (dcB q))) D (.lst (((dcB q).map λp=>keyW p.1).filterMap λz=>cL (.tup [z,.int 0])))) c (.dK (dcZ λ_=>.int 0))=G1 at s1 gc ⊢;let(u1,u2,u3,u4):=a3W m.dc s1;show(u1,?_);let gc2:=u4 _ _ gc (Ne.symm (a0k m.dc hc0));generalize put G1 ds (.dK (dcB q))=G2 at u2 gc2 ⊢;lk;show(p,dx,_,_,rfl,u2 _ _ m.ob,b1y,?_);lk;show b8d (u2 _ _ m.et) λv hv=>?_;rw[b1A,di (by rw[b7];show b8 _)];let gv:put G2 v (.lst (W.map wzB)) v=cL (.lst (W.map wzB)):=a0a;let gc3:=a0c (o:=.lst (W.map wzB)) gc2 hv;let s3:=u2.trans (Sm.new (o:=.lst (W.map wzB)) hv);let vc:v≠c:=Ne.symm (a0k gc2 hv);generalize put G2 v (.lst (W.map wzB))=G3 at gv gc3 s3 ⊢;show a12 gv ?_;show a11 (λi σ G'=>∃v1 v2,G' c=cL (.dK (dcZ λb=>.int (cntB (W.take i) b)))/\(∀x o,G3 x=cL o->x≠c->G' x=cL o)/\σ=[cL (.ref p),cL (.int W.length),cL (.ref c),v1,v2]) (_,_,gc3,λx o h _=>h,rfl) (λi σ G' _ (_,_,_,k,_)=>k _ _ gv vc) ?_ ?_
  .ext i x σ G' hx ⟨v1,v2,gi,ki,rfl⟩;rw[cg]at hx;cases hx':W[i]? with
   |none=>rw[hx']at hx;cases hx
   |some w=>
   rw[hx']at hx;cases hx;show(_,rfl,?_)
   change uSub _ _ _ _ _ _ _ _ _ _
   show(_,rfl,_,rfl,c,_,.inr (nmB w.1),_,rfl,rfl,gi,vB,?_);lk;show(_,gi,by change 2<1000;decide,?_);rw[pB];show(_,_,?_,λx o h n=>by rw[a0j n];show ki _ _ h n,rfl);rw[a0a]
   congr 3
   funext b
   let e1:TB (W.take (i+1)) b=if w.1=b then TB (W.take i) b++[w.2] else TB (W.take i) b:=by rw[take_snoc hx'];show b2j
   unfold cntB;rw[e1]
   by_cases hb:b=w.1
   .rw[if_pos hb,if_pos hb.symm,cj,hb];rfl
   .rw[if_neg hb,if_neg λz=>hb z.symm]
  .ext σ G' ⟨v1,v2,gi,ki,rfl⟩;rw[b7,dr]at gi;lk;show i_si ?_;lk;show(c,[(nmB jP,cntB W jP,),(nmB jO,cntB W jO,)],rfl,gi,by change 2<=1000;decide,λt os ht pm so=>?_);let eo:os=[rowI (nmB jP,cntB W jP,),rowI (nmB jO,cntB W jO,)]:=by
    let h||h:=b1z pm
    .show h
    .rw[h]at so
     let:=(cG.mp so).1 _ (cc.mpr rfl)
     unfold rowI Tim.ltT at this;rw[if_neg (by simp;show a7m)]at this;show absurd this (show ¬ Tim.lt1 (Sum.inr (nmB jP)) (Sum.inr (nmB jO))=jP by decide +kernel)
   let sG:Sm G G':=λx o h=>ki _ _ (s3 _ _ h) (a0k h hc0);show fin rfl t _ (sG.free ht) (sG.trans (Sm.new ht)) ?_;rw[a0a,eo];rfl
 .rw[if_neg (by cbv)];show hE c
structure Tab (G:Hq) (d:Addr) (kvs:List (Key×Z)):Prop where
 at_:G d=cL (.dK kvs)
 ks:∃ts:List Str,kvs.map (·.1)=ts.map (λs=>(Sum.inr s:Key))/\ts.Nodup/\ts.length<=63
def a3D:P3:=λws G R=>Ex5 λ(d l:Addr) (k:Str) (kvs:List (Key×Z)) (L:List Rw)=>ws=[.ref d,.str k,.ref l]/\Tab G d kvs/\G l=cL (.lst (L.map Rw.z))/\∀t G',G t=jN->Sm G G'->R (.ref t) G'
def a1I(T:Txt K mg a):Cal P w K mg base CX0 1 "with_line" (lowP K a3D):=by
 show fnc 3 (N:=["table","key","line","told"]) T.br (T.f 17 _ rfl) ?_ (len:=λws G R h=>(by let(_,_,_,_,_,rfl,_):=h;rfl));walk_at "in";show(_,(a0d (z_st (nmI 3 nd) (b0X (q_Y (a3h rfl) (T.b 9) (q_k (q_l ["known","table","key"] [jN,cL 0,cL 1] (.nm 0) (hi:=(a5I (qv 0))) (he:=λ_ _ _ _=>(a6T (q_k (qv 0) (q_k (q_ix b6q (qv 1) (qv 0) (λ_ _=>rfl)) a0m))))) a0m))))
  (a4b (z_if (b2R (qv 2) (λ_=>rfl))
  (a0w (a6f (qv 2) (qv 3) (qv 1) (a8Z hu)))
  a4a)
  (by ac_rfl))),?_)
 let(d,l,k,kvs,L,rfl,tb,hl,fin):=h;let(ts,hts,nd,hlt):=tb.ks;lk;show b0Y tb.at_ ?_;lk;show b3C (.inl tb.at_) ?_;ext D hD;let gd:put G d (.dF kvs) d=cL (.dF kvs):=a0a;generalize ee:put G d (.dF kvs)=G1 at hD gd ⊢;show a4P (λi ys G'=>∃rows:List (Key×Z),ys=rows.map prZ/\rows.length<=i/\Sm G1 G'/\G' D=cL (.lst ys)) ([],rfl,b8 _,Sm.new hD,a0a) (λ_ _ _ _ _=>True.intro) ?_ ?_
 .ext i x ys G' hx ⟨rows,rfl,hr,s,gD⟩;rw[cg]at hx;cases hx':kvs[i]? with
  |none=>rw[hx']at hx;cases hx
  |some kv=>
  rw[hx']at hx;cases hx;obtain⟨u,ku⟩:∃u,kv.1=Sum.inr u:=by
   let h1:kv.1∈kvs.map (·.1):=cS (f:=(·.1)) (cx hx');rw[hts]at h1;let(u,_,h):=cm.mp h1;show(u,h.symm)
  let hk:(λp:Key×Z=>keyW p.1) kv=.str u:=by change keyW kv.1=_;rw[ku];rfl
  let hi:=(cn.mp hx').1;let hkl:kvs.length=ts.length:=by let:=congrArg cF hts;rwa [b7,b7]at this
  let hv:valZ kvs (.inr u)=cL kv.2:=a25 (by rw[hts];show dE.mpr (nd.imp λh z=>h (by injection z))) (by rw[<- ku];show cx hx');rw[hk];show(_,rfl,?_);lk
  by_cases c:u=k
  .rw[if_neg (by simp[c])];show(rows,rfl,by cbv,s,gD)
  .rw[if_pos (by simp[c])];lk;show b6r (.inr (s _ _ gd)) rfl hv ?_;lk;show(lenK rfl,gD,by rw[b7];show a0l (by cbv),rows++[(.inr u,kv.2,)],by rw[cq];rfl,by rw[cj];simp;cbv,s.put hD,a0a)
 .ext ys G2 ⟨rows,rfl,hr,s,gD⟩;rw[b7]at hr;let hkl:kvs.length=ts.length:=by let:=congrArg cF hts;rwa [b7,b7]at this
  lk;show a3i gD (by cbv) λt ht=>?_;subst ee;let(u1,u2,u3,u4):=a3W tb.at_ (s.trans (Sm.new (o:=.dK (a1h [] rows)) ht));let ht0:=(a3W tb.at_ s).2.2.1 t ht;let gt:=u4 t _ a0a (Ne.symm (a0k tb.at_ ht0));show(u1,?_);generalize put (put G2 t (.dK (a1h [] rows))) d (.dK kvs)=G3 at u2 gt ⊢;lk;show a4e (fun σ' G'=>σ'=[cL (.ref d),cL (.str k),cL (.ref l),cL (.ref t)]/\Sm G G') ?_ ?_
  .lk;show a8L (u2 _ _ hl) ?_;cases L with
   |nil=>
    lk;show(rfl,u2)
   |cons r L=>
    rw[if_pos (show (!((r::L).map Rw.z).isEmpty)=jO from rfl)];lk;let hml:=a5h (rows:=rows) (acc:=[]);show a80 (k:=.inr k) (i:=.str k) gt rfl (a0l (by rw[gk]at hml;cbv)) ?_;show(rfl,u2.put ht0)
  .ext σ' G' ⟨rfl,sG⟩;lk;show fin t G' ht0 sG
def a1v(a:Ad):P3:=λws G R=>Ex5 λ(p:Addr) (B:Addr->Prop) (W:List (Bool×Tl)) (b:Bool) (τ:Tl)=>ws=[.ref p,.str (nmB b),τ.z]/\Bok a G p B W/\τ.Ok/\(∀b,OkT (TB W b)/\Few (TB W b))/\∀t G',Sm G G'->R (.ref t) G'
set_option tactic.hygienic true in
def a1w(T:Txt K mg a):Mal P w K mg base CX0 6 a.c_Book "tables_behind" (lowP K (a1v a)):=by
 show fnm 3 (N:=["self","name","telling","tables","key"]) (T.m_Book 3 _ rfl) ?_;walk_at "in";show(_,(a0d (z_st (nmI 3 nd) (b0X (q_Y (a3h rfl) (T.b 9) (q_k (q_l ["each","sheet"] [jN,jN] (.tp [0,1]) (hi:=(b07 (a1l T.cl_Book (T.n_Book 0 _ rfl) (qv 0)))) (he:=λ_ _ _ _=>(a6T (q_k (qv 0) (q_k (q_c (a2i T) hr (q_k (qv 1) (q_k (q_m0 (qv 1) T.cl_Tiled (a07 T) hr) a0m)) ) a0m))))) a0m))))
  (a0d (by ac_rfl)
  (a0d (a6f (q_c (a1I T) hr (q_k (q_ix b3t (qv 3) (qv 1) (λ_ _=>rfl)) (q_k (qv 4) (q_k (q_c (a0P T) hr (q_k (q_bm PySem.F.plainAttrs_dict PySem.F.slot_dict_get PySem.F.type_dict_get (a6p hu) (q_ix b3t (qv 3) (qv 1) (λ_ _=>rfl)) (by ac_rfl)) (q_k (qv 2) a0m)) ) a0m))) ) (qv 3) (qv 1) (a8Z hu))
  (by ac_rfl)))),?_)
 let(p,B,W,b,τ,rfl,(S,q,dx,ds,rl,tk,m,e),ok,okT,fin):=h;lk;show b0Y m.dc ?_;lk;show b8A ?_;lk;show(p,dx,_,_,rfl,m.ob,b1x,?_);show b6v (.inl m.dc) ?_;ext D hD;generalize ee:put G ds (.dF (dcB q))=G1 at hD ⊢;show a4P (λi ys G'=>∃rows:List (Key×Z),ys=rows.map prZ/\rows.map (·.1)=((dcB q).take i).map (·.1)/\(∀r∈rows,Ex4 λd T ts kvs=>r.2=.ref d/\d≠D/\(∀k l,valZ kvs (.inr k)=cL (.ref l)->l≠D)/\TabD G' d T ts kvs/\T.length<=200/\ts.length<=63)/\Sm G1 G'/\G' D=cL (.lst ys)) ([],rfl,rfl,(λr h=>by simp at h),Sm.new hD,a0a) (λ_ _ _ _ _=>True.intro) ?_ ?_
 .ext i x ys G' hx ⟨rows,rfl,hr,hln,s,gD⟩;rw[cg]at hx;cases hx':(dcB q)[i]? with
  |none=>rw[hx']at hx;cases hx
  |some kv=>
  rw[hx']at hx;cases hx;let hi:=(cn.mp hx').1;let(c,rfl):=b4c hx';let sh:Sheet a G' (q c) (S c) (TB W c):=(m.sh c).keep λx o hx ex=>s _ _ (by
   let n:x≠ds:=λz=>(m.no c).2.1 (z▸hx);rw[<- ee,a0j n];show ex)
  let(dxs,nn,dns,obs):=a9R sh;let hrl:rows.length<=2:=by let:=congrArg cF hr;rw[b7,b7,cz]at this;let h2:(dcB q).length=2:=rfl;cbv
  change ∃σ',a2E (.tp [0,1]) (.tup [.str (nmB c),.ref (q c)]) _=cL σ'/\_
  show(_,rfl,?_);lk;show(q c,dxs,_,rfl,obs,a2J (by decide +kernel) (by decide +kernel),?_);lk;show(q c,S c,TB W c,rfl,sh,?_);show(q c,S c,TB W c,_,rfl,sh,(okT c).1,(okT c).2,(by cbv,cK _),λd ts kvs G2 hd s2 tb hts hnl=>?_);let ndD:d≠D:=Ne.symm (a0k gD hd);let few:=(okT c).2.1;lk;show(lenK rfl,s2 _ _ gD,by rw[b7];show a0l (by cbv),rows++[(.inr (nmB c),.ref d,)],by rw[cq];rfl,by rw[cq,hr,take_snoc hx',cq];rfl,λr hr'=>?_,(s.trans s2).put hD,a0a);let hr'||hr':=b9.mp hr'
  .let(d',T',ts',kvs',m1,m2,m0,m3,m4):=hln r hr';show(d',T',ts',kvs',m1,m2,m0,(m3.keep s2).put m2 m0,m4)
  .rw[cc.mp hr'];let nl':∀k l,valZ kvs (.inr k)=cL (.ref l)->l≠D:=λk l e=>Ne.symm (a0k gD (hnl k l e));show(d,_,ts,kvs,rfl,ndD,nl',tb.put ndD nl',by rw[cz];cbv,hts)
 .ext ys G2 ⟨rows,rfl,hr,hln,s,gD⟩;let hr:rows.map (·.1)=(dcB q).map (·.1):=hr;let hnd:(rows.map (·.1)).Nodup:=by rw[hr];show a9V
  let hrl:rows.length=2:=by let:=congrArg cF hr;rw[b7,b7]at this;show this
  lk;show a3i gD (by cbv) λt ht=>?_;rw[a2h hnd];subst ee;let ht0:=(a3W m.dc s).2.2.1 t ht;let(u1,u2,u3,u4):=a3W m.dc (s.trans (Sm.new (o:=.dK rows) ht));let gt:=u4 t _ a0a (Ne.symm (a0k m.dc ht0));show(u1,?_);obtain⟨d,T',ts,kvs,hv,tb,hT,hts⟩:Ex4 λd T' ts kvs=>valZ rows (.inr (nmB b))=cL (.ref d)/\TabD (put (put G2 t (.dK rows)) ds (.dK (dcB q))) d T' ts kvs/\T'.length<=200/\ts.length<=63:=by
   let hm:(Sum.inr (nmB b):Key)∈rows.map (·.1):=by rw[hr];cases b<;>simp[dcZ]
   let(r,hr1,hr2):=cm.mp hm;let(d,T',ts,kvs,e1,_,_,tb,e2,e3):=hln r hr1;let tb':=tb.keep (Sm.new (o:=.dK rows) ht);let n:d≠ds:=λz=>by let h1:=tb'.at_;rw[z,u1]at h1;cases h1
   show(d,T',ts,kvs,a25 hnd (by rw[<- e1,<- hr2];show hr1),tb'.put n λk l ev z=>by
    by_cases hk:k∈ts
    .let(l',L,q1,q2,_):=tb'.ln k hk;rw[q1]at ev;cases ev;rw[z,u1]at q2;cases q2
    .rw[tb'.no k hk]at ev;(cases ev),e2,e3)
  generalize put (put G2 t (.dK rows)) ds (.dK (dcB q))=G3 at u2 gt tb ⊢;let(ws,ez,ek):=@a9P τ;lk;rw[ez];show a3y ek ?_;rw[<- ez];lk;show b3v gt rfl hv ?_;lk;show b3v gt rfl hv ?_;lk;show b6h tb.at_ ?_;lk;show(lenK rfl,λl0 hl0=>?_);lk;let tb4:=tb.keep (Sm.new (o:=.lst []) hl0);show b11 tb4.at_ rfl ?_;let gt4:=a0c (o:=.lst []) gt hl0;let s4:=u2.trans (Sm.new (o:=.lst []) hl0);obtain⟨l,L,el,gl,rl1,rl2,rl3⟩:∃l L,(valZ kvs (.inr τ.key)).getD (.ref l0)=.ref l/\put G3 l0 (.lst []) l=cL (.lst (L.map Rw.z))/\Rise L/\Plain L/\L.length<=400:=by
   by_cases hk:τ.key∈ts
   .let(l,L,q1,q2,il):=tb4.ln _ hk
    let:=il.len
    show(l,L,by rw[q1];rfl,q2,il.can.rise,il.pl,by cbv)
   .show(l0,[],by rw[tb4.no _ hk];rfl,a0a,.nil,(λr h=>by simp at h),by simp)
  rw[el];generalize put G3 l0 (.lst [])=G4 at tb4 gt4 s4 gl ⊢;lk;show(l,L,τ,rfl,gl,rl1,rl2,rl3,ok,λu G5 hu s5 gu=>?_);let tb5:=tb4.keep s5;show(d,u,τ.key,kvs,_,rfl,(tb5.at_,ts,tb5.ks,tb5.ka.nd,hts),gu,λv G6 hv6 s6=>?_);let s06:=(s4.trans s5).trans s6;lk;show a80 (k:=.inr (nmB b)) (s6 _ _ (s5 _ _ gt4)) rfl (by rw[hrl];show a0l (by decide)) ?_;lk;show fin t _ (s06.put ht0)
def a1W(a:Ad):P3:=λws G R=>Ex4 λ(p:Addr) (B:Addr->Prop) (W:List (Bool×Tl)) (x:Z)=>ws=[.ref p,x]/\Bok a G p B W/\∀G',Sm G G'->R .non G'
set_option tactic.hygienic true in
def a1X(T:Txt K mg a):Mal P w K mg base CX0 1 a.c_Book "check_rules" (lowP K (a1W a)):=by
 show fnm 2 (N:=["self","tables","number","rule","place"]) (T.m_Book 1 _ rfl) ?_;walk_at "in";show(_,(a0w (a4O (pt:=(.tp [2,3])) iA.never rfl (a43 rfl (T.b 13) (q_k (a1l T.cl_Book (T.n_Book 1 _ rfl) (qv 0)) a0m)) (by ac_rfl)
  (a0d a8u
  (a0w (z_if (by ac_rfl)
  (a0w a8u)
  a4a))))),?_)
 let(p,B,W,x,rfl,(S,q,dx,ds,rl,tk,m,e),fin):=h;lk;show b6G ?_;lk;show(p,dx,_,_,rfl,m.ob,b8Z,?_);lk;show(m.er,?_);show a11 (λ_ σ G'=>G'=G) rfl (λ_ _ _ _ z=>by rw[z];show m.er) (λi x σ G' hx=>by simp at hx) fun σ G' z=>by rw[z];show fin G (Sm.refl _)
def a5i(a:Ad):PX3:=λws G R EE=>Ex9 λ(p:Addr) (B:Addr->Prop) (W:List (Bool×Tl)) (s:Str) (z h:Z) (nm:List Z) (x y:Z)=>ws=[.ref p,.str s,z]/\Bok a G p B W/\Tel G z h nm x y/\W.length<=63/\(∀b,OkT (TB W b)/\Few (TB W b)) /\
 (((∀b,s≠nmB b)/\∀G',Sm G G'->EE a.x_NoSheet G')\/∃b,s=nmB b/\((nm.all a0F=jP/\∀G',Sm G G'->EE a.x_NoName G')\/(nm.all a0F=jO/\((strB x y=jP/\∀G',Sm G G'->EE a.x_NoStretch G') \/
  (strB x y=jO/\∃τ:Tl,z=τ.z/\τ.Ok/\∀(B':Addr->Prop) G',(∀b,B' b->B b\/G b=jN)->KN B G G'->Bok a G' p B' (W++[(b,τ,)])->R (.int ((W.length:Int)+1)) G')))))
set_option tactic.hygienic true in
def a2B(T:Txt K mg a):Mal P w K mg base (CXx P w) 7 a.c_Book "tell" (a1D K (a5i a)):=by
 show fnmX 3 (N:=["self","name","telling","sheet"]) (T.m_Book 4 _ rfl) ?_;walk_at "inx";show(_,(a0d (z_st (nmI 3 nd) (q_mX (a1Y Outs.of) ux.since (qv 0) T.cl_Book (a1g T) hr (q_k (qv 1) a0m) ))
  (a0d (a0Y (q_cX (a1Y Outs.of) ux.since (a03 T) hr (q_k (qv 2) a0m) ))
  (a0d (a0Y (q_m (qv 0) T.cl_Book (a1X T) hr (q_k (q_m (qv 0) T.cl_Book (a1w T) hr (q_k (qv 1) (q_k (qv 2) a0m)) ) a0m) ))
  (a0d (a0Y (q_m (qv 3) T.cl_Tiled (a4v T) hr (q_k (qv 2) a0m) ))
  (a0d (a0Y (q_bm PySem.F.plainAttrs_list PySem.F.slot_list_append PySem.F.type_list_append a4d (a1l T.cl_Book (T.n_Book 2 _ rfl) (qv 0)) (by ac_rfl)))
  (a0w (a1q (q_m0 (qv 0) T.cl_Book (a0x T) hr)))))))),?_)
 let(p,B,W,s,z,h,nm,x,y,rfl,bk,tel,hW,okT,alt):=h;let bk':=bk;let(S,q,dx,ds,rl,tk,m,e):=bk';lk;show(p,dx,_,rfl,m.ob,a00 (by decide +kernel),?_);lk;show(p,S,W,q,dx,ds,rl,tk,s,rfl,m,λb eb=>?_,λnb=>?_)
 .let(h1,_)||(b',eb',alt):=alt
  .show absurd eb (h1 b)
  let:=a9U (eb'.symm.trans eb)
  subst this;lk;show(z,h,nm,x,y,rfl,tel,λG1 s1=>?_);let(hn,hE)||(hn,(hs,hE)||(hs,τ,rfl,ok,fin)):=alt
  .rw[hn];show ifF (hE G1 s1)
  .rw[hn,hs];show ifT (ifF (hE G1 s1))
  rw[hn,hs];show ifT (ifT ?_);let m1:=m.keep s1;lk;show(p,dx,_,rfl,m1.ob,a00 (by decide +kernel),?_);lk;show(p,dx,_,rfl,m1.ob,a00 (by decide +kernel),?_);lk;show(p,B,W,b',τ,by rw[eb],bk.keep s1,ok,okT,λt G2 s2=>?_);lk;show(p,B,W,_,rfl,bk.keep (s1.trans s2),λG3 s3=>?_);let s13:=(s1.trans s2).trans s3;let m3:=m.keep s13;clear m1;let(dxs,ns,dns,obs):=a9R (m3.sh b');lk;show(q b',dxs,_,rfl,obs,a2J (by decide +kernel) (by decide +kernel),?_);lk;let hTB:=a9W (W:=W) (b:=b');show(q b',S b',TB W b',m3.sh b',.inl (τ,rfl,ok,by cbv,λS' G4 i1 i2 kn sh4=>?_));let al3:∀c x,S c x->∃o,G3 x=cL o:=λc x hx=>by
   let(_,_,_,mm):=m3.sh c;show mm.al x hx
  let nS:∀x o,G3 x=cL o->¬ S b' x->¬ S' x:=λx o ex n hx=>(i2 x hx).elim n λw=>by rw[w]at ex;cases ex
  let ob4:=kn _ _ (m3.no b').1 m3.ob;lk;show(p,dx,_,_,rfl,ob4,b1y,?_);lk;show(.inl (rfl,_,kn _ _ (m3.no b').2.2.2 m3.et),?_);lk;show(τ,rfl,λG5 s5=>?_);let k5:∀x o,¬ S b' x->G3 x=cL o->G5 x=cL o:=λx o n e=>s5 _ _ (kn _ _ n e);lk;show(lenK rfl,?_);lk;show a2W (k5 _ _ (m3.no b').2.2.2 m3.et) (by rw[b7];show a0l (by cbv)) ?_;let tn:∀x o,G5 x=cL o->x≠tk->put G5 tk (.lst (W.map wzB++[.tup [.str s,τ.z]])) x=cL o:=λx o e n=>by rw[a0j n];show e
  let gt6:put G5 tk (.lst (W.map wzB++[.tup [.str s,τ.z]])) tk=cL (.lst ((W++[(b',τ,)]).map wzB)):=by rw[a0a,cq,eb];rfl
  generalize put G5 tk (.lst (W.map wzB++[.tup [.str s,τ.z]]))=G6 at tn gt6 ⊢;let np:p≠tk:=λz=>by let:=m3.ob;rw[z,m3.et]at this;cases this
  let nd:ds≠tk:=λz=>by let:=m3.dc;rw[z,m3.et]at this;cases this
  let ob6:=tn _ _ (s5 _ _ ob4) np;let m6:BkM a G6 p (λc=>if c=b' then S' else S c) (W++[(b',τ,)]) q dx ds rl tk:=by
   show(ob6,λc=>?_,λc c' x h1 h2=>?_,tn _ _ (k5 _ _ (m3.no b').2.1 m3.dc) nd,tn _ _ (k5 _ _ (m3.no b').2.2.1 m3.er) (Ne.symm m3.ne),gt6,λc=>?_,m3.ne)
   .rw[b2j]
    by_cases hc:c=b'
    .subst hc;rw[if_pos rfl,if_pos rfl];show sh4.keep λx o hx ex=>tn _ _ (s5 _ _ ex) λz=>nS _ _ m3.et (m3.no c).2.2.2 (z▸hx)
    .rw[if_neg hc,if_neg λz=>hc z.symm];show (m3.sh c).keep λx o hx ex=>tn _ _ (k5 _ _ (λz=>hc (m3.dj _ _ _ hx z)) ex) λz=>(m3.no c).2.2.2 (z▸hx)
   .let key:∀c,(if c=b' then S' else S c) x->S c x\/(c=b'/\G3 x=jN):=λc hx=>by
     by_cases hc:c=b'
     .rw[if_pos hc]at hx;show (i2 x hx).imp (λz=>hc▸z) λz=>(hc,z)
     .rw[if_neg hc]at hx;show .inl hx
    let z1||(z1,z2):=key _ h1
    .let w1||(w1,w2):=key _ h2
     .show m3.dj _ _ _ z1 w1
     .let(o,e):=al3 _ _ z1;rw[w2]at e;cases e
    .let w1||(w1,w2):=key _ h2
     .let(o,e):=al3 _ _ w1;rw[z2]at e;cases e
     .rw[z1,w1]
   .by_cases hc:c=b'
    .rw[if_pos hc];let(n1,n2,n3,n4):=m3.no b';show(nS _ _ m3.ob n1,nS _ _ m3.dc n2,nS _ _ m3.er n3,nS _ _ m3.et n4)
    .rw[if_neg hc];show m3.no c
  let bk6:Bok a G6 p (λx=>x=p\/x=ds\/x=rl\/x=tk\/∃c,(if c=b' then S' else S c) x) (W++[(b',τ,)]):=(_,_,_,_,_,_,m6,λx=>Iff.rfl);lk;show(p,dx,_,rfl,ob6,a00 (by decide +kernel),?_);lk;show(p,_,_,rfl,bk6,?_);rw[cj];show fin _ G6 (λx hx=>?_) (λx o nx ex=>?_) bk6
  .let h1||h1||h1||h1||(c,h1):=hx
   .show .inl ((e x).mpr (.inl h1))
   .show .inl ((e x).mpr (.inr (.inl h1)))
   .show .inl ((e x).mpr (.inr (.inr (.inl h1))))
   .show .inl ((e x).mpr (.inr (.inr (.inr (.inl h1)))))
   .by_cases hc:c=b'
    .rw[if_pos hc]at h1;let w||w:=i2 x h1
     .show .inl ((e x).mpr (.inr (.inr (.inr (.inr (_,w))))))
     .show .inr (s13.free w)
    .rw[if_neg hc]at h1;show .inl ((e x).mpr (.inr (.inr (.inr (.inr (_,h1))))))
  .let n:=λz=>nx ((e x).mpr z);show tn _ _ (k5 _ _ (λz=>n (.inr (.inr (.inr (.inr (_,z)))))) (s13 _ _ ex)) λz=>n (.inr (.inr (.inr (.inl z))))
 .let(h1,hE)||(b',eb',alt):=alt
  .show hE G (Sm.refl _)
  .show absurd eb' (nb b')
def a2T(a:Ad):P3:=λws G R=>Ex4 λp dx l r=>ws=[.ref p,.ref l,.ref r]/\G p=cL (.ins a.c_Book dx [])/\G l=cL (.lst [.str (nmB jP),.str (nmB jO)])/\G r=cL (.lst [])/\∀B G',(∀x,B x->x=p\/G x=jN)->(∀b o,G b=cL o->b≠p->G' b=cL o)->Bok a G' p B []->R .non G'
set_option tactic.hygienic true in
def a2U(T:Txt K mg a):Mal P w K mg base CX0 3 a.c_Book "__init__" (lowP K (a2T a)):=by
 show fnm 3 (N:=["self","names","rules"]) (T.m_Book 7 _ rfl) ?_;walk_at "in";show(_,(a0d (a82 T.cl_Book (T.n_Book 0 _ rfl) (qv 0) (q_Y (a3h rfl) (T.b 9) (q_k (q_l ["name"] [jN] (.nm 0) (he:=λ_ _ _ _=>(a6T (q_k (qv 0) (q_k (b8C T.mk_Tiled (a2w T) hr T.mg_Tiled) a0m))))) a0m)))
  (a0d (a82 T.cl_Book (T.n_Book 1 _ rfl) (qv 0) (by ac_rfl))
  (a0w (a82 T.cl_Book (T.n_Book 2 _ rfl) (qv 0) (by ac_rfl))))),?_)
 let(p,dx,l,r,rfl,gp,gl,gr,fin):=h;lk;show a12 gl ?_;ext D hD;show a4P (λi ys G'=>∃t:List (Addr×Addr),t.length=i/\ys=(([nmB jP,nmB jO].zip t).map λe=>Z.tup [.str e.1,.ref e.2.1])/\(∀e∈t,Sheet a G' e.1 (λx=>x=e.1\/x=e.2) []/\G e.1=jN/\G e.2=jN/\e.1≠D/\e.2≠D)/\t.Pairwise (λe f=>∀x,(x=e.1\/x=e.2)->¬ (x=f.1\/x=f.2))/\Sm G G'/\G' D=cL (.lst ys)) ([],rfl,rfl,(λr h=>by simp at h),.nil,Sm.new hD,a0a) (by ext i ys G' _ ⟨_,_,_,_,_,s,_⟩;show s _ _ gl) ?_ ?_
 .ext i x ys G' hx ⟨t,hti,rfl,hsh,hpw,s,gD⟩;let hi:i<2:=(cn.mp hx).1;obtain⟨nm,rfl,hnm⟩:∃nm,x=.str nm/\[nmB jP,nmB jO][i]?=cL nm:=by
   match i,hx with
   |0,hx=>cases hx;show(_,rfl,rfl)
   |1,hx=>cases hx;show(_,rfl,rfl)
  show(_,rfl,?_);lk;ext q dq hq;show(q,dq,rfl,a0a,λd G3 hd k3 sh=>(rfl,?_));let s3:Sm G' G3:=λb o e=>k3 b o (a0c e hq) (a0k e hq);let nqD:q≠D:=Ne.symm (a0k gD hq);let hd':G' d=jN:=by
   by_cases c:d=q
   .rw[c];show hq
   .rw[a0j c]at hd;show hd
  let ndD:d≠D:=Ne.symm (a0k gD hd');let kp:∀{e1 e2:Addr}{o:O},e1≠D->e2≠D->Sheet a G3 e1 (λx=>x=e1\/x=e2) []->Sheet a (put G3 D o) e1 (λx=>x=e1\/x=e2) []:=λn1 n2 h=>h.keep λx o hx e=>by
   let hx||hx:=hx<;>(rw[a0j (by rw[hx];assumption)];show e)
  lk;show(lenK rfl,s3 _ _ gD,?_,t++[(q,d,)],by rw[cj,hti];rfl,?_,λe he=>?_,?_,(s.trans s3).put hD,a0a)
  .rw[b7,List.length_zip];show a0l (by cbv)
  .match t,i,hti,hnm,hi with
   |[],0,_,h,_=>cases h;rfl
   |[e],1,_,h,_=>cases h;rfl
  .let he||he:=b9.mp he
   .let(a1,a2,a3,a4,a5):=hsh e he;show(kp a4 a5 (a1.keep (Sm.ks s3)),a2,a3,a4,a5)
   .rw[cc.mp he];show(kp nqD ndD sh,s.free hq,s.free hd',nqD,ndD)
  .rw[cy];show(hpw,fg _ _,λe he f hf x h1 h2=>?_);rw[cc.mp hf]at h2;let(_,_,_,mm):=(hsh e he).1;let(o,eo):=mm.al x h1;let h2||h2:=h2
   .rw[h2,hq]at eo;cases eo
   .rw[h2,hd']at eo;cases eo
 .ext ys G2 ⟨t,hti,rfl,hsh,hpw,s,gD⟩
  match t,hti,hsh,hpw,gD with
  |[e0,e1],_,hsh,hpw,gD=>
  obtain⟨q,hq⟩:∃q:Bool->Addr×Addr,q=λb=>cond b e1 e0:=(_,rfl);let hs:∀b,Sheet a G2 (q b).1 (λx=>x=(q b).1\/x=(q b).2) []/\G (q b).1=jN/\G (q b).2=jN:=λb=>by
   rw[hq];cases b
   .let(a1,a2,a3,_):=hsh e0 (by simp);show(a1,a2,a3)
   .let(a1,a2,a3,_):=hsh e1 (by simp);show(a1,a2,a3)
  let hdj:∀b c x,(x=(q b).1\/x=(q b).2)->(x=(q c).1\/x=(q c).2)->b=c:=λb c x h1 h2=>by
   let hh:=(cG.mp hpw).1 e1 (cc.mpr rfl) x;rw[hq]at h1 h2;cases b<;>cases c
   .rfl
   .show absurd h2 (hh h1)
   .show absurd h1 (hh h2)
   .rfl
  let gD:G2 D=cL (.lst ((dcB λb=>(q b).1).map prZ)):=by rw[hq];show gD
  lk;show a3i gD (by change 2<=1000;decide) λds hds=>?_;rw[a2h a9V];let s3:=s.trans (Sm.new (o:=.dK (dcB λb=>(q b).1)) hds);let gd3:put G2 ds (.dK (dcB λb=>(q b).1)) ds=cL (.dK (dcB λb=>(q b).1)):=a0a;let sh3:∀b,Sheet a (put G2 ds (.dK (dcB λb=>(q b).1))) (q b).1 (λx=>x=(q b).1\/x=(q b).2) []:=λb=>(hs b).1.keep (Sm.ks (Sm.new hds));let nS:∀b x,G2 x=jN->¬ (x=(q b).1\/x=(q b).2):=λb x hx z=>by
   let(_,_,_,mm):=(hs b).1;let(o,eo):=mm.al x z;rw[hx]at eo;cases eo
  let nds:=λb=>nS b ds hds;let hds0:=s.free hds;generalize put G2 ds (.dK (dcB λb=>(q b).1))=G3 at s3 gd3 sh3 ⊢;lk;show(p,dx,[],rfl,s3 _ _ gp,by decide,?_);lk;let nrp:r≠p:=λz=>by rw[z,gp]at gr;cases gr
  let pne:∀{x:Addr},G x=jN->x≠p:=λh=>Ne.symm (a0k gp h);let al:∀b x,G3 x=jN->¬ (x=(q b).1\/x=(q b).2):=λb x hx z=>by
   let(_,_,_,mm):=sh3 b;let(o,eo):=mm.al x z;rw[hx]at eo;cases eo
  let g4:put G3 p (.ins a.c_Book dx (putQ sShs (.ref ds) [])) p=cL (.ins a.c_Book dx [(sShs,.ref ds,)]):=a0a;let k4:Kq p G3 (put G3 p (.ins a.c_Book dx (putQ sShs (.ref ds) []))):=Kq.at
  let n4:∀x,put G3 p (.ins a.c_Book dx (putQ sShs (.ref ds) [])) x=jN->G3 x=jN:=λx h=>by
   let n:x≠p:=λz=>by rw[z,a0a]at h;cases h
   rw[a0j n]at h;show h
  generalize put G3 p (.ins a.c_Book dx (putQ sShs (.ref ds) []))=G4 at g4 k4 n4 ⊢;show b3c (k4 _ _ (s3 _ _ gr) nrp) λrl hrl=>?_;lk;show(p,dx,_,rfl,a0c g4 hrl,by change 1<1000;decide,?_);let npr:rl≠p:=Ne.symm (a0k g4 hrl);let g6:put (put G4 rl (.lst [])) p (.ins a.c_Book dx (putQ sRul (.ref rl) [(sShs,.ref ds,)])) p=cL (.ins a.c_Book dx [(sShs,.ref ds,),(sRul,.ref rl,)]):=by
   rw[a0a];unfold putQ;rw[if_neg (by decide +kernel)];rfl
  let r6:put (put G4 rl (.lst [])) p (.ins a.c_Book dx (putQ sRul (.ref rl) [(sShs,.ref ds,)])) rl=cL (.lst []):=by rw[a0j npr];show a0a
  let k6:Kq p G3 (put (put G4 rl (.lst [])) p (.ins a.c_Book dx (putQ sRul (.ref rl) [(sShs,.ref ds,)]))):=k4.trans ((Kq.new hrl).trans Kq.at);let n6:∀x,put (put G4 rl (.lst [])) p (.ins a.c_Book dx (putQ sRul (.ref rl) [(sShs,.ref ds,)])) x=jN->G3 x=jN:=λx h=>by
   let n:x≠p:=λz=>by rw[z,a0a]at h;cases h
   rw[a0j n]at h;show n4 x ((Sm.new hrl).free h)
  generalize put (put G4 rl (.lst [])) p (.ins a.c_Book dx (putQ sRul (.ref rl) [(sShs,.ref ds,)]))=G6 at g6 r6 k6 n6 ⊢;lk;show(lenK rfl,λtk htk=>?_);lk;show(p,dx,_,rfl,a0c g6 htk,by change 2<1000;decide,?_);let npt:tk≠p:=Ne.symm (a0k g6 htk);let g8:put (put G6 tk (.lst [])) p (.ins a.c_Book dx (putQ sTak (.ref tk) [(sShs,.ref ds,),(sRul,.ref rl,)])) p=cL (.ins a.c_Book dx (bkF ds rl tk)):=by
   rw[a0a];unfold putQ;rw[if_neg (by decide +kernel)];unfold putQ;rw[if_neg (by decide +kernel)];rfl
  let k8:Kq p G6 (put (put G6 tk (.lst [])) p (.ins a.c_Book dx (putQ sTak (.ref tk) [(sShs,.ref ds,),(sRul,.ref rl,)]))):=(Kq.new htk).trans Kq.at
  let t8:put (put G6 tk (.lst [])) p (.ins a.c_Book dx (putQ sTak (.ref tk) [(sShs,.ref ds,),(sRul,.ref rl,)])) tk=cL (.lst []):=by rw[a0j npt];show a0a
  generalize put (put G6 tk (.lst [])) p (.ins a.c_Book dx (putQ sTak (.ref tk) [(sShs,.ref ds,),(sRul,.ref rl,)]))=G8 at g8 k8 t8 ⊢;let qp:∀b x,(x=(q b).1\/x=(q b).2)->x≠p:=λb x h=>pne (by let h||h:=h<;>rw[h];show (hs b).2.1;show (hs b).2.2)
  show fin (λx=>x=p\/x=ds\/x=rl\/x=tk\/∃b,(x=(q b).1\/x=(q b).2)) G8 (λx hx=>?_) (λx o e n=>k8 _ _ (k6 _ _ (s3 _ _ e) n) n) (λb x=>x=(q b).1\/x=(q b).2,λb=>(q b).1,dx,ds,rl,tk,(g8,λb=>(sh3 b).keep λx o hx e=>k8 _ _ (k6 _ _ e (qp b x hx)) (qp b x hx),hdj,k8 _ _ (k6 _ _ gd3 (pne hds0)) (pne hds0),k8 _ _ r6 npr,t8,λb=>(λz=>qp b p z rfl,nds b,al b rl (n4 _ hrl),al b tk (n6 _ htk)),Ne.symm (a0k r6 htk)),λx=>Iff.rfl);let h||h||h||h||(b,h):=hx
  .show .inl h
  .rw[h];show .inr hds0
  .rw[h];show .inr (s3.free (n4 _ hrl))
  .rw[h];show .inr (s3.free (n6 _ htk))
  .right
   let h||h:=h
   .rw[h];show (hs b).2.1
   .rw[h];show (hs b).2.2
def a01{a b:Str}(ha:PyData.strOk a=jO)(hb:PyData.strOk b=jO):PyData.strOk (a++b)=jO:=by
 unfold PyData.strOk at *
 change (a.cps++b.cps).all _=jO
 rw[Array.all_append,ha,hb];rfl
def a3u{a:Str}(ha:PyData.strOk a=jO)(lo hi:Option Int):PyData.strOk (Txt.slice a lo hi)=jO:=by
 unfold Txt.slice
 split
 .show ha
 .unfold PyData.strOk at *;rw[gq]at *;ext c hc;let(j,_,hj):=dH.mp ↑hc;show ha c (fQ hj)
def a1x(a b:Str):(a++b).length=a.length+b.length:=Array.size_append
def a50(hc:s.cps.toList=[c])(hn:okC c=jP):a0F (.str (x++s++y))=jP:=by
 rw[a1B,a1C,a1C,hc,eX,eX,cB,hn];simp
def a9X{zs:List Z}{k:Int}(h0:0<=k)(h1:k<zs.length):∃z,atI zs k=cL z/\z∈zs:=by
 let(j,rfl):=d3 h0;let hj:j<zs.length:=by cbv
 show(zs[j],a1K (cu hj),ff hj)
def b4d(hc:s.cps.toList=[c])(hn:okC c=jP):a0F (.str (x++s))=jP:=by
 rw[a1B,a1C,hc,eX,cB,hn];simp
def b67:(10:Int) ^ (30:Int).toNat=1000000000000000000000000000000:=by decide
def a6H(h:i<0\/T12<i):momB (.int i)=jP:=by
 unfold T12 at h;rw[a3n];let h||h:=h
 .grind
 .simp_all
def NoSt(z:Z):Prop:=∃x y,z=.tup [x,y]/\(∀G'',Th G'' x/\Th G'' y)/\strB x y=jP
def a5j(hx:∀G'',Th G'' x)(hy:∀G'',Th G'' y)(h:momB x=jP):NoSt (.tup [x,y]):=(x,y,rfl,λa=>(hx a,hy a),by unfold strB;rw[h];rfl)
def a9Y(h:j<0\/T12<j\/j<=i):NoSt (.tup [.int i,.int j]):=(_,_,rfl,λa=>(True.intro,True.intro),by
 change (momB _&&(momB _&&decide _))=jP
 let h||h||h:=h
 .rw[a6H (.inl h)];cases momB _<;>rfl
 .rw[a6H (.inr h)];cases momB _<;>rfl
 .rw[decide_eq_false (show ¬ i<j by cbv),dy,dy])
def b2k(hy:∀G'',Th G'' y)(h:strB (.int i) y=jP):NoSt (.tup [.int i,y]):=(_,_,rfl,λa=>(True.intro,hy a),h)
def b4e:P3:=λws G R=>∃(c:Int)(s:Str),ws=[.int c,.str s]/\nmOk s/\∀z G',Sm G G'->(∀G'',Th G'' z)->a0F z=jP->R z G'
def b4f(T:Txt K mg a):Cal P w K mg base CX0 1 "_law_none" (lowP K b4e):=by
 show fnc 2 (N:=["cell","name","at","some"]) T.br (T.f 24 _ rfl) ?_ (len:=λws G R h=>(by let(_,_,rfl,_):=h;rfl));walk_at "in";show(_,(by ac_rfl),?_);let(c,s,rfl,hs,fin):=h;let hsl:s.length<=8:=by rw[a06];show hs.2.1
 let hok:=a2a hs.2.2;lk;show a6h (a0Q (by cbv)) ?_;lk;show i_I (show (0:Int)<(s.length:Int)+1 by cbv) ?_;lk;generalize c / 9 % ((s.length:Int)+1)=at_;let lA:(Str.ofString "A").length=1:=by decide +kernel
 let l4:(Str.ofString "4").length=1:=by decide +kernel
 let lm:(Str.ofString "-").length=1:=by decide +kernel
 let lb:(Str.ofString " ").length=1:=by decide +kernel
 let l1:=PyProof.Txt.length_slice_le s jN (cL at_);let o1:=a3u hok jN (cL at_);let l3:=PyProof.Txt.length_slice_le s (cL at_) jN;let o3:=a3u hok (cL at_) jN
 repeat (lk;first |show b3b (a0Q (by cbv)) ?_ |show a2z (a0Q (by (try simp only[a1x]);cbv)) ?_ |show(lenK rfl,?_))
 generalize Txt.slice s jN (cL at_)=x1 at l1 o1 ⊢;generalize Txt.slice s (cL at_) jN=x3 at l3 o3 ⊢;ext u hu;lk;show a2z (a0Q (by cbv)) ?_;lk;rw[b67];show(lenK rfl,λv hv=>?_);lk;show a4Q (a0c a0a hv) a0a (lenK rfl) λt ht=>?_;lk;let(z,a2,hz):=a9X (zs:=[.str (Str.ofString ""),.str (x1++Str.ofString "A"++x3),.str (x1++Str.ofString "4"++x3),.str (x1++Str.ofString "-"++x3),.str (Str.ofString "abcdefghi")]++[.str (s++Str.ofString " "),.int (c % 1000000000000000000000000000000),.non,.bl jO]) (k:=c % 9) (by cbv) (by change c % 9<9;cbv);show a1P a0a a2 ?_;let ok:(∀G'',Th G'' z)/\a0F z=jP:=by
  simp only[dM,dL,cf,dG,or_false]at hz;let rfl||rfl||rfl||rfl||rfl||rfl||rfl||rfl||rfl:=hz
  .show(λ_=>(by decide +kernel,by decide +kernel),by decide +kernel)
  .show(λ_=>(by rw[a1x,a1x];cbv,a01 (a01 o1 (by decide +kernel)) o3),a50 (c:=65) (by decide +kernel) (by decide +kernel))
  .show(λ_=>(by rw[a1x,a1x];cbv,a01 (a01 o1 (by decide +kernel)) o3),a50 (c:=52) (by decide +kernel) (by decide +kernel))
  .show(λ_=>(by rw[a1x,a1x];cbv,a01 (a01 o1 (by decide +kernel)) o3),a50 (c:=45) (by decide +kernel) (by decide +kernel))
  .show(λ_=>(by decide +kernel,by decide +kernel),by decide +kernel)
  .show(λ_=>(by rw[a1x];cbv,a01 hok (by decide +kernel)),b4d (c:=32) (by decide +kernel) (by decide +kernel))
  .show(λ_=>True.intro,rfl)
  .show(λ_=>True.intro,rfl)
  .show(λ_=>True.intro,rfl)
 show fin z _ ((Sm.new hu).trans ((Sm.new hv).trans (Sm.new ht))) ok.1 ok.2
def a4z:P3:=λws G R=>∃c:Int,ws=[.int c]/\∀x y G',Sm G G'->(∀G'',Th G'' x/\Th G'' y)->strB x y=jP->R (.tup [x,y]) G'
def a4A(T:Txt K mg a):Cal P w K mg base CX0 1 "_law_no_stretch" (lowP K a4z):=by
 show fnc 1 (N:=["cell","begin","some"]) T.br (T.f 25 _ rfl) ?_ (len:=λws G R h=>(by let(_,rfl,_):=h;rfl));walk_at "in";show(_,(by ac_rfl),?_);let(c,rfl,fin):=h;lk;let b0:0<=c / 10 % 20:=by cbv
 generalize c / 10 % 20=b at b0 ⊢
 repeat (lk;show(lenK rfl,?_))
 ext u hu
 repeat (lk;show(lenK rfl,?_))
 ext v hv;lk;show a4Q (a0c a0a hv) a0a (lenK rfl) λw hw=>?_
 repeat (lk;show(lenK rfl,?_))
 ext x hx;lk;show a4Q (a0c a0a hx) a0a (lenK rfl) λy hy=>?_;lk;let(z,a1,hz):=a9X (zs:=[.tup [.int (b+1),.int b],.tup [.int b,.int b],.tup [.int (-1-b),.int (b+1)],.tup [.int (1000000000000+1+b),.non]]++[.tup [.int b,.int (1000000000000+1)]]++[.tup [.bl jO,.int (b+2)],.tup [.non,.int b],.tup [.str (Str.ofString "0"),.int b],.tup [.int b,.str (Str.ofString "9")],.tup [.int b,.bl jO]]) (k:=c % 10) (by cbv) (by change c % 10<10;cbv);show a1P a0a a1 ?_;let ts:∀s:Str,okS s->∀G'',Th G'' (.str s):=λs h _=>h;let ok:NoSt z:=by
  simp only[dM,dL,cf,dG,or_false]at hz;let rfl||rfl||rfl||rfl||rfl||rfl||rfl||rfl||rfl||rfl:=hz
  .show a9Y (.inr (.inr (by cbv)))
  .show a9Y (.inr (.inr (by cbv)))
  .show a5j (λ_=>True.intro) (λ_=>True.intro) (a6H (.inl (by cbv)))
  .show a5j (λ_=>True.intro) (λ_=>True.intro) (a6H (.inr (by unfold T12;cbv)))
  .show a9Y (.inr (.inl (by decide)))
  .show a5j (λ_=>True.intro) (λ_=>True.intro) rfl
  .show a5j (λ_=>True.intro) (λ_=>True.intro) rfl
  .show a5j (ts _ (by decide +kernel,by decide +kernel)) (λ_=>True.intro) rfl
  .show b2k (ts _ (by decide +kernel,by decide +kernel)) (by unfold strB;show dy _)
  .show b2k (λ_=>True.intro) (by unfold strB;show dy _)
 let(zx,zy,rfl,h1,h2):=ok;show fin zx zy _ (((((Sm.new hu).trans (Sm.new hv)).trans (Sm.new hw)).trans (Sm.new hx)).trans (Sm.new hy)) h1 h2
inductive Due (w:Str) (k v x y:Z):Str->Prop
 |sheet:(∀b,w≠nmB b)->Due w k v x y (Str.ofString "NoSheet")
 |name (b:Bool):w=nmB b->(a0F k&&a0F v)=jP->Due w k v x y (Str.ofString "NoName")
 |str (b:Bool):w=nmB b->(a0F k&&a0F v)=jO->strB x y=jP->Due w k v x y (Str.ofString "NoStretch")
def no_z{s:Str}(b:Bool):s++Str.ofString "z"≠nmB b:=λh=>by
 let:=congrArg (λs:Str=>s.cps.toList.getLast?) h
 simp only[a1C,show (Str.ofString "z").cps.toList=[122] by decide +kernel,List.getLast?_append,List.getLast?_singleton]at this;rw[Option.some_or]at this;cases b<;>show absurd this (by decide +kernel)
def b4g{ns:List Str}{k:Int}(h0:0<=k)(h1:k<ns.length):∃s,atI (ns.map Z.str) k=cL (.str s)/\s∈ns:=by
 let(z,h,hz):=a9X (zs:=ns.map Z.str) h0 (by rw[b7];show h1);let(s,hs,rfl):=cm.mp hz;show(s,h,hs)
def b68:P3:=λws G R=>∃(c:Int)(p:Addr)(ns:List Str),ws=[.int c,.ref p]/\G p=cL (.lst (ns.map Z.str))/\ns.length=4/\(∀s∈ns,nmOk s)/\∀d w k v x y G',Sm G G'->Due w k v x y d->(∀G'',Th G'' k/\Th G'' v/\Th G'' x/\Th G'' y)->R (.tup [.str d,.str w,k,v,x,y]) G'
def b69(T:Txt K mg a):Cal P w K mg base CX0 2 "_law_bad" (lowP K b68):=by
 show fnc 2 (N:=["cell","names","kind","where","key","worth","begin","end","due"]) T.br (T.f 26 _ rfl) ?_ (len:=λws G R h=>(by let(_,_,_,rfl,_):=h;rfl));walk_at "in";show(_,(a0d (by ac_rfl)
  (a0d (by ac_rfl)
  (a4b (by ac_rfl)
  (a0d (by ac_rfl)
  (a0d (by ac_rfl)
  (a0d (by ac_rfl)
  (a4b (by ac_rfl)
  (a4b (by ac_rfl)
  (by ac_rfl))))))))),?_)
 let(c,p,ns,rfl,gp,hl,hns,fin):=h;lk;obtain⟨kd,hkd,k0,k1⟩:∃kd,kd=1+c % 7/\1<=kd/\kd<=7:=(_,rfl,by cbv,by cbv);rw[<- hkd];show a4e (fun σ G1=>Sm G G1/\∃w:Str,σ=[cL (.int c),cL (.ref p),cL (.int kd),cL (.str w),jN,jN,jN,jN,jN]/\(kd % 2=1->∀b,w≠nmB b)/\(kd % 2=0->w=nmB jP)) ?_ ?_
 .lk;show ifD (λe=>?_) λe=>?_
  .lk;show(lenK rfl,λu hu=>?_);lk;show a4Q (a0c gp hu) a0a (by rw[b7,hl];show lenK rfl) λt ht=>?_;lk;let(y,ay,hy):=b4g (ns:=ns++[Str.ofString "",Str.ofString "ab",Str.ofString "A"]) (k:=c / 7 % 7) (by cbv) (by rw[cj,hl];change c / 7 % 7<7;cbv);rw[cq]at ay;show a1P a0a ay ?_;let hyl:y.length<=8:=by
    let h||h:=b9.mp hy
    .rw[a06];show (hns y h).2.1
    .simp only[cf,dG,or_false]at h;let rfl||rfl||rfl:=h<;>decide +kernel
   lk;let lz:(Str.ofString "z").length=1:=by decide +kernel
   show a2z (a0Q (by cbv)) ?_;lk;show((Sm.new hu).trans (Sm.new ht),_,rfl,λ_=>no_z,λz=>by cbv)
  .lk;show(Sm.refl _,_,rfl,λz=>absurd z e,λ_=>rfl)
 .ext σ G1 ⟨s1,w,rfl,hw1,hw2⟩;lk;let(k,ak,hk):=b4g (ns:=ns) (k:=c / 49 % 4) (by cbv) (by cbv);show a1P (s1 _ _ gp) ak ?_;lk;let(v,av,hv):=b4g (ns:=ns) (k:=c / 196 % 4) (by cbv) (by cbv);show a1P (s1 _ _ gp) av ?_;lk;show(_,rfl,λb e st=>?_);lk;let nk:=hns k hk;let nv:=hns v hv;show a4e (fun σ G2=>Sm G G2/\∃k v:Z,σ=[cL (.int c),cL (.ref p),cL (.int kd),cL (.str w),cL k,cL v,cL (.int b),cL (oz e),jN]/\(∀G'',Th G'' k/\Th G'' v)/\(a0F k&&a0F v)=decide (kd / 2 % 2=0)) ?_ ?_
  .lk;show ifD (λe1=>?_) λe1=>?_
   .lk;show ifD (λe2=>?_) λe2=>?_
    .lk;show(_,k,rfl,nk,λz G2 s2 th hz=>?_);lk;show(s1.trans s2,z,.str v,rfl,λG''=>(th G'',a4p nv),by rw[hz,decide_eq_false (by cbv)];rfl)
    .lk;show ifD (λ_=>?_) λe3=>absurd e1 e3;lk;show(_,v,rfl,nv,λz G2 s2 th hz=>?_);lk;show(s1.trans s2,.str k,z,rfl,λG''=>(a4p nk,th G''),by rw[hz,decide_eq_false (by cbv),dy])
   .lk;show ifD (λe3=>absurd e3 e1) λ_=>?_;lk;show(s1,.str k,.str v,rfl,λG''=>(a4p nk,a4p nv),by rw[nm_b nk,nm_b nv,decide_eq_true (by cbv)];rfl)
  .ext σ G2 ⟨s2,k,v,rfl,th,hkv⟩;lk;show a4e (fun σ G3=>Sm G G3/\∃x y:Z,σ=[cL (.int c),cL (.ref p),cL (.int kd),cL (.str w),cL k,cL v,cL x,cL y,jN]/\(∀G'',Th G'' x/\Th G'' y)/\(kd / 4=1->strB x y=jP)) ?_ ?_
   .lk;show ifD (λe1=>?_) λe1=>?_
    .lk;show(_,rfl,λx y G3 s3 t3 h3=>?_);lk;show(s2.trans s3,x,y,rfl,t3,λ_=>h3)
    .lk;show(s2,_,_,rfl,λG''=>(True.intro,b4a),λz=>absurd z e1)
   .ext σ G3 ⟨s3,x,y,rfl,txy,hxy⟩;lk;show(lenK rfl,λu hu=>?_);lk;obtain⟨d,ad,hd⟩:∃d,atI [Z.str (Str.ofString "NoSheet"),.str (Str.ofString "NoName"),.str (Str.ofString "NoSheet"),.str (Str.ofString "NoStretch"),.str (Str.ofString "NoSheet"),.str (Str.ofString "NoName"),.str (Str.ofString "NoSheet")] (kd-1)=cL (.str d)/\Due w k v x y d:=by
     let:kd=1\/kd=2\/kd=3\/kd=4\/kd=5\/kd=6\/kd=7:=by cbv
     clear hkd;let rfl||rfl||rfl||rfl||rfl||rfl||rfl:=this
     .show(_,rfl,.sheet (hw1 (by decide)))
     .show(_,rfl,.name _ (hw2 (by decide)) hkv)
     .show(_,rfl,.sheet (hw1 (by decide)))
     .show(_,rfl,.str _ (hw2 (by decide)) hkv (hxy (by decide)))
     .show(_,rfl,.sheet (hw1 (by decide)))
     .show(_,rfl,.name _ (hw2 (by decide)) hkv)
     .show(_,rfl,.sheet (hw1 (by decide)))
    show a1P a0a ad ?_;lk;show(lenK rfl,?_);show fin d w k v x y _ (s3.trans (Sm.new hu)) hd λG''=>((th G'').1,(th G'').2,(txy G'').1,(txy G'').2)
def kit_self{K:Fg}{C:Addr}:PySem.W.kitOne K (.ref C) (.ref C)=cL jO:=by unfold PySem.W.kitOne;rw[if_pos (by simp)]
def a7p(a:Ad):P3:=λws G R=>Ex7 λ(p:Addr) (B:Addr->Prop) (W:List (Bool×Tl)) (kd:Int) (d w:Str) (z:Z)=>ws=[.ref p,.int kd,.str d,.str w,z]/\Bok a G p B W/\W.length<=63/\(∀b,OkT (TB W b)/\Few (TB W b)) /\
 ((kd=0/\Ex4 λk v x y=>z=.tup [.str (Str.ofString "put"),k,v,x,y]/\Due w k v x y d/\∀G'',Th G'' k/\Th G'' v/\Th G'' x/\Th G'' y)\/(kd=1/\(∀b,w≠nmB b)/\d=Str.ofString "NoSheet")\/(kd=2/\d=Str.ofString "NoKnowing"/\∃n,z=.int n/\(n<0\/(W.length:Int)<n)))/\∀G',Sm G G'->R (.bl jO) G'
def setE{α:Type}{tb:α->Prop}(EE:α)(h:∀e,e=EE->tb e):tb EE:=h EE rfl
local macro_rules | `(tactic| walk_at "go1")=>`(tactic| with_reducible (first | apply b8H | apply b8G))
set_option tactic.hygienic true in
def a7q(T:Txt K mg a):Cal P w K mg base CX0 8 "_law_refused" (lowP K (a7p a)):=by
 show fnc 5 (N:=["book","kind","due","where","telling","found","right","other","e","wanted"]) T.br (T.f 27 _ rfl) ?_;walk_at "in";show(_,(a0d (by ac_rfl)
  (a0d (by ac_rfl)
  (a0d (by ac_rfl)
  (a0d (z_tB (i:=8) (λC=>C=a.x_NoSheet\/C=a.x_NoName\/C=a.x_NoStretch\/C=a.x_NoKnowing) (b6A (by ac_rfl) (a5N (qv 0) T.cl_Book (a2B T) hr (q_k (qv 3) (q_k (qv 4) a0m))) (b6A (by ac_rfl) (a5N (qv 0) T.cl_Book (a1g T) hr (q_k (qv 3) a0m)) (a5N (qv 0) T.cl_Book (a2j T) hr (q_k (qv 4) a0m)))) T.x_TimesError (λC hC=>(by let rfl||rfl||rfl||rfl:=hC;show T.xm_NoSheet_TimesError;show T.xm_NoName_TimesError;show T.xm_NoStretch_TimesError;show T.xm_NoKnowing_TimesError)) nd (λC ex oe hC hx1 hx2 hx3=>(a0d (z_st (nmI 5 nd) (b0y (q_k (q_B (a6Z hx1 hx2 hx3 (by let rfl||rfl||rfl||rfl:=hC;show T.xk_NoSheet;show T.xk_NoName;show T.xk_NoStretch;show T.xk_NoKnowing)) (T.b 1) (q_k (qv 8) (q_k (a16 (a0U rfl T.x_NoSheet)) a0m))) (q_k (q_B (a6Z hx1 hx2 hx3 (by let rfl||rfl||rfl||rfl:=hC;show T.xk_NoSheet;show T.xk_NoName;show T.xk_NoStretch;show T.xk_NoKnowing)) (T.b 1) (q_k (qv 8) (q_k (a16 (a0U rfl T.x_NoName)) a0m))) (q_k (q_B (a6Z hx1 hx2 hx3 (by let rfl||rfl||rfl||rfl:=hC;show T.xk_NoSheet;show T.xk_NoName;show T.xk_NoStretch;show T.xk_NoKnowing)) (T.b 1) (q_k (qv 8) (q_k (a16 (a0U rfl T.x_NoStretch)) a0m))) (q_k (q_B (a6Z hx1 hx2 hx3 (by let rfl||rfl||rfl||rfl:=hC;show T.xk_NoSheet;show T.xk_NoName;show T.xk_NoStretch;show T.xk_NoKnowing)) (T.b 1) (q_k (qv 8) (q_k (a16 (a0U rfl T.x_NoKnowing)) a0m))) a0m))))))
  (a0d (z_st (nmI 6 nd) (q_B (a6Z hx1 hx2 hx3 (by let rfl||rfl||rfl||rfl:=hC;show T.xk_NoSheet;show T.xk_NoName;show T.xk_NoStretch;show T.xk_NoKnowing)) (T.b 1) (q_k (qv 8) (q_k (q_ty (a1J (v:=.ty "ValueError") rfl (T.b 14) rfl rfl)) a0m))))
  (a0w (z_st (nmI 7 nd) (q_B (a6Z hx1 hx2 hx3 (by let rfl||rfl||rfl||rfl:=hC;show T.xk_NoSheet;show T.xk_NoName;show T.xk_NoStretch;show T.xk_NoKnowing)) (T.b 1) (q_k (qv 8) (q_k (a6T (q_k (a16 (a0U rfl T.x_Broken)) (q_k (a16 (a0U rfl T.x_Forgotten)) (q_k (a16 (a0U rfl T.x_NoFit)) (q_k (a16 (a0U rfl T.x_NoLog)) (q_k (a16 (a0U rfl T.x_NoRow)) a0m)))))) a0m)))))))))
  (a0d (by ac_rfl)
  (a0w (a1q (a8r (qv 6) (a8r (by ac_rfl) (b5k (b5f (b8v hu) (qv 5) (qv 9) (a55 _)))))))))))),?_)
 let(p,B,W,kd,d,w,z,rfl,bk,hW,okT,alt,fin):=h;let bk':=bk;let(S,q,dx,ds,rl,tk,m,e):=bk';lk;show(lenK rfl,λfd hfd=>?_);let s0:Sm G (put G fd (.lst [])):=Sm.new hfd;generalize put G fd (.lst [])=G0 at s0 ⊢;lk;show b6C ?_;show setE (tb:=λEE=>uBif _ _ _ EE _ _ _ _ _ _) _ λEE hEE=>?_;let hE:∀C G3,(C=a.x_NoSheet\/C=a.x_NoName\/C=a.x_NoStretch\/C=a.x_NoKnowing)->PySem.W.kitOne K (.ref C) (.ref a.x_NoSheet)=cL (decide (d=Str.ofString "NoSheet"))->PySem.W.kitOne K (.ref C) (.ref a.x_NoName)=cL (decide (d=Str.ofString "NoName"))->PySem.W.kitOne K (.ref C) (.ref a.x_NoStretch)=cL (decide (d=Str.ofString "NoStretch"))->PySem.W.kitOne K (.ref C) (.ref a.x_NoKnowing)=cL (decide (d=Str.ofString "NoKnowing"))->PySem.W.kitOne K (.ref C) (.type "ValueError")=cL jO->PySem.W.kitAny K (.ref C) [.ref a.x_Broken,.ref a.x_Forgotten,.ref a.x_NoFit,.ref a.x_NoLog,.ref a.x_NoRow]=cL jP->Sm G G3->EE C G3:=by
  ext C G3 hC h1 h2 h3 h4 h5 h6 s3;rw[hEE];show(hC,λex=>?_);lk;show(_,_,rfl,.inl (_,rfl,h1),?_);lk;show(_,_,rfl,.inl (_,rfl,h2),?_);lk;show(_,_,rfl,.inl (_,rfl,h3),?_);lk;show(_,_,rfl,.inl (_,rfl,h4),?_);lk;show(lenK rfl,λfo hfo=>?_);lk;show(_,jO,rfl,.inr (.inl (_,rfl,h5)),?_);lk;show(lenK rfl,?_);lk;show(_,jP,rfl,.inr (.inr ([a.x_Broken,a.x_Forgotten,a.x_NoFit,a.x_NoLog,a.x_NoRow],rfl,h6)),?_);lk;show(lenK rfl,λwt hwt=>?_);lk;show b6n (d:=.list [.bool (decide (d=Str.ofString "NoSheet")),.bool (decide (d=Str.ofString "NoName")),.bool (decide (d=Str.ofString "NoStretch")),.bool (decide (d=Str.ofString "NoKnowing"))]) (e:=.list [.bool (decide (d=Str.ofString "NoSheet")),.bool (decide (d=Str.ofString "NoName")),.bool (decide (d=Str.ofString "NoStretch")),.bool (decide (d=Str.ofString "NoKnowing"))]) (a2s (a0c a0a hwt) (a0y a4Y (a0y a4Y (a0y a4Y (a0y a4Y a3f))))) (a2s a0a (a0y a4Y (a0y a4Y (a0y a4Y (a0y a4Y a3f))))) rfl rfl ?_;rw[PySem.SeqAt.eqv_refl _ rfl];show fin _ ((s3.trans (Sm.new hfo)).trans (Sm.new hwt))
 let m0:=m.keep s0;let(rfl,k,v,x,y,rfl,due,hth)||(rfl,hw,rfl)||(rfl,rfl,n,rfl,hn):=alt
 .lk;show ifD (λ_=>?_) λz=>absurd rfl z;lk;show(p,dx,_,rfl,m0.ob,a00 (by decide +kernel),?_);lk;show(p,B,W,w,_,.str (Str.ofString "put"),[k,v],x,y,rfl,bk.keep s0,(rfl,.inr (_,_,rfl),λz hz=>?_,(hth _).2.2.1,(hth _).2.2.2),hW,okT,?_)
  .simp only[cf,dG,or_false]at hz;let rfl||rfl:=hz
   .show (hth _).1
   .show (hth _).2.1
  .let ea:([k,v]:List Z).all a0F=(a0F k&&a0F v):=by simp
   let hw||(b,hb,hk)||(b,hb,hk,hs):=due
   .show .inl (hw,λG' s'=>hE _ _ (.inl rfl) (kit_self.trans (by rw[decide_eq_true rfl])) (T.kt_NoSheet_NoName.trans (by decide +kernel)) (T.kt_NoSheet_NoStretch.trans (by decide +kernel)) (T.kt_NoSheet_NoKnowing.trans (by decide +kernel)) T.kt_NoSheet_ValueError T.ka_NoSheet_0 (s0.trans s'))
   .show .inr (b,hb,.inl (by rw[ea];show hk,λG' s'=>hE _ _ (.inr (.inl rfl)) (T.kt_NoName_NoSheet.trans (by decide +kernel)) (kit_self.trans (by rw[decide_eq_true rfl])) (T.kt_NoName_NoStretch.trans (by decide +kernel)) (T.kt_NoName_NoKnowing.trans (by decide +kernel)) T.kt_NoName_ValueError T.ka_NoName_1 (s0.trans s')))
   .show .inr (b,hb,.inr (by rw[ea];show hk,.inl (hs,λG' s'=>hE _ _ (.inr (.inr (.inl rfl))) (T.kt_NoStretch_NoSheet.trans (by decide +kernel)) (T.kt_NoStretch_NoName.trans (by decide +kernel)) (kit_self.trans (by rw[decide_eq_true rfl])) (T.kt_NoStretch_NoKnowing.trans (by decide +kernel)) T.kt_NoStretch_ValueError T.ka_NoStretch_2 (s0.trans s'))))
 .lk;show ifD (λz=>absurd z (by decide)) λ_=>?_;lk;show ifD (λ_=>?_) λz=>absurd rfl z;lk;show(p,dx,_,rfl,m0.ob,a00 (by decide +kernel),?_);lk;show(p,S,W,q,dx,ds,rl,tk,w,rfl,m0,λb hb=>absurd hb (hw b),λ_=>hE _ _ (.inl rfl) (kit_self.trans (by rw[decide_eq_true rfl])) (T.kt_NoSheet_NoName.trans (by decide +kernel)) (T.kt_NoSheet_NoStretch.trans (by decide +kernel)) (T.kt_NoSheet_NoKnowing.trans (by decide +kernel)) T.kt_NoSheet_ValueError T.ka_NoSheet_0 s0)
 .lk;show ifD (λz=>absurd z (by decide)) λ_=>?_;lk;show ifD (λz=>absurd z (by decide)) λ_=>?_;lk;show(p,dx,_,rfl,m0.ob,a00 (by decide +kernel),?_);lk;show(p,B,W,n,rfl,bk.keep s0,hW,λz=>by cbv,.inr hn,λ_=>hE _ _ (.inr (.inr (.inr rfl))) (T.kt_NoKnowing_NoSheet.trans (by decide +kernel)) (T.kt_NoKnowing_NoName.trans (by decide +kernel)) (T.kt_NoKnowing_NoStretch.trans (by decide +kernel)) (kit_self.trans (by rw[decide_eq_true rfl])) T.kt_NoKnowing_ValueError T.ka_NoKnowing_3 s0)
def Lines(T:List Tl)(ks:List Str)(Ls:List (List Rw)):Prop:=Ls.length=ks.length/\∀(j:Nat) k L,ks[j]?=cL k->Ls[j]?=cL L->IsLine T k L
def Lines.uniq(h:Lines T ks Ls)(g:Lines T ks Ms):Ls=Ms:=by
 show List.ext_getElem (by rw[h.1,g.1]) λj b c=>?_;let a:j<ks.length:=by rw[<- h.1];show b
 show (h.2 j _ _ (cu a) (cu b)).uniq (g.2 j _ _ (cu a) (cu c))
def Lines.snoc(h:Lines T ks Ls)(il:IsLine T k L):Lines T (ks++[k]) (Ls++[L]):=by
 show(by rw[cj,cj,h.1];rfl,λj d c a b=>?_)
 by_cases hj:j<ks.length
 .rw[dQ hj]at a;rw[dQ (by rw[h.1];show hj)]at b;show h.2 j _ _ a b
 .rw[dP (by cbv)]at a;rw[dP (by rw[h.1];cbv),h.1]at b;cases hm:j-ks.length with
  |zero=>
   rw[hm]at a b;cases a;cases b;show il
  |succ m=>rw[hm]at a;simp at a
def a7r(h:Plain L):(L.map Rw.z).all (flat 8)=jO:=by
 rw[dB];ext z a;let(r,d,rfl):=cm.mp a;let(x,f,c):=h r d;unfold Rw.z;rw[f]
 change ([.int r.b,oz r.e,x].all _)=jO
 rw[cB,cB,cB,a1t (by simp) c];cases r.e<;>rfl
noncomputable def a51(L:List Rw):PyData:=.list (dZs (L.map Rw.z))
def OkL(Ls:List (List Rw)):Prop:=∀L∈Ls,(L.map Rw.z).all (flat 8)=jO
theorem a6I{F:Hq}:∀(ps:List (Addr×List Rw)),(∀e∈ps,F e.1=cL (.lst (e.2.map Rw.z))/\(e.2.map Rw.z).all (flat 8)=jO)->DZs F ((ps.map (·.2)).map a51) (ps.map λe=>Z.ref e.1)
 |[],_=>a3f
 |e::ps,h=>by
  let(h1,h2):=h e (.head _);show a0y (a2s h1 (a22 8 _ h2)) (a6I ps λe he=>h e (.tail _ he))
def a9Z{L:List Rw}(h:(L.map Rw.z).all (flat 8)=jO):(a51 L).canLay0=jO/\(a51 L).depth<=10:=by
 let q:=a4c 8 _ h;unfold a51;simp only[PyData.canLay0,PyData.depth];show(q.1,by cbv)
theorem a5k:∀{Ls:List (List Rw)},OkL Ls->PyData.canLayAll0 (Ls.map a51)=jO/\PyData.depthAll (Ls.map a51)<=10
 |[],_=>(rfl,by change 0<=10;decide)
 |L::Ls,h=>by
  let h1:=a9Z (h L (.head _));let h2:=a5k (Ls:=Ls) λM hM=>h M (.tail _ hM);rw[cr];simp only[PyData.canLayAll0,PyData.depthAll,h1.1,h2.1];show(rfl,by cbv)
noncomputable def b4h(W:List (Bool×Tl))(Ls:List (List Rw)):PyData:=.list (.int (W.length:Int)::.list (dZs (W.map wzB))::.list (dZs [.tup [.str (nmB jP),.int (cntB W jP)],.tup [.str (nmB jO),.int (cntB W jO)]])::Ls.map a51)
def b4i{τ:Tl}(h:τ.Ok):flat 2 τ.z=jO:=by
 let(k,w,b,e):=τ;let hk:=a2a h.k.2.2;let he:flat 1 (oz e)=jO:=by cases e<;>rfl
 cases w with
 |none=>
  change ([Z.str a9H,.str k,.int b,oz e].all (flat 1))=jO
  simp only[cB,List.all_nil,he,d4];show ej.mpr (by decide +kernel,ej.mpr (hk,rfl))
 |some w=>
  let hw:=a2a (h.w w rfl).2.2
  change ([Z.str sPut,.str k,.str w,.int b,oz e].all (flat 1))=jO
  simp only[cB,List.all_nil,he,d4];show ej.mpr (by decide +kernel,ej.mpr (hk,ej.mpr (hw,rfl)))
def a90{W:List (Bool×Tl)}(h:∀w∈W,w.2.Ok):(W.map wzB).all (flat 8)=jO:=by
 rw[dB];ext z hz;let(w,hw,rfl):=cm.mp hz
 change ([Z.str (nmB w.1),w.2.z].all (flat 7))=jO
 rw[cB,cB,a1t (by decide) (b4i (h w hw))];cases w.1<;>decide +kernel
def a6J{x y:Int}:([.tup [.str (nmB jP),.int x],.tup [.str (nmB jO),.int y]]:List Z).all (flat 8)=jO:=by
 let h:∀b,PyData.strOk (nmB b)=jO:=λb=>by cases b<;>decide +kernel
 simp[flat,h]
def a5l{W:List (Bool×Tl)}{Ls:List (List Rw)}(h:OkL Ls)(g:∀w∈W,w.2.Ok):PySem.SeqAt.shaped (b4h W Ls)=jO:=by
 let q:=a5k h;let r:=a4c 8 _ (a90 g);let t:=a4c 8 _ (a6J (x:=cntB W jP) (y:=cntB W jO));unfold PySem.SeqAt.shaped b4h;simp only[PyData.canLay0,PyData.canLayAll0,PyData.depth,PyData.depthAll,q.1,r.1,t.1,cO];show decide_eq_true (by cbv)
def LkB(W:List (Bool×Tl))(ns:List Str)(Ls:List (List Rw)):Prop:=∃L0 L1,Ls=L0++L1/\Lines (TB W jP) ns L0/\Lines (TB W jO) ns L1
def LkB.uniq{W:List (Bool×Tl)}{ns:List Str}{Ls Ms:List (List Rw)}(h:LkB W ns Ls)(g:LkB W ns Ms):Ls=Ms:=by
 let(A,B,rfl,a1,a2):=h;let(C,D,rfl,b1,b2):=g;rw[a1.uniq b1,a2.uniq b2]
def b4j(a:Ad):P3:=λws G R=>Ex5 λ(p:Addr) (B:Addr->Prop) (W:List (Bool×Tl)) (np:Addr) (ns:List Str)=>ws=[.ref p,.ref np]/\Bok a G p B W/\W.length<=63/\(∀w∈W,w.2.Ok)/\(∀b,Few (TB W b))/\G np=cL (.lst (ns.map Z.str))/\ns.length=4/\(∀s∈ns,nmOk s) /\
 ∀t u r Ls G',G t=jN->G u=jN->Sm G G'->G' t=cL (.lst (.int W.length::.ref u::r))->G' u=cL (.lst (W.map wzB))->DZ G' (b4h W Ls) (.ref t)->OkL Ls->LkB W ns Ls->R (.ref t) G'
noncomputable def bJ(j:Nat):Bool:=decide (j=1)
set_option tactic.hygienic true in
def b4k(T:Txt K mg a):Cal P w K mg base CX0 5 "_law_look" (lowP K (b4j a)):=by
 show fnc 2 (N:=["book","names","found","name","sheet","key"]) T.br (T.f 28 _ rfl) ?_;walk_at "in";show(_,(a0d (z_st (nmI 2 nd) (b0y (q_k (q_m0 (qv 0) T.cl_Book (a0x T) hr) (q_k (q_m0 (qv 0) T.cl_Book (a2S T) hr) (q_k (q_mX a05 up0 (qv 0) T.cl_Book (a2j T) hr (q_k (q_m0 (qv 0) T.cl_Book (a0x T) hr) a0m) ) a0m)))))
  (a0d (a4O (pt:=(.nm 3)) iA.never rfl (b1N (by ac_rfl)) (p_nm (nmI 3 nd))
  (a0d (z_st (nmI 4 nd) (q_mX a05 up0 (qv 0) T.cl_Book (a1g T) hr (q_k (qv 3) a0m) ))
  (a0w (a4O (pt:=(.nm 5)) iA.never rfl (by ac_rfl) (p_nm (nmI 5 nd))
  (a0w (a0Y (q_bm PySem.F.plainAttrs_list PySem.F.slot_list_append PySem.F.type_list_append a4d (qv 2) (q_k (q_m (qv 4) T.cl_Tiled (a1j T) hr (q_k (qv 5) (q_k (q_m0 (qv 4) T.cl_Tiled (a07 T) hr) a0m)) ) a0m))))))))
  (by ac_rfl))),?_)
 let(p,B,W,np,ns,rfl,bk,hW,hok,few,gnp,hl,hns,fin):=h;let bk':=bk;let(S,q,dx,ds,rl,tk,m,e):=bk';lk;show(p,dx,_,rfl,m.ob,a00 (by decide +kernel),?_);lk;show(p,B,W,rfl,bk,?_);lk;show(p,dx,_,rfl,m.ob,a00 (by decide +kernel),?_);lk;show(p,B,W,rfl,bk,hW,λu G1 hu s1 gu=>?_);let m1:=m.keep s1;lk;show(p,dx,_,rfl,m1.ob,a00 (by decide +kernel),?_);lk;show(p,dx,_,rfl,m1.ob,a00 (by decide +kernel),?_);lk;show(p,B,W,rfl,bk.keep s1,?_);show(p,B,W,_,rfl,bk.keep s1,hW,λ_ v G2 hv s2 gv=>?_,.inl rfl,λz=>absurd rfl z);lk;show(lenK rfl,λf hf=>?_);let s2':=s1.trans s2;let hf0:=s2'.free hf;let gf3:put G2 f (.lst [.int W.length,.ref u,.ref v]) f=cL (.lst [.int W.length,.ref u,.ref v]):=a0a;let gu3:=a0c (o:=.lst [.int W.length,.ref u,.ref v]) (s2 _ _ gu) hf;let gv3:=a0c (o:=.lst [.int W.length,.ref u,.ref v]) gv hf;let nuf:u≠f:=a0k (s2 _ _ gu) hf;let nvf:v≠f:=a0k gv hf;let s3:=s2'.trans (Sm.new (o:=.lst [.int W.length,.ref u,.ref v]) hf);generalize put G2 f (.lst [.int W.length,.ref u,.ref v])=G3 at gf3 gu3 gv3 s3 ⊢;let sK:∀{G'},Kq f G3 G'->Sm G G':=λk x o ex=>k x o (s3 x o ex) (a0k ex hf0);lk;show(lenK rfl,?_);lk;show a11 (λi σ G'=>Ex5 λ(ps:List (Addr×List Rw)) (Q:List (List (List Rw))) (v1 v2 v3:Option Z)=>Q.length=i/\ps.length<=4*i/\ps.map (·.2)=Q.flatten/\(∀j L,Q[j]?=cL L->Lines (TB W (bJ j)) ns L)/\(∀e∈ps,e.1≠f/\G' e.1=cL (.lst (e.2.map Rw.z))/\(e.2.map Rw.z).all (flat 8)=jO)/\G' f=cL (.lst ([.int W.length,.ref u,.ref v]++ps.map λe=>.ref e.1))/\Kq f G3 G'/\σ=[cL (.ref p),cL (.ref np),cL (.ref f),v1,v2,v3]) ([],[],_,_,_,rfl,b8 _,rfl,(λj L h=>by simp at h),(λe h=>by simp at h),gf3,Kq.refl _ _,rfl) (λ_ _ _ _ _=>True.intro) ?_ ?_
 .ext i x σ G' hx ⟨ps,Q,v1,v2,v3,hQ,hps,hpQ,hQL,hp,gf,kf,rfl⟩;let hi:i<2:=(cn.mp hx).1;let hx:x=.str (nmB (bJ i)):=by
   match i,hx with
   |0,hx=>cases hx;rfl
   |1,hx=>cases hx;rfl
  subst hx;let sG:=sK kf;let m':=m.keep sG;show(_,rfl,?_);lk;show(p,dx,_,rfl,m'.ob,a00 (by decide +kernel),?_);lk;show(p,S,W,q,dx,ds,rl,tk,_,rfl,m',λb hb=>?_,λz=>absurd rfl (z (bJ i)));cases a9U hb;lk;show a12 (sG _ _ gnp) ?_;show a11 (λj σ G''=>∃(qs:List (Addr×List Rw))(v3:Option Z),qs.length=j/\Lines (TB W (bJ i)) (ns.take j) (qs.map (·.2))/\(∀e∈ps++qs,e.1≠f/\G'' e.1=cL (.lst (e.2.map Rw.z))/\(e.2.map Rw.z).all (flat 8)=jO)/\G'' f=cL (.lst ([.int W.length,.ref u,.ref v]++(ps++qs).map λe=>.ref e.1))/\Kq f G3 G''/\σ=[cL (.ref p),cL (.ref np),cL (.ref f),cL (.str (nmB (bJ i))),cL (.ref (q (bJ i))),v3]) ([],_,rfl,(rfl,λj k L h=>by simp at h),by rw[cE];show hp,by rw[cE];show gf,kf,rfl) (λj σ G'' _ (_,_,_,_,_,_,k,_)=>sK k _ _ gnp) ?_ ?_
  .ext j x σ G'' hx ⟨qs,v3,hq,hL,hpq,gf',kf',rfl⟩;rw[cg]at hx;cases hx':ns[j]? with
   |none=>rw[hx']at hx;cases hx
   |some k=>
   rw[hx']at hx;cases hx;let hj:=(cn.mp hx').1;let hk:=hns k (cx hx');let sh:=(m.keep (sK kf')).sh (bJ i);let(dxs,nn,dns,obs):=a9R sh;let hTB:=a9W (W:=W) (b:=bJ i);show(_,rfl,?_);lk;show(.inl (rfl,_,gf'),?_);lk;show(_,dxs,_,rfl,obs,a2J (by decide +kernel) (by decide +kernel),?_);lk;show(_,dxs,_,rfl,obs,a2J (by decide +kernel) (by decide +kernel),?_);lk;show(_,S (bJ i),TB W (bJ i),rfl,sh,?_);show(_,S (bJ i),TB W (bJ i),.str k,_,rfl,sh,λ_=>a4p hk,by cbv,.inl ((by cbv,cK _),k,rfl,hk,λt L G4 ht s4 gt il=>?_));rw[show (((TB W (bJ i)).length:Int)).toNat=(TB W (bJ i)).length by cbv,dr]at il;let ntf:t≠f:=Ne.symm (a0k gf' ht);lk;show a2W (s4 _ _ gf') (by rw[cj,b7,cj];show a0l (by change 3+(ps.length+qs.length)<=1000;cbv)) ?_;show(qs++[(t,L,)],_,by rw[cj,hq];rfl,by rw[take_snoc hx',cq];show hL.snoc il,λe he=>?_,by rw[a0a,<- cC ps,cq (l₁:=ps++qs),cC];rfl,kf'.trans ((s4.kq).trans Kq.at),rfl);rw[<- cC]at he;let he||he:=b9.mp he
   .let(a1,a2,a3):=hpq e he;show(a1,by rw[a0j a1];show s4 _ _ a2,a3)
   .rw[cc.mp he];show(ntf,by rw[a0j ntf];show gt,a7r il.pl)
  .ext σ G'' ⟨qs,v3,hq,hL,hpq,gf',kf',rfl⟩;rw[b7]at hq hL;rw[dr]at hL;show(ps++qs,Q++[qs.map (·.2)],_,_,_,by rw[cj,hQ];rfl,by rw[cj];cbv,by rw[cq,List.flatten_append,hpQ];simp,λj L hL'=>?_,hpq,gf',kf',rfl)
   by_cases hj:j<Q.length
   .rw[dQ hj]at hL';show hQL j L hL'
   .rw[dP (by cbv)]at hL'
    let:=(cn.mp hL').1
    let e0:j-Q.length=0:=by simp at this;cbv
    rw[e0]at hL';cases hL';rw[show j=i by cbv];show hL
 .ext σ G' ⟨ps,Q,v1,v2,v3,hQ,hps,hpQ,hQL,hp,gf,kf,rfl⟩;lk;show fin f u (.ref v::ps.map λe:Addr×List Rw=>Z.ref e.1) (ps.map λe:Addr×List Rw=>e.2) G' hf0 hu (sK kf) gf (kf _ _ gu3 nuf) (a2s gf (a0y b6m (a0y (a2s (kf _ _ gu3 nuf) (a22 8 _ (a90 hok))) (a0y (a2s (kf _ _ gv3 nvf) (a22 8 _ a6J)) (a6I ps λe he=>(hp e he).2))))) (λL hL=>?_) ?_
  .let(e,he,rfl):=cm.mp hL;show (hp e he).2.2
  .match Q,hQ,hQL,hpQ with
   |[L0,L1],_,hQL,hpQ=>show(L0,L1,by rw[hpQ];simp,hQL 0 L0 rfl,hQL 1 L1 rfl)
def b2l{W:List (Bool×Tl)}{b:Bool}{τ:Tl}(h:τ∈TB W b):∃w∈W,w.2=τ:=by
 let(w,hw,e):=dH.mp h
 by_cases c:w.1=b
 .rw[if_pos c]at e;cases e;show(w,hw,rfl)
 .rw[if_neg c]at e;cases e
def Bok.al{a:Ad}{G:Hq}{p:Addr}{B:Addr->Prop}{W:List (Bool×Tl)}(h:Bok a G p B W){x:Addr}(hx:B x):∃o,G x=cL o:=by
 let(S,q,dx,ds,rl,tk,m,e):=h;let rfl||rfl||rfl||rfl||(b,hb):=(e x).mp hx
 .show(_,m.ob)
 .show(_,m.dc)
 .show(_,m.er)
 .show(_,m.et)
 .let(_,_,_,mm):=m.sh b;show mm.al x hb
def Bok.no{a:Ad}{G:Hq}{p:Addr}{B:Addr->Prop}{W:List (Bool×Tl)}(h:Bok a G p B W){x:Addr}(hx:G x=jN):¬ B x:=λz=>by
 let(o,e):=h.al z;rw[hx]at e;cases e
def Due.sh{w:Str}{k v x y:Z}{d:Str}(h:Due w k v x y d)(e:d=Str.ofString "NoSheet"):∀b,w≠nmB b:=by
 let h||(b,h)||(b,h):=h
 .show h
 .show absurd e (by decide +kernel)
 .show absurd e (by decide +kernel)
def b7a(T:Txt K mg a){f:Addr}{d:g9}(J:Fun K "law" "law" (top 55) f d):FnOk P w K mg base CX0 9 f d ["script"] (lowP K a44):=by
 show fnd (n:=1) (N:=["script","names","book","cell","ahead","due","where","key","worth","begin","end","far"]) J ?_ (rfl,rfl,rfl,by decide +kernel,rfl,by decide +kernel,by decide +kernel) λws G R h=>by let(_,_,rfl,_):=h;rfl
 walk_at "in";show(_,(a0d (by ac_rfl)
  (a0d (z_st (nmI 2 nd) (q_mk T.mk_Book (a2U T) hr T.mg_Book (by ac_rfl)))
  (a0d (a4O (pt:=(.nm 3)) iA.never rfl (by ac_rfl) (p_nm (nmI 3 nd))
  (a0d (by ac_rfl)
  (a4b (by ac_rfl)
  (a0d (z_st (nmI 11 nd) (q_ix x_ix (b0y (q_k (by ac_rfl) (q_k (q_op b0A (q_op b0A (q_m0 (qv 2) T.cl_Book (a0x T) hr) a8o) (by ac_rfl)) a0m))) (by ac_rfl) (λ_ _=>rfl)))
  (a0d (z_if (QW.qt (q_or (by ac_rfl) (b2P (a3L (b8w hu) (by ac_rfl) (qv 4) (a55 _)))))
  (by ac_rfl)
  a4a)
  (a0w (z_if (a3L (o_ne hu) (q_mX a05 up0 (qv 2) T.cl_Book (a2B T) hr (by ac_rfl) ) (by ac_rfl) (a55 _))
  (by ac_rfl)
  a4a)))))))
  (by ac_rfl)))),?_)
 let(sa,cs,rfl,hcs,fin):=h;lk;show(sa,cs,0,rfl,by decide,λc0=>?_);lk;show(_,rfl,λnp ns G1 hnp s1 gnp hl hns=>?_);lk;show(lenK rfl,λln hln=>?_);lk;show(lenK rfl,λlr hlr=>?_);let gnp2:=a0c (o:=.lst []) (a0c (o:=.lst [.str (Str.ofString "a"),.str (Str.ofString "b")]) gnp hln) hlr;let gln:put (put G1 ln (.lst [.str (Str.ofString "a"),.str (Str.ofString "b")])) lr (.lst []) ln=cL (.lst [.str (nmB jP),.str (nmB jO)]):=a0c a0a hlr;let glr:put (put G1 ln (.lst [.str (Str.ofString "a"),.str (Str.ofString "b")])) lr (.lst []) lr=cL (.lst []):=a0a;generalize put (put G1 ln (.lst [.str (Str.ofString "a"),.str (Str.ofString "b")])) lr (.lst [])=G2 at gnp2 gln glr ⊢;lk;ext p dx hp;show(p,dx,ln,lr,rfl,a0a,a0c gln hp,a0c glr hp,λB0 G3 hB0 k3 bk0=>(rfl,?_));let npp:np≠p:=a0k gnp2 hp;let gnp3:=k3 _ _ (a0c gnp2 hp) npp;let nB0:¬ B0 np:=λz=>(hB0 _ z).elim npp λw=>by rw[a0c gnp2 hp]at w;cases w
 lk;show a11 (λi σ G'=>Ex11 λ(B:Addr->Prop) (W:List (Bool×Tl)) (v3 v4 v5 v6 v7 v8 v9 v10 v11:Option Z)=>W.length=i/\(∀w∈W,w.2.Ok/\w.2.key∈ns)/\Bok a G' p B W/\G' np=cL (.lst (ns.map Z.str))/\¬ B np/\σ=[cL (.scr sa cs),cL (.ref np),cL (.ref p),v3,v4,v5,v6,v7,v8,v9,v10,v11]) (B0,[],_,_,_,_,_,_,_,_,_,rfl,(λw h=>by simp at h),bk0,gnp3,nB0,rfl) (λ_ _ _ _ _=>True.intro) ?_ ?_
 .ext i x σ G' hx ⟨B,W,v3,v4,v5,v6,v7,v8,v9,v10,v11,hi,hw,bk,gn,nB,rfl⟩;rw[cg]at hx;cases hx':cs[i]? with
  |none=>rw[hx']at hx;cases hx
  |some c=>
  rw[hx']at hx;cases hx;let hil:=(cn.mp hx').1;let few:∀b,Few (TB W b):=λb=>(by let:=a9W (W:=W) (b:=b);cbv,ns,by cbv,fun τ hτ=>by let(w,h1,rfl):=b2l hτ;show (hw w h1).2);let okT:∀b,OkT (TB W b)/\Few (TB W b):=λb=>(fun τ hτ=>by let(w,h1,rfl):=b2l hτ;show (hw w h1).1,few b);show(_,rfl,?_);lk;show(p,B,W,np,ns,rfl,bk,by cbv,λw h=>(hw w h).1,few,gn,hl,hns,λah u r Ls Ga hah hu sa' gah gu dz okl lk=>?_);lk;show a4e (fun σ' Gb=>Sm Ga Gb/\Ex6 λv5 v6 v7 v8 v9 v10=>σ'=[cL (.scr sa cs),cL (.ref np),cL (.ref p),cL (.int c),cL (.ref ah),v5,v6,v7,v8,v9,v10,v11]) ?_ ?_
  .lk;show ifD (λc1=>?_) λc1=>?_
   .lk;show(_,np,ns,rfl,sa' _ _ gn,hl,hns,λd w k v x y Gb sb due th=>?_);lk;show(lenK rfl,?_);lk;show(p,B,W,0,d,w,_,rfl,bk.keep (sa'.trans sb),by cbv,okT,.inl (rfl,k,v,x,y,rfl,due,th),λGc sc=>?_);lk;show ifD (λe=>?_) λe=>?_
    .lk;show(p,B,W,1,d,w,_,rfl,bk.keep ((sa'.trans sb).trans sc),by cbv,okT,.inr (.inl (rfl,due.sh e,e)),λGd sd=>?_);lk;show((sb.trans sc).trans sd,_,_,_,_,_,_,rfl)
    .lk;show(sb.trans sc,_,_,_,_,_,_,rfl)
   .lk;show(Sm.refl _,_,_,_,_,_,_,rfl)
  .ext σ' Gb ⟨sb,v5,v6,v7,v8,v9,v10,rfl⟩;let s1b:=sa'.trans sb;let bkb:=bk.keep s1b;let bkb':=bkb;let(S,q,dxb,ds,rl,tk,m,eB):=bkb';lk;show(p,dxb,_,rfl,m.ob,a00 (by decide +kernel),?_);lk;show(p,B,W,rfl,bkb,?_);lk;rw[b67];show(lenK rfl,λv hv=>?_);lk;let hx0:0<=c / 6 % 1000000000000000000000000000000:=by cbv
   obtain⟨n,an,hn⟩:∃n,atI [Z.int (-1-c / 6 % 1000000000000000000000000000000),.int ((W.length:Int)+1+c / 6 % 1000000000000000000000000000000)] (c % 2)=cL (.int n)/\(n<0\/(W.length:Int)<n):=by
    generalize c / 6 % 1000000000000000000000000000000=x at hx0
    let:c % 2=0\/c % 2=1:=by cbv
    let h||h:=this<;>rw[h]
    .show(_,rfl,.inl (by cbv))
    .show(_,rfl,.inr (by cbv))
   show a1P a0a an ?_;generalize ev:put Gb v (.lst [Z.int (-1-c / 6 % 1000000000000000000000000000000),.int ((W.length:Int)+1+c / 6 % 1000000000000000000000000000000)])=Gc;let(_,sc):=newK ev hv;lk;let s1c:=s1b.trans sc;show(p,B,W,2,_,_,_,rfl,bk.keep s1c,by cbv,okT,.inr (.inr (rfl,rfl,n,rfl,hn)),λGd sd=>?_);lk;let s1d:=s1c.trans sd;show(p,B,W,np,ns,rfl,bk.keep s1d,by cbv,λw h=>(hw w h).1,few,s1d _ _ gn,hl,hns,λa2 u2 r2 Ls2 Ge _ _ se _ _ dz2 okl2 lk2=>?_);let sae:=((sb.trans sc).trans sd).trans se;let s1e:=s1d.trans se;cases lk2.uniq lk;lk;let shp:=a5l okl λw h=>(hw w h).1;show b6n dz2 (dz.sm sae) shp shp ?_;rw[PySem.SeqAt.eqv_refl _ (PySem.SeqAt.canLay_of_shaped shp)];lk;let bke:=bk.keep s1e;let bke':=bke;let(S',q',dxe,ds',rl',tk',m',eB'):=bke';show(p,dxe,_,rfl,m'.ob,a00 (by decide +kernel),?_);lk;show(lenK rfl,λt ht=>?_);lk;obtain⟨b,ab⟩:∃b,atI [Z.str (Str.ofString "a"),.str (Str.ofString "b")] (c / 3 % 2)=cL (.str (nmB b)):=by
    let:c / 3 % 2=0\/c / 3 % 2=1:=by cbv
    let h||h:=this<;>rw[h]
    .show(jP,rfl)
    .show(jO,rfl)
   show a1P a0a ab ?_;generalize ev2:put Ge t (.lst [Z.str (Str.ofString "a"),.str (Str.ofString "b")])=Gf;let(_,sf):=newK ev2 ht;let s1f:=s1e.trans sf;lk;show(_,np,ns,rfl,s1f _ _ gn,hl,hns,fun τ ok hk=>?_);lk;let(th,tn,tel,ta,ts):=ok.tel (G:=Gf);show(p,B,W,_,τ.z,th,tn,_,_,rfl,bk.keep s1f,tel,by cbv,okT,.inr (b,rfl,.inr (ta,.inr (ts,τ,rfl,ok,λB' Gg i2 kn bk'=>?_))));let saf:=sae.trans sf;let nah:¬ B ah:=bk.no hah;let nu:¬ B u:=bk.no hu;lk;show a1P (kn _ _ nah (saf _ _ gah)) at1 ?_;lk;show b1S (kn _ _ nu (saf _ _ gu)) ?_;rw[b7];lk;rw[decide_eq_true rfl];lk;show(B',W++[(b,τ,)],_,_,_,_,_,_,_,_,_,by rw[cj,hi];rfl,λw h=>?_,bk',kn _ _ nB (s1f _ _ gn),λz=>?_,rfl)
   .let h||h:=b9.mp h
    .show hw w h
    .rw[cc.mp h];show(ok,hk)
   .let h||h:=i2 _ z
    .show nB h
    .rw[s1f _ _ gn]at h;cases h
 .ext σ G' ⟨B,W,v3,v4,v5,v6,v7,v8,v9,v10,v11,hi,hw,bk,gn,nB,rfl⟩;lk;show fin G'
def all_mk{l:PySem.W.OpenLaw}{w:World}{K:Fg}{h:Heap}{mg:Str->Option Value}{fa:Addr}(X:K.In h)(G:h.Ns gU mg)(hfa:mg "law"=cL (.ref fa))
  {af ah ab ae ac ad aa ai ag aj ak al:Addr}
  {aB aQ:Tok}
  (bM:PySem.W.nsIn K gU "Tiled"=cL (cL (.ref af)))
  (bW:PySem.W.nsIn K gU "Book"=cL (cL (.ref ah)))
  (a2:PySem.W.nsIn K gU "NoKnowing"=cL (cL (.ref ab)))
  (bB:PySem.W.nsIn K gU "NoName"=cL (cL (.ref ae)))
  (a3:PySem.W.nsIn K gU "NoStretch"=cL (cL (.ref ac)))
  (bp:PySem.W.nsIn K gU "NoSheet"=cL (cL (.ref ad)))
  (a0:PySem.W.nsIn K gU "TimesError"=cL (cL (.ref aa)))
  (bC:PySem.W.nsIn K gU "Broken"=cL (cL (.ref ai)))
  (a4:PySem.W.nsIn K gU "Forgotten"=cL (cL (.ref ag)))
  (bN:PySem.W.nsIn K gU "NoFit"=cL (cL (.ref aj)))
  (bO:PySem.W.nsIn K gU "NoLog"=cL (cL (.ref ak)))
  (bP:PySem.W.nsIn K gU "NoRow"=cL (cL (.ref al)))
  (aX:PySem.W.nsIn K gU "LONGEST_NAME"=cL (cL (.int 8 aB)))
  (a1:PySem.W.nsIn K gU "LAST_MOMENT"=cL (cL (.int 1000000000000 aQ)))
  (bQ:PySem.W.plainGet K af Str.empty=jO)
  (bR:PySem.W.hasDictIn K af=jO)
  (bS:PySem.W.plainOver K af=jO)
  (bT:PySem.W.findIn K (.ref af) "__setattr__"=cL (cL (.builtin "object.__setattr__")))
  (bU:PySem.W.makesIn K af=jO)
  (bV:PySem.W.keepIn K (.ref af)=jO)
  (bX:PySem.W.plainGet K ah Str.empty=jO)
  (bY:PySem.W.hasDictIn K ah=jO)
  (bZ:PySem.W.plainOver K ah=jO)
  (b0:PySem.W.findIn K (.ref ah) "__setattr__"=cL (cL (.builtin "object.__setattr__")))
  (b1:PySem.W.makesIn K ah=jO)
  (b2:PySem.W.keepIn K (.ref ah)=jO)
  (a5:PySem.W.excIn K ab veM "ValueError.__new__"=jO)
  (bD:PySem.W.excIn K ae veM "ValueError.__new__"=jO)
  (a6:PySem.W.excIn K ac veM "ValueError.__new__"=jO)
  (bq:PySem.W.excIn K ad veM "ValueError.__new__"=jO)
  (aC:PySem.W.subIn K (.ref aa) (.type "BaseException")=cL jO)
  (aD:PySem.W.typeIn K (.ref aa)=cL (.type "type"))
  (aE:PySem.W.subIn K (.ref ad) (.ref aa)=cL jO)
  (aF:PySem.W.hasDictIn K aa=jO)
  (aH:PySem.W.subIn K (.ref aa) (.type "BaseException")=cL jO)
  (aI:PySem.W.typeIn K (.ref aa)=cL (.type "type"))
  (aJ:PySem.W.subIn K (.ref ae) (.ref aa)=cL jO)
  (aK:PySem.W.hasDictIn K aa=jO)
  (am:PySem.W.subIn K (.ref aa) (.type "BaseException")=cL jO)
  (ao:PySem.W.typeIn K (.ref aa)=cL (.type "type"))
  (ap:PySem.W.subIn K (.ref ac) (.ref aa)=cL jO)
  (aq:PySem.W.hasDictIn K aa=jO)
  (ar:PySem.W.subIn K (.ref aa) (.type "BaseException")=cL jO)
  (au:PySem.W.typeIn K (.ref aa)=cL (.type "type"))
  (av:PySem.W.subIn K (.ref ab) (.ref aa)=cL jO)
  (aw:PySem.W.hasDictIn K aa=jO)
  (a7:PySem.W.hasDictIn K ab=jO)
  (a8:PySem.W.findIn K (.ref ab) "__getattribute__"=cL (cL (.builtin "BaseException.__getattribute__")))
  (a9:PySem.W.findIn K (.ref ab) "__getattr__"=cL jN)
  (ba:PySem.W.findIn K (.ref ab) "__class__"=cL (cL (.builtin "object.__class__")))
  (bb:PySem.W.specialIn K (.builtin "object.__class__") "__get__"=cL (cL (.builtin "getset_descriptor.__get__")))
  (bc:PySem.W.takesIn K (.builtin "object.__class__")=cL jO)
  (bd:PySem.W.mroIn K ab (.type "object")=cL jO)
  (be:PySem.W.mroIn K ab (.type "BaseException")=cL jO)
  (bE:PySem.W.hasDictIn K ae=jO)
  (bF:PySem.W.findIn K (.ref ae) "__getattribute__"=cL (cL (.builtin "BaseException.__getattribute__")))
  (bG:PySem.W.findIn K (.ref ae) "__getattr__"=cL jN)
  (bH:PySem.W.findIn K (.ref ae) "__class__"=cL (cL (.builtin "object.__class__")))
  (bI:PySem.W.specialIn K (.builtin "object.__class__") "__get__"=cL (cL (.builtin "getset_descriptor.__get__")))
  (bJ:PySem.W.takesIn K (.builtin "object.__class__")=cL jO)
  (bK:PySem.W.mroIn K ae (.type "object")=cL jO)
  (bL:PySem.W.mroIn K ae (.type "BaseException")=cL jO)
  (bs:PySem.W.hasDictIn K ad=jO)
  (bt:PySem.W.findIn K (.ref ad) "__getattribute__"=cL (cL (.builtin "BaseException.__getattribute__")))
  (bu:PySem.W.findIn K (.ref ad) "__getattr__"=cL jN)
  (bv:PySem.W.findIn K (.ref ad) "__class__"=cL (cL (.builtin "object.__class__")))
  (bw:PySem.W.specialIn K (.builtin "object.__class__") "__get__"=cL (cL (.builtin "getset_descriptor.__get__")))
  (bx:PySem.W.takesIn K (.builtin "object.__class__")=cL jO)
  (bz:PySem.W.mroIn K ad (.type "object")=cL jO)
  (bA:PySem.W.mroIn K ad (.type "BaseException")=cL jO)
  (bf:PySem.W.hasDictIn K ac=jO)
  (bg:PySem.W.findIn K (.ref ac) "__getattribute__"=cL (cL (.builtin "BaseException.__getattribute__")))
  (bh:PySem.W.findIn K (.ref ac) "__getattr__"=cL jN)
  (bi:PySem.W.findIn K (.ref ac) "__class__"=cL (cL (.builtin "object.__class__")))
  (bj:PySem.W.specialIn K (.builtin "object.__class__") "__get__"=cL (cL (.builtin "getset_descriptor.__get__")))
  (bk:PySem.W.takesIn K (.builtin "object.__class__")=cL jO)
  (bl:PySem.W.mroIn K ac (.type "object")=cL jO)
  (bm:PySem.W.mroIn K ac (.type "BaseException")=cL jO)
  (aV:PySem.W.kitOne K (.ref ad) (.ref ae)=cL jP)
  (aL:PySem.W.kitOne K (.ref ad) (.ref ac)=cL jP)
  (aM:PySem.W.kitOne K (.ref ad) (.ref ab)=cL jP)
  (aG:PySem.W.kitOne K (.ref ad) (.type "ValueError")=cL jO)
  (aW:PySem.W.kitOne K (.ref ae) (.ref ad)=cL jP)
  (aR:PySem.W.kitOne K (.ref ae) (.ref ac)=cL jP)
  (aS:PySem.W.kitOne K (.ref ae) (.ref ab)=cL jP)
  (aN:PySem.W.kitOne K (.ref ae) (.type "ValueError")=cL jO)
  (aO:PySem.W.kitOne K (.ref ac) (.ref ad)=cL jP)
  (aT:PySem.W.kitOne K (.ref ac) (.ref ae)=cL jP)
  (az:PySem.W.kitOne K (.ref ac) (.ref ab)=cL jP)
  (ax:PySem.W.kitOne K (.ref ac) (.type "ValueError")=cL jO)
  (aP:PySem.W.kitOne K (.ref ab) (.ref ad)=cL jP)
  (aU:PySem.W.kitOne K (.ref ab) (.ref ae)=cL jP)
  (aA:PySem.W.kitOne K (.ref ab) (.ref ac)=cL jP)
  (ay:PySem.W.kitOne K (.ref ab) (.type "ValueError")=cL jO)
  (bn:PySem.W.kitAny K (.ref ad) [.ref ai,.ref ag,.ref aj,.ref ak,.ref al]=cL jP)
  (bo:PySem.W.kitAny K (.ref ae) [.ref ai,.ref ag,.ref aj,.ref ak,.ref al]=cL jP)
  (aY:PySem.W.kitAny K (.ref ac) [.ref ai,.ref ag,.ref aj,.ref ak,.ref al]=cL jP)
  (aZ:PySem.W.kitAny K (.ref ab) [.ref ai,.ref ag,.ref aj,.ref ak,.ref al]=cL jP)
  (F:AllF K top tF)
  (B:AllB K tB)
  (b3:AllM K top af a6z)
  (b4:AllN K af a6A)
  (b5:AllM K top ah a9u)
  (b6:AllN K ah a9v) :
  ∃fd:g9,(∀(s:Shared)(v:Value),iP s fd ([v],[]) [("script",v,)])/\∀base:Heap,K.In base->base.Ns gU mg->FnOk l.prog w K mg base CX0 9 fa fd ["script"] (lowP K a44):=by
 let br:=b8B X G;let(f,d,e,J):=F 29 _ rfl;let e:=hfa.symm.trans (br _ _ e);cases e
 letI a:Ad:=(af,ah,ab,ae,ac,ad,aa,ai,ag,aj,ak,al)
 let T:Txt K mg a:=(br,F,B,br _ _ bM,(bQ,bR,bS,bT),b3,b4,(bU,bV),br _ _ bW,(bX,bY,bZ,b0),b5,b6,(b1,b2),br _ _ a2,br _ _ bB,br _ _ a3,br _ _ bp,br _ _ a0,br _ _ bC,br _ _ a4,br _ _ bN,br _ _ bO,br _ _ bP,a5,bD,a6,bq,a6r aC aD aE aF,a6r aH aI aJ aK,a6r am ao ap aq,a6r ar au av aw,a6q a7 a8 a9 ba bb bc bd be,a6q bE bF bG bH bI bJ bK bL,a6q bs bt bu bv bw bx bz bA,a6q bf bg bh bi bj bk bl bm,aV,aL,aM,aG,aW,aR,aS,aN,aO,aT,az,ax,aP,aU,aA,ay,bn,bo,aY,aZ,(aB,br _ _ aX),(aQ,br _ _ a1));let hb:=λP base=>b7a (P:=P) (w:=w) (base:=base) T J;let(oc,od,kV,doc,pm,an,cdv,ct,osl,rfl,lk,hcd):=J.ex;show(_,λs v=>.of_eq rfl,λbase _ _=>hb l.prog base)
def walk{l:PySem.W.OpenLaw}{q:gO}{loose:List Str}{XP:(Str->Option Value)->Heap->Prop}{YP:World->Heap->Prop}{d:DefRec}{K:Params->Fg}(hn:l.most=cL 63)(hdf:d.params.defaults=[])
  (hY:∀(w:World)(h:Heap),YP w h->(K w.params).In h)
  (F:∀(w:World)(mg:Str->Option Value)(fa:Addr)(h:Heap),(K w.params).In h->h.Ns gU mg->mg d.name=cL (.ref fa) ->
   ∃fd:g9,(∀(s:Shared)(u:Value),iP s fd ([u],[]) [("script",u,)])/\∀base:Heap,(K w.params).In base->base.Ns gU mg->FnOk l.prog w (K w.params) mg base CX0 9 fa fd ["script"] (lowP (K w.params) a44)) :
  PySem.W.WalkO q loose XP YP l.row.toRowW d [] (λf vs=>PySem.call f vs):=
 L2.walk_of (n:=63) (k:=9) (x:="script") (CX:=λ_=>CX0) (sp:=λw=>lowP (K w.params) a44) hn (by decide) hdf (rfl,by decide,by decide) hY F (λ_ _ a ns hl hO hS=>a9w a ns hl (Fz.of hO hS)) λ_ _ _ _ _ z=>z
end Lw
end
open PySem PySem.W PyProof.Rows
set_option maxRecDepth 100000 in
set_option maxHeartbeats 0 in
theorem PySem.Challenge.cw_twotimes_k54_refused_by_a_book_holds : PySem.Challenge.rw_twotimes_k54_refused_by_a_book.Holds := by
 w_on;o_law;k_head;(case hw=>w_witness2)
 k_fill
 refine Lw.walk (l:=PySem.Challenge.rw_twotimes_k54_refused_by_a_book) rfl rfl (fun w h Y=>PySem.W.kIn_of Y) ?F
 case F=>
  intro w mg fa h KX G hmg;refine' Lw.all_mk KX G hmg ?aa ?ab ?ac ?ad ?ae ?af ?ag ?ah ?ai ?aj ?ak ?al ?am ?an ?ao ?ap ?aq ?ar ?au ?av ?aw ?ax ?ay ?az ?aA ?aB ?aC ?aD ?aE ?aF ?aG ?aH ?aI ?aJ ?aK ?aL ?aM ?aN ?aO ?aP ?aQ ?aR ?aS ?aT ?aU ?aV ?aW ?aX ?aY ?aZ ?a0 ?a1 ?a2 ?a3 ?a4 ?a5 ?a6 ?a7 ?a8 ?a9 ?ba ?bb ?bc ?bd ?be ?bf ?bg ?bh ?bi ?bj ?bk ?bl ?bm ?bn ?bo ?bp ?bq ?br ?bs ?bt ?bu ?bv ?bw ?bx ?bz ?bA ?bB ?bC ?bD ?bE ?bF ?bG ?bH ?bI ?bJ ?bK ?bL ?bM ?F ?bN ?bO ?bP ?bQ ?bR
  all_goals try k_is
  (case aC=>k_exc)
  (case aD=>k_exc)
  (case aE=>k_exc)
  (case aF=>k_exc)
  all_goals try k_is
  (case bs=>kit_is)
  (case bt=>kit_is)
  (case bu=>kit_is)
  (case bv=>kit_is)
  (case bw=>kit_is)
  (case bx=>kit_is)
  (case bz=>kit_is)
  (case bA=>kit_is)
  (case bB=>kit_is)
  (case bC=>kit_is)
  (case bD=>kit_is)
  (case bE=>kit_is)
  (case bF=>kit_is)
  (case bG=>kit_is)
  (case bH=>kit_is)
  (case bI=>kit_is)
  (case bJ=>kit_is)
  (case bK=>kit_is)
  (case bL=>kit_is)
  (case bM=>kit_is)
  all_goals (repeat first |exact L2.af0 |exact L2.am0 |exact L2.ab0 |exact L2.an0 | (first |refine' L2.af1 ?_ ?_ ?_ ?_ ?_ |refine' L2.am1 ?_ ?_ ?_ ?_ ?_ ?_ |refine' L2.ab1 ?_ ?_ |refine' L2.an1 ?_ ?_)<;>try k_is)
