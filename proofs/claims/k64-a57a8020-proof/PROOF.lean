import PyProof.Rows.All
import Wide.All
import OpenK.AllK
import Wide.FinOn
import Lean
import PyProof.EqAt
import PyProof.EqKinds
import PyProof.TupleCall
import PyProof.CompFree
import PyProof.P3In
import PyProof.RaisesMany
import PyProof.StationsW
import PyProof.ExcClass3
import PyProof.ExcBaseAll.ValueError
import PyProof.RulesTry
import PyProof.RulesAs
import PyProof.NsDelKeeps
import KE.KTryMore
import PyProof.ExcArgs
import KE.RegKIsAll
import PyProof.Rows.EqDataRows
import KE.KLam
import KE.KSortKey
import KE.KNestM
import PyProof.DictItemsLoops
import PyProof.DictValues
import PyProof.DictWalks
import KE.KMinBuiltin
import KE.KEqDict
import KE.KIntText
import KE.KDictOf
import PyProof.StrBlockH
import KE.KWords
import PyProof.CallStr
import PyProof.StrLawsTight
import PyProof.StrLawsChain
import PyProof.AttrMissHeap
import KE.KSortTup
import Wide.Seal
import PySem.Challenge.RW_twotimes_k64_whole_there_and_back
set_option Elab.async false
set_option linter.all false
set_option maxRecDepth 100000
set_option compiler.extract_closed false
set_option bootstrap.genMatcherCode false
noncomputable section
open Lean Parser Tactic in
def pT:Nat->Syntax->MacroM (Array (TSyntax `rcasesPat))
|n+1,s=>do
 let q:=match s with|`(($p,$q,*))=>#[p]++q.getElems|`(⟨$q,*⟩)=>q.getElems|_=>#[]
 if q.size>0 then pure #[<-`(rcasesPat|⟨$(<-q.mapM λx=>do`(rcasesPatLo|$[$(<-pT n x):rcasesPat]|*)),*⟩)]
 else match s with
 |`($x:ident)=>pure #[<-`(rcasesPat|$x:ident)]
 |`(⟨⟩)=>pure #[<-`(rcasesPat|⟨⟩)]
 |`(($p))=>pure #[<-`(rcasesPat|($[$(<-pT n p):rcasesPat]|*))]
 |`($p||$q)=>pure ((<-pT n p)++(<-pT n q))
 |_=>pure #[<-`(rcasesPat|_)]
|_,_=>pure #[]
local macro_rules|`(tactic|let $c:letConfig $d:letDecl)=>`(tactic|have $c:letConfig $d:letDecl)
local macro_rules|`(tactic|let $p:term:=$e)=>do`(tactic|obtain $[$(<-pT 40 p):rcasesPat]|*:=$e)
local macro_rules|`(tactic|show $t)=>`(tactic|refine $t)
local macro_rules|`(tactic|ext $p*)=>`(tactic|rintro $p*)
local macro_rules|`(tactic|cbv)=>`(tactic|omega)
local macro_rules|`(tactic|o_head $t)=>`(tactic|simpa using $t)
local macro_rules|`(($a,$b,*))=>if b.elemsAndSeps.size%2=1 then `(⟨$a,$b,*⟩)else Lean.Macro.throwUnsupported
local macro_rules|`(↑$a)=>`(by simpa using $a)
open List renaming length_map→aH,mem_append→aJ,mem_singleton→aK,mem_cons→aL,getElem?_eq_some_iff→aM,getElem?_map→aO,getElem?_eq_getElem→aP,map_append→aQ,map_cons→aR,pairwise_cons→aT,length_cons→aV,length_append→aW,mem_map→aX,length_take→aY,mem_of_getElem?→aZ,range→a9,append_nil→bh,length→bj,Perm→bn,pairwise_append→bp,size_toArray→bt,all_cons→bu,append_assoc→bv,mem_of_mem_take→bx,mem_append_right→bz,mem_map_of_mem→bA,mem_filter→bD,cons→bE,length_drop→bH,find?_cons→bI,take_length→bK,mem_cons_self→bM,map_nil→bN,getElem?_of_mem→bP,map_map→bQ,mem_cons_of_mem→bR,nodup_cons→bT,all_eq_true→bU,filterMap_cons→bV,filter_cons→bX,lookup_cons→bY,getElem_mem→b5,nodup_append→b9,mem_range→ca,take_add_one→cf,pairwise_map→ci,any_eq_true→cj,mem_filterMap→cn,length_filterMap_le→cq,getD_eq_getElem?_getD→cu,take_of_length_le→cw,mem_append_left→cx,getElem?_append_right→cy,getElem?_append_left→cz,Pairwise→cA,length_eq_zero_iff→cC,pairwise_iff_getElem→cD,filter_sublist→cE,any_cons→cG,reverse_append→cH,length_pos_iff→cK,flatMap_cons→cN,of_mem_zip→cP,forIn_cons→cQ,drop_eq_getElem_cons→cT,getElem?_drop→cU,reverse_singleton→cV,find?_eq_none→cX,map_eq_nil_iff→cY,any_eq_false→cZ,reverse_cons→de,length_filter_le→dh,drop_eq_nil_of_le→dq,mem_iff_getElem→dv,nil_append→dw,take_append_drop→dy,cons_append→dz,not_mem_nil→dA,length_range→dB,filter_eq_nil_iff→dC,getElem?_set_self→dD,getElem?_set_ne→dE,lookup→dG,replicate→dJ,take_sublist→dL,extract_eq_take_drop→dP,getElem?_take→dR,take_append_of_le_length→dU,getElem?_eq_none→dY,map_congr_left→d6,getLast?_map→d9,mem_of_find?_eq_some→ei,filterMap_map→ej,pairwise_singleton→eB,drop_sublist→eC,perm_append_comm→eD,mem_of_mem_drop→eE,singleton_append→eF,drop_append→eG,eraseIdx_cons_succ→eI,ext_getElem?→eJ,pairwise_lt_range→eK,filter_cons_of_neg→eM,filter_cons_of_pos→eN,find?_some→eO,getLast?_eq_none_iff→eS,getLast?_eq_getElem?→eT,dropLast_subset→eU,rel_of_pairwise_cons→eV,take_succ_cons→eX,mem_flatMap→eZ,filter_map→e9,getElem?_eq_none_iff→fh,length_singleton→ft,length_set→fA,filterMap_append→fB,map_take→fC,perm_middle→fD,zipIdx_cons→fE,foldl_cons→fF,drop_set_of_lt→fG,take_set_of_le→fH,drop_append_of_le_length→fJ,flatten_cons→fK,findIdx?→fO,ext_getElem→fR,length_reverse→fW,range'_succ→fY,map_filterMap→f6,exists_mem_of_ne_nil→f8,find?_append→f9,head?_cons→gg,mem_of_getLast?→gh,map_dropLast→gi,cons_lt_cons_iff→gj,map_reverse→gk,head?_drop→gm,drop_length→gr,perm_ext_iff_of_nodup→gx,find?_isSome→gz,filterMap_eq_map→gA,getElem_take→gC
open Nat renaming le_refl→aI,ne_of_lt→aS,le_trans→aU,zero_le→bg,lt_of_lt_of_le→bo,le_of_lt→bL,ne_of_gt→bS,lt_irrefl→cm,le_succ→cF,zero_add→cI,lt_succ_of_lt→cS,add_assoc→cW,lt_trans→dj,add_sub_cancel→dr,le_of_eq→dH,lt_succ_self→dI,lt_of_le_of_lt→dM,add_zero→dS,mod_lt→dX,add_comm→eP,min_le_right→fq,le_of_ble_eq_true→fw,add_right_comm→fU,le_add_right→fX,le_of_lt_succ→fZ
open False renaming elim→aN
open Option renaming some→be,map_some→cR,getD_none→et,filter→eY,isSome_iff_exists→fm,bind_some→fz,none→gV
open Array renaming length_toList→bf,getElem?_eq_getElem→bG,toList_push→bJ,getElem?_toList→b8,perm_iff_toList_perm→dk,Perm→du,getElem?_eq_some_iff→dN,size_map→dW,forIn_toList→d7,append_empty→eL,append_assoc→fi,mem_toList_iff→fj,toList_extract→fI,toList_setIfInBounds→fL,getElem?_modify→fM,toArray_toList→fN,getD_eq_getD_getElem?→fP,getElem?_eq_none→fQ,size_setIfInBounds→fS,isEmpty_iff_size_eq_zero→f7
open Bool renaming false_ne_true→bB,and_eq_true→bO,true_and→bZ,false_eq_true→cJ,eq_iff_iff→cO,and_false→dg,and_eq_true_iff→dO,and_true→d8,and_self→eu,false_or→fv,not_true→fV,false_and→gb,true→kP,false→kQ
open Int renaming le_trans→bC,le_of_lt→b7,le_refl→cg,eq_ofNat_of_zero_le→cM,not_lt→dQ,emod_nonneg→eQ,emod_lt_of_pos→eR,zero_add→eW
open Or renaming inr→bW,inl→cB
open PySem renaming wpAny_bind→gE,wpAny_pure→gF,SetTable→gG,sizeLine→gH,starEach→gJ,Program→gM,Builtin→gN,compareOp→gO,NameKind→gR,sizeLine_eq→gU,wpAny_mono→gX,binaryOp→gY,mainGlobals→gZ,PassesOwn→g5,wpAny_holding→g6,sysModules→g9,FuncData→hZ,holding→h9,bootBuiltins→ib,codeAny→ig,wpAny_call_entry→ii,wpAny_setState_of→ij,swapsWith→ik,scanBound→ip,valueAt→iq,wpAny_ite_split→iu,assignEach→iy,codeAny_mono→iz,pickOrder→iA,wpAny_rule→iB,wpAny_truthy_bool→iC,wpAny_field→iE,standAt→iF,inplaceOp→iG,foldedSetIterable→iH,wpAny_newObj_type→iI,unsupported→iJ,codeAny_builtin→iK,wpAny_setField→iM,wpAny_attempt→iN,wpAny_passesOwn→iO,behindInMarks→iP,Keyword→iQ,typeIs_str→iR,sliceBounds→iU,callerA→iV,plainId_quiet→iX,wpAny_isInstance→iY,wpAny_setEntries_of→iZ,wpAny_execs_nil→i5,attributeBase→i6,BindsTo→i7,bindArgs→i8,wpAny_call→i9,wpAny_Call_Name_kw→ja,backToKw→jc,keywordEach→jd,call_meetsIn→je,compEnvC→jf,wpAny_newTuple→jh,relayAll→ji,wpAny_dictEntries→jk,tupleKind→jl,intKind→jm,builtinsNs→jo,wpAny_load→jp,wpAny_pyIter_list→jq,getMethod→jr,getItem→js,closureFor→jt,notedBy→ju,wpAny_newList→jy,wpAny_storeSet_of→jz,fits_of_scanBound→jA,wpAny_askSetting→jB,isSubtype_type→jC,entryFor→jD,setItem→jF,unaryOp→jG,lastMarks→jH,DictEntry→jI,leaving→jJ,cellsFrom→jK,wpAny_typeOf→jL,noteFrame→jM,wpAny_getItem_str_slice→jN,post_val_or_str→jO,ElemsOf→jQ,setAddHashed→jR,storeSet→jS,GenState→jT,setNext→jU,wpAny_fieldsOf→jV,wpAny_setEpoch_of→jW,wpAny_setField_rec→jX,storeName→jY,wpAny_Name→jZ,wpAny_execs_cons→j3,wpAny_standAt→j5,swapsWithSole→j6,swappedStores→j7,letOwnedTupleGo→j8,callWith→j9,seqIndex_of→kc,seqIndex_neg→ke,call_meets→kh,tupleKind_room_in1→ki,compPost→kj,setAddHashedIn→kr,codeAny_of_tree→kt,checkBuiltinCall→kx,wpAny_of_eq→kA,entryFor_alias→kB,wpAny_updateSeq→kC,wpAny_seqItems→kI,wpAny_forIn_list→kJ,wpAny_notOrdered_dict→kK,defaultsOf→kL,wpAny_dictEpoch→kM,setMerge→kO
open PyProof.Rows renaming wpS_bind→gI,wpS_pure→gK,pendingOf→gQ,IntsAre→hV,wpS_forRange→h7,failedOf→ic,wpS_mono→ie,SortKind→im,wpS_modify→io,wpS_get→ir,AllBare→iw,listUpdate_at→iW,pairsOf→jg,sortedS→jj,reverseSlice'→jv,setPending→jw,seqEpoch_at→jx,StrsAre→jE,size_push'→jP,subscriptTail_builtinR→kg,mergeAt'→kl,listItems_at→km,kind_sorted→kD,plain_sorted→kE,entry_sorted→kF,slot_list_sort→kG,entry_list_sort→kH
abbrev Fg:=PySem.W.Frag
set_option tactic.hygienic false
namespace PySem.W.Fast
noncomputable def z:=0
def tw9683799857009223343:=z
def tw15857377249347338613:=z
def tw13804536859803347365:=z
def tw10560653059706314465:=z
def tw13956870877993053692:=z
def tw14251590214614477127:=z
def tw14993725137840907778:=z
def tw6021974627007894371:=z
def tw17437035642661113299:=z
def tw11672849796100347822:=z
def tw7522839111084050130:=z
def tw15202722121812831366:=z
def tw12582192595946032238:=z
def tw4000672362714435508:=z
def tw18346678254246088620:=z
def tw1764891517384857286:=z
def tw14841229963283079916:=z
def tw3278695522941709477:=z
def tw596532718508091434:=z
def tw2169759103907564700:=z
def tw6202200723376878470:=z
def tw18403530673028315031:=z
def tw18237724771815111811:=z
def tw7640034455684118744:=z
def tw1592480870628545268:=z
def tw17721070890247993485:=z
def tw3815924659263229943:=z
def tw11379760174629039534:=z
def tw10702455068030681211:=z
def tw14353519733339228111:=z
def tw14601709844113607578:=z
def tw13514002606180100534:=z
def tw607258656591298646:=z
def tw9790594728136319029:=z
def tw5808591804486090806:=z
def tw11354901539326077398:=z
def tw3702933049954668417:=z
def tw6161718265127195983:=z
def tw6618519887612812861:=z
def tw14914630387033719540:=z
def tw9801256341674135172:=z
def tw12299977866755801992:=z
def tw11302581152743119769:=z
def tw8411556379617039981:=z
def tw1287431664043293032:=z
def tw17053082940811869243:=z
def tw18315413276299065834:=z
def tw16237364695619116835:=z
def tw15481756661342699402:=z
def tw8302047060838496922:=z
def tw9516636888481339550:=z
def tw474986421922895452:=z
def tw8116155615945895099:=z
def tw3630825877015511904:=z
def tw7247048452031057867:=z
def tw7413234082278393615:=z
def tw6301454970034676553:=z
def tw6516696060905380782:=z
def tw13407944357134000063:=z
def tw319872596365770597:=z
def tw6320890730507447523:=z
def tw16202663322047816601:=z
def tw1291858676355506937:=z
def tw8355296757989734258:=z
def tw17321915488955028865:=z
def tw11804211659454786491:=z
def tw3153429736692257387:=z
def tw5111074557941810400:=z
def tw12355791839934362612:=z
def tw8253135768432108351:=z
def tw2510072787830205981:=z
def tw12856431191633199441:=z
def tw13248200605959666718:=z
def tw14058080285377682601:=z
def tw5275929272923444250:=z
def tw16181211720717044736:=z
def tw11505377038347170287:=z
def tw14512433785508024769:=z
def tw139083690871959859:=z
def tw8569803814036495208:=z
def tw13878482342865064696:=z
def tw8637505068686501652:=z
def tw3493329310270841771:=z
def tw7387862193918868989:=z
def tw5144464677105670336:=z
def tw15810227312888489667:=z
def tw17212234614905619724:=z
def tw10870496236813948314:=z
def tw16524102821430852927:=z
def tw13848426962383466511:=z
def tw11732481002543939098:=z
def tw8386990023640724246:=z
def tw11493735060972277498:=z
def tw4716009237928324949:=z
def tw16010479919399054657:=z
def tw11179652881570598707:=z
def tw3839205985658412335:=z
def tw11250344768724718731:=z
def tw17413410526686944855:=z
def tw13872283302485412099:=z
def tw3658481098484832095:=z
def tw949681146571434551:=z
def tw16976826156785510954:=z
def tw17483802584871186408:=z
def tw14647526030831585574:=z
def tw3883355153599415102:=z
def tw11632650799298427912:=z
def tw15108829790661955303:=z
def tw14650001926812856755:=z
def tw3955533838178553752:=z
def tw17382513648251127010:=z
def tw3504231363721896927:=z
def tw12941464840807281560:=z
def tw3386338938240589722:=z
def tw15468968959986134727:=z
def tw17863377435789445040:=z
def tw12809408000206579793:=z
def tw2140620947406234905:=z
def tw7146814458598712773:=z
def tw5469180393293268434:=z
def tw13198987509969258676:=z
def tw2919452855166291163:=z
def tw13742339124184524948:=z
def tw13121649128124671903:=z
def tw4223152661058511133:=z
def tw12071137921890523846:=z
def tw1194534420535693479:=z
def tw11439230491530164199:=z
def tw11466613163997805338:=z
def tw12037892501126511475:=z
def tw12181835678964421217:=z
def tw6770236635295601778:=z
def tw8852580976440921197:=z
def tw782757046903531368:=z
def tw12480348441234088505:=z
def tw10803333216701952970:=z
def tw7009400430728152939:=z
def tw16832144388390828255:=z
def tw4068417375479417988:=z
def tw9536255319174421375:=z
def tw2595865441795793018:=z
def tw2701331566181943125:=z
def tw12567466011345539358:=z
def tw10023902819068298487:=z
def tw17839768253765168453:=z
def tw432616780892145928:=z
def tw13122198331319507890:=z
def tw7281969663881857026:=z
def tw1219763043448307628:=z
def tw17043837532793544868:=z
def tw4231227394994712232:=z
def tw11366904654956519632:=z
def tw13261137456692343703:=z
def tw6019405524027828636:=z
def tw15863164584999083354:=z
def tw16311815976862148259:=z
def tw317745033741771373:=z
def tw15424604528401790723:=z
def tw14718801076498602124:=z
def tw4360794491317784355:=z
def tw15241535190636861609:=z
def tw9952786464147239885:=z
def tw18075329507627265077:=z
def tw5836824107498517959:=z
def tw14525585351039490098:=z
def tw10490061495445647411:=z
def tw16963362310224651687:=z
def tw3226020714850293359:=z
def tw11220763450984302226:=z
def tw628092378530864626:=z
def tw6191905875743502254:=z
def tw2677686781139410570:=z
def tw5461095833657206958:=z
def tw13975064862492186603:=z
def tw2873394397115023856:=z
def tw4564471610966177652:=z
def tw3106127046040125660:=z
def tw6238303538452471535:=z
def tw1741106834250111177:=z
def tw5803781425027188235:=z
def tw11419547549313337114:=z
def tw6390139255107593913:=z
def tw349780088372014788:=z
def tw7370778289331730123:=z
def tw199344748629490911:=z
def tw16080697314961256922:=z
def tw11062116142350575809:=z
def tw14224589644084788011:=z
def tw7020285611704648909:=z
def tw4451021733506041137:=z
def tw15460734782981366828:=z
def tw15168633727169255703:=z
def tw18138888076131533934:=z
def tw15767169103601748123:=z
def tw2525046433972459143:=z
def tw3574982249869478698:=z
def tw17181948828980867417:=z
def tw17320122726069599123:=z
def tw15964353131192723155:=z
def tw14696725570137502222:=z
def tw15655088980443271920:=z
def tw17013557529084087885:=z
def tw3178524998684762010:=z
def tw1186422677578321294:=z
def tw14640403665698666400:=z
def tw9423034104941590107:=z
def tw5546311113372899605:=z
def tw12448699098348223341:=z
def tw16618660329428750838:=z
def tw17310222192210898643:=z
def tw3310323764597602373:=z
def tw16909354499889735598:=z
def tw7880508416527652825:=z
def tw13090754434727649886:=z
def tw4665938327009775044:=z
def tw9803756254084931605:=z
def tw6673665935272114369:=z
def tw14531684311215837138:=z
def tw11962800784272415908:=z
def tw12709083678693439810:=z
def tw10219114461148443974:=z
def tw13282536251334549881:=z
def tw11921566659859004405:=z
def tw3468206847698515240:=z
def tw16944611135905338440:=z
def tw10426252647823146306:=z
def tw9667685188516677179:=z
def tw11939094652785774540:=z
def tw18124411183961180456:=z
def tw14586308617831971276:=z
def tw14407027276458237365:=z
def tw9788616342098663988:=z
def tw14102371602197155964:=z
def tw487549198138228594:=z
def tw12351907000787881028:=z
def tw2536885999212344727:=z
def tw1445329230656086753:=z
def tw2259780392696286638:=z
def tw1249712614089835665:=z
def tw13491471695672562163:=z
def tw6116397810045226648:=z
def tw18443419082554936665:=z
def tw15810315383506890634:=z
def tw12714211028450705304:=z
def tw11081198981934421212:=z
def tw1966689605262064010:=z
def tw13486558949392657966:=z
def tw3067515587921019619:=z
def tw1819397611013745031:=z
def tw15259430648171781498:=z
def tw13479367576456113307:=z
def tw7851701632431277799:=z
def tw6681291305541317556:=z
def tw13884283883750213364:=z
def tw10111162765153264125:=z
def tw5004955632245879915:=z
def tw10054251756619748345:=z
def tw5759828761039402241:=z
def tw2396190021723627719:=z
def tw2183271145615859253:=z
def tw18041554448930516343:=z
def tw9257412226341824613:=z
def tw12520505366605267263:=z
def tw5430655558897266863:=z
def tw10688575640719973908:=z
def tw16869056203435483581:=z
def tw16806467801258077626:=z
def tw11445352324102623107:=z
def tw17141760048229988437:=z
def tw17645809793867089539:=z
def tw17410316001070224747:=z
def tw10333695882677323307:=z
def tw12994753232364481844:=z
def tw2526171446050410612:=z
def tw16161441807551109250:=z
def tw14566145750319332892:=z
def tw9566743175216017727:=z
def tw7073169050928442938:=z
def tw8299584582972426126:=z
def tw5191237571836985307:=z
def tw3494513162294703134:=z
def tw15776217518085752700:=z
def tw3819241380970455599:=z
def tw5825685991362297874:=z
def tw7123314921135471988:=z
def tw6248558494743194429:=z
def tw14240582011485020194:=z
def tw13892675748830266225:=z
def tw4799945380353227922:=z
def tw16976471953914576919:=z
def tw1715191799357234431:=z
def tw12716304950668786451:=z
def tw13176775031745356185:=z
def tw16672658706534847022:=z
def tw463795351496018050:=z
def tw8321323048023341528:=z
def tw13696067374013189070:=z
def tw15129528848220013049:=z
def tw7477658752621348539:=z
def tw4275940737450071217:=z
def tw10858753468456651208:=z
def tw6188697857475709642:=z
def tw4375249476887209839:=z
def tw285335073271606881:=z
def tw1058050774556149391:=z
def tw13751192380520248185:=z
def tw3444578661327452394:=z
def tw15522133857074177075:=z
def tw2499117116446085829:=z
def tw10085403552944999110:=z
def tw9334518950185752476:=z
def tw15273872266733925256:=z
def tw12071098878013123314:=z
def tw15571111505453122482:=z
def tw13770229859341527801:=z
def tw5691525190605220486:=z
def tw10270630377715520139:=z
def tw3248289869398988790:=z
def tw1938645139339162807:=z
def tw9929601247749231246:=z
def tw5991624515413978013:=z
def tw10461486144260486861:=z
def tw2382052505745208856:=z
def tw612765688008112153:=z
def tw14593131476261060155:=z
def tw13012404113069422097:=z
def tw10386618670911952845:=z
def tw15149151368846887476:=z
def tw9633396072704482688:=z
def tw2682025218159299953:=z
def tw14283805100922018485:=z
def tw9142909084576495424:=z
def tw12248028615838859910:=z
def tw18233029680847277682:=z
def tw3346747291238310328:=z
def tw13524210622509662581:=z
def tw14766073878757380794:=z
def tw7100318811991866804:=z
def tw3247489167410289914:=z
def tw1807241972775651750:=z
def tw560680420627814842:=z
def tw11106877146992648574:=z
def tw828812319667945460:=z
def tw7879535219875471496:=z
def tw12814095308638610812:=z
def tw1090716555758905015:=z
def tw12357670235291254734:=z
def tw12720103488946912534:=z
def tw2049129371763222210:=z
def tw10244606406062964665:=z
def tw14667180215530241021:=z
def tw17869686494393492651:=z
def tw11208645470628593999:=z
def tw12415198844236892060:=z
def tw16589602431813674338:=z
def tw8330350324919293156:=z
def tw8569661981677439523:=z
def tw3790901472201269690:=z
def tw1105051651637022612:=z
def tw3412976740593869117:=z
def tw1932712974684424125:=z
def tw9200289516836984867:=z
def tw5532788950126864661:=z
def tw17180813302999663529:=z
def tw15470994320483439308:=z
def tw11180661969078661812:=z
def tw12899997805291654473:=z
def tw9744547628393588220:=z
def tw3227189842852924140:=z
def tw7023309823248498740:=z
def tw145531625618142547:=z
def tw13583675100093560921:=z
def tw2966188174464250123:=z
def tw14760592923447613329:=z
def tw2990191206075132984:=z
def tw7827541007949201997:=z
def tw4408123089034293308:=z
def tw5043832734482777111:=z
def tw9584841109905458871:=z
def tw5538802376885288730:=z
def tw15893510170931780394:=z
def tw15472331082846117965:=z
def tw1378042507950165724:=z
def tw8144110038255100328:=z
def tw3300310158147077778:=z
def tw2724779675381121958:=z
def tw10882335954168959376:=z
def tw2299251545212957186:=z
def tw14679223137036986118:=z
def tw15635431140875656503:=z
def tw13701159591660360397:=z
def tw17528327771023737407:=z
def tw2834589963616264483:=z
def tw10439595218307627360:=z
def tw2789850354777364642:=z
def tw4702575272037691030:=z
def tw7203834555306055104:=z
end PySem.W.Fast
set_option maxHeartbeats 4000000
namespace PySem
noncomputable def a0G(env:Env):List (Str×gR)->List (Str×Addr)->List (Str×Addr)
 |[],cs=>cs
 | (n,k,)::r,cs=>if (k==.free)=kP then a0G env r ((n,(env.cells.lookup n).getD 0,)::cs) else a0G env r cs
def a4k(h:∀x∈scope.names,x.2=.free->∃c,env.cells.lookup x.1=be c):jt scope env=pure (a0G env scope.names []):=by
 simp only[jt]
 suffices H:∀l b,(∀x∈l,x.2=.free->∃c,env.cells.lookup x.1=be c) ->
   forIn l b _=pure (a0G env l b) by
  rw[H scope.names [] h];rfl
 ext l
 induction l with
 |nil=>ext b _;rfl
 |cons x l ih=>
  ext b j;let(n,k):=x;let g:=λb=>ih b λy o=>j y (bR _ o);rw[cQ]
  by_cases hk:k=.free
  .subst hk;let(c,m):=j _ bM rfl;let f:cellOf env n=pure c:=by unfold cellOf;rw[m]
   rw[if_pos (show (gR.free==gR.free)=kP from rfl),f];let e:a0G env ((n,gR.free,)::l) b=a0G env l ((n,c,)::b):=by
    change (if (gR.free==gR.free)=kP then _ else _)=_
    rw[m];rfl
   rw[e,<- g ((n,c,)::b)]
   rfl
  .let i:(k==gR.free)=kQ:=↑hk
   let e:a0G env ((n,k,)::l) b=a0G env l b:=by
    change (if (k==gR.free)=kP then _ else _)=_
    rw[i];rfl
   rw[e,<- g b];rw[i,if_neg bB]
   rfl
def a4l:∀(l:List (Str×gR))(cs:List (Str×Addr)),(∀y∈l,y.2=.free->∃c,env.cells.lookup y.1=be c)->(∀y c,cs.lookup y=be c->env.cells.lookup y=be c) ->
  ∀c,(a0G env l cs).lookup x=be c->env.cells.lookup x=be c:=by ext z0;induction z0 with
 |nil=>ext cs _ hc c h;show hc x c h
 |cons q0 r I0=>
  let(n,k):=q0;ext cs hx hc c h;let g:=λy m=>hx y (bR _ m);unfold a0G at h
  split at h
  .rename_i hk
   let f:k=.free:=↑hk
   let(d,j):=hx (n,k,) bM f;show I0 _ g (λy i a=>?_) c h;rw[bY]at a;cases e:y==n with
   |true=>
    rw[e]at a;let o:y=n:=↑e
    subst o;rw[j]at a ⊢;show a
   |false=>rw[e]at a;show hc y i a
  .show I0 cs g hc c h
def a5X:∀(l:List (Str×gR))(cs:List (Str×Addr))(c:Addr),cs.lookup x=be c->∃c',(a0G env l cs).lookup x=be c':=by ext z0;induction z0 with
 |nil=>ext cs c h;show(c,h)
 |cons q0 r I0=>
  let(n,k):=q0;ext cs c h;unfold a0G
  split
  .cases e:x==n with
   |true=>show I0 _ _ (by rw[bY,e])
   |false=>show I0 _ c (by rw[bY,e];show h)
  .show I0 cs c h
def a3S:∀(l:List (Str×gR))(cs:List (Str×Addr)),(x,gR.free,)∈l->∃c,(a0G env l cs).lookup x=be c:=by ext z0;induction z0 with
 |nil=>ext cs h;cases h
 |cons _ r I0=>
  ext cs h;unfold a0G;let e||e:=aL.mp h
  .cases e;show a5X r _ ((env.cells.lookup x).getD 0) (by simp)
  .split
   .show I0 _ e
   .show I0 _ e
def a3x{env:Env}:∀(names:List (Str×gR)),
  (names.map λ(n,k,)=>if (k==gR.free&&env.scope.kind==.function&&env.kindOf n==be .cell) then (n,gR.cell,) else (n,k,)).lookup x =
   (names.lookup x).map λk=>if (k==gR.free&&env.scope.kind==.function&&env.kindOf x==be .cell)=kP then gR.cell else k:=by ext z0;induction z0 with
 |nil=>show rfl
 |cons q0 r I0=>
  let(n,k):=q0;let a:=I0
  change dG x ((if _=kP then _ else (n,k,))::_)=_
  cases hx:x==n with
  |true=>
   let e:x=n:=by grind
   subst e
   by_cases hc:(k==gR.free&&env.scope.kind==.function&&env.kindOf x==be .cell)=kP
   simp only[bY,hx,cR,if_pos hc];simp only[bY,hx,cR,if_neg hc]
  |false=>
   by_cases hc:(k==gR.free&&env.scope.kind==.function&&env.kindOf n==be .cell)=kP
   .rw[if_pos hc];simp only[bY,hx];show a
   .rw[if_neg hc];simp only[bY,hx];show a
def a1M(I:Nat->Shared->Prop)
  (turn:∀n s,I n s->wpAny (model prog w) A (pyNext it) (λr sj=>match r with
   |none=>R (.ok .next) sj
   |some v=>wpAny (model prog w) A (j8 target it v) (λ_ sj=>wpAny (model prog w) A (assign target env v) (λ_ sv=>
     wpAny (model prog w) A (forIn ifs kP λc r=>if r=kP then do let ok <- isTrue c env (eval c env);pure (ForInStep.yield ok) else pure (ForInStep.yield r)) (λok sw=>
      if ok=kP then wpAny (model prog w) A (eval elt env) (λx sx=>
       wpAny (model prog w) A (call (.builtin "list.append") [acc,x]) (λ_ sy=>∃m,m<n/\I m sy) (ju (model prog w) A env λe s'=>R (.error e) s') sx) (ju (model prog w) A env λe s'=>R (.error e) s') sw
      else ∃m,m<n/\I m sw) (ju (model prog w) A env λe s'=>R (.error e) s') sv) (ju (model prog w) A env λe s'=>R (.error e) s') sj) (λ_ _=>False) sj) (λ_ _=>False) s)
  (n:Nat) (h:I n s) :
  ig (model prog w) A (.compLoop (.ListComp elt [(target,iter,ifs,0)] scope pos) 0 it acc env) R s:=by
 show codeAny_loop rfl I (λn s k=>?_) n h;show wpAny_noted (gE (j5 (gE (gX (turn n s k) (λr d a=>?_) λ_ _ f=>f.elim))));cases r with
 |none=>show gF a
 |some v=>
  show gE (gX a (λ_ d a=>?_) λ_ _ f=>f.elim);show gE (gX a (λ_ p g=>gE (gX g (λl z b=>?_) λ_ _ f=>f)) λ_ _ f=>f);cases l with
  |false=>show gF (rfl,b)
  |true=>
   show gE (gE (gX b (λx o i=>gE (gX i (λ_ u j=>gF (gF (rfl,j))) λ_ _ f=>f)) λ_ _ f=>f))
end PySem
namespace L2
open PySem PySem.Spec PyProof.Rows
variable{P prog:gM}{w:World}{H H':Hp}{X:Cx}{pins:List (Addr×Obj)}{s:Shared}{pos tpos apos np:Pos}{E:Value->Shared->Prop}{u:Value}{A:Around}{dx:Addr}{es:List Expr}{m y:Str}{to:E3}{κ:KF}
abbrev Key:=Sum (Option Int) Str
noncomputable def b8N:Value->Bool
 |.none=>kP
 |_=>kQ
noncomputable def a7B:Key->Value->Bool
 |.inl (be k),v=>Value.isInt k v
 |.inl gV,v=>b8N v
 |.inr x,v=>Value.isStrOf x v
noncomputable def keyH(w:World):Key->Int
 |.inl (be k)=>hashInt k
 |.inl gV=>reduceHash 0xFCA86420
 |.inr x=>hashStr w x
theorem a0n:∀{k:Key}{v:Value},a7B k v=kP->(∃i t,k=Sum.inl (be i)/\v=Value.int i t)\/(∃x t,k=Sum.inr x/\v=Value.str x t)\/(k=Sum.inl gV/\v=Value.none)
 |.inl (be i),v,h=>by
  let(t,e):=Value.isInt_shape h;show .inl (i,t,rfl,e)
 |.inl gV,v,h=>by
  cases v<;>first |show .inr (.inr (rfl,rfl)) |cases h
 |.inr x,v,h=>by
  let(t,e):=Value.isStrOf_shape h;show .inr (.inl (x,t,rfl,e))
def a8n(i:Int)(t:Tok):a7B (.inl (be i)) (.int i t)=kP:=by simp[a7B,Value.isInt]
def a8o(x:Str)(t:Tok):a7B (.inr x) (.str x t)=kP:=by simp[a7B,Value.isStrOf]
def b5N(a b:Int):decide ((Sum.inl (be a):Key)=Sum.inl (be b))=(a==b):=by
 by_cases e:a=b
 .simp_all
 .simp_all
def b5O(a b:Str):decide ((Sum.inr a:Key)=Sum.inr b)=decide (a=b):=by simp
def a3M{a b:Key}(h:a≠b):decide (a=b)=kQ:=decide_eq_false h
noncomputable def a0j(prog:gM)(w:World):PySem.KeyKind prog w Key where
 is:=a7B
 hash:=keyH w
 inj:=λv a b ha hb=>by
  let(i,t,rfl,rfl)||(x,t,rfl,rfl)||(rfl,rfl):=a0n ha
  .let(j,u,rfl,e)||(y,u,rfl,e)||(rfl,e):=a0n hb
   .injection e with e1 _;rw[e1]
   .show nomatch e
   .show nomatch e
  .let(j,u,rfl,e)||(y,u,rfl,e)||(rfl,e):=a0n hb
   .show nomatch e
   .injection e with e1 _;rw[e1]
   .show nomatch e
  .let(j,u,rfl,e)||(y,u,rfl,e)||(rfl,e):=a0n hb
   .show nomatch e
   .show nomatch e
   .rfl
 byValue:=λk v h=>by
  let(i,t,rfl,rfl)||(x,t,rfl,rfl)||(rfl,rfl):=a0n h<;>rfl
 pyHash:=λhv h=>by
  let(i,t,rfl,rfl)||(x,t,rfl,rfl)||(rfl,rfl):=a0n hv
  .show wpAny_pyHash_int h
  .show wpAny_pyHash_str h
  .show PySem.W.pyHash_slot (T:="NoneType") rfl F.slot_NoneType_hash F.entry_NoneType_hash (F.args_NoneType_hash_1 _) (beq_builtin_none _) (.inl rfl) (gE (gF (gE (wpAny_mkInt (gF (_,_,rfl,h))))))
 eqBool:=λhu hv h=>by
  let(i,t,rfl,rfl)||(x,t,rfl,rfl)||(rfl,rfl):=a0n hu
  .let(j,u,rfl,rfl)||(y,u,rfl,rfl)||(rfl,rfl):=a0n hv
   .rw[b5N]at h;show wpAny_eqBool_int h
   .rw[show decide ((Sum.inl (be i):Key)=Sum.inr y)=kQ from a3M (by simp)]at h;show SeqAt.EqAt.int_str i t y u _ _ _ _ h
   .rw[show decide ((Sum.inl (be i):Key)=Sum.inl gV)=kQ from a3M (by simp)]at h;show SeqAt.EqAt.int_none i t _ _ _ _ h
  .let(j,u,rfl,rfl)||(y,u,rfl,rfl)||(rfl,rfl):=a0n hv
   .rw[show decide ((Sum.inr x:Key)=Sum.inl (be j))=kQ from a3M (by simp)]at h;show SeqAt.EqAt.str_int x t j u _ _ _ _ h
   .rw[b5O]at h;show wpAny_eqBool_str h
   .rw[show decide ((Sum.inr x:Key)=Sum.inl gV)=kQ from a3M (by simp)]at h;show SeqAt.EqAt.str_none x t _ _ _ _ h
  .let(j,u,rfl,rfl)||(y,u,rfl,rfl)||(rfl,rfl):=a0n hv
   .rw[show decide ((Sum.inl gV:Key)=Sum.inl (be j))=kQ from a3M (by simp)]at h;show SeqAt.EqAt.none_int j u _ _ _ _ h
   .rw[show decide ((Sum.inl gV:Key)=Sum.inr y)=kQ from a3M (by simp)]at h;show SeqAt.EqAt.none_str y u _ _ _ _ h
   .rw[decide_eq_true rfl]at h;unfold PySem.eqBool;show g6 ?_;show iu (λ_=>gE (iB (gF h))) λhab=>absurd rfl hab
 «strs»:=λk x t v h=>by
  let(i,u,rfl,e)||(y,u,rfl,e)||(rfl,e):=a0n h
  .show nomatch e
  .injection e with e1 _
   subst e1;cases v<;>rfl
  .show nomatch e
def a5R(prog:gM)(w:World)(i:Int)(t:Tok):(a0j prog w).is (.inl (be i)) (.int i t)=kP:=a8n i t
def a5S(prog:gM)(w:World)(x:Str)(t:Tok):(a0j prog w).is (.inr x) (.str x t)=kP:=a8o x t
inductive V where
 |non |bl (b:Bool) |int (i:Int) |str (x:Str) |byt (b:Array UInt8) |flt (b:UInt64) |ref (a:Addr) |ty (n:String)
 deriving DecidableEq
def RelV:V->Value->Prop
 |.non,u=>u=Value.none
 |.bl b,u=>u=Value.bool b
 |.int i,u=>∃t,u=Value.int i t
 |.str x,u=>∃t,u=Value.str x t
 |.byt b,u=>∃t,u=Value.bytes b t
 |.flt b,u=>∃t,u=Value.float b t
 |.ref a,u=>u=Value.ref a
 |.ty n,u=>u=Value.type n
abbrev Vals:List V->List Value->Prop:=Paired RelV
def Vals.length(r:Vals xs us):xs.length=us.length:=Paired.length r
theorem Vals.get:∀{xs:List V}{us:List Value}{i:Nat}{x:V},Vals xs us->xs[i]?=be x->∃u,us[i]?=be u/\RelV x u
 |_,_,_,_,.nil,e=>by simp at e
 |_,_,0,_,.cons r _,e=>by simp at e;subst e;show(_,rfl,r)
 |_,_,i+1,x,.cons _ t,e=>by
  let(u,b,a):=Vals.get t ↑e;show(u,↑b,a)
theorem Vals.set(r:RelV x u):∀{xs:List V}{us:List Value}(i:Nat),Vals xs us->Vals (xs.set i x) (us.set i u)
 |_,_,_,.nil=>.nil
 |_,_,0,.cons _ t=>.cons r t
 |_,_,i+1,.cons q t=>.cons q (Vals.set r i t)
def Vals.append:∀{xs ys:List V}{us ws:List Value},Vals xs us->Vals ys ws->Vals (xs++ys) (us++ws):=by ext z0 y0 x0 w0 v0;induction v0 with
 |nil=>ext s;show s
 |cons r t I0=>ext s;show .cons r (I0 s)
theorem Vals.take:∀{xs:List V}{us:List Value}(n:Nat),Vals xs us->Vals (xs.take n) (us.take n)
 |_,_,0,_=>.nil
 |_,_,_+1,.nil=>.nil
 |_,_,n+1,.cons r t=>.cons r (Vals.take n t)
theorem Vals.drop:∀{xs:List V}{us:List Value}(n:Nat),Vals xs us->Vals (xs.drop n) (us.drop n)
 |_,_,0,r=>r
 |_,_,_+1,.nil=>.nil
 |_,_,n+1,.cons _ t=>Vals.drop n t
def Vals.none_of:∀{xs:List V}{us:List Value}{i:Nat},Vals xs us->xs[i]?=gV->us[i]?=gV:=λ{a d i} r e=>by
 let b:=r.length;let c:=fh.mp e;show fh.mpr (by lia)
def RelO:Option V->Option Value->Prop
 |some v,be u=>RelV v u
 |none,gV=>True
 |_,_=>False
def KV{κ:Type}:List (κ×V)->List (κ×Value)->Prop:=Paired λ(p:κ×V) (q:κ×Value)=>p.1=q.1/\RelV p.2 q.2
noncomputable def kV:Key->V
 |.inl (be i)=>.int i
 |.inl gV=>.non
 |.inr x=>.str x
inductive HO where
 |lst (xs:List V)
 |tup (xs:List V)
 |dK (kvs:List (Key×V)) |dT (kvs:List (List Key×V))
 |set (S:Int->Bool) (n:Nat)
 |ins (C dx:Addr) (fs:List (Str×V))
 |own (x:Addr)
 |xd (fs:List (Str×V))
 |met (f x:Addr)
 |rng (lo hi:Int)
 |frz (o:Obj) (u:HO)
 |tbl (ps:Array Value)
 |ext (φ:Heap->Prop)
abbrev Hp:=Addr->Option HO
noncomputable def upd(H:Hp)(a:Addr)(o:HO):Hp:=λb=>if b=a then be o else H b
def a0f:upd H a o a=be o:=by unfold upd;rw[if_pos rfl]
def a0d(h:b≠a):upd H a o b=H b:=by unfold upd;rw[if_neg h]
def b8O{H:Hp}(h:H a=be o)(h':H b=be kR)(d:o≠kR):a≠b:=by
 ext e;subst e;rw[h]at h';show d (be.inj h')
def a0t{H:Hp}(h:H a=be o)(h':H b=gV):a≠b:=by
 ext e;subst e;rw[h]at h';cases h'
section
variable(P:gM)(w:World)
def ObjOk(H:Hp)(h:Heap)(a:Addr):HO->Prop
 |.lst xs=>xs.length<=gH/\∃(its:List Value)(n:Nat),Vals xs its/\h.get? a=be { cls:=.type "list",data:=.seq its.toArray n }
 |.tup xs=>xs.length<=gH/\∃its:List Value,Vals xs its/\IsTup h a its.toArray
 |.dK kvs=>kvs.length<=gH/\(a==g9)=kQ/\∃vs,KV kvs vs/\h.DictOf (a0j P w) a vs
 |.dT kvs=>kvs.length<=gH/\(a==g9)=kQ/\∃xs:List (List Key×Addr×Value),
   Paired (λ(p:List Key×V) (q:List Key×Addr×Value)=>p.1=q.1/\H q.2.1=be (.tup (p.1.map kV))/\RelV p.2 q.2.2) kvs xs /\
   ∃o es ep,h.get? a=be o/\o.ExactDict/\o.data=.dict es ep/\es.toList=xs.map (entryOfKey (jl (a0j P w)))/\(xs.map (·.1)).Nodup
 |.set S n=>h.SetOf (jm P w) a S n
 |.ins C dx fs=>H dx=be (.own a)/\fs.length<=1000/\dx≠a/\h.get? a=be (PySem.W.instObj C dx) /\
   ∃mA,h.Ns1 dx mA/\(∀f,RelO (fs.lookup f) (mA f))/\PySem.Within mA (fs.map (·.1))
 |.own _=>∃o,h.get? a=be o
 |.xd fs=>∃mA,h.Ns1 a mA/\∀f,RelO (fs.lookup f) (mA f)
 |.rng lo hi=>∃t u v,h.get? a=be { cls:=.type "range",data:=.fields #[.int lo t,.int hi u,.int 1 v] }
 |.frz o u=>h.get? a=be o/\ObjOk H h a u
 |.tbl ps=>h.get? a=be { cls:=.none,data:=.fields ps }
 |.met f x=>h.get? a=be (PySem.W.methodObj (.ref f) (.ref x))
 |.ext φ=>φ h/\(∃o,h.get? a=be o)/\∀h1 h2:Heap,φ h1->(∀o,h1.get? a=be o->h2.get? a=be o)->φ h2
def HOk(H:Hp)(h:Heap):Prop:=∀a o,H a=be o->ObjOk P w H h a o
end
section
variable{h h':Heap}{a:Addr}{o:HO}
def ObjOk.lt(x:ObjOk P w H h a o):a<h.objs.size:=by
 cases o with
 |lst xs=>let(_,_,_,_,e):=x;show Heap.lt_size e
 |tup xs=>let(_,_,_,p):=x;show p.lt
 |dK kvs=>let(_,_,_,_,o,_,_,e,_):=x;show Heap.lt_size e
 |dT kvs=>let(_,_,_,_,o,_,_,e,_):=x;show Heap.lt_size e
 |set S n=>let(o,_,_,_,e,_):=x;show Heap.lt_size e
 |ins C dx fs=>let(_,_,_,e,_):=x;show Heap.lt_size e
 |own y=>let(_,e):=x;show Heap.lt_size e
 |xd fs=>let(_,(_,_,_,e,_),_):=x;show Heap.lt_size e
 |rng lo hi=>let(_,_,_,e):=x;show Heap.lt_size e
 |frz ob u=>let(e,_):=x;show Heap.lt_size e
 |tbl ps=>show Heap.lt_size (x)
 |met f y=>show Heap.lt_size (x)
 |ext φ=>let(_,(_,e),_):=x;show Heap.lt_size e
def Paired.mapP{α β:Type}{F G:α->β->Prop}:∀{l₁:List α}{l₂:List β},Paired F l₁ l₂->(∀a b,F a b->G a b)->Paired G l₁ l₂:=by ext z0 y0 x0;induction x0 with
 |nil=>ext _;show .nil
 |cons r t I0=>ext f;show .cons (f _ _ r) (I0 f)
def ObjOk.stay(x:ObjOk P w H h a o)(k:∀b u,(b=a\/H b=be (.own a))->h.get? b=be u->h'.get? b=be u)
  (ho:∀b,H b=be (.own a)->H' b=be (.own a)) (ht:∀b xs,H b=be (.tup xs)->H' b=be (.tup xs)):ObjOk P w H' h' a o:=by
 induction o with
 |lst s=>let(z,l,n,r,e):=x;show(z,l,n,r,k _ _ (.inl rfl) e)
 |tup s=>let(z,l,r,g,e,c):=x;show(z,l,r,g,k _ _ (.inl rfl) e,c)
 |dK kvs=>let(z,y,F,r,g,i,j,e,c):=x;show(z,y,F,r,g,i,j,k _ _ (.inl rfl) e,c)
 |dT kvs=>
  let(z,y,s,r,g,i,j,e,c):=x;show(z,y,s,Paired.mapP r λp q z=>(z.1,ht _ _ z.2.1,z.2.2),g,i,j,k _ _ (.inl rfl) e,c)
 |set S n=>let(g,i,j,t,e,c):=x;show(g,i,j,t,k _ _ (.inl rfl) e,c)
 |ins C dx fs=>
  let(d,z,D,e,A,(m,i,j,E,c),r):=x;show(ho _ d,z,D,k _ _ (.inl rfl) e,A,(m,i,j,k _ _ (.inr d) E,c),r)
 |own y=>let(g,e):=x;show(g,k _ _ (.inl rfl) e)
 |xd fs=>let(A,(m,i,j,e,c),r):=x;show(A,(m,i,j,k _ _ (.inl rfl) e,c),r)
 |rng lo hi=>let(t,u,v,e):=x;show(t,u,v,k _ _ (.inl rfl) e)
 |frz g u ih=>let(e,q):=x;show(k _ _ (.inl rfl) e,ih q)
 |tbl ps=>
  show k a _ (.inl rfl) x
 |met f y=>
  show k a _ (.inl rfl) x
 |ext φ=>let(p,(o,e),B):=x;show(B _ _ p λo q=>k _ _ (.inl rfl) q,(o,k _ _ (.inl rfl) e),B)
def HOk.lt(x:HOk P w H h)(e:H a=be o):a<h.objs.size:=(x a o e).lt
def HOk.fresh(x:HOk P w H h)(e:h.objs.size<=a):H a=gV:=by
 cases q:H a with
 |none=>rfl
 |some u=>show absurd (bo (x.lt q) e) (cm _)
def HOk.kept(x:HOk P w H h)(k:∀b u,h.get? b=be u->h'.get? b=be u):HOk P w H h':=λa o e=>
 (x a o e).stay (λb u _ q=>k b u q) (λ_ q=>q) λ_ _ q=>q
def HOk.laid(x:HOk P w H h)(k:∀b u,h.get? b=be u->h'.get? b=be u)(hp:h.objs.size<=a)(new:ObjOk P w (upd H a o) h' a o):HOk P w (upd H a o) h':=λb u e=>by
 let d:=x.fresh hp
 by_cases hb:b=a
 .subst hb;rw[a0f]at e;cases e;show new
 .rw[a0d hb]at e;show (x b u e).stay (λc v _ q=>k c v q) (λc q=>by rw[a0d (a0t q d)];show q) λc f q=>by rw[a0d (a0t q d)];show q
end
def Rd(H:Hp)(a:Addr)(u:HO):Prop:=H a=be u\/∃o,H a=be (.frz o u)
def Rd.of(h:H a=be kR):Rd H a kR:=.inl h
def Rd.ok(r:Rd H a kR)(x:HOk P w H h):ObjOk P w H h a kR:=by
 let r||(o,r):=r
 .show x a kR r
 .let(_,q):=x a _ r;show q
def Mut:Option HO->Prop
 |some (.lst _)=>True
 |some (.dK _)=>True
 |some (.dT _)=>True
 |some (.set _ _)=>True
 |some (.ins _ _ _)=>True
 |some (.ext _)=>True
 |_=>False
section
variable{h h':Heap}{x e:Addr}{o':HO}
def HOk.write(ok:HOk P w H h)(mu:Mut (H x))(he:e=x\/H e=be (.own x))(k:∀b u,b≠e->h.get? b=be u->h'.get? b=be u)(heo:∃u,h'.get? e=be u)
  (new:ObjOk P w (upd H x o') h' x o'):HOk P w (upd H x o') h':=λb u q=>by
 let a:∀c y,H c=be (.own y)->c≠x:=λc y r z=>by subst z;rw[r]at mu;show mu
 let g:∀c d,H c=be (.tup d)->c≠x:=λc d r z=>by subst z;rw[r]at mu;show mu
 by_cases hb:b=x
 .subst hb;rw[a0f]at q;cases q;show new
 .rw[a0d hb]at q
  by_cases hbe:b=e
  .let i:H b=be (.own x):=by
    let z||z:=he
    .show absurd (hbe.trans z) hb
    .rw[hbe];show z
   rw[q]at i;cases i;let(v,j):=heo;show(v,by rw[hbe];show j)
  .show (ok b u q).stay (λc v f r=>k c v ?_ r) (λc r=>by rw[a0d (a c b r)];show r) λc d r=>by rw[a0d (g c d r)];show r
   let rfl||f:=f
   .cbv
   .grind
end
structure Un (fs ex:List Addr) (H H':Hp) (h h':Heap):Prop where
 keep:∀b o,h.get? b=be o->H b=gV->b∉fs->b∉ex->h'.get? b=be o
 slot:∀b o,h.get? b=be o->H b=gV->b∈fs->b∉ex->∃sl,h'.get? b=be { o with slots:=sl }
 free:∀b o,h.get? b=be o->H b=gV->b∉ex->H' b=gV
 there:∀b o,h.get? b=be o->b∉ex->∃o',h'.get? b=be o'
 tups:∀b xs,H b=be (.tup xs)->H' b=be (.tup xs)
 frzs:∀b o u,H b=be (.frz o u)->H' b=be (.frz o u)
 tbls:∀b ps,H b=be (.tbl ps)->∃more,H' b=be (.tbl (ps++more))
section
variable{fs fs' ex ex':List Addr}{H1 H2:Hp}{h h1 h2 h':Heap}{a x e:Addr}{o:HO}
noncomputable def Un.any(u:Un fs ex H H1 h h1)(q:h.get? b=be ob)(n:H b=gV)(hx:b∉ex):∃sl,h1.get? b=be { ob with slots:=sl }:=by
 by_cases hb:b∈fs
 .show u.slot b ob q n hb hx
 .show(ob.slots,u.keep b ob q n hb hx)
theorem Un.trans(a:Un fs ex H H1 h h1)(b:Un fs ex H1 H2 h1 h2):Un fs ex H H2 h h2 where
 keep:=λc ob q n hc hx=>b.keep c ob (a.keep c ob q n hc hx) (a.free c ob q n hx) hc hx
 slot:=λc ob q n hc hx=>by
  let(sl,e1):=a.slot c ob q n hc hx;let(sl',e2):=b.slot c _ e1 (a.free c ob q n hx) hc hx;show(sl',e2)
 free:=λc ob q n hx=>by
  let(o',e1):=a.there c ob q hx;show b.free c o' e1 (a.free c ob q n hx) hx
 there:=λc ob q hx=>by
  let(o',e1):=a.there c ob q hx;show b.there c o' e1 hx
 tups:=λc xs q=>b.tups c xs (a.tups c xs q)
 frzs:=λc ob xs q=>b.frzs c ob xs (a.frzs c ob xs q)
 tbls:=λc ps q=>by
  let(m1,e1):=a.tbls c ps q;let(m2,e2):=b.tbls c _ e1;show(m1++m2,by rw[e2,fi])
def Un.kept(k:∀b u,h.get? b=be u->h'.get? b=be u):Un fs ex H H h h':=
 (λb a q _ _ _=>k b a q,λb a q _ _ _=>(a.slots,k b a q),λ_ _ _ n _=>n,λb a q _=>(a,k b a q),λ_ _ q=>q,λ_ _ _ q=>q,λ_ c q=>(#[],by rw[q];simp))
def Un.refl:Un fs ex H H h h:=Un.kept λ_ _ q=>q
theorem Un.laid(k:∀b u,h.get? b=be u->h'.get? b=be u)(hp:h.objs.size<=a)(hn:H a=gV):Un fs ex H (upd H a o) h h' where
 keep:=λb u q _ _ _=>k b u q
 slot:=λb u q _ _ _=>(u.slots,k b u q)
 free:=λb u q n _=>by rw[a0d (aS (bo (Heap.lt_size q) hp))];show n
 there:=λb u q _=>(u,k b u q)
 tups:=λb xs q=>by rw[a0d (a0t q hn)];show q
 frzs:=λb u xs q=>by rw[a0d (a0t q hn)];show q
 tbls:=λb ps q=>(#[],by rw[a0d (a0t q hn),q];simp)
def Un.write(mu:Mut (H x))(he:e=x\/H e=be (.own x))(k:∀b u,b≠e->h.get? b=be u->h'.get? b=be u)(heo:∃u,h'.get? e=be u):Un fs ex H (upd H x o) h h':=by
 let d:∀b,H b=gV->b≠x:=λb n z=>by subst z;rw[n]at mu;show mu
 let c:∀b,H b=gV->b≠e:=λb n z=>by simp_all
 let a:∀b u,H b=be u->¬ Mut (be u)->b≠x:=λb u q g z=>by subst z;rw[q]at mu;show g mu
 show(λb u q n _ _=>k b u (c b n) q,λb u q n _ _=>(u.slots,k b u (c b n) q),λb u q n _=>by rw[a0d (d b n)];show n,λb u q _=>?_,
  λb f q=>by rw[a0d (a b _ q λz=>z)];show q,λb u f q=>by rw[a0d (a b _ q λz=>z)];show q,λb i q=>(#[],by rw[a0d (a b _ q λz=>z),q];simp))
 by_cases hbe:b=e
 .grind
 .show(u,k b u hbe q)
def Un.mono(u:Un fs ex H H1 h h1)(hs:∀b∈fs,b∈fs')(hx:∀b∈ex,b∈ex'):Un fs' ex' H H1 h h1:=
 (λb c q n d a=>u.keep b c q n (λz=>d (hs b z)) λz=>a (hx b z),λ_ _ q n _ a=>u.any q n λz=>a (hx _ z),λb c q n a=>u.free b c q n λz=>a (hx b z),λb c q a=>u.there b c q λz=>a (hx b z),u.tups,u.frzs,u.tbls)
end
noncomputable def trk(h:Heap)(H:Hp):List Addr:=(a9 h.objs.size).filter λa=>(H a).isSome
noncomputable def hidT(h:Heap)(H:Hp):Heap:=PySem.W.hideAll h (trk h H)
def a8p(h:Heap)(H:Hp):(hidT h H).objs.size=h.objs.size:=PySem.W.hideAll_size _ _
def a37(e:h.get? b=be o)(n:H b=gV):(hidT h H).get? b=be o:=
 PySem.W.hideAll_get _ e λa=>by
  let q:=(bD.mp a).2;rw[n]at q;simp at q
def b3q(e:(hidT h H).get? b=be o):h.get? b=be o/\H b=gV:=by
 let a:=PySem.W.of_hideAll _ e;show(a,?_);cases q:H b with
 |none=>rfl
 |some x=>
  let c:b∈trk h H:=bD.mpr (ca.mpr (Heap.lt_size a),by simp[q]);let z:(hidT h H).get? b=gV:=PySem.W.hideAll_none _ c;rw[z]at e;cases e
noncomputable def b3r(g h:Heap)(L:Addr):List (Addr×Obj):=(a9 h.objs.size).filterMap λa=>if a=L\/(g.get? a).isSome=kP then gV else (h.get? a).map λo=>(a,o,)
noncomputable def rest(g h:Heap)(L d:Addr):List (Addr×Obj):=(b3r g h L).filter λp=>decide (p.1≠d)
structure Mod (K:Fg) (mg:Str->Option Value) (base:Heap):Prop where
 kin:K.In base
 glob:base.Ns gZ mg
 blt:∃mb,base.Ns jo mb/\∀x:Str,x≠"__name__"->mb x=ib x
 nolimit:base.NoLimit
structure Cx where
 prog:gM
 w:World
 K:Fg
 mg:Str->Option Value
 base:Heap
 A:Around
 N:List Str
 s₀:Shared
 H₀:Hp
 env:Env
 outer:List Env
 stack:List Env
 ex:List Addr
 fn:Str->Bool
 calm:Bool
 pn:List (Addr×Obj)
 xe:Value->Shared->Prop
noncomputable def frs(l:List Env):List Addr:=l.filterMap (·.frame)
abbrev Cx.fs(X:Cx):List Addr:=frs X.outer
def Vis(sc:Scope)(x:Str):Prop:=sc.names.lookup x=be .local\/sc.names.lookup x=be .cell\/sc.names.lookup x=be .free
def Loc(sc:Scope)(x:Str):Prop:=sc.names.lookup x=be .local\/sc.names.lookup x=be .cell
def Look(env:Env)(h:Heap)(m:Str->Option Value)(x:Str)(u:Value):Prop:=
 (env.kindOf x=be .local/\m x=be u)\/((env.kindOf x=be .cell\/env.kindOf x=be .free)/\∃c,env.cells.lookup x=be c/\h.IsCell c (be u))
structure Cx.Ok (X:Cx):Prop where
 mod:Mod X.K X.mg X.base
 kind:X.env.scope.kind=.function
 glob:X.env.globals=gZ
 blt:X.env.builtins=jo
 above:X.s₀.heap.objs.size<=X.env.locals
 inj:∀x y c,X.env.cells.lookup x=be c->X.env.cells.lookup y=be c->x=y
 has:∀x,(X.env.kindOf x=be .cell\/X.env.kindOf x=be .free)->∃c,X.env.cells.lookup x=be c
 cab:∀x c,X.fn x=kP->X.env.cells.lookup x=be c->X.s₀.heap.objs.size<=c
 hd:X.calm=kP->X.A.handled=gV
 frames:X.A.frames=be X.stack
 stk:X.stack=X.outer\/(X.stack=X.env::X.outer/\X.env.frame=be X.env.locals)
 exf:∀b∈X.ex,b≠X.env.locals/\∀x c,X.env.cells.lookup x=be c->c≠b
 bs:∀b o,X.base.get? b=be o->X.s₀.heap.get? b=be o/\X.H₀ b=gV
 bsz:X.base.objs.size<=X.s₀.heap.objs.size
 noex:∀b o,X.base.get? b=be o->b∉X.ex
 exfs:∀b∈X.ex,b∉X.fs
 funs:X.s₀.heap.FunFrames X.base X.outer
 frf:∀b∈X.fs,X.H₀ b=gV
structure Inv (X:Cx) (pins:List (Addr×Obj)) (σ:List (Option V)) (H:Hp) (s:Shared):Prop where
 ok:X.Ok
 os:s.os=X.s₀.os
 bare:iw s.gens
 base:Un X.fs X.ex X.H₀ H X.s₀.heap s.heap
 loc:∃m,s.heap.Ns X.env.locals m/\∀(i:Nat)(x:Str)(v:V),X.N[i]?=be x->σ[i]?=be (be v)->Vis X.env.scope x->∃u,RelV v u/\Look X.env s.heap m x u
 cell:∀x c,X.env.cells.lookup x=be c->∃v,s.heap.IsCell c v
 free:H X.env.locals=gV
 freeC:∀x c,X.env.cells.lookup x=be c->H c=gV
 pin:∀p∈X.pn++pins,s.heap.get? p.1=be p.2/\H p.1=gV/\p.1≠X.env.locals/\p.1∉X.fs/\∀v,p.2.data≠.cell v
 hok:HOk X.prog X.w H s.heap
 len:σ.length=X.N.length
section
variable{σ:List (Option V)}{h':Heap}
def Cx.Ok.nofr(ok:X.Ok)(e:X.base.get? b=be o):b∉X.fs:=λa=>by
 let:=(ok.funs.mem a).1
 rw[e]at this;cases this
def Inv.bs(I:Inv X pins σ H s):∀b o,X.base.get? b=be o->s.heap.get? b=be o/\H b=gV:=λb o e=>
 (I.base.keep b o (I.ok.bs b o e).1 (I.ok.bs b o e).2 (I.ok.nofr e) (I.ok.noex b o e),I.base.free b o (I.ok.bs b o e).1 (I.ok.bs b o e).2 (I.ok.noex b o e))
def Inv.bk(I:Inv X pins σ H s):∀b o,X.base.get? b=be o->s.heap.get? b=be o:=λb o e=>(I.bs b o e).1
def Inv.mod(I:Inv X pins σ H s):Mod X.K X.mg X.base:=I.ok.mod
def Inv.kIn(I:Inv X pins σ H s):X.K.In s.heap:=I.ok.mod.kin.keeps I.bk
def Inv.nolimit(I:Inv X pins σ H s):s.heap.NoLimit:=I.ok.mod.nolimit.keeps I.bk
def Inv.fr(I:Inv X pins σ H s):∃m,Fr X.base X.env.locals s.heap m:=
 let (m,hn,_):=I.loc
 (m,hn,I.bk,aU I.ok.bsz I.ok.above)
def Inv.lt(I:Inv X pins σ H s):X.env.locals<s.heap.objs.size:=let (_,hn,_):=I.loc;hn.lt
def Inv.sz(I:Inv X pins σ H s):X.s₀.heap.objs.size<=s.heap.objs.size:=aU I.ok.above (bL I.lt)
def Inv.nofs(I:Inv X pins σ H s)(h:s.heap.objs.size<=a):a∉X.fs:=λc=>by
 let(_,o,b,_):=I.ok.funs.mem c;show absurd (bo (Heap.lt_size b) (aU I.sz h)) (cm _)
def Inv.cne(I:Inv X pins σ H s):∀x c,X.env.cells.lookup x=be c->c≠X.env.locals:=λx c e z=>by
 let(v,o,d,b):=I.cell x c e;let(m,(i,g,h,a,f,_),_):=I.loc;rw[z,a]at d;cases d;rw[f]at b;cases b
def Inv.funs(I:Inv X pins σ H s):s.heap.FunFrames X.base X.outer:=by
 let g:∀l,(∀b∈frs l,b∈X.fs)->X.s₀.heap.FunFrames X.base l->s.heap.FunFrames X.base l:=by
  ext l
  induction l with
  |nil=>ext _ _;trivial
  |cons env r ih=>
   ext f h;let(k,(L,o,c,n,m,j),i):=h;let d:=f L (by unfold frs;rw[bV,c];show bM);let(p,e):=I.base.slot L o m (I.ok.frf L d) d λz=>I.ok.exfs L z d;show(k,(L,_,c,n,e,j),ih (λb a=>f b (by unfold frs;rw[bV,c];show bR _ a)) i)
 show g X.outer (λ_ a=>a) I.ok.funs
def Inv.stack(I:Inv X pins σ H s):s.heap.FunFrames X.base X.stack:=by
 let e||(e,hf):=I.ok.stk
 .rw[e];show I.funs
 .rw[e];let(m,a,_):=I.loc;show .cons (by rw[I.ok.kind];decide) hf a ?_ I.funs;show Heap.get?_none_of_le (aU I.ok.bsz I.ok.above)
def Inv.stkSub(I:Inv X pins σ H s):∀b∈frs X.stack,b∈X.env.locals::X.fs:=λb a=>by
 let e||(e,hf):=I.ok.stk
 .rw[e]at a;show bR _ a
 .rw[e]at a;unfold frs at a;rw[bV,hf]at a;show a
def Inv.stkFree(I:Inv X pins σ H s):∀b∈frs X.stack,H b=gV:=λb a=>by
 let e||a:=aL.mp (I.stkSub b a)
 .rw[e];show I.free
 .let(_,o,c,_):=I.ok.funs.mem a;show I.base.free b o c (I.ok.frf b a) λz=>I.ok.exfs b z a
def Inv.step{ch:List Addr}(I:Inv X pins σ H s)
  (hch:∀b∈ch,(b∈X.ex\/X.s₀.heap.objs.size<=b)/\b≠X.env.locals/\(∀x c,X.env.cells.lookup x=be c->c≠b)/\∀p∈X.pn++pins,p.1≠b)
  (keep:∀b o,b≠X.env.locals->b∉X.fs->b∉ch->s.heap.get? b=be o->H b=gV->h'.get? b=be o)
  (slot:∀b o,b≠X.env.locals->b∈X.fs->b∉ch->s.heap.get? b=be o->H b=gV->∃sl,h'.get? b=be { o with slots:=sl }) (free:∀b o,b∉ch->s.heap.get? b=be o->H b=gV->H' b=gV)
  (there:∀b o,b∉ch->s.heap.get? b=be o->∃o',h'.get? b=be o')
  (tups:∀b xs,H b=be (.tup xs)->H' b=be (.tup xs)) (frzs:∀b o u,H b=be (.frz o u)->H' b=be (.frz o u)) (tbls:∀b ps,H b=be (.tbl ps)->∃more,H' b=be (.tbl (ps++more)))
  (ns:∀m,s.heap.Ns X.env.locals m->h'.Ns X.env.locals m) (hok:HOk X.prog X.w H' h') (hg:iw g') :
  Inv X pins σ H' { s with heap:=h',gens:=g',drawn:=d',toks:=t' }:=by
 let C:∀b o,X.s₀.heap.get? b=be o->b≠X.env.locals:=λb o e=>aS (bo (Heap.lt_size e) I.ok.above);let j:∀b o,X.s₀.heap.get? b=be o->b∉X.ex->b∉ch:=λb o e a h=>by
  let z||z:=(hch b h).1
  .grind
  .show absurd (bo (Heap.lt_size e) z) (cm _)
 let t:∀x c,X.env.cells.lookup x=be c->∀v,s.heap.IsCell c v->h'.IsCell c v:=by
  ext x c e v ⟨o,y,E⟩;let g:=λz=>(hch c z).2.2.1 x c e rfl
  by_cases hc:c∈X.fs
  .let(S,q):=slot c o (I.cne x c e) hc g y (I.freeC x c e);show(_,q,E)
  .show(o,keep c o (I.cne x c e) hc g y (I.freeC x c e),E)
 show(I.ok,I.os,hg,(λb o e n h a=>(keep b o (C b o e) h (j b o e a) (I.base.keep b o e n h a) (I.base.free b o e n a)),λb o e n h a=>?_,λb o e n a=>?_,λb o e a=>?_,λb B e=>tups b B (I.base.tups b B e),λb o B e=>frzs b o B (I.base.frzs b o B e),λb Q e=>?_),?_,λx c e=>?_,?_,λx c e=>?_,λp L=>?_,hok,I.len)
 .let(S,f):=I.base.slot b o e n h a;let(F,A):=slot b _ (C b o e) h (j b o e a) f (I.base.free b o e n a);show(F,A)
 .let(D,f):=I.base.there b o e a;show free b D (j b o e a) f (I.base.free b o e n a)
 .let(D,f):=I.base.there b o e a;show there b D (j b o e a) f
 .let(N,f):=I.base.tbls b Q e;let(U,A):=tbls b _ f;show(N++U,by rw[A,fi])
 .let(m,T,M):=I.loc;show(m,ns m T,λi x v f A R=>?_);let(u,r,l):=M i x v f A R;show(u,r,?_);let l||(k,c,e,z):=l
  .show .inl l
  .show .inr (k,c,e,t x c e _ z)
 .let(v,z):=I.cell x c e;show(v,t x c e v z)
 .let(m,(o,_,_,y,_),_):=I.loc;show free _ o (λz=>(hch _ z).2.1 rfl) y I.free
 .let(v,o,y,E):=I.cell x c e;show free c o (λz=>(hch c z).2.2.1 x c e rfl) y (I.freeC x c e)
 .let(e,n,G,J,d):=I.pin p L;let g:=λz=>(hch p.1 z).2.2.2 p L rfl;show(keep p.1 p.2 G J g e n,free p.1 p.2 g e n,G,J,d)
def Inv.un(I:Inv X pins σ H s)(u:Un X.fs [] H H' s.heap h')(hok:HOk X.prog X.w H' h'):Inv X pins σ H' { s with heap:=h',toks:=t' }:=by
 let(m,(o,k,q,g,r),_):=id I.loc;let(l,j):=u.any g I.free (by simp);show I.step (ch:=[]) (λ_ z=>nomatch z) (λb o _ c _ e n=>u.keep b o e n c (by simp)) (λb o _ c _ e n=>u.slot b o e n c (by simp)) (λb o _ e n=>u.free b o e n (by simp)) (λb o _ e=>u.there b o e (by simp)) u.tups u.frzs u.tbls (λt h=>by
  let(p,d,f,a,i):=h;rw[g]at a;cases a;show(_,d,f,j,i)) hok I.bare
def Inv.call(I:Inv X pins σ H s)(u:Un (frs X.stack) ch H H' s.heap h')(hok:HOk X.prog X.w H' h')(hg:iw g')
  (hch:∀b∈ch,(b∈X.ex\/X.s₀.heap.objs.size<=b)/\b≠X.env.locals/\(∀x c,X.env.cells.lookup x=be c->c≠b)/\∀p∈X.pn++pins,p.1≠b) :
  Inv X pins σ H' { s with heap:=h',gens:=g',drawn:=d',toks:=t' }:=by
 let(m,(o,q,y,i,r),_):=id I.loc;let(t,f):=u.any i I.free λz=>(hch _ z).2.1 rfl;show I.step hch (λb o f l a e n=>u.keep b o e n (λz=>(aL.mp (I.stkSub b z)).elim f l) a) (λb o _ _ a e n=>u.any e n a) (λb o a e n=>u.free b o e n a) (λb o a e=>u.there b o e a) u.tups u.frzs u.tbls (λA j=>by
  let(v,g,h,d,k):=j;rw[i]at d;cases d;show(_,g,h,f,k)) hok hg
def Inv.turned(I:Inv X pins σ H s)(k:∀b o,b≠it->s.heap.get? b=be o->h'.get? b=be o)(hn:H it=gV)(hL:it≠X.env.locals)
  (h1:it∈X.ex\/X.s₀.heap.objs.size<=it) (h2:∀x c,X.env.cells.lookup x=be c->c≠it) (h3:∀p∈X.pn++pins,p.1≠it):Inv X pins σ H { s with heap:=h',toks:=t' }:=by
 let d:∀b u,H b=be u->b≠it:=λb u e z=>by rw[z,hn]at e;cases e
 show I.step (ch:=[it]) (λb i=>?_) (λb o _ _ a e _=>k b o (λz=>a (by simp[z])) e) (λb o _ _ a e _=>(o.slots,k b o (λz=>a (by simp[z])) e)) (λ_ _ _ _ n=>n)
  (λb o a e=>(o,k b o (λz=>a (by simp[z])) e)) (λ_ _ e=>e) (λ_ _ _ e=>e) (λb l e=>(#[],by rw[e];simp)) (λm h=>?_) (λb u e=>?_) I.bare
 .let e:b=it:=↑i
  subst e;show(h1,hL,h2,h3)
 .let(o,f,j,g,r):=h;show(o,f,j,k _ o (Ne.symm hL) g,r)
 .show (I.hok b u e).stay (λc v a q=>k c v ?_ q) (λ_ q=>q) λ_ _ q=>q;let z||z:=a
  .rw[z];show d b u e
  .show d c _ z
def Inv.tok(I:Inv X pins σ H s)(t:Nat):Inv X pins σ H { s with toks:=t }:=I.un Un.refl I.hok
def Inv.kept(I:Inv X pins σ H s)(k:∀b u,s.heap.get? b=be u->h'.get? b=be u):Inv X pins σ H { s with heap:=h',toks:=t' }:=I.un (Un.kept k) (I.hok.kept k)
def Inv.laid(I:Inv X pins σ H s)(k:∀b u,s.heap.get? b=be u->h'.get? b=be u)(hp:s.heap.objs.size<=a)(new:ObjOk X.prog X.w (upd H a o) h' a o) :
  Inv X pins σ (upd H a o) { s with heap:=h',toks:=t' }:=I.un (Un.laid k hp (I.hok.fresh hp)) (I.hok.laid k hp new)
def Inv.write(I:Inv X pins σ H s)(mu:Mut (H x))(he:e=x\/H e=be (.own x))(k:∀b u,b≠e->s.heap.get? b=be u->h'.get? b=be u)(heo:∃u,h'.get? e=be u)
  (new:ObjOk X.prog X.w (upd H x o) h' x o):Inv X pins σ (upd H x o) { s with heap:=h',toks:=t' }:=I.un (Un.write mu he k heo) (I.hok.write mu he k heo new)
def Inv.weak(I:Inv X pins σ H s)(hl:σ'.length=σ.length)(w:∀(i:Nat) v,σ'[i]?=be (be v)->σ[i]?=be (be v)):Inv X pins σ' H s:=
 (I.ok,I.os,I.bare,I.base,by let(m,hn,hl'):=I.loc;show(m,hn,λi x v b c a=>hl' i x v b (w i v c) a),I.cell,I.free,I.freeC,I.pin,I.hok,hl.trans I.len)
def Inv.pins_of(I:Inv X pins σ H s)(h:∀p∈pins',s.heap.get? p.1=be p.2/\H p.1=gV/\p.1≠X.env.locals/\p.1∉X.fs/\∀v,p.2.data≠.cell v):Inv X pins' σ H s:=
 (I.ok,I.os,I.bare,I.base,I.loc,I.cell,I.free,I.freeC,λp a=>(aJ.mp a).elim (λz=>I.pin p (cx _ z)) (h p),I.hok,I.len)
def a6D{N:List Str}(hN:N.Nodup){i j:Nat}(a:N[i]?=be x)(b:N[j]?=be x):i=j:=by
 let(f,c):=aM.mp a;let(e,d):=aM.mp b;show (List.getElem_inj hN).mp (c.trans d.symm)
def a4V(I:Inv X pins σ H s)(hN:X.N.Nodup)(hi:X.N[i]?=be x)(hx:Loc X.env.scope x)(r:RelV v u)
  (h:∀s',Inv X pins (σ.set i (be v)) H s'->(∃a,Heap.SameBut a s.heap s'.heap/\(a=X.env.locals\/X.env.cells.lookup x=be a))->Q () s') (hf:X.fn x=kP\/X.env.scope.names.lookup x=be .local):wpAny M A (jY X.env x u) Q E s:=by
 let(m,hn,hl):=id I.loc;let hcls:(X.env.scope.kind==.class||(X.env.scope.kind==.module&&X.env.locals != X.env.globals))=kQ:=by rw[I.ok.kind];rfl
 let U:i<σ.length:=I.len▸(aM.mp hi).1;let J:=I.cne;let B:∀{a:Addr}{G:Heap},(∃o,s.heap.get? a=be o/\H a=gV)->Heap.SameBut a s.heap G->HOk X.prog X.w H G:=λ{a G} ha f b ob e=>by
  let(_,_,F):=ha;show (I.hok b ob e).stay (λc R l q=>(f.2 c ?_).trans q) (λ_ q=>q) λ_ _ q=>q;ext rfl;let rfl||l:=l
  .rw[F]at e;cases e
  .rw[F]at l;cases l
 let hk||hk:=hx
 .show wpAny_storeName_local hk hn (λG hn' f=>?_) hcls;let(oL,_,_,hoL,_):=id hn;show h _ (I.ok,I.os,I.bare,(λb o e n D hx=>((f.2 b (aS (bo (Heap.lt_size e) I.ok.above))).trans (I.base.keep b o e n D hx)),λb o e n D hx=>?_,I.base.free,λb o e hx=>?_,I.base.tups,I.base.frzs,I.base.tbls),(_,hn',λj y v' g C e3=>?_),λy c e=>?_,I.free,I.freeC,λp hp=>?_,B (oL,hoL,I.free) f,↑I.len) (_,f,.inl rfl)
  .let(sl,g):=I.base.slot b o e n D hx;show(sl,(f.2 b (aS (bo (Heap.lt_size e) I.ok.above))).trans g)
  .let(o',g):=I.base.there b o e hx;show(o',(f.2 b (aS (bo (Heap.lt_size e) I.ok.above))).trans g)
  .by_cases hj:j=i
   .subst hj;rw[hi]at g;cases g;rw[dD U]at C;cases C;show(u,r,.inl (hk,by simp))
   .rw[dE (Ne.symm hj)]at C;let(u',r',q):=hl j y v' g C e3;show(u',r',?_);let(k,e)||(k,c,e,z):=q
    .show .inl (k,?_)
     let:y≠x:=λe=>hj (a6D hN g (e▸hi))
     simp[this,e]
    .show .inr (k,c,e,z.sameBut f (J y c e))
  .let(R,z):=I.cell y c e;show(R,z.sameBut f (J y c e))
  .let(e,n,S,nf,d):=I.pin p hp;show((f.2 p.1 S).trans e,n,S,nf,d)
 .let L:X.fn x=kP:=by
   let z||z:=hf
   .show z
   .rw[z]at hk;cases hk
  let(c,l):=I.ok.has x (.inl hk);let(R,z):=I.cell x c l;show wpAny_storeName_cell I.ok.kind hk l z (λG Y f=>?_);let(oc,W,hocd):=id z;show h { s with heap:=G } (I.ok,I.os,I.bare,(λb o e n D hx=>((f.2 b (aS (bo (Heap.lt_size e) (I.ok.cab x c L l)))).trans (I.base.keep b o e n D hx)),λb o e n D hx=>?_,I.base.free,λb o e hx=>?_,I.base.tups,I.base.frzs,I.base.tbls),(m,hn.sameBut f (Ne.symm (J x c l)),λj y v' g C e3=>?_),λy T e=>?_,I.free,I.freeC,λp hp=>?_,B (oc,W,I.freeC x c l) f,↑I.len) (c,f,.inr l)
  .let(sl,g):=I.base.slot b o e n D hx;show(sl,(f.2 b (aS (bo (Heap.lt_size e) (I.ok.cab x c L l)))).trans g)
  .let(o',g):=I.base.there b o e hx;show(o',(f.2 b (aS (bo (Heap.lt_size e) (I.ok.cab x c L l)))).trans g)
  .by_cases hj:j=i
   .subst hj;rw[hi]at g;cases g;rw[dD U]at C;cases C;show(u,r,.inr (.inl hk,c,l,Y))
   .rw[dE (Ne.symm hj)]at C;let(u',r',q):=hl j y v' g C e3;show(u',r',?_);let q||(k,T,e,z'):=q
    .show .inl q
    .show .inr (k,T,e,z'.sameBut f ?_);ext rfl;show hj (a6D hN g (I.ok.inj _ _ _ e l▸hi))
  .by_cases hcc:T=c
   .subst hcc;show(_,Y)
   .let(w2,z2):=I.cell y T e;show(w2,z2.sameBut f hcc)
  .let(e,n,S,nf,d):=I.pin p hp;show((f.2 p.1 ?_).trans e,n,S,nf,d);ext q;rw[q,W]at e;show d R ((be.inj e)▸hocd)
def a38(I:Inv X pins σ H s)(hN:X.N.Nodup)(hi:X.N[i]?=be x)(hx:Loc X.env.scope x)(r:RelV v u)
  (h:∀s',Inv X pins (σ.set i (be v)) H s'->Q () s') (hf:X.fn x=kP\/X.env.scope.names.lookup x=be .local):wpAny M A (jY X.env x u) Q E s:=
 a4V I hN hi hx r (λa b _=>h a b) hf
def Inv.call'(I:Inv X pins σ H s)(ho:s'.os=s.os)(u:Un (frs X.stack) ch H H' s.heap s'.heap)(hok:HOk X.prog X.w H' s'.heap)(hg:iw s'.gens)
  (hch:∀b∈ch,(b∈X.ex\/X.s₀.heap.objs.size<=b)/\b≠X.env.locals/\(∀x c,X.env.cells.lookup x=be c->c≠b)/\∀p∈X.pn++pins,p.1≠b):Inv X pins σ H' s':=by
 let(h',g',d',t',g):=s';let e:=ho;subst e;show I.call u hok hg hch
end
abbrev XK:=Value->Option Addr->Hp->Prop
abbrev St:=List (Option V)
abbrev VK:=V->Hp->Prop
abbrev TE:=St->Hp->VK->Prop
abbrev TT:=St->Hp->(Bool->Hp->Prop)->Prop
abbrev TA:=St->Hp->(List V->Hp->Prop)->Prop
structure Ends where
 nx:St->Hp->Prop
 rt:VK
 bk:St->Hp->Prop:=λ_ _=>False
 ct:St->Hp->Prop:=λ_ _=>False
abbrev TS:=Ends->St->Hp->Prop
def EP(X:Cx)(pins:List (Addr×Obj))(σ:St)(Q:VK)(u:Value)(s':Shared):Prop:=∃v H',Inv X pins σ H' s'/\RelV v u/\Q v H'
def TP(X:Cx)(pins:List (Addr×Obj))(σ:St)(Q:Bool->Hp->Prop)(b:Bool)(s':Shared):Prop:=∃H',Inv X pins σ H' s'/\Q b H'
def AP(X:Cx)(pins:List (Addr×Obj))(σ:St)(Q:List V->Hp->Prop)(us:List Value)(s':Shared):Prop:=∃vs H',Inv X pins σ H' s'/\Vals vs us/\Q vs H'
def SP(X:Cx)(pins:List (Addr×Obj))(D:Ends)(f:Flow)(s':Shared):Prop:=
 match f with
 |.next=>∃σ' H',Inv X pins σ' H' s'/\D.nx σ' H'
 |.brk=>∃σ' H',Inv X pins σ' H' s'/\D.bk σ' H'
 |.cont=>∃σ' H',Inv X pins σ' H' s'/\D.ct σ' H'
 |.ret u=>∃v σ' H',Inv X pins σ' H' s'/\RelV v u/\D.rt v H'
def PE(X:Cx)(e:Expr)(t:TE):Prop:=
 ∀(pins:List (Addr×Obj))(s:Shared)(σ:St)(H:Hp)(Q:VK),Inv X pins σ H s->t σ H Q->wpAny (model X.prog X.w) X.A (eval e X.env) (EP X pins σ Q) X.xe s
def PT(X:Cx)(e:Expr)(t:TT):Prop:=
 ∀(pins:List (Addr×Obj))(s:Shared)(σ:St)(H:Hp)(Q:Bool->Hp->Prop),Inv X pins σ H s->t σ H Q->wpAny (model X.prog X.w) X.A (isTrue e X.env (eval e X.env)) (TP X pins σ Q) X.xe s
def PW(X:Cx)(e:Expr)(t:TT):Prop:=
 ∀(whole:Sem Value)(pins:List (Addr×Obj))(s:Shared)(σ:St)(H:Hp)(Q:Bool->Hp->Prop),Inv X pins σ H s->t σ H Q->wpAny (model X.prog X.w) X.A (isTrue e X.env whole) (TP X pins σ Q) X.xe s
def PW.pt(h:PW X e t):PT X e t:=h _
def PA(X:Cx)(es:List Expr)(t:TA):Prop:=
 ∀(pos:Pos)(pins:List (Addr×Obj))(s:Shared)(σ:St)(H:Hp)(Q:List V->Hp->Prop),Inv X pins σ H s->t σ H Q->wpAny (model X.prog X.w) X.A (spliced (backTo pos (gJ es X.env))) (AP X pins σ Q) X.xe s
def PS(X:Cx)(st:Stmt)(t:TS):Prop:=
 ∀(pins:List (Addr×Obj))(s:Shared)(σ:St)(H:Hp)(D:Ends),Inv X pins σ H s->t D σ H->wpAny (model X.prog X.w) X.A (exec st X.env) (SP X pins D) X.xe s
def PSs(X:Cx)(st:List Stmt)(t:TS):Prop:=
 ∀(pins:List (Addr×Obj))(s:Shared)(σ:St)(H:Hp)(D:Ends),Inv X pins σ H s->t D σ H->wpAny (model X.prog X.w) X.A (execs st X.env) (SP X pins D) X.xe s
def thn{α:Type}{t:Sem α}{Q Q':α->Shared->Prop}(h:wpAny M A t Q E s)(hQ:∀a s,Q a s->Q' a s):wpAny M A t Q' E s:=gX h hQ λ_ _ x=>x
section
def tVar(i:Nat):TE:=fun σ H Q=>∃v,σ[i]?=be (be v)/\Q v H
def tC(v:V):TE:=λ_ H Q=>Q v H
def a8q(hN:X.N[i]?=be x)(hv:Vis X.env.scope x)(hd:(x==("__debug__":Str))=kQ:=by decide)(hcd:(x==("__classdict__":Str))=kQ:=by decide):PE X (.Name x pos) (tVar i):=by
 ext b s σ H Q I h;let(v,e,h):=h;let(m,f,d):=I.loc;let(u,r,l):=d i x v hN e hv;let a:EP X b σ Q u s:=(v,H,I,r,h);let(hk,hm)||(hk,c,hc,hcell):=l
 .show jZ (wpAny_loadName_local I.ok.kind hk f hm a) hd
 .let hk||hk:=hk
  .show jZ (wpAny_loadName_cell I.ok.kind hk hc hcell a) hd
  .show jZ (wpAny_loadName_free I.ok.kind hk hc hcell a hcd) hd
def b5P:PE X (.Constant (.int i) j pos) (tC (.int i)):=λ_ _ _ H _ I h=>wpAny_Constant_int (.int i,H,I.tok _,(_,rfl),h)
def b8P:PE X (.Constant (.bool b) j pos) (tC (.bl b)):=λ_ _ _ H _ I h=>Constant_bool (.bl b,H,I,rfl,h)
def b5Q:PE X (.Constant .none j pos) (tC .non):=λ_ _ _ H _ I h=>Constant_none (.non,H,I,rfl,h)
def b5R:PE X (.Constant (.str x) j pos) (tC (.str x)):=λ_ _ _ H _ I h=>Calls.Constant_str (.str x,H,I.tok _,(_,rfl),h)
def Gl(X:Cx)(x:Str):Prop:=X.env.kindOf x=be .globalImplicit
def a2j(I:Inv X pins σ H s)(hg:Gl X x)(hm:X.mg x=be u)(h:Q u s)
  (hd:(x==("__debug__":Str))=kQ:=by decide):wpAny (model X.prog X.w) X.A (eval (.Name x pos) X.env) Q E s:=
 Calls.Name_function_global I.ok.kind hg (Calls.loadGlobal_global (I.ok.glob▸I.mod.glob.keeps I.bk) hm h) hd
def a25(I:Inv X pins σ H s)(hg:Gl X x)(hm:X.mg x=gV)(hv:ib x=be u)(h:Q u s)
  (hn:x≠"__name__":=by decide) (hd:(x==("__debug__":Str))=kQ:=by decide):wpAny (model X.prog X.w) X.A (eval (.Name x pos) X.env) Q E s:=by
 let(c,b,a):=I.mod.blt;show Calls.Name_function_global I.ok.kind hg (Calls.loadGlobal_builtin (I.ok.glob▸I.mod.glob.keeps I.bk) hm (I.ok.blt▸b.keeps I.bk) ((a x hn).trans hv) h) hd
def b3s(hg:Gl X x)(hm:X.mg x=be u)(r:RelV v u)(hd:(x==("__debug__":Str))=kQ):PE X (.Name x pos) (tC v):=
 λ_ _ _ H _ I h=>a2j I hg hm (v,H,I,r,h) hd
def a39(hg:Gl X x)(hm:X.mg x=gV)(hv:ib x=be u)(r:RelV v u)(hn:x≠"__name__":=by decide)(hd:(x==("__debug__":Str))=kQ:=by decide):PE X (.Name x pos) (tC v):=
 λ_ _ _ H _ I h=>a25 I hg hm hv (v,H,I,r,h) hn hd
variable{a b:Expr}{ta tb:TE}
def PC(X:Cx)(op:CmpOp)(a b:Expr)(t:TE):Prop:=
 ∀(pins:List (Addr×Obj))(s:Shared)(σ:St)(H:Hp)(Q:VK),Inv X pins σ H s->t σ H Q ->
  wpAny (model X.prog X.w) X.A (eval a X.env) (λv sj=>wpAny (model X.prog X.w) X.A (eval b X.env) (λu sv=>wpAny (model X.prog X.w) X.A (gO op v u) (EP X pins σ Q) X.xe sv) X.xe sj) X.xe s
noncomputable def tB(t:TE):TT:=fun σ H Q=>t σ H λx H1=>∃c,x=.bl c/\Q c H1
def b5S(h:PE X e t)(he:∀whole,isTrue e X.env whole=(do let v <- whole;iF e.pos;h9 [v] (truthy v)):=by ext _;rfl):PT X e (tB t):=by
 ext a s σ H Q I f;show isTrue_plain (thn (h a s σ H _ I f) λv j (x,b,i,g,c)=>?_) (he _);let(d,rfl,q):=c;cases g;show iC (b,i,q)
variable{tA tB':TT}{rest:List Expr}
def tAnd(t u:TT):TT:=fun σ H Q=>t σ H λc H1=>if c=kP then u σ H1 Q else Q kQ H1
def tOr(t u:TT):TT:=fun σ H Q=>t σ H λc H1=>if c=kP then Q kP H1 else u σ H1 Q
def tNot(t:TT):TT:=fun σ H Q=>t σ H λc H1=>Q (!c) H1
def b3t(ha:PT X a tA):PW X (.BoolOp .And [a] pos) tA:=by
 ext f b s σ H Q I h;show isTrue_and (thn (ha b s σ H Q I h) λc d e=>?_);cases c with
 |true=>show isTrue_and_nil e
 |false=>show e
def b5T(ha:PT X a tA):PW X (.BoolOp .Or [a] pos) tA:=by
 ext f b s σ H Q I h;show isTrue_or (thn (ha b s σ H Q I h) λc d e=>?_);cases c with
 |false=>show isTrue_or_nil e
 |true=>show e
def b5U(ha:PT X a tA)(hb:PW X (.BoolOp .And (b::rest) pos) tB'):PW X (.BoolOp .And (a::b::rest) pos) (tAnd tA tB'):=by
 ext j d s σ H Q I h;show isTrue_and (thn (ha d s σ H _ I h) λc i Y=>Y.elim λe Y=>Y.elim λg f=>?_);cases c with
 |true=>show hb j d i σ e Q g f
 |false=>show(e,g,f)
def b8Q(ha:PT X a tA)(hb:PW X (.BoolOp .Or (b::rest) pos) tB'):PW X (.BoolOp .Or (a::b::rest) pos) (tOr tA tB'):=by
 ext j d s σ H Q I h;show isTrue_or (thn (ha d s σ H _ I h) λc i Y=>Y.elim λg Y=>Y.elim λe f=>?_);cases c with
 |true=>show(g,e,f)
 |false=>show hb j d i σ g Q e f
def b5V(ha:PT X a tA):PT X (.UnaryOp .Not a pos) (tNot tA):=λb s σ H Q I h=>isTrue_not (ha b s σ H _ I h)
def b8R(ta tb:TE):TE:=fun σ H Q=>ta σ H λx H1=>∃c,x=.bl c/\if c=kP then tb σ H1 Q else Q (.bl kQ) H1
def tOrV(ta tb:TE):TE:=fun σ H Q=>ta σ H λx H1=>∃c,x=.bl c/\if c=kP then Q (.bl kP) H1 else tb σ H1 Q
def b8S(ta:TE):TE:=fun σ H Q=>ta σ H λx H1=>∃c,x=.bl c/\Q (.bl (!c)) H1
def b5W(h:PE X a t):PE X (.BoolOp op [a] pos) t:=λb s σ H Q I c=>BoolOp_one (h b s σ H Q I c)
def b5X(ha:PE X a ta)(hb:PE X (.BoolOp .And (b::rest) pos) tb):PE X (.BoolOp .And (a::b::rest) pos) (b8R ta tb):=by
 ext d s σ H Q I h;show BoolOp_and (thn (ha d s σ H _ I h) λv j (x,f,g,i,e)=>?_);let(c,rfl,e):=e;cases i;show iC ?_;cases c with
 |true=>show hb d j σ f Q g e
 |false=>show(.bl kQ,f,g,rfl,e)
def b8T(ha:PE X a ta)(hb:PE X (.BoolOp .Or (b::rest) pos) tb):PE X (.BoolOp .Or (a::b::rest) pos) (tOrV ta tb):=by
 ext d s σ H Q I h;show BoolOp_or (thn (ha d s σ H _ I h) λv i (x,g,f,j,e)=>?_);let(c,rfl,e):=e;cases j;show iC ?_;cases c with
 |false=>show hb d i σ g Q f e
 |true=>show(.bl kP,g,f,rfl,e)
def b5Y(ha:PE X a ta):PE X (.UnaryOp .Not a pos) (b8S ta):=by
 ext b s σ H Q I h;show UnaryOp_ (thn (ha b s σ H _ I h) λv i (x,g,f,e,d)=>?_);let(c,rfl,d):=d;cases e;show not_of (iC (.bl (!c),g,f,rfl,d))
def tIf(t:TT)(ta tb:TE):TE:=fun σ H Q=>t σ H λc H1=>if c=kP then ta σ H1 Q else tb σ H1 Q
def b0H(hc:PT X c tA)(ha:PE X a ta)(hb:PE X b tb):PE X (.IfExp c a b pos) (tIf tA ta tb):=by
 ext e s σ H Q I h;show wpAny_IfExp (thn (hc e s σ H _ I h) λd j Y=>Y.elim λi Y=>Y.elim λf g=>?_);cases d with
 |true=>show ha e j σ i Q f g
 |false=>show hb e j σ i Q f g
end
def SqL(K:Fg)(H:Hp)(a:Addr)(xs:List V):Prop:=
 Rd H a (.lst xs) \/
  ∃(o:Obj)(its:Array Value)(n:Nat),K.lookup a=be o/\o.cls=.type "list"/\o.dict=gV/\o.data=.seq its n/\its.size<=gH/\Vals xs its.toList
def SqT(K:Fg)(H:Hp)(a:Addr)(xs:List V):Prop:=
 Rd H a (.tup xs) \/
  ∃(o:Obj)(its:Array Value)(n:Nat),K.lookup a=be o/\o.cls=.type "tuple"/\o.data=.seq its n/\its.size<=gH/\Vals xs its.toList
noncomputable def absV:Value->Option V
 |.none=>be .non
 |.bool b=>be (.bl b)
 |.int i _=>be (.int i)
 |.str x _=>be (.str x)
 |.bytes b _=>be (.byt b)
 |.float b _=>be (.flt b)
 |.ref a=>be (.ref a)
 |.type n=>be (.ty n)
 |_=>gV
def RelV.abs(r:RelV x u):absV u=be x:=by
 cases x with
 |non=>cases r;rfl
 |bl _=>cases r;rfl
 |int _=>let(t,rfl):=r;rfl
 |str _=>let(t,rfl):=r;rfl
 |byt _=>let(t,rfl):=r;rfl
 |flt _=>let(t,rfl):=r;rfl
 |ref _=>cases r;rfl
 |ty _=>cases r;rfl
def RelV.inj(r:RelV x u)(q:RelV kR u):x=kR:=be.inj (r.abs.symm.trans q.abs)
def Vals.inj:∀{xs ys:List V}{us:List Value},Vals xs us->Vals ys us->xs=ys:=by
 ext xs ys us h
 induction h generalizing ys with
 |nil=>ext k;cases k;rfl
 |cons r t ih=>
  ext k;cases k with
  |cons r' t'=>rw[r.inj r',ih t']
section
variable{σ:St}{a:Addr}{xs ys:List V}
def SqL.of{K:Fg}(h:H a=be (.lst xs)):SqL K H a xs:=.inl (.inl h)
def SqT.of{K:Fg}(h:H a=be (.tup xs)):SqT K H a xs:=.inl (.inl h)
def Inv.list(I:Inv X pins σ H s)(h:SqL X.K H a xs):∃its:List Value,Vals xs its/\PlainL s.heap a its.toArray/\xs.length<=sizeLine:=by
 let h||(o,b,n,hk,hc,hd,hs,hz,r):=h
 .let(z,b,n,r,e):=h.ok I.hok;show(b,r,(_,n,e,rfl,rfl,rfl),z)
 .show(b.toList,r,(o,n,I.kIn a o hk,hc,hd,↑hs),?_);let e:=r.length;simp at e
  lia
def Inv.tuple(I:Inv X pins σ H s)(h:SqT X.K H a xs):∃its:List Value,Vals xs its/\IsTup s.heap a its.toArray/\xs.length<=sizeLine:=by
 let h||(o,b,n,hk,hc,hs,hz,r):=h
 .let(z,b,r,p):=h.ok I.hok;show(b,r,p,z)
 .show(b.toList,r,(o,I.kIn a o hk,hc,n,↑hs),?_);let e:=r.length;simp at e
  lia
def Inv.list_inj(I:Inv X pins σ H s)(h:SqL X.K H a xs)(h':SqL X.K H a ys):xs=ys:=by
 let(f,r,(o,n,e,_,_,d),_):=I.list h;let(b,i,(j,k,c,_,_,g),_):=I.list h'
 let:f=b:=by grind
 subst this;show r.inj i
def Inv.tuple_inj(I:Inv X pins σ H s)(h:SqT X.K H a xs)(h':SqT X.K H a ys):xs=ys:=by
 let(f,r,(o,e,_,n,d),_):=I.tuple h;let(b,i,(j,c,_,k,g),_):=I.tuple h'
 let:f=b:=by grind
 subst this;show r.inj i
end
abbrev Cx.wish(X:Cx)(E:Value->Shared->Prop):Cx:={ X with xe:=E }
abbrev Cx.nox(X:Cx):Cx:=X.wish λ_ _=>False
noncomputable def Cx.Ok.wish{X:Cx}(ok:X.Ok)(E:Value->Shared->Prop):(X.wish E).Ok:=
 (ok.mod,ok.kind,ok.glob,ok.blt,ok.above,ok.inj,ok.has,ok.cab,ok.hd,ok.frames,ok.stk,ok.exf,ok.bs,ok.bsz,ok.noex,ok.exfs,ok.funs,ok.frf)
def Cx.Ok.unwish{X:Cx}(ok:(X.wish E).Ok):X.Ok:=
 (ok.mod,ok.kind,ok.glob,ok.blt,ok.above,ok.inj,ok.has,ok.cab,ok.hd,ok.frames,ok.stk,ok.exf,ok.bs,ok.bsz,ok.noex,ok.exfs,ok.funs,ok.frf)
section
variable{σ:St}
noncomputable def Inv.wish(I:Inv X pins σ H s)(E:Value->Shared->Prop):Inv (X.wish E) pins σ H s:=(I.ok.wish E,I.os,I.bare,I.base,I.loc,I.cell,I.free,I.freeC,I.pin,I.hok,I.len)
def Inv.unwish(I:Inv (X.wish E) pins σ H s):Inv X pins σ H s:=(I.ok.unwish,I.os,I.bare,I.base,I.loc,I.cell,I.free,I.freeC,I.pin,I.hok,I.len)
def SP.unwish(h:SP (X.wish E) pins D f s'):SP X pins D f s':=by
 cases f with
 |next=>let(σ',H',I,q):=h;show(σ',H',I.unwish,q)
 |brk=>let(σ',H',I,q):=h;show(σ',H',I.unwish,q)
 |cont=>let(σ',H',I,q):=h;show(σ',H',I.unwish,q)
 |ret u=>let(v,σ',H',I,r,q):=h;show(v,σ',H',I.unwish,r,q)
noncomputable def PE.nox(h:PE X.nox e t):PE X e t:=λa s σ H Q I d=>
 gX (h a s σ H Q (I.wish _) d) (by ext _ _ ⟨v,b,c,r,q⟩;show(v,b,c.unwish,r,q)) λ_ _ z=>aN z
noncomputable def PT.nox(h:PT X.nox e t):PT X e t:=λa s σ H Q I d=>
 gX (h a s σ H Q (I.wish _) d) (by ext _ _ ⟨c,b,q⟩;show(c,b.unwish,q)) λ_ _ z=>aN z
noncomputable def PSs.nox{st:List Stmt}(h:PSs X.nox st t):PSs X st t:=λa s σ H D I b=>
 gX (h a s σ H D (I.wish _) b) (λ_ _ q=>q.unwish) λ_ _ z=>aN z
end
section
variable{st:Stmt}{rest:List Stmt}{t u:TS}{e:Expr}{te:TE}
def b5Z:TS:=λD σ H=>D.nx σ H
def tSeq(t u:TS):TS:=λD σ H=>t { D with nx:=u D } σ H
def b3u:PSs X [] b5Z:=λ_ _ σ H _ I h=>i5 (σ,H,I,h)
def a6E(h1:PS X st t)(h2:PSs X rest u):PSs X (st::rest) (tSeq t u):=by
 ext a s σ H D I h;show j3 (thn (h1 a s σ H { D with nx:=u D } I h) λf b q=>?_);cases f with
 |next=>
  let(σ',H',I',q):=q;show h2 a b σ' H' D I' q
 |ret v=>show q
 |brk=>show q
 |cont=>show q
def b3v(h1:PS X st t):PSs X [st] t:=by
 ext a s σ H D I h;show j3 (thn (h1 a s σ H D I h) λf b q=>?_);cases f with
 |next=>show i5 q
 |ret v=>show q
 |brk=>show q
 |cont=>show q
def b50:TS:=λD σ H=>D.bk σ H
def b8U:TS:=λD σ H=>D.ct σ H
def b3w:PS X (.Pass pos) b5Z:=λ_ _ σ H _ I h=>wpAny_Pass (σ,H,I,h)
def b0I:PS X (.Break pos) b50:=λ_ _ σ H _ I h=>wpAny_Break (σ,H,I,h)
def a5T:PS X (.Continue pos) b8U:=λ_ _ σ H _ I h=>wpAny_Continue (σ,H,I,h)
def Inv.quiet(I:Inv X pins σ H s):interactive X.env=kQ:=by simp[interactive,I.ok.kind]
def b8V(te:TE):TS:=λD σ H=>te σ H λ_ H1=>D.nx σ H1
def b3x(he:PE X e te)(hs:ik e gV pos.line X.env=pure kQ):PS X (.Expr e pos) (b8V te):=λa s σ H D I h=>wpAny_Expr_any (thn (he a s σ H _ I h) λv f (x,d,c,g,b)=>(σ,d,c,b)) I.quiet hs
def tRet(te:TE):TS:=λD σ H=>te σ H D.rt
def b51(he:PE X e te):PS X (.Return (be e) pos) (tRet te):=λa s σ H D I h=>wpAny_Return_some (thn (he a s σ H _ I h) λv g (x,c,b,f,d)=>(x,σ,c,b,f,d))
def b8W:TS:=λD _ H=>D.rt .non H
def b3y:PS X (.Return gV pos) b8W:=λ_ _ σ H _ I h=>wpAny_Return_none (.non,σ,H,I,rfl,h)
def tIfS(c:TT)(t u:TS):TS:=λD σ H=>c σ H λb H1=>if b=kP then t D σ H1 else u D σ H1
def b8X(hc:PT X c tc)(ha:PSs X a t)(hb:PSs X b u):PS X (.If c a b pos) (tIfS tc t u):=by
 ext e s σ H D I h;show wpAny_If (thn (hc e s σ H _ I h) λd f Y=>Y.elim λg Y=>Y.elim λi j=>?_);cases d with
 |true=>show ha e f σ g D i j
 |false=>show hb e f σ g D i j
end
abbrev TG:=V->St->Hp->(St->Hp->Prop)->Prop
abbrev TGs:=List V->St->Hp->(St->Hp->Prop)->Prop
def PG(X:Cx)(target:Expr)(t:TG):Prop:=
 ∀(pins:List (Addr×Obj))(s:Shared)(σ:St)(H:Hp)(v:V)(u:Value)(Q:St->Hp->Prop),Inv X pins σ H s->RelV v u->t v σ H Q ->
  wpAny (model X.prog X.w) X.A (assign target X.env u) (λ_ s'=>∃σ' H',Inv X pins σ' H' s'/\Q σ' H') X.xe s
def PGs(X:Cx)(ts:List Expr)(t:TGs):Prop:=
 ∀(pins:List (Addr×Obj))(s:Shared)(σ:St)(H:Hp)(vs:List V)(us:List Value)(Q:St->Hp->Prop),Inv X pins σ H s->Vals vs us->t vs σ H Q ->
  wpAny (model X.prog X.w) X.A (assignInOrder ((iy ts X.env).map (·.2)) us) (λ_ s'=>∃σ' H',Inv X pins σ' H' s'/\Q σ' H') X.xe s
abbrev TSet:=V->V->V->Hp->(Hp->Prop)->Prop
def PSet(X:Cx)(t:TSet):Prop:=
 ∀(pins:List (Addr×Obj))(s:Shared)(σ:St)(H:Hp)(o i v:V)(ov iv u:Value)(Q:Hp->Prop),Inv X pins σ H s->RelV o ov->RelV i iv->RelV v u->t o i v H Q ->
  wpAny (model X.prog X.w) X.A (jF ov iv u) (λ_ s'=>∃H',Inv X pins σ H' s'/\Q H') X.xe s
abbrev TIp:=V->V->Hp->VK->Prop
def PIp(X:Cx)(op:Operator)(t:TIp):Prop:=
 ∀(pins:List (Addr×Obj))(s:Shared)(σ:St)(H:Hp)(x y:V)(v u:Value)(Q:VK),Inv X pins σ H s->RelV x v->RelV y u->t x y H Q ->
  wpAny (model X.prog X.w) X.A (iG op v u) (EP X pins σ Q) X.xe s
def a8r(i:Nat):TG:=λv σ H Q=>Q (σ.set i (be v)) H
def a8s(hN:X.N.Nodup)(hi:X.N[i]?=be x)(hx:Loc X.env.scope x)(hf:X.fn x=kP\/X.env.scope.names.lookup x=be .local):PG X (.Name x pos) (a8r i):=λb s σ H v u Q I r h=>wpAny_assign_Name (a38 I hN hi hx r (λc a=>(_,H,a,h)) hf)
def gNil:TGs:=λvs σ H Q=>vs=[]/\Q σ H
def b52(t:TG)(u:TGs):TGs:=λvs σ H Q=>∃v r,vs=v::r/\t v σ H fun σ' H'=>u r σ' H' Q
def b3z:PGs X [] gNil:=by
 ext a s σ H b c Q I r h;let(e,h):=h;subst e;show assignInOrder_nil (σ,H,I,h)
def b0J(h1:PG X e t)(h2:PGs X es kR)
  (hs:(iy (e::es) X.env).map (·.2)=assign e X.env::(iy es X.env).map (·.2):=by rfl):PGs X (e::es) (b52 t kR):=by
 ext a s σ H k i Q I r h;let(v,j,g,h):=h;subst g;cases r with
 |cons r rr=>
  rw[hs];show assignInOrder_cons (thn (h1 a s σ H _ _ _ I r h) λ_ f (σ1,d,b,c)=>(h2 a f σ1 d _ _ Q b rr c))
def gTup(K:Fg)(n:Nat)(t:TGs):TG:=λv σ H Q=>∃a xs,v=.ref a/\SqT K H a xs/\xs.length=n/\t xs σ H Q
def b53(hc:X.calm=kP)(h:PGs X es t)
  (hn:(iy es X.env).length=n) (hst:(iy es X.env).findIdx? (·.1)=gV):PG X (.Tuple es k pos) (gTup X.K n t):=by
 ext c s σ H v u Q I r d;let(a,i,q,m,l,d):=d;subst q;cases r;let(x,f,p,y):=I.tuple m;show assign_Tuple_tuple (I.ok.hd hc) p (by simp[hn,<- l,f.length]) hst λw j=>(h c _ σ H i _ Q (I.kept (t':=s.toks) λb o e=>j b o (aS (Heap.lt_size e)) e) (by cbv) d)
def gSub(to ti:TE)(t:TSet):TG:=λv σ H Q=>to σ H λo H1=>ti σ H1 λi H2=>t o i v H2 λH3=>Q σ H3
def b54(ho:PE X o kR)(hi:PE X i ti)(hs:PSet X t)
  (ha:∀v,assign (.Subscript o i pos) X.env v=(do
   let ov <- h9 [v] (eval o X.env)
   let iv <- h9 [v,ov] (eval i X.env)
   iF pos
   h9 [v,ov,iv] (jF ov iv v)
   release [v,ov,iv] []):=by ext _;rfl):PG X (.Subscript o i pos) (gSub kR ti t):=by
 ext a s σ H v u Q I r h;rw[ha];show gE (g6 (thn (ho a s σ H _ I h) λl n (x,c,e,g,p)=>(gE (g6 (thn (hi a n σ c _ e p) λm q (y,f,w,b,k)=>(gE (j5 (gE (g6 (thn (hs a q σ f x y v l m u _ w g b r k) λ_ A Y=>Y.elim λj Y=>Y.elim λz d=>(wpAny_release (σ,j,z,d))))))))))))
def tAsg(te:TE)(g:TG):TS:=λD σ H=>te σ H λx H1=>g x σ H1 D.nx
def b2L(he:PE X e te)(hg:PG X tg g)(hs:j6 [tg] e pos.line X.env=pure kQ)(hw:j7 [tg] e X.env=pure gV)
  (h1:(iy [tg] X.env).map (·.2)=[assign tg X.env]):PS X (.Assign [tg] e pos) (tAsg te g):=by
 ext a s σ H D I h;show wpAny_Assign_stores (thn (he a s σ H _ I h) λv c (x,d,b,i,f)=>?_) hs hw;rw[h1];show thn (hg a c σ d x v _ b i f) λ_ j q=>q
def b55(hN:X.N.Nodup)(hi:X.N[i]?=be x)(hx:Loc X.env.scope x)(he:PE X e te)(hs:ik e (be (.Name x pos')) pos.line X.env=pure kQ)(hf:X.fn x=kP\/X.env.scope.names.lookup x=be .local) :
  PS X (.Assign [.Name x pos'] e pos) (tAsg te (a8r i)):=by
 ext a s σ H D I h;show wpAny_Assign_Name (thn (he a s σ H _ I h) λv j (y,f,d,c,g)=>?_) hs;show a38 d hN hi hx c (λk b=>(_,f,b,g)) hf
def tAug(i:Nat)(te:TE)(ti:TIp):TS:=λD σ H=>∃x,σ[i]?=be (be x)/\te σ H λy H1=>ti x y H1 λz H2=>D.nx (σ.set i (be z)) H2
def b56(hN:X.N.Nodup)(hi:X.N[i]?=be x)(hx:Loc X.env.scope x)(he:PE X e te)(ho:PIp X op ti)(hf:X.fn x=kP\/X.env.scope.names.lookup x=be .local) :
  PS X (.AugAssign (.Name x pos') op e pos) (tAug i te ti):=by
 ext a s σ H D I h;let(v,f,h):=h;let(m,g,j):=I.loc;let b:Vis X.env.scope x:=by let k||k:=hx;show .inl k;show .inr (.inl k)
 let(u,r,l):=j i x v hi f b;show wpAny_AugAssign_Name ?_;let d:wpAny (model X.prog X.w) X.A (eval e X.env) (λw B=>wpAny (model X.prog X.w) X.A (iG op u w) (λr G=>wpAny (model X.prog X.w) X.A (jY X.env x r) (λ_=>SP X a D .next) X.xe G) X.xe B) X.xe s:=by
  show thn (he a s σ H _ I h) λw C (y,n,p,F,t)=>(thn (ho a C σ n v y u w _ p r F t) λz Q (M,E,o,L,J)=>(a38 o hN hi hx L (λR q=>(_,E,q,J)) hf))
 let(hk,hm)||(hk,c,hc,hcell):=l
 .show wpAny_loadName_local I.ok.kind hk g hm d
 .let hk||hk:=hk
  .show wpAny_loadName_cell I.ok.kind hk hc hcell d
  .let k||k:=hx
   .let:X.env.scope.names.lookup x=be .free:=hk
    rw[k]at this;cases this
   .let:X.env.scope.names.lookup x=be .free:=hk
    rw[k]at this;cases this
def b57(c:TT)(tb:TS):TS:=λD σ H=>∃W:Nat->St->Hp->Prop,(∃m,W m σ H)/\∀m σ H,W m σ H ->
 c σ H λb H1=>if b=kP then ∃N:St->Hp->Prop,(∀σ' H',N σ' H'->∃m',m'<m/\W m' σ' H')/\tb { D with nx:=N,ct:=N,bk:=D.nx } σ H1 else D.nx σ H1
def b0K(hp:g5 (model X.prog X.w) X.A X.env X.xe)(hc:PT X c tc)(hb:PSs X body tb):PS X (.While c body [] pos) (b57 tc tb):=by
 ext a s σ H D I h;let(W,(z,y),g):=h;show wpAny_While (codeAny_whileLoop (λn t=>∃σ' H',Inv X a σ' H' t/\W n σ' H') ?_ z (σ,H,I,y));ext n x ⟨σ1,q,r,u⟩;show iO hp (thn (hc a x σ1 q _ r (g n σ1 q u)) λb B Y=>Y.elim λo Y=>Y.elim λm e=>?_);cases b with
 |true=>
  let(N,p,e):=e;show iO hp (thn (hb a B σ1 o _ m e) λf C d=>?_);cases f with
  |next=>
   let(σ3,H3,I3,k):=d;let(j,l,i):=p σ3 H3 k;show(j,l,σ3,H3,I3,i)
  |cont=>
   let(σ3,H3,I3,k):=d;let(j,l,i):=p σ3 H3 k;show(j,l,σ3,H3,I3,i)
  |brk=>show d
  |ret v=>show d
 |false=>
  show i5 (σ1,o,m,e)
structure It where
 go:Nat->Hp->Prop
 yld:Nat->Hp->V->Hp->Prop
 stop:Nat->Hp->Prop
def FpOk(X:Cx)(pins:List (Addr×Obj))(H:Hp)(b:Addr):Prop:=
 H b=gV/\b≠X.env.locals/\b∉X.fs/\(b∈X.ex\/X.s₀.heap.objs.size<=b)/\(∀x c,X.env.cells.lookup x=be c->c≠b)/\∀p∈X.pn++pins,p.1≠b
def Inv.fpOk(I:Inv X pins σ H s)(hb:s.heap.objs.size<=b)(hn:H' b=gV):FpOk X pins H' b:=by
 show(hn,bS (bo I.lt hb),I.nofs hb,.inr (aU I.sz hb),λx c e z=>?_,λp a z=>(absurd (bo (Heap.lt_size (I.pin p a).1) (by simp_all)) (cm _)))
 .let(v,q):=I.cell x c e;show absurd (bo q.lt (by simp_all)) (cm _)
structure Turn (P:gM) (w:World) (K:Fg) (tg:Expr) (J:It) (fp:List Addr) (it:Addr) (tn:Nat->Heap->Prop):Prop where
 mem:it∈fp
 obj:∀i h,tn i h->∀b∈fp,∃o,h.get? b=be o/\∀v,o.data≠.cell v
 keep:∀i h h',tn i h->(∀b∈fp,∀o,h.get? b=be o->h'.get? b=be o)->tn i h'
 item:∀(X:Cx),X.prog=P->X.w=w->X.K=K->X.calm=kP->∀(i:Nat)(pins:List (Addr×Obj))(s:Shared)(σ:St)(H:Hp)(E:Value->Shared->Prop),Inv X pins σ H s->(∀b∈fp,FpOk X pins H b)->tn i s.heap->J.go i H ->
  wpAny (model P w) X.A (pyNext (.ref it)) (λr s1=>∃u,r=be u /\
   wpAny (model P w) X.A (j8 tg (.ref it) u) (λ_ s2=>∃x H',Inv X pins σ H' s2/\RelV x u/\J.yld i H x H'/\tn (i+1) s2.heap/\∀b∈fp,H' b=gV) E s1) E s
 done:∀(X:Cx),X.prog=P->X.w=w->X.K=K->X.calm=kP->∀(i:Nat)(pins:List (Addr×Obj))(s:Shared)(σ:St)(H:Hp)(E:Value->Shared->Prop),Inv X pins σ H s->(∀b∈fp,FpOk X pins H b)->tn i s.heap->J.stop i H ->
  wpAny (model P w) X.A (pyNext (.ref it)) (λr s1=>r=gV/\Inv X pins σ H s1) E s
 self:∀(A:Around)(i:Nat)(s:Shared)(Q:Value->Shared->Prop)(E:Value->Shared->Prop),tn i s.heap->Q (.ref it) s->wpAny (model P w) A (pyIter (.ref it)) Q E s
abbrev TI:=St->Hp->(It->Hp->Prop)->Prop
def PIE(X:Cx)(pins:List (Addr×Obj))(σ:St)(tg:Expr)(R:It->Hp->Prop)(itv:Value)(s2:Shared):Prop:=
 ∃(it:Addr)(fp:List Addr)(tn:Nat->Heap->Prop)(J:It)(H':Hp),itv=.ref it/\Inv X pins σ H' s2/\Turn X.prog X.w X.K tg J fp it tn/\tn 0 s2.heap/\(∀b∈fp,FpOk X pins H' b)/\R J H'
def PI(X:Cx)(tg iter:Expr)(wi:TI):Prop:=
 ∀(pins:List (Addr×Obj))(s:Shared)(σ:St)(H:Hp)(R:It->Hp->Prop),Inv X pins σ H s->wi σ H R ->
  wpAny (model X.prog X.w) X.A (eval iter X.env) (λv s1=>wpAny (model X.prog X.w) X.A (pyIter v) (PIE X pins σ tg R) X.xe s1) X.xe s
def a7C(ho:s.heap.get? it=be o)(hc:o.cls=.type n)(hd:o.data=.fields vs)
    (hn:["enumerate","zip","dict_itemiterator","dict_reverseitemiterator","odict_iterator","itertools.zip_longest","itertools.pairwise"].contains n=kQ) (hQ:Q () s):wpAny M A (j8 tg (.ref it) u) Q E s:=by
  cases tg<;>first
    |show gF hQ
    | (cases u<;>first
        |show gF hQ
        | (show gE (jp ho ?_)
           rw[hc,hd]
           change wpAny M A (if _=kP then _ else _) Q E s
           rw[if_neg (by grind)];show gF hQ))
noncomputable def Itl(K:Fg)(a:Addr):It:=
 (λi H=>∃xs x,SqL K H a xs/\xs[i]?=be x,λi H x H'=>H'=H/\∀xs,SqL K H a xs->xs[i]?=be x,λi H=>∃xs,SqL K H a xs/\xs.length<=i)
noncomputable def Itt(K:Fg)(a:Addr):It:=
 (λi H=>∃xs x,SqT K H a xs/\xs[i]?=be x,λi H x H'=>H'=H/\∀xs,SqT K H a xs->xs[i]?=be x,λi H=>∃xs,SqT K H a xs/\xs.length<=i)
noncomputable def Itr(lo:Int)(n:Nat):It:=(λi _=>i<n,λi H x H'=>H'=H/\x=.int (lo+i),λi _=>n<=i)
theorem a8t{P:gM}{w:World}{K:Fg}{tg:Expr}(a it:Addr):Turn P w K tg (Itl K a) [it] it (λi h=>h.IsListIter it a i) where
 mem:=by simp
 obj:=λi h st b hb=>by
  let e:b=it:=↑hb
  subst e;let(o,e,c,d):=st;show(o,e,λv z=>by rw[d]at z;cases z)
 keep:=λi h h' st k=>st.at λo e=>k it (by simp) o e
 item:=by
  ext X hP hw hK hc i pins s σ H E I hf st hg;subst hP hw hK;let(xs,x,hq,hx):=hg;let(its,rv,p,hz):=I.list hq;let(u,hu,ru):=rv.get hx;let(f0,f1,f2,f3,f4,f5):=hf it (by simp);show wpAny_pyNext_list_item st p.isList (x:=u) ↑hu λh' st' sb=>?_;let I1:Inv X pins σ H { s with heap:=h' }:=I.turned (t':=s.toks) (λb o hb e=>(sb.2 b hb).trans e) f0 f1 f3 f4 f5;let(o,e,c,d):=id st';show(u,rfl,a7C (s:={ s with heap:=h' }) e c d (by decide) (x,H,I1,ru,(rfl,λys hy=>by rw[I.list_inj hy hq];show hx),st',λb hb=>(hf b hb).1))
 done:=by
  ext X hP hw hK hc i pins s σ H E I hf st hg;subst hP hw hK;let(xs,hq,hx):=hg;let(its,rv,p,hz):=I.list hq;let(f0,f1,f2,f3,f4,f5):=hf it (by simp);let hl:=rv.length;show wpAny_pyNext_list_end (I.ok.hd hc) st p.isList (by simp;cbv) λh' eb=>(rfl,I.turned (t':=s.toks) (λb o hb e=>eb b o hb e) f0 f1 f3 f4 f5)
 self:=λ_ _ _ _ _ st h=>wpAny_pyIter_listiter st h
theorem a7D{P:gM}{w:World}{K:Fg}{tg:Expr}(a it:Addr):Turn P w K tg (Itt K a) [it] it (λi h=>h.IsTupleIter it a i) where
 mem:=by simp
 obj:=λi h st b hb=>by
  let e:b=it:=↑hb
  subst e;let(o,e,c,d):=st;show(o,e,λv z=>by rw[d]at z;cases z)
 keep:=λi h h' st k=>st.at λo e=>k it (by simp) o e
 item:=by
  ext X hP hw hK hc i pins s σ H E I hf st hg;subst hP hw hK;let(xs,x,hq,hx):=hg;let(its,rv,p,hz):=I.tuple hq;let(u,hu,ru):=rv.get hx;let(f0,f1,f2,f3,f4,f5):=hf it (by simp);show wpAny_pyNext_tuple_item st (show s.heap.IsTuple a its.toArray from p) (x:=u) ↑hu λh' st' sb=>?_;let I1:Inv X pins σ H { s with heap:=h' }:=I.turned (t':=s.toks) (λb o hb e=>(sb.2 b hb).trans e) f0 f1 f3 f4 f5;let(o,e,c,d):=id st';show(u,rfl,a7C (s:={ s with heap:=h' }) e c d (by decide) (x,H,I1,ru,(rfl,λys hy=>by rw[I.tuple_inj hy hq];show hx),st',λb hb=>(hf b hb).1))
 done:=by
  ext X hP hw hK hc i pins s σ H E I hf st hg;subst hP hw hK;let(xs,hq,hx):=hg;let(its,rv,p,hz):=I.tuple hq;let(f0,f1,f2,f3,f4,f5):=hf it (by simp);let hl:=rv.length;show wpAny_pyNext_tuple_end (I.ok.hd hc) st (show s.heap.IsTuple a its.toArray from p) (by simp;cbv) λh' eb=>(rfl,I.turned (t':=s.toks) (λb o hb e=>eb b o hb e) f0 f1 f3 f4 f5)
 self:=λ_ _ _ _ _ st h=>wpAny_pyIter_tupleiter st h
theorem a7E{P:gM}{w:World}{K:Fg}{tg:Expr}(it:Addr)(lo:Int)(n:Nat):Turn P w K tg (Itr lo n) [it] it (λi h=>IsRangeIter h it (lo+(i:Nat)*1) ((n:Int)-(i:Nat)) 1) where
 mem:=by simp
 obj:=λi h st b hb=>by
  let e:b=it:=↑hb
  subst e;show(_,st,λv z=>by
   let z':Data.fields _=Data.cell v:=z;cases z')
 keep:=λi h h' st k=>k it (by simp) _ st
 item:=by
  ext X hP hw hK hc i pins s σ H E I hf st hg;subst hP hw hK;let(f0,f1,f2,f3,f4,f5):=hf it (by simp);let W:=Walks.range (prog:=X.prog) (w:=X.w) (I.ok.hd hc) it lo 1 n;show W.item i s _ _ hg st λv h' tk hv st' kk=>?_;let(t,rfl):=hv;let I1:Inv X pins σ H { s with heap:=h',toks:=tk }:=I.turned (λb o hb e=>kk b o ↑hb e) f0 f1 f3 f4 f5;show(_,rfl,a7C (s:={ s with heap:=h',toks:=tk }) (n:="range_iterator") st' rfl rfl (by decide) (.int (lo+i),H,I1,(t,?_),(rfl,rfl),st',λb hb=>(hf b hb).1));rw[Int.mul_one]
 done:=by
  ext X hP hw hK hc i pins s σ H E I hf st hg;subst hP hw hK;let(f0,f1,f2,f3,f4,f5):=hf it (by simp);show wpAny_pyNext_range_end (I.ok.hd hc) st (by let:n<=i:=hg;cbv) λh' eb=>(rfl,I.turned (t':=s.toks) (λb o hb e=>eb b o hb e) f0 f1 f3 f4 f5)
 self:=λ_ _ _ _ _ st h=>wpAny_pyIter_rangeiter st h
section
variable{tg:Expr}
def b8Y(K:Fg)(tl:TE):TI:=fun σ H R=>tl σ H λx H1=>∃a,x=.ref a/\(∃xs,SqL K H1 a xs)/\R (Itl K a) H1
def iTup(K:Fg)(tl:TE):TI:=fun σ H R=>tl σ H λx H1=>∃a,x=.ref a/\(∃xs,SqT K H1 a xs)/\R (Itt K a) H1
def b3A(hl:PE X l tl):PI X tg l (b8Y X.K tl):=by
 ext f s σ H R I h;show thn (hl f s σ H _ I h) λv d (x,m,c,g,i)=>?_;let(a,e,(r,j),q):=i;subst e;cases g;let(n,u,p,t):=c.list j;show jq p.isList (d.heap.objs.size,[d.heap.objs.size],_,_,m,rfl,c.kept λb o e=>Heap.get?_push_of_some _ e,a8t a _,(_,Heap.get?_push_size _ rfl,rfl,rfl),λb k=>?_,q);let e:b=d.heap.objs.size:=by simp_all
 subst e;show c.fpOk (aI _) (c.hok.fresh (aI _))
def b58(hl:PE X l tl):PI X tg l (iTup X.K tl):=by
 ext f s σ H R I h;show thn (hl f s σ H _ I h) λv c (x,m,d,k,j)=>?_;let(a,e,(u,n),q):=j;subst e;cases k;let(g,t,p,r):=d.tuple n;show wpAny_pyIter_tuple (p) (c.heap.objs.size,[c.heap.objs.size],_,_,m,rfl,d.kept λb o e=>Heap.get?_push_of_some _ e,a7D a _,(_,Heap.get?_push_size _ rfl,rfl,rfl),λb i=>?_,q);let e:b=c.heap.objs.size:=by simp_all
 subst e;show d.fpOk (aI _) (d.hok.fresh (aI _))
def b0L{lo hi:Int}(I:Inv X pins σ H s)(h1:-(2 ^ 62)<=lo)(h2:lo<2 ^ 62)(h3:-(2 ^ 62)<=hi)(h4:hi<2 ^ 62)
  (q:R (Itr lo (hi-lo).toNat) H):wpAny (model X.prog X.w) X.A (pyIter (.ref s.heap.objs.size)) (PIE X pins σ tg R) E { s with heap:=s.heap.push { cls:=.type "range",data:=.fields #[.int lo t,.int hi kR,.int 1 v] },toks:=tk }:=by
 show wpAny_pyIter_range (IsRange.new ..) (small_one h1 h2 h3 h4) ?_;let a:Inv X pins σ H { s with heap:=s.heap.push { cls:=.type "range",data:=.fields #[.int lo t,.int hi kR,.int 1 v] },toks:=tk }:=I.kept λb o e=>Heap.get?_push_of_some _ e;show((s.heap.push { cls:=.type "range",data:=.fields #[.int lo t,.int hi kR,.int 1 v] }).objs.size,[(s.heap.push { cls:=.type "range",data:=.fields #[.int lo t,.int hi kR,.int 1 v] }).objs.size],_,_,H,rfl,
  a.kept λb o e=>Heap.get?_push_of_some _ e,a7E _ lo (hi-lo).toNat,?_,λb d=>?_,q)
 .let c:lo+((0:Nat))*1=lo:=by simp
  let f:(((hi-lo).toNat))-((0:Nat))=gN.Range.rangeSize lo hi 1:=by rw[rangeSize_one];split<;>lia
  rw[c,f];show Heap.get?_push_size _ rfl
 .let e:b=(s.heap.push { cls:=.type "range",data:=.fields #[.int lo t,.int hi kR,.int 1 v] }).objs.size:=↑d
  subst e;show a.fpOk (aI _) (a.hok.fresh (aI _))
def b59(ta:TA):TI:=fun σ H R=>ta σ H λvs H1=>∃j:Int,vs=[.int j]/\-(2 ^ 62)<=j/\j<2 ^ 62/\R (Itr 0 j.toNat) H1
def a8u(hg:Gl X "range")(hm:X.mg "range"=gV)(ha:PA X [a] ta)(hs:gJ [a] X.env=[(kQ,eval a X.env,)]):PI X tg (.Call (.Name "range" p) [a] [] pos) (b59 ta):=by
 ext b s σ H R I h;show Call_ (a25 I hg hm boot_range (PyProof.Rows.callWith_type1 (thn (ha pos b s σ H _ I h) λl k (i,m,d,f,c)=>?_) hs rfl));let(j,e,c,g,q):=c;subst e;cases f with
 |cons r rr=>
  cases rr;let(t,rfl):=r;show call_range_1 (b0L d (by simp) (by simp) c g (by grind))
def tFor(wi:TI)(g:TG)(tb:TS):TS:=λD σ H=>wi σ H λJ H1=>∃W:Nat->Nat->St->Hp->Prop,(∃m,W 0 m σ H1)/\∀i m σ H,W i m σ H ->
 (J.stop i H/\D.nx σ H)\/(J.go i H/\∃N:St->Hp->Prop,(∀σ' H',N σ' H'->∃m',m'<m/\W (i+1) m' σ' H')/\∀x H',J.yld i H x H'->g x σ H' fun σ2 H2=>tb { D with nx:=N,ct:=N,bk:=D.nx } σ2 H2)
noncomputable def a6F(fp:List Addr)(h:Heap):List (Addr×Obj):=fp.filterMap λb=>(h.get? b).map λo=>(b,o,)
def a1A(hb:b∈fp)(e:h.get? b=be o):(b,o,)∈a6F fp h:=cn.mpr (b,hb,by rw[e];rfl)
def a8v(hp:p∈a6F fp h):p.1∈fp/\h.get? p.1=be p.2:=by
 let(b,a,e):=cn.mp hp;cases q:h.get? b with
 |none=>rw[q]at e;cases e
 |some o=>
  rw[q]at e;let c:=be.inj e;subst c;show(a,q)
def Inv.pinned(I:Inv X pins σ H s)(hf:∀b∈fp,FpOk X pins H b)(ho:∀b∈fp,∃o,s.heap.get? b=be o/\∀v,o.data≠.cell v):Inv X (pins++a6F fp s.heap) σ H s:=
 I.pins_of λp h=>(aJ.mp h).elim (λz=>I.pin p (bz _ z)) λz=>by
  let(a,e):=a8v z;let(g,f,i,_):=hf p.1 a;let(o,c,d):=ho p.1 a;rw[e]at c;cases c;show(e,g,f,i,d)
def Inv.unpinned(I:Inv X (pins++pl) σ H s):Inv X pins σ H s:=I.pins_of λp a=>I.pin p (bz _ (cx _ a))
def b6a(hp:g5 (model X.prog X.w) X.A X.env X.xe)(hc:X.calm=kP)(hi:PI X tg iter wi)(hg:PG X tg g)(hb:PSs X body tb)
  (hs:∀x,iH iter X.env x=pure x:=by ext _;rfl):PS X (.For tg iter body [] pos) (tFor wi g tb):=by
 ext a s σ H D I h;show wpAny_For (thn (hi a s σ H _ I h) λv s1 h1=>thn h1 λitv s2 h2=>?_) hs;let(it,z,Q,J,H2,e,I2,T,st2,S,W,(m0,w0),F):=h2;subst e;let p:∀{H':Hp},(∀b∈z,H' b=gV)->∀b∈z,FpOk X a H' b:=λhn b hb=>(hn b hb,(S b hb).2);show codeAny_forLoop_any (λn Y=>∃i σ' H',Inv X a σ' H' Y/\Q i Y.heap/\(∀b∈z,H' b=gV)/\W i n σ' H') ?_ m0 (0,σ,H2,I2,st2,λb hb=>(S b hb).1,w0);ext n U ⟨i,σ3,B,R,E,C,w3⟩;let(stop,qn)||(go,N,hN,step):=F i n σ3 B w3
 .show iO hp (thn (T.done X rfl rfl rfl hc i a U σ3 B X.xe R (p C) E stop) λr s4 Y=>Y.elim λG I4=>?_);subst G;show i5 (σ3,B,I4,qn)
 .show iO hp (thn (T.item X rfl rfl rfl hc i a U σ3 B X.xe R (p C) E go) λr s4 Y=>Y.elim λu Y=>Y.elim λG h4=>?_);subst G;show iO hp (thn h4 λ_ s5 (x,H5,I5,r5,y5,y,M)=>(iO hp (thn (hg _ s5 σ3 H5 x u _ (I5.pinned (p M) (T.obj _ _ y)) r5 (step x H5 y5)) λ_ s6 (σ6,H6,I6,q6)=>(iO hp (thn (hb _ s6 σ6 H6 _ I6 q6) λf L l=>?_)))));let q:∀{σ7:St}{j:Hp},Inv X _ σ7 j L->N σ7 j->∃m,m<n/\∃i σ' H',Inv X a σ' H' L/\Q i L.heap/\(∀b∈z,H' b=gV)/\W i m σ' H':=λ{σ7 j} c t=>by
   let(m',hm,w7):=hN σ7 j t;show(m',hm,i+1,σ7,j,c.unpinned,T.keep _ _ _ y λb hb o e=>(c.pin _ (bz _ (bz _ (a1A hb e)))).1,λb hb=>?_,w7);let(o,e,d):=T.obj _ _ y b hb;show (c.pin _ (bz _ (bz _ (a1A hb e)))).2.1
  cases f with
  |next=>let(σ7,j,c,t):=l;show q c t
  |cont=>let(σ7,j,c,t):=l;show q c t
  |brk=>let(σ7,j,c,l):=l;show(σ7,j,c.unpinned,l)
  |ret v=>let(x7,σ7,j,c,r7,l):=l;show(x7,σ7,j,c.unpinned,r7,l)
end
abbrev R2:=V->V->Hp->VK->Prop
def OpR(X:Cx)(f:Value->Value->Sem Value)(r:R2):Prop:=
 ∀(pins:List (Addr×Obj))(s:Shared)(σ:St)(H:Hp)(x y:V)(v u:Value)(Q:VK),Inv X pins σ H s->RelV x v->RelV y u->r x y H Q ->
  wpAny (model X.prog X.w) X.A (f v u) (EP X pins σ Q) X.xe s
def UnR(X:Cx)(f:Value->Sem Value)(r:V->Hp->VK->Prop):Prop:=
 ∀(pins:List (Addr×Obj))(s:Shared)(σ:St)(H:Hp)(x:V)(v:Value)(Q:VK),Inv X pins σ H s->RelV x v->r x H Q ->
  wpAny (model X.prog X.w) X.A (f v) (EP X pins σ Q) X.xe s
def CallR(X:Cx)(f:Value)(r:List V->Hp->VK->Prop):Prop:=
 ∀(pins:List (Addr×Obj))(s:Shared)(σ:St)(H:Hp)(xs:List V)(us:List Value)(Q:VK),Inv X pins σ H s->Vals xs us->r xs H Q ->
  wpAny (model X.prog X.w) X.A (call f us) (EP X pins σ Q) X.xe s
def TruR(X:Cx)(r:V->Hp->(Bool->Hp->Prop)->Prop):Prop:=
 ∀(pins:List (Addr×Obj))(s:Shared)(σ:St)(H:Hp)(x:V)(v:Value)(Q:Bool->Hp->Prop),Inv X pins σ H s->RelV x v->r x H Q ->
  wpAny (model X.prog X.w) X.A (truthy v) (TP X pins σ Q) X.xe s
def tOp(r:R2)(ta tb:TE):TE:=fun σ H Q=>ta σ H λx H1=>tb σ H1 λy H2=>r x y H2 Q
def tUn(r:V->Hp->VK->Prop)(ta:TE):TE:=fun σ H Q=>ta σ H λx H1=>r x H1 Q
def rI(C:Int->Int->Prop)(g:Int->Int->V):R2:=λx y H Q=>∃i j,x=.int i/\y=.int j/\C i j/\Q (g i j) H
def rI0(g:Int->Int->V):R2:=λx y H Q=>∃i j,x=.int i/\y=.int j/\Q (g i j) H
def rU(g:Int->V):V->Hp->VK->Prop:=λx H Q=>∃i,x=.int i/\Q (g i) H
section
variable{a b c:Expr}{ta tb:TE}
def binT(ha:PE X a ta)(hb:PE X b tb){R:V->V->Hp->Prop}(I:Inv X pins σ H s)
  (h:ta σ H λx H1=>tb σ H1 λy H2=>R x y H2) {f:Value->Value->Sem Value}
  (hf:∀v u s2 x y H2,Inv X pins σ H2 s2->RelV x v->RelV y u->R x y H2->wpAny (model X.prog X.w) X.A (f v u) Q X.xe s2) :
  wpAny (model X.prog X.w) X.A (eval a X.env) (λv sj=>wpAny (model X.prog X.w) X.A (eval b X.env) (λu sv=>wpAny (model X.prog X.w) X.A (f v u) Q X.xe sv) X.xe sj) X.xe s:=by
 show thn (ha pins s σ H _ I h) λv c (x,j,i,g,n)=>(thn (hb pins c σ j _ i n) λu e (y,m,d,k,l)=>(hf v u e x y m d g k l))
def b6b(ho:OpR X (gY op) r)(ha:PE X a ta)(hb:PE X b tb):PE X (.BinOp a op b pos) (tOp r ta tb):=λc s σ H Q I h=>wpAny_BinOp (binT ha hb I h λv u i x y f e d g q=>ho c i σ f x y v u Q e d g q)
def b8Z(ho:UnR X (jG op) r)(ha:PE X a ta):PE X (.UnaryOp op a pos) (tUn r ta):=λb s σ H Q I h=>UnaryOp_ (thn (ha b s σ H _ I h) λv d (x,e,c,g,f)=>ho b d σ e x v Q c g f)
def opI{g:Int->Int->Int}
  (rule:∀(i j:Int)(t u:Tok)(s:Shared)(Q:Value->Shared->Prop)(E:Value->Shared->Prop),C i j->Q (.int (g i j) s.toks) { s with toks:=s.toks+1 }->wpAny (model X.prog X.w) X.A (f (.int i t) (.int j u)) Q E s) :
  OpR X f (rI C λi j=>.int (g i j)):=by
 ext b s σ H x y v u Q I a d h;let(i,j,rfl,rfl,e,q):=h;let(t,rfl):=a;let(c,rfl):=d;show rule i j t c s _ _ e (.int _,H,I.tok _,(_,rfl),q)
def opI0{g:Int->Int->Int}
  (rule:∀(i j:Int)(t u:Tok)(s:Shared)(Q:Value->Shared->Prop)(E:Value->Shared->Prop),Q (.int (g i j) s.toks) { s with toks:=s.toks+1 }->wpAny (model X.prog X.w) X.A (f (.int i t) (.int j u)) Q E s) :
  OpR X f (rI0 λi j=>.int (g i j)):=by
 ext a s σ H x y v u Q I d b h;let(i,j,rfl,rfl,q):=h;let(t,rfl):=d;let(c,rfl):=b;show rule i j t c s _ _ (.int _,H,I.tok _,(_,rfl),q)
def opB0{g:Int->Int->Bool}
  (rule:∀(i j:Int)(t u:Tok)(s:Shared)(Q:Value->Shared->Prop)(E:Value->Shared->Prop),Q (.bool (g i j)) s->wpAny (model X.prog X.w) X.A (f (.int i t) (.int j u)) Q E s) :
  OpR X f (rI0 λi j=>.bl (g i j)):=by
 ext d s σ H x y v u Q I c a h;let(i,j,rfl,rfl,q):=h;let(t,rfl):=c;let(b,rfl):=a;show rule i j t b s _ _ (.bl _,H,I,rfl,q)
def CPow(i j:Int):Prop:=0<=j/\j<=1000000/\i.natAbs<2 ^ 64
def CMul(i j:Int):Prop:=(-(2 ^ 64)<i/\i<2 ^ 64)\/(-(2 ^ 64)<j/\j<2 ^ 64)
def CMul.ok(h:CMul i j):IntMulOk i j:=by
 let(h1,h2)||(h1,h2):=h
 .show .of_left (intBits_le_64 h1 h2)
 .show .of_right (intBits_le_64 h1 h2)
def op_add:OpR X (gY .Add) (rI0 λi j=>.int (i+j)):=opI0 λ_ _ _ _ _ _ _ q=>add_int q
def b6c:OpR X (gY .Sub) (rI0 λi j=>.int (i-j)):=opI0 λ_ _ _ _ _ _ _ q=>sub_int q
def b6d:OpR X (gY .Mult) (rI CMul λi j=>.int (i*j)):=opI λ_ _ _ _ _ _ _ a q=>mul_int q a.ok
def b6e:OpR X (gY .Mod) (rI (λ_ j=>0<j) λi j=>.int (i % j)):=opI λi j _ _ _ _ _ a q=>by
 let b:(0:Int)<j:=a;show mod_int' (by lia) (by rw[Int.fmod_eq_emod_of_nonneg i (by lia)];show q)
def b6f:OpR X (gY .Pow) (rI CPow λi j=>.int (i ^ j.toNat)):=opI λ_ _ _ _ _ _ _ a q=>pow_int_small a.1 a.2.1 a.2.2 q
def b3B:OpR X (iG .Add) (rI0 λi j=>.int (i+j)):=opI0 λ_ _ _ _ _ _ _ q=>iadd_int q
def unI{g:Int->Int}
  (rule:∀(i:Int)(t:Tok)(s:Shared)(Q:Value->Shared->Prop)(E:Value->Shared->Prop),Q (.int (g i) s.toks) { s with toks:=s.toks+1 }->wpAny (model X.prog X.w) X.A (f (.int i t)) Q E s) :
  UnR X f (rU λi=>.int (g i)):=by
 ext b s σ H x v Q I a h;let(i,rfl,q):=h;let(t,rfl):=a;show rule i t s _ _ (.int _,H,I.tok _,(_,rfl),q)
def b6g:UnR X (jG .USub) (rU λi=>.int (-i)):=unI λ_ _ _ _ _ q=>neg_int q
end
noncomputable def scal:V->V->Bool
 |.non,.non=>kP |.non,.int _=>kP |.int _,.non=>kP |.non,.bl _=>kP |.bl _,.non=>kP |.non,.str _=>kP |.str _,.non=>kP
 |.int _,.int _=>kP |.bl _,.bl _=>kP |.str _,.str _=>kP |.byt _,.byt _=>kP
 |.int _,.str _=>kP |.str _,.int _=>kP |.bl _,.str _=>kP |.str _,.bl _=>kP
 |_,_=>kQ
def rEq:R2:=λx y H Q=>scal x y=kP/\Q (.bl (decide (x=y))) H
def rNe:R2:=λx y H Q=>scal x y=kP/\Q (.bl (!decide (x=y))) H
def a8w:decide (V.int i=V.int j)=(i==j):=by
 rw[cO];simp
def a8x:decide (V.bl i=V.bl j)=(i==j):=by
 rw[cO];simp
def a8y:decide (V.str i=V.str j)=(i==j):=by
 rw[cO];simp
def a8z:decide (V.byt i=V.byt j)=(i.toList==j.toList):=by
 rw[cO];cases i;cases j;simp
section
variable{a b c:Expr}{ta tb tc:TE}
def a0l(I:Inv X pins σ H s)(q:Q (.bl k) H)(e:k=k'):EP X pins σ Q (.bool k') s:=by
 subst e;show(.bl k,H,I,rfl,q)
def op_eq:OpR X (gO .Eq) rEq:=by
 ext pins s σ H x y v u Q I rx ry h;let(hs,q):=h;cases x with
 |non=>
  cases rx;cases y with
  |non=>cases ry;show PySem.EqNone.eq_none_none (a0l I q (by simp))
  |bl j=>cases ry;show PySem.EqNone.eq_none_bool (a0l I q (by simp))
  |int j=>let(t',rfl):=ry;show PySem.EqNone.eq_none_int (a0l I q (by simp))
  |str j=>let(t',rfl):=ry;show PySem.EqNone.eq_none_str (a0l I q (by simp))
  |_=>show absurd (show kQ=kP from hs) bB
 |bl i=>
  cases rx;cases y with
  |non=>cases ry;show PySem.EqNone.eq_bool_none (a0l I q (by simp))
  |bl j=>cases ry;show eq_bool (a0l I q a8x)
  |str j=>let(t',rfl):=ry;show PySem.EqMixed.eq_bool_str (a0l I q (by simp))
  |_=>show absurd (show kQ=kP from hs) bB
 |int i=>
  let(t,rfl):=rx;cases y with
  |non=>cases ry;show PySem.EqNone.eq_int_none (a0l I q (by simp))
  |int j=>let(t',rfl):=ry;show eq_int (a0l I q a8w)
  |str j=>let(t',rfl):=ry;show PySem.EqMixed.eq_int_str (a0l I q (by simp))
  |_=>show absurd (show kQ=kP from hs) bB
 |str i=>
  let(t,rfl):=rx;cases y with
  |non=>cases ry;show PySem.EqNone.eq_str_none (a0l I q (by simp))
  |bl j=>cases ry;show PySem.EqMixed.eq_str_bool (a0l I q (by simp))
  |int j=>let(t',rfl):=ry;show PySem.EqMixed.eq_str_int (a0l I q (by simp))
  |str j=>let(t',rfl):=ry;show eq_str (a0l I q a8y)
  |_=>show absurd (show kQ=kP from hs) bB
 |byt i=>
  let(t,rfl):=rx;cases y with
  |byt j=>let(t',rfl):=ry;show PySem.W.eq_bytes (a0l I q a8z)
  |_=>show absurd (show kQ=kP from hs) bB
 |_=>cases y<;>show absurd (show kQ=kP from hs) bB
def op_ne:OpR X (gO .NotEq) rNe:=by
 ext e s σ H x y v u Q I d a h;let(c,q):=h;cases x with
 |non=>
  cases d;cases y with
  |non=>cases a;show PySem.EqNone.ne_none_none (a0l I q (by simp))
  |bl j=>cases a;show PySem.EqNone.ne_none_bool (a0l I q (by simp))
  |int j=>let(b,rfl):=a;show PySem.EqNone.ne_none_int (a0l I q (by simp))
  |str j=>let(b,rfl):=a;show PySem.EqNone.ne_none_str (a0l I q (by simp))
  |_=>show absurd (show kQ=kP from c) bB
 |bl i=>
  cases d;cases y with
  |non=>cases a;show PySem.EqNone.ne_bool_none (a0l I q (by simp))
  |bl j=>cases a;show ne_bool (a0l I q (congrArg not a8x))
  |str j=>let(b,rfl):=a;show PySem.EqMixed.ne_bool_str (a0l I q (by simp))
  |_=>show absurd (show kQ=kP from c) bB
 |int i=>
  let(t,rfl):=d;cases y with
  |non=>cases a;show PySem.EqNone.ne_int_none (a0l I q (by simp))
  |int j=>let(b,rfl):=a;show ne_int (a0l I q (congrArg not a8w))
  |str j=>let(b,rfl):=a;show PySem.EqMixed.ne_int_str (a0l I q (by simp))
  |_=>show absurd (show kQ=kP from c) bB
 |str i=>
  let(t,rfl):=d;cases y with
  |non=>cases a;show PySem.EqNone.ne_str_none (a0l I q (by simp))
  |bl j=>cases a;show PySem.EqMixed.ne_str_bool (a0l I q (by simp))
  |int j=>let(b,rfl):=a;show PySem.EqMixed.ne_str_int (a0l I q (by simp))
  |str j=>let(b,rfl):=a;show ne_str (a0l I q (congrArg not a8y))
  |_=>show absurd (show kQ=kP from c) bB
 |byt i=>
  let(t,rfl):=d;cases y with
  |byt j=>let(b,rfl):=a;show PySem.W.ne_bytes (a0l I q (congrArg not a8z))
  |_=>show absurd (show kQ=kP from c) bB
 |_=>cases y<;>show absurd (show kQ=kP from c) bB
def b80:OpR X (gO .Lt) (rI0 λi j=>.bl (decide (i<j))):=opB0 λ_ _ _ _ _ _ _ q=>lt_int q
def b81:OpR X (gO .LtE) (rI0 λi j=>.bl (decide (i<=j))):=opB0 λ_ _ _ _ _ _ _ q=>le_int q
def b82:OpR X (gO .Gt) (rI0 λi j=>.bl (decide (j<i))):=opB0 λ_ _ _ _ _ _ _ q=>gt_int q
def a8A:OpR X (gO .Lt) (λx y H Q=>∃i j,x=.str i/\y=.str j/\Q (.bl (decide (i.cps.toList<j.cps.toList))) H):=by
 ext b s σ H x y v u Q I a c h;let(i,j,rfl,rfl,q):=h;let(t,rfl):=a;let(d,rfl):=c;show lt_str (a0l I q rfl)
def op_in_str:OpR X (gO .In) (λx y H Q=>∃i j,x=.str i/\y=.str j/\Q (.bl (!(gN.Str.occurrences j i 0 j.length 1).isEmpty)) H):=by
 ext b s σ H x y v u Q I a c h;let(i,j,rfl,rfl,q):=h;let(t,rfl):=a;let(d,rfl):=c;show in_str (a0l I q rfl)
def op_isN:OpR X (gO .Is) (λx y H Q=>y=.non/\Q (.bl (decide (x=.non))) H):=by
 ext b s σ H x y v u Q I a c h;let(rfl,q):=h;cases c;show is_none_gen (a0l I q ?_);cases x<;>first
  | (cases a;rfl)
  | (let(t,rfl):=a;rfl)
def b3C:OpR X (gO .IsNot) (λx y H Q=>y=.non/\Q (.bl (!decide (x=.non))) H):=by
 ext c s σ H x y v u Q I a b h;let(rfl,q):=h;cases b;show isnot_none_gen (a0l I q ?_);cases x<;>first
  | (cases a;rfl)
  | (let(t,rfl):=a;rfl)
def OpR.or(h:OpR X f r)(h':OpR X f r'):OpR X f (λx y H Q=>r x y H Q\/r' x y H Q):=by
 ext a s σ H x y v u Q I c b q;let q||q:=q
 .show h a s σ H x y v u Q I c b q
 .show h' a s σ H x y v u Q I c b q
def a1U(b:Expr)(h:op≠.In:=by decide)(h2:op≠.NotIn:=by decide):iP op b=kQ:=by
 let a:(op==CmpOp.In)=kQ:=by grind
 let c:(op==CmpOp.NotIn)=kQ:=by grind
 cases b<;>simp[iP,a,c]
def b3D(ho:OpR X (gO op) r)(ha:PE X a ta)(hb:PE X b tb)(hm:iP op b=kQ):PE X (.Compare a [op] [b] pos) (tOp r ta tb):=λc s σ H Q I h=>wpAny_Compare1 (binT ha hb I h λv u d x y f g i e q=>ho c d σ f x y v u Q g i e q) hm
def b6h(t:TE):TT:=fun σ H Q=>t σ H λx H'=>∃k,x=.bl k/\Q k H'
def b3E(ho:OpR X (gO op) r)(ha:PE X a ta)(hb:PE X b tb)(hm:iP op b=kQ):PT X (.Compare a [op] [b] pos) (b6h (tOp r ta tb)):=by
 ext d s σ H Q I h;show wpAny_isTrue_Compare1 (thn (ha d s σ H _ I h) λv l (x,w,f,n,B)=>thn (hb d l σ w _ f B) λu t (y,m,i,j,A)=>
  thn (ho d t σ m x y v u _ i n j A) λc C (z,q,p,o,k,e,g)=>?_) hm
 subst e;cases o;show iC (q,p,g)
def a8B(r r':R2)(ta tb tc:TE):TE:=fun σ H Q=>ta σ H λx H1=>tb σ H1 λy H2=>r x y H2 λz H3=>∃k,z=.bl k /\
 (if k=kP then tc σ H3 λw' H4=>r' y w' H4 Q else Q (.bl kQ) H3)
def b0M(ho:OpR X (gO op) r)(ho':OpR X (gO op') r')(ha:PE X a ta)(hb:PE X b tb)(hc:PE X c tc)
  (hm:jH [op,op'] [b,c]=kQ:=by with_unfolding_all rfl):PE X (.Compare a [op,op'] [b,c] pos) (a8B r r' ta tb tc):=by
 ext f s σ H Q I h;show Compare_chain (thn (ha f s σ H _ I h) λv m (x,t,J,p,N)=>chain_link (thn (hb f m σ t _ J N) λu o (y,C,F,j,L)=>
  thn (ho f o σ C x y v u _ F p j L) λd A (z,i,g,n,k,e,l)=>?_)) hm
 subst e;cases n;show iC ?_;cases k with
 |false=>show ite_ff (.bl kQ,i,g,rfl,l)
 |true=>show ite_tt (chain_last (thn (hc f A σ i _ g l) λM w (D,q,B,G,E)=>ho' f w σ q y D u M Q B j G E))
def b0N(ho:OpR X (gO op) r)(ho':OpR X (gO op') r')(ha:PE X a ta)(hb:PE X b tb)(hc:PE X c tc)
  (hm:jH [op,op'] [b,c]=kQ:=by with_unfolding_all rfl):PT X (.Compare a [op,op'] [b,c] pos) (b6h (a8B r r' ta tb tc)):=by
 ext f s σ H Q I h;show isTrue_chain (thn (ha f s σ H _ I h) λv B (x,G,p,D,R)=>test_link (thn (hb f B σ G _ p R) λu q (y,V,J,l,Y)=>
  thn (ho f q σ V x y v u _ J D l Y) λd S (z,j,i,T,k,e,g)=>?_)) hm
 subst e;cases T;show iC ?_;cases k with
 |false=>
  let(k',t,w):=g;cases t;show ite_ff (j,i,w)
 |true=>
  show ite_tt (test_last (thn (hc f S σ j _ i g) λN F (U,o,C,L,m)=>thn (ho' f F σ o y U u N _ C l L m) λd' s5 (z2,A,W,n,k2,M,E)=>?_));subst M;cases n;show iC (A,W,E)
def TruV(K:Fg)(x:V)(H:Hp)(k:Bool):Prop:=
 match x with
 |.non=>k=kQ
 |.bl b=>k=b
 |.int i=>k=(i != 0)
 |.str y=>y.length<=gH/\k=((y.length:Int) != 0)
 |.byt y=>y.size<=gH/\k=((y.size:Int) != 0)
 |.ref p=>(∃xs,SqL K H p xs/\k=!xs.isEmpty)\/(∃xs,SqT K H p xs/\k=!xs.isEmpty)\/∃kvs,H p=be (.dK kvs)/\k=!kvs.isEmpty
 |_=>False
def a7F{κ:Type}{kvs:List (κ×V)}{vs:List (κ×Value)}(r:KV kvs vs):(!vs.isEmpty)=!kvs.isEmpty:=by
 cases r<;>rfl
def a3N(r:Vals xs its):(!its.toArray.isEmpty)=!xs.isEmpty:=by
 cases r<;>simp
def a4W:(gH:Nat)<2 ^ 63:=by rw[gU];decide
def b6i:TruR X (λx H Q=>∃k,TruV X.K x H k/\Q k H):=by
 ext u s σ H x v Q I c h;let(k,e,q):=h;let z:=a4W;let A:gH=16777216:=gU;cases x with
 |non=>
  cases c;let a:k=kQ:=e;subst a;show truthy_none (H,I,q)
 |bl b=>
  cases c;let a:k=b:=e;subst a;show iC (H,I,q)
 |int i=>
  let(t,rfl):=c;let a:k=(i != 0):=e;subst a;show PySem.P.truthy_int (H,I,q)
 |str y=>
  let(t,rfl):=c;let(o,a):=e;subst a;show PySem.P.truthy_str (by lia) (H,I.tok _,q)
 |byt y=>
  let(t,rfl):=c;obtain⟨o,a⟩:y.size<=gH/\k=((y.size:Int) != 0):=e;subst a;show PySem.W.truthy_bytes (by lia) (H,I.tok _,q)
 |ref p=>
  cases c;let a:=e;let(xs,hx,a)||(xs,hx,a)||(kvs,hx,a):=a
  .subst a;let(l,r,g,j):=I.list hx;let d:=r.length;show wpAny_truthy_list g.isList (by simp only[bt];lia) (H,I.tok _,by rw[a3N r];show q)
  .subst a;let(l,r,g,j):=I.tuple hx;let d:=r.length;show truthy_tuple g (by simp only[bt];lia) (H,I.tok _,by rw[a3N r];show q)
  .subst a;let(j,n,f,r,m):=I.hok p _ hx;let d:kvs.length=f.length:=Paired.length r;show wpAny_truthy_dict n m (by lia) (H,I.tok _,by rw[a7F r];show q)
 |_=>show (show False from e).elim
def b0O(ha:PE X a ta)(he:∀whole,isTrue a X.env whole=(do let v <- whole;iF a.pos;h9 [v] (truthy v))) :
  PT X a (fun σ H Q=>ta σ H λx H'=>∃k,TruV X.K x H' k/\Q k H'):=λb s σ H Q I h=>isTrue_plain (thn (ha b s σ H _ I h) λv e (x,f,d,g,c)=>b6i b e σ f x v Q d g c) (he _)
def op_add_str:OpR X (gY .Add) (λx y H Q=>∃i j,x=.str i/\y=.str j/\i.length+j.length<=gH/\Q (.str (i++j)) H):=by
 ext b s σ H x y v u Q I a d h;let(i,j,rfl,rfl,e,q):=h;let(t,rfl):=a;let(c,rfl):=d;show add_str (λc f=>(.str (i++j),H,I.tok _,(_,rfl),q)) e
def a1K(r:Vals [x] us):∃u,us=[u]/\RelV x u:=by
 cases r with
 |cons r1 r2=>cases r2;show(_,rfl,r1)
def a8C(r:Vals [x,kR] us):∃u w',us=[u,w']/\RelV x u/\RelV kR w':=by
 cases r with
 |cons r1 r2=>
  cases r2 with
  |cons r3 r4=>cases r4;show(_,_,rfl,r1,r3)
def a8D(hc:X.calm=kP):CallR X (.builtin "max") (λxs H Q=>∃i j,xs=[.int i,.int j]/\Q (.int (if j > i then j else i)) H):=by
 ext a s σ H d e Q I r h;let(i,j,rfl,q):=h;let(u,f,rfl,(t,rfl),(b,rfl)):=a8C r;show max_two_ints (I.ok.hd hc) λg c k=>(_,H,I.kept k,?_,q)
 by_cases hj:j > i
 .rw[if_pos hj,if_pos hj];show(_,rfl)
 .rw[if_neg hj,if_neg hj];show(_,rfl)
def a8E(hc:X.calm=kP):CallR X (.builtin "min") (λxs H Q=>∃i j,xs=[.int i,.int j]/\Q (.int (if j<i then j else i)) H):=by
 ext a s σ H d f Q I r h;let(i,j,rfl,q):=h;let(u,g,rfl,(t,rfl),(c,rfl)):=a8C r;show min_two_ints (I.ok.hd hc) λb e k=>(_,H,I.kept k,?_,q)
 by_cases hj:j<i
 .rw[if_pos hj,if_pos hj];show(_,rfl)
 .rw[if_neg hj,if_neg hj];show(_,rfl)
def LenV(K:Fg)(x:V)(H:Hp)(n:Nat):Prop:=
 match x with
 |.str y=>y.length<=gH/\n=y.length
 |.byt y=>y.size<=gH/\n=y.size
 |.ref p=>(∃xs,SqL K H p xs/\n=xs.length)\/∃xs,SqT K H p xs/\n=xs.length
 |_=>False
def b0P:CallR X (.builtin "len") (λxs H Q=>∃x n,xs=[x]/\LenV X.K x H n/\Q (.int n) H):=by
 ext j s σ H a v Q I r h;let(x,n,rfl,e,q):=h;let(u,rfl,d):=a1K r;let o:=gU;cases x with
 |str y=>
  let(t,rfl):=d;let(k,b):=e;subst b;show len_str (by lia) (.int _,H,I.tok _,(_,rfl),q)
 |byt y=>
  let(t,rfl):=d;let(k,b):=e;subst b;show PySem.W.len_bytes (by lia) (.int _,H,I.tok _,(_,rfl),q)
 |ref p=>
  cases d;let b:=e;let(a,hx,b)||(a,hx,b):=b
  .subst b;let(i,g,f,l):=I.list hx;let c:=g.length;show Calls.call_len_list f.isList (by grind) (.int a.length,H,I.tok _,(_,by simp only[bt];rw[c]),q)
  .subst b;let(i,g,f,l):=I.tuple hx;let c:=g.length;show len_tuple f (by grind) (.int a.length,H,I.tok _,(_,by simp only[bt];rw[c]),q)
 |_=>show (e).elim
end
structure ObjM (h:Heap) (x dx C:Addr) (mA:Str->Option Value):Prop where
 obj:h.get? x=be (PySem.W.instObj C dx)
 ns:h.Ns1 dx mA
 ne:dx≠x
def a8F{h:Heap}(n:h.Ns1 dx mA):∃od,h.get? dx=be od/\∀name,PySem.W.lookIn name od=be (mA name):=by
 let(o,d,m,l,j,f,_,g):=n;show(o,l,λc=>?_);let e:=g c;unfold nsFind findBy at e;rw[<- Array.find?_toList]at e;unfold PySem.W.lookIn;rw[j];dsimp only
 split
 .simp_all
 .rename_i q
  rw[q]at e;let a:d.toList.any (·.refKey)=kQ:=by
   rw[cZ];ext y k;let(z,t,b):=f y (fj.mp k);simp[jI.refKey,b]
  let i:¬ d.toList.any (·.refKey)=kP:=a▸bB;rw[if_neg i];show congrArg be e
def ObjM.look(I:ObjM h x dx C mA):∃od,PySem.W.InstAt h x (PySem.W.instObj C dx) C (be od)/\∀name,PySem.W.lookIn name od=be (mA name):=
 let (od,ho,hl):=a8F I.ns
 (od,(I.obj,rfl,rfl,ho),hl)
section
variable{K:Fg}{x C f:Addr}{mA:Str->Option Value}{name:Str}{v:Value}
def b3F(X:K.In s.heap)(I:ObjM s.heap x dx C mA)(hg:PySem.W.plainGet K C name=kP)(hh:PySem.W.hasDictIn K C=kP)
  (ha:PySem.W.findIn K (.ref C) name=be gV) (hv:mA name=be v) (hv':PySem.W.handedIn v=kP) (h:Q v { s with toks:=s.toks+1 }) :
  wpAny (model prog w) A (getAttr (.ref x) name expr) Q E s:=by
 let(b,J,a):=I.look;show PySem.W.get_value X J (PySem.W.plainGet_of hg).1 (PySem.W.findObj_own hh ha rfl (by simp_all)) hv' h
def b0Q(X:K.In s.heap)(I:ObjM s.heap x dx C mA)(hg:PySem.W.plainGet K C name=kP)
  (hf:PySem.W.findIn K (.ref C) name=be (be (.ref f))) (ht:PySem.W.isFn K (.ref f)=kP) (hv:mA name=gV) (h:Q (.ref f,[.ref x],) s) :
  wpAny (model prog w) A (jr (.ref x) name pl) Q E s:=by
 let(b,J,a):=I.look;show PySem.W.method_fn X J (PySem.W.plainGet_of hg).1 (PySem.W.plainGet_of hg).2 hf (beq_iff_eq.mp ht) (by change (PySem.W.lookIn name b).map _=be kQ;rw[a,hv];rfl) h
def b3G(X:K.In s.heap)(I:ObjM s.heap x dx C mA)
  (hs:PySem.W.findIn K (.ref C) "__setattr__"=be (be (.builtin "object.__setattr__"))) (hp:PySem.W.plainOver K C=kP) (ht:PySem.W.takerIn K C name=be gV) (hh:PySem.W.hasDictIn K C=kP)
  (hw:PySem.Within mA ns) (hsz:ns.length<=gH)
  (h:∀h',ObjM h' x dx C (λy=>if y=name then be v else mA y)->Heap.SameBut dx s.heap h'->Q () { s with heap:=h',toks:=s.toks+2 }) :
  wpAny (model prog w) A (setAttr (.ref x) name v) Q E s:=by
 let(p,J,n):=I.look;show PySem.W.set_plain X J hs (PySem.W.osa_open X J hp ht λb=>?_);let(o,j,i):=PySem.W.any_some hh;show gE (gF (gE (gE (wpAny_loadPart I.obj (gE (PySem.W.Looks.here (PySem.W.looks_clsIn X j) ?_))))));rw[i];show gF (gE (gF (gE (wpAny_nsSet1 I.ns λt d c=>?_))));let(q,l,m,f,g,e):=d.count (PySem.Within.cons name v hw);show gE (wpAny_lookBehind f (g▸pastItsLine_dict (aU e (by grind))) (gF (h _ ((c.2 _ (Ne.symm I.ne)).trans I.obj,d,I.ne) c)))
def b0R(X:K.In s.heap)(hm:PySem.W.makesIn K C=kP)
  (hi:PySem.W.findIn K (.ref C) "__init__"=be (be (.ref f))) (hf:PySem.W.typeIn K (.ref f)=be (.type "function"))
  (h:ig (model prog w) (A.under (.builtin "type.__call__" (.ref C::vs,kw))) (.call (.ref f) (.ref (s.heap.objs.size+1)::vs,kw)) (PySem.W.InitBack (s.heap.objs.size+1) R)
   { s with heap:=(s.heap.push PySem.W.emptyDict).push (PySem.W.instObj C s.heap.objs.size) }) :
  ig (model prog w) A (.call (.ref C) (vs,kw)) R s:=PySem.W.make_core (PySem.W.makes_of X hm) (PySem.W.looks_findIn X hi) (λa=>PySem.W.bind_fn X a hf) (.inl rfl) h
end
noncomputable def putF(f:Str)(v:V):List (Str×V)->List (Str×V)
 |[]=>[(f,v,)]
 | (g,x,)::r=>if g=f then (g,v,)::r else (g,x,)::putF f v r
def a5U(f g:Str)(v:V):∀fs:List (Str×V),(putF f v fs).lookup g=if g=f then be v else fs.lookup g:=by ext z0;induction z0 with
 |nil=>
  change dG g [_]=_
  by_cases h:g=f
  .simp_all
  .simp_all
 |cons q0 r I0=>
  let(k,x):=q0;rw[show putF f v _=(if k=f then _::r else (k,x,)::putF f v r) from rfl]
  by_cases hk:k=f
  .rw[if_pos hk]
   by_cases h:g=k
   .simp_all
   .let a:=beq_eq_false_iff_ne.mpr h;simp only[dG,a,if_neg (λe:g=f=>h (e.trans hk.symm))]
  .rw[if_neg hk]
   by_cases h:g=k
   .simp_all
   .let a:=beq_eq_false_iff_ne.mpr h;simp only[dG,a];show (I0)
def a4X(f:Str)(v:V):∀fs:List (Str×V),f∈(putF f v fs).map (·.1)/\∀g,g∈fs.map (·.1)->g∈(putF f v fs).map (·.1):=by ext z0;induction z0 with
 |nil=>show(by simp[putF],λg h=>by simp at h)
 |cons q0 r I0=>
  let(k,x):=q0;let(a,b):=I0;rw[show putF f v _=(if k=f then _::r else (k,x,)::putF f v r) from rfl]
  by_cases hk:k=f
  .grind
  .rw[if_neg hk];show(?_,λg h=>?_)
   .rw[aR];show bR _ a
   .rw[aR]at h ⊢;let e||e:=aL.mp h
    .show aL.mpr (.inl e)
    .show bR _ (b g e)
def a5V(f:Str)(v:V):∀fs:List (Str×V),(putF f v fs).length<=fs.length+1:=by ext z0;induction z0 with
 |nil=>simp[putF]
 |cons q0 r I0=>
  let(k,x):=q0;let a:=I0;rw[show putF f v _=(if k=f then _::r else (k,x,)::putF f v r) from rfl]
  by_cases hk:k=f
  .grind
  .grind
def RelO.some_of(r:RelO (be v) o):∃u,o=be u/\RelV v u:=by
 cases o with
 |none=>show (r).elim
 |some u=>show(u,rfl,r)
def RelO.none_of(r:RelO gV o):o=gV:=by
 cases o with
 |none=>rfl
 |some u=>show (r).elim
def a8G(r:RelV v u):PySem.W.handedIn u=kP:=by
 cases v with
 |non=>cases (r);rfl
 |bl b=>cases (r);rfl
 |int i=>let(t,e):=(r);cases e;rfl
 |str x=>let(t,e):=(r);cases e;rfl
 |byt b=>let(t,e):=(r);cases e;rfl
 |flt b=>let(t,e):=(r);cases e;rfl
 |ref a=>cases (r);rfl
 |ty n=>cases (r);rfl
section
variable{h:Heap}{a C:Addr}{fs:List (Str×V)}
def a4a(hok:HOk P w H h)(e:H a=be (.ins C dx fs)):∃mA,ObjM h a dx C mA/\(∀f,RelO (fs.lookup f) (mA f))/\PySem.Within mA (fs.map (·.1))/\fs.length<=1000/\H dx=be (.own a):=by
 let(d,z,c,g,b,n,r,q):=(hok a _ e);show(b,(g,n,c),r,q,z,d)
end
structure Cls (K:Fg) (C:Addr):Prop where
 pg:PySem.W.plainGet K C Str.empty=kP
 hd:PySem.W.hasDictIn K C=kP
 po:PySem.W.plainOver K C=kP
 sa:PySem.W.findIn K (.ref C) "__setattr__"=be (be (.builtin "object.__setattr__"))
def Cls.get{K:Fg}(c:Cls K C)(f:Str):PySem.W.plainGet K C f=kP:=c.pg
def NoAttr(K:Fg)(C:Addr)(f:Str):Prop:=PySem.W.findIn K (.ref C) f=be gV
def NoAttr.taker{K:Fg}(n:NoAttr K C f):PySem.W.takerIn K C f=be gV:=by
 unfold PySem.W.takerIn;rw[n]
 rfl
structure Meth (K:Fg) (C:Addr) (m:Str) (f:Addr):Prop where
 at_:PySem.W.findIn K (.ref C) m=be (be (.ref f))
 fn:PySem.W.isFn K (.ref f)=kP
 kp:PySem.W.keepIn K (.ref f)=kP
section
variable{σ:St}{a C:Addr}{fs:List (Str×V)}{f:Str}{v:V}
def a3O(I:Inv X pins σ H s)(e:H a=be (.ins C dx fs))(c:Cls X.K C)(n:NoAttr X.K C f)(l:fs.lookup f=be v)
  (h:∀u s',Inv X pins σ H s'->RelV v u->Q u s'):wpAny (model X.prog X.w) A (getAttr (.ref a) f b) Q E s:=by
 let(i,O,r,_,_,_):=a4a I.hok e;let(u,g,d):=RelO.some_of (l▸r f);show b3F I.kIn O (c.get f) c.hd n g (a8G d) (h u _ (I.tok _) d)
def a7G(I:Inv X pins σ H s)(e:H a=be (.ins C dx fs))(c:Cls X.K C)(k:Meth X.K C m g)(l:fs.lookup m=gV)
  (h:Q (.ref g,[.ref a],) s):wpAny (model X.prog X.w) A (jr (.ref a) m pl) Q E s:=by
 let(b,O,r,_,_,_):=a4a I.hok e;let d:=RelO.none_of (l▸r m);show b0Q I.kIn O (c.get m) k.at_ k.fn d h
def a3P(I:Inv X pins σ H s)(e:H a=be (.ins C dx fs))(c:Cls X.K C)(n:NoAttr X.K C f)(hl:fs.length<1000)(ry:RelV kR u)
  (h:∀s',Inv X pins σ (upd H a (.ins C dx (putF f kR fs))) s'->Q () s'):wpAny (model X.prog X.w) A (setAttr (.ref a) f u) Q E s:=by
 let(i,O,r,j,_,k):=a4a I.hok e;let v:(fs.map (·.1)).length<=sizeLine:=by rw[aH,gU];lia
 show b3G I.kIn O c.sa c.po n.taker c.hd j v λm d l=>h _ ?_;let t:∃o,m.get? dx=be o:=by let(o,_,_,e',_):=d.ns;show(o,e')
 show I.write (e▸True.intro) (.inr k) (λb q p z=>(l.2 b p).trans z) t (by rw[a0d O.ne];show k,?_,O.ne,d.obj,_,d.ns,λg=>?_,λg B=>?_)
 .let:=a5V f kR fs;lia
 .change RelO _ _
  rw[a5U]
  by_cases q:g=f
  .rw[if_pos q,if_pos q];show ry
  .simp_all
 .by_cases q:g=f
  .rw[q];show (a4X f kR fs).1
  .show (a4X f kR fs).2 g (j g λz=>B ?_)
   change (if g=f then be u else i g)=gV
   rw[if_neg q];show z
def Inv.made(I:Inv X pins σ H s):Inv X pins σ (upd (upd H s.heap.objs.size (.own (s.heap.objs.size+1))) (s.heap.objs.size+1) (.ins C s.heap.objs.size []))
  { s with heap:=(s.heap.push PySem.W.emptyDict).push (PySem.W.instObj C s.heap.objs.size) }:=by
 let c:(s.heap.push PySem.W.emptyDict).get? s.heap.objs.size=be PySem.W.emptyDict:=Heap.get?_push_size s.heap rfl;let i:((s.heap.push PySem.W.emptyDict).push (PySem.W.instObj C s.heap.objs.size)).get? (s.heap.objs.size+1)=be (PySem.W.instObj C s.heap.objs.size):=by
  let:=Heap.get?_push_size (s.heap.push PySem.W.emptyDict) (o:=PySem.W.instObj C s.heap.objs.size) rfl
  rwa [Heap.size_push]at this
 let g:(s.heap.push PySem.W.emptyDict).Ns s.heap.objs.size _:=(PySem.W.emptyDict,#[],_,c,rfl,(λe h=>absurd h (by simp)),λ_=>rfl);show (I.laid (o:=.own (s.heap.objs.size+1)) (t':=s.toks) (λb u q=>Heap.get?_push_of_some _ q) (aI _) (_,c)).laid (t':=s.toks) (λb u q=>Heap.get?_push_of_some _ q) (dH (Heap.size_push _ _)) ?_;let d:s.heap.objs.size≠s.heap.objs.size+1:=aS (dI _);show(by rw[a0d d,a0f],bg _,d,i,λ_=>gV,(Heap.Ns1.of_empty g).at λo q=>Heap.get?_push_of_some _ q,λ_=>True.intro,λy f=>absurd rfl f)
def b3H(hb:i6 e f env (eval e env)=eval e env)
  (h:wpAny (model prog w) A (eval e env) (λo sj=>wpAny (model prog w) A (getAttr o f kP) Q E sj) E s):wpAny (model prog w) A (eval (.Attribute e f pos) env) Q E s:=
 Attribute_any_ h (by rw[arm_eval_Attribute,hb])
end
def tFld(K:Fg)(ta:TE)(f:Str):TE:=fun σ H Q=>ta σ H λx H1=>∃a C dx fs v,x=.ref a/\H1 a=be (.ins C dx fs)/\Cls K C/\NoAttr K C f/\fs.lookup f=be v/\Q v H1
def sFld(K:Fg)(ta tv:TE)(f:Str):TS:=λD σ H=>tv σ H λy H1=>ta σ H1 λx H2=>∃a C dx fs,x=.ref a/\H2 a=be (.ins C dx fs)/\Cls K C/\NoAttr K C f/\fs.length<1000 /\
 D.nx σ (upd H2 a (.ins C dx (putF f y fs)))
def InOp(X:Cx)(op:Operator)(rd:V->V->Hp->VK->Prop):Prop:=
 ∀(pins:List (Addr×Obj))(s:Shared)(σ:St)(H:Hp)(x y:V)(u v:Value)(Q:VK),Inv X pins σ H s->RelV x u->RelV y v->rd x y H Q->wpAny (model X.prog X.w) X.A (iG op u v) (EP X pins σ Q) X.xe s
def b3I(K:Fg)(ta tv:TE)(rd:V->V->Hp->VK->Prop)(f:Str):TS:=λD σ H=>ta σ H λx H1=>∃a C dx fs v,x=.ref a/\H1 a=be (.ins C dx fs)/\Cls K C/\NoAttr K C f/\fs.lookup f=be v /\
 tv σ H1 λy H2=>rd v y H2 λz H3=>∃dx' fs',H3 a=be (.ins C dx' fs')/\fs'.length<1000/\D.nx σ (upd H3 a (.ins C dx' (putF f z fs')))
section
variable{o e value:Expr}{f:Str}{pos':Pos}{ta tv:TE}
def b6j(he:PE X e ta)(hb:i6 e f X.env (eval e X.env)=eval e X.env):PE X (.Attribute e f pos) (tFld X.K ta f):=by
 ext b s σ H Q I h;show b3H hb (thn (he b s σ H _ I h) λu p (x,d,i,j,a,C,r,w,v,g,m,c,n,l,q)=>?_);subst g;obtain rfl:u=Value.ref a:=j;show a3O i m c n l λy t o k=>(v,d,o,k,q)
def b6k(ha:PE X o ta)(hv:PE X value tv)(hs:ik value (be (.Attribute o f pos')) pos.line X.env=pure kQ):PS X (.Assign [.Attribute o f pos'] value pos) (sFld X.K ta tv f):=by
 ext b s σ H D I h;show plainObj_wpAny_Assign_Attribute (thn (hv b s σ H _ I h) λu g (y,d,k,v,q)=>thn (ha b g σ d _ k q) λj A (x,B,r,p,a,C,z,E,i,t,c,n,l,m)=>?_) hs;subst i;obtain rfl:j=Value.ref a:=p;show a3P r t c n l v λw e=>(σ,_,e,m)
def a8H(ha:PE X o ta)(hv:PE X value tv)(hop:InOp X op rd):PS X (.AugAssign (.Attribute o f tpos) op value pos) (b3I X.K ta tv rd f):=by
 ext b s σ H D I h;show wpAny_AugAssign_AttributeAny (thn (ha b s σ H _ I h) λj T (x,e,k,M,a,C,dx,fs,v,B,p,c,n,l,q)=>?_);subst B;obtain rfl:j=Value.ref a:=M;show a3O k p c n l λu J r m=>thn (hv b J σ e _ r q) λi E (y,t,g,w,L)=>thn (hop b E σ t v y u i _ g m w L) λU Y (z,H3,N,A,R,S,d,Q,F)=>(a3P N d c n Q A λW G=>(σ,_,G,F))
end
section
variable{σ:St}{Q:Value->Shared->Prop}{c:Value}{b:Bool}
inductive TyOf (K:Fg) (H:Hp):V->Value->Prop where
 |non:TyOf K H .non (.type "NoneType")
 |bl (x:Bool):TyOf K H (.bl x) (.type "bool")
 |int (i:Int):TyOf K H (.int i) (.type "int")
 |str (x:Str):TyOf K H (.str x) (.type "str")
 |flt (x:UInt64):TyOf K H (.flt x) (.type "float")
 |lst {a:Addr} {xs:List V} (e:H a=be (.lst xs)):TyOf K H (.ref a) (.type "list")
 |frz {a:Addr} {o:Obj} {xs:List V} (e:H a=be (.frz o (.lst xs))):TyOf K H (.ref a) (.type "list")
 |tup {a:Addr} {xs:List V} (e:H a=be (.tup xs)):TyOf K H (.ref a) (.type "tuple")
 |dK {a:Addr} {kvs:List (Key×V)} (e:H a=be (.dK kvs)):TyOf K H (.ref a) (.type "dict")
 |dT {a:Addr} {kvs:List (List Key×V)} (e:H a=be (.dT kvs)):TyOf K H (.ref a) (.type "dict")
 |ins {a C dx:Addr} {fs:List (Str×V)} (e:H a=be (.ins C dx fs)) (cl:Cls K C) (ha:PySem.W.findIn K (.ref C) "__class__"=be (be (.builtin "object.__class__")))
   (hn:PySem.W.specialIn K (.builtin "object.__class__") "__get__"=be (be (.builtin "getset_descriptor.__get__"))) (htk:PySem.W.takesIn K (.builtin "object.__class__")=be kP)
   (hm:PySem.W.mroIn K C (.type "object")=be kP):TyOf K H (.ref a) (.ref C)
def a8I(I:Inv X pins σ H s)(rx:RelV x u)(ty:TyOf X.K H x t)(e:PySem.W.kitOne X.K t c=be b)(h:∀tk,Q (.bool b) { s with toks:=tk }) :
  wpAny (model X.prog X.w) A (call (.builtin "isinstance") [u,c]) Q E s:=by
 cases ty with
 |non=>cases (rx);show PySem.W.kia_one PySem.W.kitx_none I.kIn True.intro e (λz=>nomatch z) h
 |bl y=>cases (rx);show PySem.W.kia_one PySem.W.kitx_bool I.kIn True.intro e (λz=>nomatch z) h
 |int i=>let(t,q):=(rx);cases q;show PySem.W.kia_one PySem.W.kitx_int I.kIn True.intro e (λz=>nomatch z) h
 |str y=>let(t,q):=(rx);cases q;show PySem.W.kia_one PySem.W.kitx_str I.kIn True.intro e (λz=>nomatch z) h
 |flt y=>let(t,q):=(rx);cases q;show PySem.W.kia_one PySem.W.kitx_float I.kIn True.intro e (λz=>nomatch z) h
 | @lst a f ea=>
  cases (rx);let(_,_,n,_,d):=(I.hok a _ ea);show PySem.W.kia_one PySem.W.kitx_list I.kIn (_,d,rfl) e (λz=>nomatch z) h
 | @frz a ob f ea=>
  cases (rx);let(_,_,_,n,_,d):=(I.hok a _ ea);show PySem.W.kia_one PySem.W.kitx_list I.kIn (_,d,rfl) e (λz=>nomatch z) h
 | @tup a f ea=>
  cases (rx);let(_,_,_,p):=(I.hok a _ ea);let(o,d,g,_):=p;show PySem.W.kia_one PySem.W.kitx_tuple I.kIn (o,d,g) e (λz=>nomatch z) h
 | @dK a kvs ea=>
  cases (rx);let(_,_,l,_,p):=(I.hok a _ ea);let(o,j,k,d,g,_):=p;show PySem.W.kia_one PySem.W.kitx_dict I.kIn (o,d,g.1) e (λz=>nomatch z) h
 | @dT a kvs ea=>
  cases (rx);let(_,_,f,_,o,j,k,d,g,_):=(I.hok a _ ea);show PySem.W.kia_one PySem.W.kitx_dict I.kIn (o,d,g.1) e (λz=>nomatch z) h
 | @ins a C dx fs ea cl ha hn htk hm=>
  cases (rx);let(r,O,_):=a4a I.hok ea;let(m,J,_):=O.look;show PySem.W.kia_one (PySem.W.kitx_own (cl.get _) cl.hd ha hn htk hm) I.kIn J e (λz=>nomatch z) h
end
structure Room (k:Nat) (A:Around):Prop where
 hd:A.handled=gV
 dp:A.depth+3*k+5<recursionLimit
 un:A.units+16*k+200<cLine
def Room.mono(r:Room k A)(h:j<=k):Room j A:=(r.hd,by let:=r.dp;lia,by let:=r.un;lia)
def Room.deeper(r:Room (k+1) A)(env:Env):Room k (A.deeper env):=
 (r.hd,by let:=r.dp;change A.depth+1+3*k+5<_;lia,by let:=r.un;change A.units+3+16*k+200<_;lia)
def Room.in1(r:Room (k+1) A):Room k A.in1:=
 (r.hd,by let:=r.dp;change A.depth+3*k+5<_;lia,by let:=r.un;change A.units+1+16*k+200<_;lia)
def a7H{A:Around}:(A.under (.builtin "type.__call__" (.ref C::us,kw))).depth=A.depth+1:=rfl
def a7I{A:Around}:(A.under (.builtin "type.__call__" (.ref C::us,kw))).units=A.units+1:=rfl
def Room.make(r:Room (k+1) A)(C:Addr)(us:List Value)(kw:List (Str×Value)):Room k (A.under (.builtin "type.__call__" (.ref C::us,kw))):=
 (r.hd,by let:=r.dp;rw[a7H];lia,by let:=r.un;rw[a7I];lia)
def Room.depth(r:Room k A):A.depth<recursionLimit:=by let:=r.dp;lia
def Room.units(r:Room k A):A.units+64<cLine:=by let:=r.un;lia
def tNil:TA:=λ_ H Q=>Q [] H
def b83(ta:TE)(tr:TA):TA:=fun σ H Q=>ta σ H λx H1=>tr σ H1 λxs H2=>Q (x::xs) H2
section
variable{e:Expr}{te:TE}{t:TA}
def a6G:PA X [] tNil:=λ_ _ _ _ H Q I h=>Calls.spliced_nil ([],H,I,.nil,h)
def a4b(ha:PE X e te)(hr:PA X es t)(hs:gJ (e::es) X.env=(kQ,eval e X.env,)::gJ es X.env):PA X (e::es) (b83 te t):=by
 ext b a s σ H Q I h;rw[hs];show Calls.spliced_cons (thn (ha a s σ H _ I h) λu j (x,d,k,c,g)=>(thn (hr b a j σ d _ k g) λp o (i,f,l,m,n)=>(x::i,f,l,.cons c m,n)))
def tTup(t:TA):TE:=fun σ H Q=>t σ H λxs H1=>xs.length<=gH/\∀p,H1 p=gV->Q (.ref p) (upd H1 p (.tup xs))
def tLst(t:TA):TE:=fun σ H Q=>t σ H λxs H1=>xs.length<=gH/\∀p,H1 p=gV->Q (.ref p) (upd H1 p (.lst xs))
def b6l(h:PA X es t):PE X (.Tuple es x1 pos) (tTup t):=by
 ext c s σ H Q I i;show wpAny_Tuple_spliced (thn (h pos c s σ H _ I i) λk a (g,d,f,r,z,q)=>(by rw[<- r.length];show z,?_));let j:=f.hok.fresh (aI _);show(.ref a.heap.objs.size,upd d a.heap.objs.size _,f.laid (λb u e=>Heap.get?_push_of_some _ e) (aI _) ?_,rfl,q _ j);show(z,k,r,(_,Heap.get?_push_size _ rfl,rfl,_,rfl))
def b6m(h:PA X es t):PE X (.List es pos) (tLst t):=by
 ext c s σ H Q I j;show wpAny_List_spliced (thn (h pos c s σ H _ I j) λi a (k,d,f,r,z,q)=>(by rw[<- r.length];show z,?_));let g:=f.hok.fresh (aI _);show(.ref a.heap.objs.size,upd d a.heap.objs.size _,f.laid (λb u e=>Heap.get?_push_of_some _ e) (aI _) ?_,rfl,q _ g);show(z,i,0,r,Heap.get?_push_size _ rfl)
end
abbrev Sp:=List V->Hp->VK->XK->Prop
abbrev CXT:=List Env->Hp->Shared->XK->Value->Shared->Prop
structure Env0 (P:gM) (w:World) (K:Fg) (mg:Str->Option Value) (base:Heap) (A:Around) (outer:List Env) (s:Shared) (H:Hp):Prop where
 frames:A.frames=be outer
 mod:Mod K mg base
 bs:∀b o,base.get? b=be o->s.heap.get? b=be o/\H b=gV
 bsz:base.objs.size<=s.heap.objs.size
 funs:s.heap.FunFrames base outer
 frf:∀b∈frs outer,H b=gV
 hok:HOk P w H s.heap
 bare:iw s.gens
def CE(outer:List Env)(P:gM)(w:World)(H:Hp)(s:Shared)(Q:VK)(u:Value)(s':Shared):Prop:=
 ∃v H',s'.os=s.os/\iw s'.gens/\Un (frs outer) [] H H' s.heap s'.heap/\HOk P w H' s'.heap/\RelV v u/\Q v H'
def CR(CX:CXT)(outer:List Env)(P:gM)(w:World)(H:Hp)(s:Shared)(Q:VK)(E:XK)(r:Result)(s':Shared):Prop:=
 match r with
 |.ok (.ret u)=>CE outer P w H s Q u s'
 |.ok _=>False
 |.error e=>CX outer H s E e s'
structure FnOk (P:gM) (w:World) (K:Fg) (mg:Str->Option Value) (base:Heap) (CX:CXT) (k:Nat) (f:Addr) (fd:hZ) (ps:List Str) (sp:Sp):Prop where
 len:∀vs H Q E,sp vs H Q E->vs.length=ps.length
 run:∀(A:Around)(outer:List Env)(s:Shared)(H:Hp)(args:Args)(us:List Value)(vs:List V)(Q:VK)(E:XK),Room k A->Env0 P w K mg base A outer s H->i7 s fd args (ps.zip us)->Vals vs us->sp vs H Q E ->
  ig (model P w) A (.call (.ref f) args) (CR CX outer P w H s Q E) s
def FnOk.mono{K:Fg}(F:FnOk P w K mg base CX j f fd ps sp)(h:j<=k) :
  FnOk P w K mg base CX k f fd ps sp:=(F.len,λA a s H b c e Q E d=>F.run A a s H b c e Q E (d.mono h))
def FnOk.imp{K:Fg}(F:FnOk P w K mg base CX k f fd ps sp)
  (h:∀vs H Q E,sp' vs H Q E->sp vs H Q E):FnOk P w K mg base CX k f fd ps sp':=
 (λb H Q E q=>F.len b H Q E (h _ _ _ _ q),λA a s H c d b Q E j i g l e=>F.run A a s H c d b Q E j i g l (h _ _ _ _ e))
def Env0.make{K:Fg}(e:Env0 P w K mg base A outer s H)(C:Addr)(us:List Value)(kw:List (Str×Value)) :
  Env0 P w K mg base (A.under (.builtin "type.__call__" (.ref C::us,kw))) outer s H:=(by first |show e.frames | (o_head e.frames),e.mod,e.bs,e.bsz,e.funs,e.frf,e.hok,e.bare)
def Env0.in1{K:Fg}(e:Env0 P w K mg base A outer s H) :
  Env0 P w K mg base A.in1 outer s H:=(e.frames,e.mod,e.bs,e.bsz,e.funs,e.frf,e.hok,e.bare)
section
variable{σ:St}{s':Shared}
def Inv.env0(I:Inv X pins σ H s):Env0 X.prog X.w X.K X.mg X.base X.A X.stack s H:=
 (I.ok.frames,I.ok.mod,I.bs,aU I.ok.bsz I.sz,I.stack,I.stkFree,I.hok,I.bare)
def Inv.after(I:Inv X pins σ H s)(h:CE X.stack X.prog X.w H s Q u s'):EP X pins σ Q u s':=by
 let(v,H',j,a,f,c,r,q):=h;let(i,g,d,t,e):=s';obtain rfl:e=s.os:=j;show(v,H',I.call f c a (λb z=>absurd z (by simp)),r,q)
end
def b6n(sp:Sp)(dvs:List V)(E:XK)(t:TA):TE:=fun σ H Q=>t σ H λvs H1=>sp (vs++dvs) H1 Q E
def b6o(C:Addr)(m:Str)(sp:Sp)(dvs:List V)(E:XK)(ta:TE)(t:TA):TE:=fun σ H Q=>ta σ H λx H1=>∃a dx fs,x=.ref a/\H1 a=be (.ins C dx fs)/\fs.lookup m=gV /\
 t σ H1 λvs H2=>sp (x::(vs++dvs)) H2 Q E
def b84(C:Addr)(sp:Sp)(dvs:List V)(E:XK)(t:TA):TE:=fun σ H Q=>t σ H λvs H1=>∀x dx,H1 x=gV->H1 dx=gV->dx≠x ->
 sp (.ref x::(vs++dvs)) (upd (upd H1 dx (.own x)) x (.ins C dx [])) (λv H2=>v=.non/\Q (.ref x) H2) E
def Binds(K:Fg)(fd:hZ)(ps:List Str)(ds:List Value):Prop:=
 ∀(s:Shared)(us:List Value),K.In s.heap->(us++ds).length=ps.length->i7 s fd (us,[]) (ps.zip (us++ds))
def Binds.all{K:Fg}(h:∀us:List Value,us.length=ps.length->i8 fd (us,[])=pure (ps.zip us)):Binds K fd ps []:=λs b _ a=>by
 rw[bh]at a ⊢;show .of_eq (h b a)
def a1s(CX:CXT)(X:Cx)(E:XK):Prop:=∀(pins:List (Addr×Obj))(σ:St)(H:Hp)(s:Shared)(e:Value)(s':Shared),Inv X pins σ H s->CX X.stack H s E e s'->X.xe e s'
section
variable{CX:CXT}{k:Nat}{f C:Addr}{fd:hZ}{ps:List Str}{sp:Sp}{dvs:List V}{ds:List Value}{E:XK}{x:Str}{p:Pos}{e o:Expr}{ta:TE}{t:TA}
def b2M(F:FnOk X.prog X.w X.K X.mg X.base CX k f fd ps sp)(hr:Room k X.A)(hb:Binds X.K fd ps ds)(hd:Vals dvs ds)(hx:a1s CX X E)
  (I:Inv X pins σ H s) (r:Vals vs us) (h:sp (vs++dvs) H Q E):wpAny (model X.prog X.w) X.A (call (.ref f) us) (EP X pins σ Q) X.xe s:=by
 let b:=r.append hd;let d:(us++ds).length=ps.length:=b.length▸F.len _ _ _ _ h;show i9 (iz (F.run X.A X.stack s H (us,[]) (us++ds) _ Q E hr I.env0 (hb s us I.kIn d) b h) λr c a=>?_);cases r with
 |error e=>show hx pins σ H s e c I a
 |ok fl=>
  cases fl with
  |ret u=>show I.after a
  |next=>show aN a
  |brk=>show aN a
  |cont=>show aN a
def a8J(F:FnOk X.prog X.w X.K X.mg X.base CX k f fd ps sp)(hr:Room k X.A)(hg:Gl X x)(hm:X.mg x=be (.ref f))(hk:PySem.W.keepIn X.K (.ref f)=kP)(hb:Binds X.K fd ps ds)(hd:Vals dvs ds)(hx:a1s CX X E)
  (ha:PA X (e::es) t) (hdb:(x==("__debug__":Str))=kQ) (he:gJ (e::es) X.env=(kQ,eval e X.env,)::gJ es X.env) (hpl:(backTo pos (gJ es X.env)).any (·.1)=kQ) :
  PE X (.Call (.Name x p) (e::es) [] pos) (b6n sp dvs E t):=by
 ext a s σ H Q I h;show ja (a2j I hg hm ?_ hdb);show PySem.W.callWith_K I.ok.mod.kin hk (thn (ha pos a s σ H _ I h) λi d (c,g,b,r,q)=>(b.kIn,?_)) he hpl;show b2M F hr hb hd hx b r q
def b3J(he:PE X o ta)(c:Cls X.K C)(hm:Meth X.K C m f)(F:FnOk X.prog X.w X.K X.mg X.base CX k f fd ps sp)(hr:Room k X.A)(hb:Binds X.K fd ps ds)(hd:Vals dvs ds)(hx:a1s CX X E)(ha:PA X (e::es) t)
  (hst:gJ (e::es) X.env=(kQ,eval e X.env,)::gJ es X.env) (hpl:(backTo pos (gJ es X.env)).any (·.1)=kQ)
  (ht:eval (.Call (.Attribute o m apos) (e::es) [] pos) X.env=(do
   let ov <- eval o X.env
   iF apos.atName
   let (f,first,) <- h9 [ov] (jr ov m pl)
   j9 pos f first (backTo pos (gJ (e::es) X.env)) (jc pos (jd [] X.env)))) :
  PE X (.Call (.Attribute o m apos) (e::es) [] pos) (b6o C m sp dvs E ta t):=by
 ext b s σ H Q I h;show PySem.W.methodCall_KW (thn (he b s σ H _ I h) λu z (x,p,i,n,a,dx,fs,v,y,l,q)=>?_) ht;subst v;obtain rfl:u=Value.ref a:=n;show a7G i y c hm l (PySem.W.callWith_K I.ok.mod.kin hm.kp (thn (ha pos b z σ p _ i q) λus s2 (vs,H2,g,r,B)=>(g.kIn,?_)) hst hpl);show b2M (vs:=.ref a::vs) F hr hb hd hx g (.cons rfl r) B
structure Mk (K:Fg) (C f:Addr):Prop where
 makes:PySem.W.makesIn K C=kP
 init:PySem.W.findIn K (.ref C) "__init__"=be (be (.ref f))
 fn:PySem.W.isFn K (.ref f)=kP
 kp:PySem.W.keepIn K (.ref C)=kP
def b0S(M:Mk X.K C f)(F:FnOk X.prog X.w X.K X.mg X.base CX k f fd ps sp)(hr:Room (k+1) X.A)(hb:Binds X.K fd ps ds)(hd:Vals dvs ds)
  (hx:a1s CX X E) (I:Inv X pins σ H s) (r:Vals vs us)
  (h:∀x dx,H x=gV->H dx=gV->dx≠x->sp (.ref x::(vs++dvs)) (upd (upd H dx (.own x)) x (.ins C dx [])) (λv H2=>v=.non/\Q (.ref x) H2) E) :
  wpAny (model X.prog X.w) X.A (call (.ref C) us) (EP X pins σ Q) X.xe s:=by
 let d:=h _ s.heap.objs.size (I.hok.fresh (cF _)) (I.hok.fresh (aI _)) (aS (dI _));let b:=Inv.made (C:=C) I;let c:Vals (V.ref (s.heap.objs.size+1)::_) _:=.cons rfl (r.append hd);let g:(Value.ref (s.heap.objs.size+1)::us++ds).length=ps.length:=by
  let e:=c.length;rw[F.len _ _ _ _ d]at e;show e.symm
 show i9 (b0R I.kIn M.makes M.init (beq_iff_eq.mp M.fn) (iz (F.run _ X.stack _ _ (Value.ref (s.heap.objs.size+1)::us,[]) _ _ _ E (hr.make C us [])
  (b.env0.make C us []) (hb _ _ b.kIn g) c d) λr m a=>?_))
 cases r with
 |error e=>show hx pins σ _ _ e m b a
 |ok fl=>
  cases fl with
  |ret u=>
   let(v,H',I3,j,l,i):=b.after a;subst l;show(j,(V.ref (s.heap.objs.size+1),H',I3,rfl,i))
  |next=>show aN a
  |brk=>show aN a
  |cont=>show aN a
def b0T(M:Mk X.K C f)(F:FnOk X.prog X.w X.K X.mg X.base CX k f fd ps sp)(hr:Room (k+1) X.A)(hg:Gl X x)(hm:X.mg x=be (.ref C))(hb:Binds X.K fd ps ds)(hd:Vals dvs ds)(hx:a1s CX X E)
  (hdb:(x==("__debug__":Str))=kQ):PE X (.Call (.Name x p) [] [] pos) (b84 C sp dvs E tNil):=by
 ext a s σ H Q I h;show ja (a2j I hg hm ?_ hdb);show PySem.W.callWith_K0 I.kIn M.kp (b0S M F hr hb hd hx I .nil h)
end
structure FnScope (N P:List Str) (sc:Scope):Prop where
 kind:sc.kind=.function
 co:sc.isCoroutine=kQ
 gen:sc.isGenerator=kQ
 nd:N.Nodup
 pre:N.take P.length=P
 par:∀x∈P,sc.names.lookup x=be .local\/sc.names.lookup x=be .cell
 nofree:∀y∈sc.names,y.2≠.free
def a8K{kindOf:Str->Option gR}:∀{binds:List (Str×Value)}{m:Str->Option Value},(∀v,(x,v,)∉binds)->bindL kindOf binds m x=m x:=by ext z0;induction z0 with
 |nil=>ext _ _;show rfl
 |cons q0 r I0=>
  let(n,v):=q0;ext m h;unfold bindL;rw[I0 λw a=>h w (bR _ a)]
  split
  .let:x≠n:=by ext rfl;show h v bM
   simp[this]
  .rfl
def a8L{kindOf:Str->Option gR}:∀{binds:List (Str×Value)}{m:Str->Option Value},(∀v,(x,v,)∉binds)->bindC kindOf binds m x=m x:=by ext z0;induction z0 with
 |nil=>ext _ _;show rfl
 |cons q0 r I0=>
  let(n,v):=q0;ext m h;unfold bindC;rw[I0 λw a=>h w (bR _ a)]
  split
  .rfl
  .let:x≠n:=by ext rfl;show h v bM
   simp[this]
theorem a4Y{kindOf:Str->Option gR}:∀{P:List Str}{vs:List Value}{i:Nat}{m:Str->Option Value},P.Nodup->P[i]?=be x->vs[i]?=be v->kindOf x=be .local ->
  bindL kindOf (P.zip vs) m x=be v
 |[],_,_,_,_,h,_,_=>by simp at h
 |_::_,[],_,_,_,_,h,_=>by simp at h
 |p::P,w::vs,0,m,nd,h1,h2,hk=>by
  simp at h1 h2;subst h1;subst h2
  change bindL kindOf (_::P.zip vs) m p=_
  unfold bindL;rw[a8K λv a=>(bT.mp nd).1 (cP a).1,if_pos hk];simp
 |p::P,w::vs,i+1,m,nd,h1,h2,hk=>by
  unfold bindL;show a4Y (bT.mp nd).2 ↑h1 (by simp_all) hk
theorem a4Z{kindOf:Str->Option gR}:∀{P:List Str}{vs:List Value}{i:Nat}{m:Str->Option Value},P.Nodup->P[i]?=be x->vs[i]?=be v->kindOf x≠be .local ->
  bindC kindOf (P.zip vs) m x=be v
 |[],_,_,_,_,h,_,_=>by simp at h
 |_::_,[],_,_,_,_,h,_=>by simp at h
 |p::P,w::vs,0,m,nd,h1,h2,hk=>by
  simp at h1 h2;subst h1;subst h2
  change bindC kindOf (_::P.zip vs) m p=_
  unfold bindC;rw[a8L λv a=>(bT.mp nd).1 (cP a).1,if_neg hk];simp
 |p::P,w::vs,i+1,m,nd,h1,h2,hk=>by
  unfold bindC;show a4Z (bT.mp nd).2 ↑h1 (by simp_all) hk
noncomputable def start(N:List Str)(vs:List V):St:=vs.map be++dJ (N.length-vs.length) gV
noncomputable def cxOf(CX:CXT)(P:gM)(w:World)(K:Fg)(mg:Str->Option Value)(base:Heap)(N:List Str)(qual:Str)(scope:Scope)(f:Addr)(cd:Value)(A:Around)(outer:List Env)(s:Shared)(H:Hp)(E:XK):Cx where
 prog:=P
 w:=w
 K:=K
 mg:=mg
 base:=base
 A:=A.deeper (envOfC qual scope s.heap.objs.size f cd)
 N:=N
 s₀:=s
 H₀:=H
 env:=envOfC qual scope s.heap.objs.size f cd
 outer:=outer
 stack:=envOfC qual scope s.heap.objs.size f cd::outer
 ex:=[]
 calm:=kP
 fn:=λ_=>kP
 pn:=[]
 xe:=λe s'=>wpAny (model P w) (A.deeper (envOfC qual scope s.heap.objs.size f cd)) (jJ (envOfC qual scope s.heap.objs.size f cd) e) (λ_ s''=>CX outer H s E e s'') (λe' s''=>CX outer H s E e' s'') s'
def a6H{sc:Scope}(h:sc.names.lookup x=be .cell):∃c,(jK n sc.names []).lookup x=be c:=by
 show fm.mp (PySem.W.cellsFrom_some sc.names n [] (.inl h))
def a40{K:Fg}
  (S:FnScope N ps scope) (hd:A.handled=gV) (e0:Env0 P w K mg base A outer s H) (hl:vs.length=ps.length) (r:Vals vs us)
  (x:InCallC s s.heap.objs.size (bindL (envOfC qual scope s.heap.objs.size f cd).kindOf (ps.zip us) λ_=>gV) (jK (s.heap.objs.size+1) scope.names []) (bindC (envOfC qual scope s.heap.objs.size f cd).kindOf (ps.zip us) λ_=>gV) s1) :
  Inv (cxOf CX P w K mg base N qual scope f cd A outer s H kR) [] (start N vs) H s1:=by
 let G:ps.length<=N.length:=by let:=congrArg bj S.pre;rw[aY]at this;lia
 let(m,J,rfl,C):=x.done;let l:∀b:Addr,b∉(cxOf CX P w K mg base N qual scope f cd A outer s H kR).ex:=λb z=>absurd (show b∈([]) from z) (by simp);show((e0.mod,S.kind,rfl,rfl,aI _,λy z c m d=>?_,λy g=>?_,λy c _ h=>?_,λ_=>hd,Around.frames_deeper e0.frames,.inr (rfl,rfl),λb z=>absurd z (l b),e0.bs,e0.bsz,λb _ _=>l b,λb z=>absurd z (l b),e0.funs,e0.frf),
  rfl,e0.bare,Un.kept C,(_,x.toInCall.ns,λi y v m d I=>?_),λy c h=>(_,x.cell y c h),e0.hok.fresh (aI _),λy c h=>?_,λp j=>absurd (show p∈([]) from j) (by simp),e0.hok.kept C,?_)
 .show name_of_addr x.apart (PySem.mem_of_lookup m) (PySem.mem_of_lookup d)
 .let g:=g;let g||g:=g
  .show a6H g
  .show absurd rfl (S.nofree _ (PySem.mem_of_lookup g))
 .show bL (x.above y c (PySem.mem_of_lookup h))
 .let o:i<vs.length:=by
   unfold start at d
   by_cases o:i<vs.length
   .show o
   .rw[cy (by simp_all)]at d;rw[List.getElem?_replicate]at d
    split at d<;>cases d
  let F:vs[i]?=be v:=by
   unfold start at d;rw[cz ↑o,aO]at d;cases e:vs[i]? with
   |none=>rw[e]at d;cases d
   |some a=>rw[e]at d;cases d;rfl
  let(u,B,D):=r.get F;let j:ps[i]?=be y:=by
   rw[<- S.pre,List.getElem?_take_of_lt (by lia)];show m
  let t:ps.Nodup:=S.pre▸S.nd.sublist (dL _ _);show(u,D,?_);let k||k:=S.par y (aZ j)
  .show .inl (k,a4Y t j B k)
  .let(c,e):=a6H k;show .inr (.inl k,c,e,?_);let q:=x.cell y c e;rw[a4Z t j B (by change scope.names.lookup y≠_;rw[k];decide)]at q;show q
 .show e0.hok.fresh (bL (x.above y c (PySem.mem_of_lookup h)))
 .unfold start
  change _=N.length
  rw[aW,aH,List.length_replicate]
  lia
def b3K{K:Fg}{dV kV doc pm cdv ct oc:Value}
 (lk:K.lookup f=be (oc,od,.func (PySem.W.fnOf name qual params body scope dV kV doc pm an cdv ct),osl)) (hcd:PySem.W.codeIn K cdv qual=kP) (S:FnScope N ps scope)
    (len:∀vs H Q E,sp vs H Q E->vs.length=ps.length)
    (hbody:∀(A:Around)(outer:List Env)(s:Shared)(H:Hp)(vs:List V)(Q:VK)(E:XK),Room k (A.deeper (envOfC qual scope s.heap.objs.size f cdv))->sp vs H Q E ->
      ∃t,PSs (cxOf CX P w K mg base N qual scope f cdv A outer s H E) body t/\t { nx:=λ_ H'=>Q .non H',rt:=Q } (start N vs) H) :
    FnOk P w K mg base CX (k+1) f (PySem.W.fnOf name qual params body scope dV kV doc pm an cdv ct) ps sp:=by
  show(len,λA a s H L F m Q E z g R r i=>?_);let C:=g.mod.kin.keeps λb o e=>(g.bs b o e).1;let h:∀y∈ps.zip F,scope.names.lookup y.1=be .local\/(scope.names.lookup y.1=be .cell/\((jK (s.heap.objs.size+1) scope.names []).lookup y.1).isSome=kP):=by
    ext⟨n,v⟩ G;let q||q:=S.par n (cP G).1
    . show .inl q
    . show .inr (q,PySem.W.cellsFrom_some _ _ _ (.inl q))
  show codeAny_call_function z.depth (C _ _ lk) rfl S.co S.gen rfl (PySem.W.codeRec_of C hcd) (R _ _ _ _ (wpAny_newFunctionEnv_cells S.kind h λaa Y B x=>?_));subst Y;show((g.mod.nolimit.keeps λb o e=>(g.bs b o e).1).keeps x.toInCall.keep,codeAny_func ?_);let(t,T,U):=hbody A a s H m Q E (z.deeper _) i;let I:Inv (cxOf CX P w K mg base N qual scope f cdv A a s H E) [] _ H B:=a40 S z.hd g (len _ _ _ _ i) r x;show gX (T [] B _ H _ I U) (λX p c=>?_) λe p c=>c;let j:∀{σ':St}{d:Hp}{v:V}{u:Value},Inv (cxOf CX P w K mg base N qual scope f cdv A a s H E) [] σ' d p->RelV v u->Q v d->CE a P w H s Q u p:=
    λ{σ' d v u} J l q=>(v,d,J.os,J.bare,J.base,J.hok,l,q)
  cases X with
  |ret u=>
    let(v,σ',d,J,l,q):=c;show j J l q
  |next=>
    let(σ',d,J,q):=c;show j (v:=V.non) J rfl q
  |brk=>
    let(_,_,_,q):=c;show aN q
  |cont=>
    let(_,_,_,q):=c;show aN q
section
variable{x:Str}{p:Pos}{e:Expr}{t:TA}{id T:String}{r:List V->Hp->VK->Prop}
def tCB(r:List V->Hp->VK->Prop)(t:TA):TE:=fun σ H Q=>t σ H λvs H1=>r vs H1 Q
def a4c(hc:CallR X (.builtin id) r)(hg:Gl X x)(hm:X.mg x=gV)(hv:ib x=be (.builtin id))(ha:PA X (e::es) t)(hn:x≠"__name__")(hdb:(x==("__debug__":Str))=kQ)
  (he:gJ (e::es) X.env=(kQ,eval e X.env,)::gJ es X.env) (hpl:(backTo pos (gJ es X.env)).any (·.1)=kQ):PE X (.Call (.Name x p) (e::es) [] pos) (tCB r t):=by
 ext a s σ H Q I h;show ja (a25 I hg hm hv ?_ hn hdb);show PyProof.Rows.callWith_builtin1 (thn (ha pos a s σ H _ I h) λg c (b,f,i,d,j)=>hc a c σ f b g Q i d j) he hpl
def a1V(hc:CallR X (.type T) r)(hg:Gl X x)(hm:X.mg x=gV)(hv:ib x=be (.type T))(ha:PA X (e::es) t)(hn:x≠"__name__")(hdb:(x==("__debug__":Str))=kQ)
  (he:gJ (e::es) X.env=(kQ,eval e X.env,)::gJ es X.env) (hpl:(backTo pos (gJ es X.env)).any (·.1)=kQ):PE X (.Call (.Name x p) (e::es) [] pos) (tCB r t):=by
 ext a s σ H Q I h;show ja (a25 I hg hm hv ?_ hn hdb);show PyProof.Rows.callWith_type1 (thn (ha pos a s σ H _ I h) λj f (b,g,d,i,c)=>hc a f σ g b j Q d i c) he hpl
end
namespace HT
def cat_tup(ht:IsTup s.heap t vs.toArray)(hb:IsTup s.heap b ws.toArray)(hv:vs≠[])
  (h1:ws=[]->Q (.ref t) s) (h2:ws≠[]->Q (.ref s.heap.objs.size) { s with heap:=s.heap.push { cls:=.type "tuple",data:=.seq (vs++ws).toArray } })
  (hsz:vs.length+ws.length<=gH):wpAny (model prog w) A (gY .Add (.ref t) (.ref b)) Q E s:=by
 let((r,j,p,k),c,l,n,m):=id ht;let((q,f,o,h),a,g,i,d):=id hb;subst l m g d;let e:vs.toArray++ws.toArray=(vs++ws).toArray:=by simp
 by_cases hw:ws=[]
 .show concat_meets (_,c,rfl) (_,a,rfl) noFill_tuple_add seq_tuple_add PySem.F.slot_tuple_add PySem.F.entry_tuple_add (PySem.F.args_tuple_add_2 _ _)
   (tuple_addW1 t b vs.toArray ws.toArray n i j f k h (by simp_all) (by grind)) (c,a,h1 hw)
 .show concat_meets (_,c,rfl) (_,a,rfl) noFill_tuple_add seq_tuple_add PySem.F.slot_tuple_add PySem.F.entry_tuple_add (PySem.F.args_tuple_add_2 _ _)
   (tuple_addW2 t b vs.toArray ws.toArray n i j f k h (by simp_all) (by simp_all) (by cbv)) (c,a,?_)
  rw[e];show h2 hw
noncomputable def sIx(n d:Nat):Option Int->Nat
 |none=>d
 |some v=>if v<0 then (v+(n:Int)).toNat else min v.toNat n
def sIx_none(n d:Nat):sIx n d gV=d:=rfl
def sIx_nat(n d k:Nat):sIx n d (be (k:Int))=min k n:=rfl
def c0C(n d:Nat)(hd:d<=n)(o:Option Int):sIx n d o<=n:=by
 cases o with
 |none=>show hd
 |some v=>
  change (if v<0 then (v+n).toNat else min v.toNat n)<=n
  by_cases hv:v<0
  .grind
  .rw[if_neg hv];show fq _ _
def a8M(v:Int)(n d:Nat):(if v<0 then max (v+(n:Int)) 0 else min v (n:Int))=((sIx n d (be v):Nat):Int):=by grind [sIx]
def a7J(lo hi:Option Int)(n:Nat):gN.Slice.sliceAdjust lo hi 1 (n:Int)=(((sIx n 0 lo:Nat):Int),((sIx n n hi:Nat):Int),):=by
 unfold gN.Slice.sliceAdjust;show Prod.ext ?_ ?_
 .cases lo with
  |none=>rfl
  |some v=>show a8M v n 0
 .cases hi with
  |none=>rfl
  |some v=>show a8M v n n
def a7K(i j:Nat):gN.Slice.slicePlaces (i:Int) (j:Int) 1=j-i:=by
 unfold gN.Slice.slicePlaces;simp
 split<;>lia
def a3Q(p:IsPart v o)(h:Q o s):wpAny (model prog w) A (gN.Slice.slicePartIndex v) Q E s:=by
 cases p with
 |none=>show slicePart_none h
 |int i t=>show slicePart_int h
def a2L{lo hi:Option Int}{n:Nat}(hs:s.heap.IsSliceOf sl vl vu .none)(pl:IsPart vl lo)(pu:IsPart vu hi)
  (h:Q (((sIx n 0 lo:Nat):Int),1,sIx n n hi-sIx n 0 lo,) s):wpAny (model prog w) A (gN.Slice.sliceApplied (.ref sl) (pure (n:Int))) Q E s:=by
 let(d,a,c,b):=id hs;show gE (gE (iE a b rfl (gE (iE a b rfl (gE (iE a b rfl (gF (gE (slicePart_none (gE (a3Q pl (gE (a3Q pu (gE (gF ?_)))))))))))))))
 change wpAny _ _ (match gN.Slice.sliceAdjust lo hi 1 n with | (lo,hi,)=>pure (lo,_,gN.Slice.slicePlaces lo hi 1,)) _ _ s
 rw[a7J lo hi n]
 change wpAny _ _ (pure _) _ _ s
 rw[a7K];show gF h
def b0U(xs:Array Value)(i k:Nat):((a9 k).filterMap λ(m:Nat)=>xs[((i:Int)+(m:Int)*1).toNat]?).toArray=((xs.toList.drop i).take k).toArray:=by
 let e:(λ(m:Nat)=>xs[(i+(m:Int)*1).toNat]?)=λm=>xs[i+m]?:=by
  funext m
  let:(i+(m:Int)*1).toNat=i+m:=by lia
  rw[this]
 rw[e]
 let:=pick_run xs i k
 rw[ej]at this;let a:(_∘λx=>i+x)=λm=>xs[i+m]?:=rfl;rw[a]at this;rw[this]
def getItem_tuple_cut{lo hi:Option Int}(ht:IsTup s.heap t items)(hs:s.heap.IsSliceOf sl vl vu .none)(pl:IsPart vl lo)(pu:IsPart vu hi)
  (hw:¬ (sIx items.size 0 lo=0/\sIx items.size items.size hi=items.size))
  (h:Q (.ref s.heap.objs.size) { s with heap:=s.heap.push { cls:=.type "tuple",data:=.seq ((items.toList.drop (sIx items.size 0 lo)).take (sIx items.size items.size hi-sIx items.size 0 lo)).toArray } })
  (hsz:items.size<=gH):wpAny (model prog w) A (js (.ref t) (.ref sl)) Q E s:=by
 let a:sizeOk (.seq ((items.toList.drop (sIx items.size 0 lo)).take (sIx items.size items.size hi-sIx items.size 0 lo)).toArray):=by
  change ((items.toList.drop (sIx items.size 0 lo)).take (sIx items.size items.size hi-sIx items.size 0 lo)).toArray.size<=gH
  rw[bt,aY,bH,bf];cbv
 let(f,d,e,g):=id hs;let b:s.TypeIs (.ref sl) "slice":=(f,d,e);unfold js
 try with_reducible show g6 ?_
 show gE (wpAny_sequenceKey ht.typeIs (by decide) ?_);show gE (wpAny_callSpecial?_slot ht.typeIs PyProof.Rows.slot_tuple_getitem
  (ii PyProof.Rows.slot_tuple_getitem ht.typeIs entry_tuple_getitem ?_ (args_tuple_getitem _ _)))
 change wpAny _ _ (gN.Tuple.tupleItemsOf _ >>= _) _ _ s
 show gE (tupleItemsOf_ ht (gE (jL b (gE (a2L hs pl pu ?_)))));let c:¬ ((((sIx items.size 0 lo):Int)==0&&(1:Int)==1&&(sIx items.size items.size hi-sIx items.size 0 lo)==items.size)=kP):=by grind
 change wpAny _ _ (if (((sIx items.size 0 lo):Int)==0&&(1:Int)==1&&(sIx items.size items.size hi-sIx items.size 0 lo)==items.size)=kP then _ else _) _ _ s
 rw[if_neg c,b0U]
 first
  |show gE (iI (gF (_,rfl,gF h)) a)
  |show gE _
  |show gE _
  |show gE _
end HT
abbrev TO:=St->Hp->(Option Int->Hp->Prop)->Prop
def PO(X:Cx)(e:Option Expr)(t:TO):Prop:=
 ∀(pins:List (Addr×Obj))(s:Shared)(σ:St)(H:Hp)(Q:Option Int->Hp->Prop),Inv X pins σ H s->t σ H Q ->
  wpAny (model X.prog X.w) X.A (evalPart e X.env) (λu s'=>∃o H',Inv X pins σ H' s'/\IsPart u o/\Q o H') X.xe s
def b3L:TO:=λ_ H Q=>Q gV H
def b85(t:TE):TO:=fun σ H Q=>t σ H λx H1=>∃i,x=.int i/\Q (be i) H1
def a3R:∀{us:List Value},Vals (ns.map V.int) us->hV us ns:=by
 induction ns with
 |nil=>ext a r;cases r;show .nil
 |cons n ns ih=>
  ext a r;cases r with
  |cons r1 r2=>
   let(t,e):=r1;subst e;show .cons n t (ih r2)
section
variable{e:Expr}{te:TE}{lo hi:Option Expr}{tl th:TO}{p2:Pos}
def b3M:PO X gV b3L:=λa s σ H Q I h=>gF (gV,H,I,.none,h)
def b3N(h:PE X e te):PO X (be e) (b85 te):=by
 ext a s σ H Q I b;show thn (h a s σ H _ I b) λu j (x,d,f,c,g)=>?_;let(i,rfl,q):=g;let(t,rfl):=c;show(be i,d,f,.int i t,q)
def SlR(X:Cx)(r:V->Option Int->Option Int->Hp->VK->Prop):Prop:=
 ∀(pins:List (Addr×Obj))(s:Shared)(σ:St)(H:Hp)(x:V)(v vl vu:Value)(lo hi:Option Int)(sl:Addr)(Q:VK),Inv X pins σ H s->RelV x v->s.heap.IsSliceOf sl vl vu .none->IsPart vl lo->IsPart vu hi->r x lo hi H Q ->
  ∃T id,typeLookup (.type T) "__getitem__"=pure (be (.builtin id))/\s.TypeIs v T/\wpAny (model X.prog X.w) X.A (js v (.ref sl)) (EP X pins σ Q) X.xe s
def SlR.or(h:SlR X r)(h':SlR X r'):SlR X (λx lo hi H Q=>r x lo hi H Q\/r' x lo hi H Q):=by
 ext a s σ H x v b k d j c Q I g i e f q;let q||q:=q
 .show h a s σ H x v b k d j c Q I g i e f q
 .show h' a s σ H x v b k d j c Q I g i e f q
def tSl(r:V->Option Int->Option Int->Hp->VK->Prop)(te:TE)(tl th:TO):TE:=fun σ H Q=>te σ H λx H1=>tl σ H1 λl H2=>th σ H2 λu H3=>r x l u H3 Q
def b0V(hr:SlR X r)(he:PE X e te)(hl:PO X lo tl)(hu:PO X hi th):PE X (.Subscript e (.Slice lo hi gV p2) pos) (tSl r te tl th):=by
 ext a s σ H Q I h;show Subscript_ (thn (he a s σ H _ I h) λv o (x,D,j,t,J)=>(wpAny_Slice (thn (hl a o σ D _ j J) λf B (l,p,m,n,G)=>thn (hu a B σ p _ m G) λd c (u,g,y,z,k)=>(gF ?_))));let C:Inv X a σ g { c with heap:=c.heap.push { cls:=.type "slice",data:=.fields #[f,d,.none] } }:=y.kept λb L q=>Heap.get?_push_of_some _ q;let(T,M,F,E,i):=hr a { c with heap:=c.heap.push { cls:=.type "slice",data:=.fields #[f,d,.none] } } σ g x v f d l u c.heap.objs.size Q C t (Heap.IsSliceOf.new ..) n z k;show tail_any E F i (by with_unfolding_all rfl)
noncomputable def cutV(xs:List V)(lo hi:Option Int):List V:=(xs.drop (HT.sIx xs.length 0 lo)).take (HT.sIx xs.length xs.length hi-HT.sIx xs.length 0 lo)
def a26(xs:List V)(lo hi:Option Int):(cutV xs lo hi).length<=xs.length:=by
 unfold cutV;rw[aY,bH]
 lia
def rSlT(K:Fg):V->Option Int->Option Int->Hp->VK->Prop:=λx lo hi H Q=>∃a xs,x=.ref a/\SqT K H a xs /\
 ¬ (HT.sIx xs.length 0 lo=0/\HT.sIx xs.length xs.length hi=xs.length)/\∀p,H p=gV->Q (.ref p) (upd H p (.tup (cutV xs lo hi)))
def sl_tup:SlR X (rSlT X.K):=by
 ext p s σ H x v A w e f z Q I k m l t h;let(a,d,rfl,n,u,q):=h;cases k;let(j,r,g,i):=I.tuple n;let c:j.toArray.size=d.length:=bt▸r.length.symm;show("tuple",_,PyProof.Rows.slot_tuple_getitem.lookup,g.typeIs,?_);show HT.getItem_tuple_cut g m l t (c▸u) ?_ (by simp_all);rw[c];show(.ref s.heap.objs.size,_,I.laid (λb y q=>Heap.get?_push_of_some _ q) (aI _) ?_,rfl,q _ (I.hok.fresh (aI _)));show(aU (a26 d e f) i,_,(r.drop _).take _,IsTup.new _ _)
def b86(K:Fg):R2:=λx y H Q=>∃a b xs ys,x=.ref a/\y=.ref b/\SqT K H a xs/\SqT K H b ys/\xs≠[]/\xs.length+ys.length<=gH /\
 (ys=[]->Q (.ref a) H)/\(ys≠[]->∀p,H p=gV->Q (.ref p) (upd H p (.tup (xs++ys))))
def Vals.nil_iff(r:Vals xs us):us=[]↔xs=[]:=by
 cases r with
 |nil=>simp
 |cons _ _=>simp
def op_catT:OpR X (gY .Add) (b86 X.K):=by
 ext r s σ H x y v u Q I p B h;let(a,b,k,j,rfl,rfl,t,g,f,e,m,n):=h;cases p;cases B;let(C,d,i,_):=I.tuple t;let(l,c,A,_):=I.tuple g;show HT.cat_tup i A (λz=>f (d.nil_iff.mp z)) (λz=>(.ref a,H,I,rfl,m (c.nil_iff.mp z))) (λz=>?_) (by rw[<- d.length,<- c.length];show e);show(.ref s.heap.objs.size,_,I.laid (λb D q=>Heap.get?_push_of_some _ q) (aI _) ?_,rfl,n (λw=>z (c.nil_iff.mpr w)) _ (I.hok.fresh (aI _)));show(by rw[aW];show e,_,d.append c,IsTup.new _ _)
end
noncomputable def ixN(n:Nat)(i:Int):Option Nat:=if 0<=i then (if i<n then be i.toNat else gV) else if -(n:Int)<=i then be (i+n).toNat else gV
noncomputable def atI{α:Type}(xs:List α)(i:Int):Option α:=(ixN xs.length i).bind λj=>xs[j]?
def a8N(h:ixN n i=be j):seqIndex? i n=be j/\j<n/\-(n:Int)<=i/\i<n:=by
 unfold ixN at h
 by_cases h0:0<=i
 .rw[if_pos h0]at h
  by_cases h1:i<n
  .rw[if_pos h1]at h;let e:=be.inj h;show(by rw[kc h0 h1,e],by lia,by lia,h1)
  .simp_all
 .rw[if_neg h0]at h
  by_cases h1:-n<=i
  .rw[if_pos h1]at h;let e:=be.inj h;show(by rw[ke (by lia) h1,e],by lia,h1,by lia)
  .simp_all
def a5W{α:Type}{xs:List α}{v:α}(h:atI xs i=be v):∃j,seqIndex? i xs.length=be j/\xs[j]?=be v/\j<xs.length/\-(xs.length:Int)<=i/\i<xs.length:=by
 unfold atI at h;cases e:ixN xs.length i with
 |none=>rw[e]at h;cases h
 |some j=>
  rw[e]at h;let(d,c,b,a):=a8N e;show(j,d,h,c,b,a)
def a0E{α:Type}{xs:List α}{j:Nat}{v:α}(h:xs[j]?=be v):atI xs (j:Int)=be v:=by
 let a:=(aM.mp h).1;let e:ixN xs.length j=be j:=by
  unfold ixN;rw[if_pos (by simp),if_pos (by lia)];simp
 unfold atI;rw[e];show h
def a8O(b:Expr):Prop:=∀o i,subscripted b kQ o i=operate [o,i] (js o i)
def IxR(X:Cx)(r:R2):Prop:=
 ∀(value slice:Expr)(pins:List (Addr×Obj))(s:Shared)(σ:St)(H:Hp)(x y:V)(v u:Value)(Q:VK),Inv X pins σ H s->RelV x v->RelV y u->r x y H Q ->
  subscripted slice kQ v u=operate [v,u] (js v u)->wpAny (model X.prog X.w) X.A (subscriptTail value slice v u) (EP X pins σ Q) X.xe s
def MtR(X:Cx)(id:String)(r:V->List V->Hp->VK->Prop):Prop:=
 ∀(pins:List (Addr×Obj))(s:Shared)(σ:St)(H:Hp)(x:V)(xs:List V)(v:Value)(us:List Value)(Q:VK),Inv X pins σ H s->RelV x v->Vals xs us->r x xs H Q ->
  wpAny (model X.prog X.w) X.A (call (.builtin id) (v::us)) (EP X pins σ Q) X.xe s
section
variable{a b:Expr}{ta tb:TE}
def IxR.or(h:IxR X r)(h':IxR X r'):IxR X (λx y H Q=>r x y H Q\/r' x y H Q):=by
 ext b a c s σ H x y v u Q I e f q d;let q||q:=q
 .show h b a c s σ H x y v u Q I e f q d
 .show h' b a c s σ H x y v u Q I e f q d
def MtR.or{id:String}(h:MtR X id r)(h':MtR X id r'):MtR X id (λx xs H Q=>r x xs H Q\/r' x xs H Q):=by
 ext a s σ H x e v b Q I c d q;let q||q:=q
 .show h a s σ H x e v b Q I c d q
 .show h' a s σ H x e v b Q I c d q
def b87(hr:IxR X r)(ha:PE X a ta)(hb:PE X b tb)(hs:a8O b):PE X (.Subscript a b pos) (tOp r ta tb):=λc s σ H Q I h=>Subscript_ (binT ha hb I h λv u d x y f g i e q=>hr a b c d σ f x y v u Q g i e q (hs _ _))
def rIxL(K:Fg):R2:=λx y H Q=>∃p xs i v,x=.ref p/\y=.int i/\SqL K H p xs/\atI xs i=be v/\Q v H
def rIxT(K:Fg):R2:=λx y H Q=>∃p xs i v,x=.ref p/\y=.int i/\SqT K H p xs/\atI xs i=be v/\Q v H
def rIxS:R2:=λx y H Q=>∃z i c,x=.str z/\y=.int i/\z.length<=gH/\atI z.cps.toList i=be c/\Q (.str ⟨#[c]⟩) H
def ix_list:IxR X (rIxL X.K):=by
 ext n m a s σ H x y v u Q I F o h f;let(p,M,i,z,rfl,rfl,C,J,q):=h;cases F;let(t,rfl):=o;let(l,r,d,R):=I.list C;let(j,b,B,L,D,A):=a5W J;let(w,g,k):=r.get B;let G:=r.length;let N:=a4W;let c:EP X a σ Q w s:=(z,H,I,k,q)
 by_cases h0:0<=i
 .let e:i.toNat=j:=by
   rw[kc h0 A]at b;show be.inj b
  show item_listR d.isList h0 (by lia) (by rw[e];o_head g) c f
 .let e:(i+(l.toArray.size:Int)).toNat=j:=by
   rw[ke (by lia) D]at b;rw[bt,<- G];show be.inj b
  show kg d.isList.typeIs slot_list_getitem.lookup
   (wpAny_getItem_list_neg d.isList (by lia) (by simp_all) (by lia) (by rw[e];o_head g) (rfl,c)) f
def ix_tup:IxR X (rIxT X.K):=by
 ext f e a s σ H x y v u Q I A D h k;let(p,J,i,z,rfl,rfl,B,C,q):=h;cases A;let(t,rfl):=D;let(E,r,d,M):=I.tuple B;let(j,l,g,G,F,L):=a5W C;let(w,m,c):=r.get g;let N:=a4W;let b:EP X a σ Q w s:=(z,H,I,c,q);show kg d.typeIs slot_tuple_getitem.lookup
  (getItem_tuple d (by lia) (by lia) (by rw[bt,<- r.length];show l) (by simp_all) (rfl,b)) k
def b6p:IxR X rIxS:=by
 ext b d r s σ H x y v u Q I o f h p;let(z,i,c,rfl,rfl,A,n,q):=h;let(t,rfl):=o;let(C,rfl):=f;let(j,a,l,D,g,w):=a5W n;let k:z.cps.toList.length=z.length:=by simp[Str.length]
 rw[k]at a g w;let B:=a4W;show tail_any (iR s z t) slot_str_getitem.lookup (getItem_str (by grind) (by rw[a];o_head l) (.str ⟨#[c]⟩,H,I.tok _,(_,rfl),q)) p
def rIx(K:Fg):R2:=λx y H Q=>rIxL K x y H Q\/rIxT K x y H Q\/rIxS x y H Q
def b6q:IxR X (rIx X.K):=ix_list.or (ix_tup.or b6p)
def a7L(its:List Value)(n j:Nat)(u:Value):Obj.mapSeq (·.setIfInBounds j u) { cls:=.type "list",data:=.seq its.toArray n }={ cls:=.type "list",data:=.seq (its.set j u).toArray n }:=by
 simp[Obj.mapSeq]
def Inv.lst{pins:List (Addr×Obj)}{σ:St}{H:Hp}{s:Shared}{p:Addr}{xs:List V}(I:Inv X pins σ H s)(h:H p=be (.lst xs)) :
  ∃(its:List Value)(n:Nat),Vals xs its/\s.heap.get? p=be { cls:=.type "list",data:=.seq its.toArray n }/\xs.length<=sizeLine:=by
 let(z,a,n,r,e):=I.hok p _ h;show(a,n,r,e,z)
def Inv.lstUpd{its its':List Value}(I:Inv X pins σ H s)(h:H p=be (.lst xs))
  (ho:s.heap.get? p=be { cls:=.type "list",data:=.seq its.toArray n }) (hf:f { cls:=.type "list",data:=.seq its.toArray n }={ cls:=.type "list",data:=.seq its'.toArray n' }) (r:Vals ys its') (hz:ys.length<=gH) (t:Nat) :
  Inv X pins σ (upd H p (.lst ys)) { s with heap:=s.heap.update p f,toks:=t }:=by
 let e:(s.heap.update p f).get? p=be { cls:=.type "list",data:=.seq its'.toArray n' }:=by
  rw[Heap.get?_update_self f ho (by rw[hf]<;>rfl),hf]
 show I.write (by rw[h];trivial) (.inl rfl) (λb u a q=>(Heap.get?_update_other _ _ (Ne.symm a)).trans q) (_,e) ?_;show(hz,its',n',r,e)
def b88:V->V->V->Hp->(Hp->Prop)->Prop:=λo i v H Q=>∃p xs k j,o=.ref p/\i=.int k/\H p=be (.lst xs)/\ixN xs.length k=be j/\Q (upd H p (.lst (xs.set j v)))
def b0W:PSet X b88:=by
 ext d s σ H o i v D F u Q I x z C h;let(p,y,k,j,rfl,rfl,g,B,q):=h;cases x;let(t,rfl):=z;let(b,n,r,f,A):=I.lst g;let(a,E,m,w):=a8N B;let e:=r.length;let G:=a4W;let l:=
  I.lstUpd g f (a7L b n j u) (r.set C j) (by simp_all) s.toks
 by_cases h0:0<=k
 .let c:k.toNat=j:=by
   rw[kc h0 w]at a;show be.inj a
  show PySem.W.ki_setAt f h0 (by lia) (by simp_all) (c▸(_,l,q))
 .let c:(k+(b.toArray.size)).toNat=j:=by
   rw[ke (by lia) m]at a;rw[bt,<- e];show be.inj a
  show PySem.W.ki_setBack f (by lia) (by simp_all) (by lia) (c▸(_,l,q))
def a41(lo hi:Option Int)(n:Nat):(iU lo hi gV n).1=((HT.sIx n 0 lo:Nat):Int)/\(iU lo hi gV n).2.1=((HT.sIx n n hi:Nat):Int)/\(iU lo hi gV n).2.2=1:=by
 show(?_,?_,rfl)
 .cases lo with
  |none=>simp[iU,HT.sIx]
  |some i=>
   simp only[iU,HT.sIx,et]
   by_cases h:i<0
   .grind
   .grind
 .cases hi with
  |none=>simp[iU,HT.sIx]
  |some i=>
   simp only[iU,HT.sIx,et]
   by_cases h:i<0
   .grind
   .grind
def a4d(its:List Value)(lo hi:Option Int):slicePick its.toArray lo hi gV=((its.drop (HT.sIx its.length 0 lo)).take (HT.sIx its.length its.length hi-HT.sIx its.length 0 lo)).toArray:=by
 let(a,c,b):=a41 lo hi its.toArray.size;unfold slicePick;rw[a,c,b];simp only[sliceRange_one,pick_run]<;>rfl
def rSlL(K:Fg):V->Option Int->Option Int->Hp->VK->Prop:=λx lo hi H Q=>∃a xs,x=.ref a/\SqL K H a xs/\∀p,H p=gV->Q (.ref p) (upd H p (.lst (cutV xs lo hi)))
def sl_list:SlR X (rSlL X.K):=by
 ext p s σ H x v u w d e y Q I m i n j h;let(a,c,rfl,k,q):=h;cases m;let(t,r,g,l):=I.list k;let f:=r.length;show("list",_,slot_list_getitem.lookup,g.isList.typeIs,?_);show wpAny_getItem_list_slice g.isList i n j .none (by simp) ?_ (by grind);rw[a4d,<- f];show(.ref s.heap.objs.size,_,I.laid (λb z q=>Heap.get?_push_of_some _ q) (aI _) ?_,rfl,q _ (I.hok.fresh (aI _)));show(aU (a26 c d e) l,_,0,(r.drop _).take _,Heap.get?_push_size _ rfl)
def CallR.or(h:CallR X f r)(h':CallR X f r'):CallR X f (λxs H Q=>r xs H Q\/r' xs H Q):=by
 ext a s σ H c d Q I b q;let q||q:=q
 .show h a s σ H c d Q I b q
 .show h' a s σ H c d Q I b q
def tyV(K:Fg)(T:String)(x:V)(H:Hp):Prop:=match x with
 |.str _=>T="str"
 |.int _=>T="int"
 |.ref p=>(T="list"/\∃xs,SqL K H p xs)\/(T="tuple"/\∃o,K.lookup p=be o/\o.cls=.type "tuple"/\o.dict=gV) \/
   (T="dict"/\((∃kvs,H p=be (.dK kvs))\/(∃kvs,H p=be (.dT kvs))\/∃ob kvs,H p=be (.frz ob (.dK kvs))))\/(T="set"/\∃S n,H p=be (.set S n))
 |_=>False
def b6r(I:Inv X pins σ H s)(r:RelV x v)(ty:tyV X.K T x H) :
  s.TypeIs v T/\∀a,v=.ref a->∃ob,s.heap.get? a=be ob/\ob.dict=gV:=by
 cases x with
 |str z=>
  let(t,rfl):=r;cases (ty);show(iR s z t,λ_ e=>nomatch e)
 |int i=>
  let(t,rfl):=r;cases (ty);show(typeIs_int s i t,λ_ e=>nomatch e)
 |ref p=>
  cases r;let(rfl,xs,hq)||(rfl,o,hk,hc,f)||(rfl,hk)||(rfl,S,n,hk):=ty
  .let(h,_,g,_):=I.list hq;show(g.isList.typeIs,λa e=>?_);cases e;let(o,n,e,c,f,_):=g;show(o,e,f)
  .show((o,I.kIn p o hk,hc),λa e=>?_);cases e;show(o,I.kIn _ o hk,f)
  .let z:∃o,s.heap.get? p=be o/\o.ExactDict:=by
    let(kvs,hk)||(kvs,hk)||(ob,kvs,hk):=hk
    .let(_,_,_,_,o,_,_,e,b,_):=I.hok p _ hk;show(o,e,b)
    .let(_,_,_,_,o,_,_,e,b,_):=I.hok p _ hk;show(o,e,b)
    .let(_,_,_,_,_,o,_,_,e,b,_):=I.hok p _ hk;show(o,e,b)
   let(o,e,b):=z;show((o,e,b.1),λa d=>?_);cases d;show(o,e,b.2.1)
  .let(o,_,_,_,e,b,_):=I.hok p _ hk;show((o,e,b.1),λa d=>?_);cases d;show(o,e,b.2.1)
 |_=>show aN ty
def tBM(K:Fg)(T:String)(r:V->List V->Hp->VK->Prop)(to:TE)(t:TA):TE:=fun σ H Q=>to σ H λx H1=>tyV K T x H1/\t σ H1 λxs H2=>r x xs H2 Q
variable{o e:Expr}{to:TE}{t:TA}{name:Str}{cpos:Pos}{T id:String}{r:V->List V->Hp->VK->Prop}
def b89(pa:PlainAttrs T)(slot:Slot T name id)(hty:typeOf (.builtin id)=pure (.type "method_descriptor"))(hm:MtR X id r)(ho:PE X o to)(ha:PA X (e::es) t)
  (hbase:i6 o name X.env (eval o X.env)=eval o X.env)
  (hfew:((backTo cpos (gJ (e::es) X.env)).all (λx=>!x.1)&&(jc cpos (jd [] X.env)).all (λx=>x.1.isSome)
   && decide ((e::es).length+([]:List iQ).length+(if ([]:List iQ).isEmpty then 0 else 1)<30))=kP)
  (hline:(apos.endLine==cpos.line)=kP) (hs:gJ (e::es) X.env=(kQ,eval e X.env,)::gJ es X.env) (hplain:(backTo cpos (gJ es X.env)).any (·.1)=kQ) :
  PE X (.Call (.Attribute o name apos) (e::es) [] cpos) (tBM X.K T r to t):=by
 ext a s σ H Q I h;show wpAny_Call_method_late hbase hfew hline rfl (thn (ho a s σ H _ I h) λv k (x,w,b,c,u,j)=>?_);let(g,n):=b6r b c u;show(T,id,pa,slot,hty,g,n,?_);let d:=ha cpos a k σ w _ b j;rw[hs]at d ⊢;show Calls.callWith_builtin (by change (kQ||(backTo cpos _).any _)=kQ;rw[hplain]<;>rfl) (Calls.evalArgs_plain (thn d λi m (q,l,y,f,p)=>hm a m σ l x q v i Q y c f p))
end
def MtM(X:Cx)(id:String)(r:V->List V->Hp->VK->Prop):Prop:=
 ∀(pins:List (Addr×Obj))(s:Shared)(σ:St)(H:Hp)(x:V)(xs:List V)(v:Value)(us:List Value)(Q:VK),Inv X pins σ H s->RelV x v->Vals xs us->r x xs H Q ->
  wpAny (model X.prog X.w) X.A (call (.builtin id) (v::us)) (EP X pins σ Q) X.xe s
def Vals.one:∀{x:V}{us:List Value},Vals [x] us->∃u,us=[u]/\RelV x u:=by
 ext x us h;cases h with
 |cons r h=>cases h;show(_,rfl,r)
def Vals.two:∀{x y:V}{us:List Value},Vals [x,y] us->∃u v,us=[u,v]/\RelV x u/\RelV y v:=by
 ext x y a h;cases h with
 |cons r h=>cases h with
  |cons q h=>cases h;show(_,_,rfl,r,q)
def Vals.zero:∀{us:List Value},Vals [] us->us=[]:=by
 ext us h;cases h;rfl
def Vals.dropLast(h:Vals xs us):Vals xs.dropLast us.dropLast:=by
 induction h with
 |nil=>show .nil
 |cons r t ih=>
  cases t with
  |nil=>show .nil
  |cons q t'=>show .cons r ih
theorem Vals.eraseIdx:∀{xs:List V}{us:List Value}(i:Nat),Vals xs us->Vals (xs.eraseIdx i) (us.eraseIdx i)
 |_,_,_,.nil=>.nil
 |_,_,0,.cons _ t=>t
 |_,_,i+1,.cons r t=>.cons r (Vals.eraseIdx i t)
def Vals.reverse(h:Vals xs us):Vals xs.reverse us.reverse:=by
 induction h with
 |nil=>show .nil
 |cons r t ih=>rw[de,de];show Vals.append ih (.cons r .nil)
section
variable{σ:St}{l b:Addr}{xs ys:List V}
def Inv.lset{its its':List Value}(I:Inv X pins σ H s)(hH:H l=be (.lst xs))
  (e:s.heap.get? l=be { cls:=.type "list",data:=.seq its.toArray n }) (hf:f its.toArray=its'.toArray) (hv:Vals ys its') (hz:ys.length<=gH) :
  Inv X pins σ (upd H l (.lst ys)) { s with heap:=s.heap.update l (Obj.mapSeq f),toks:=t' }:=by
 let q:=PySem.IsL.update e f;rw[hf]at q;show I.write (hH▸trivial) (.inl rfl) (λc u a b=>(Heap.get?_update_other s.heap _ (Ne.symm a)).trans b) (_,q) ?_;show(hz,its',_,hv,q)
def Inv.lnew(I:Inv X pins σ H s)(hv:Vals ys its)(hz:ys.length<=gH) :
  Inv X pins σ (upd H s.heap.objs.size (.lst ys)) { s with heap:=s.heap.push { cls:=.type "list",data:=.seq its.toArray },toks:=t' }:=
 I.laid (λ_ _ q=>Heap.get?_push_of_some _ q) (aI _) (hz,its,0,hv,Heap.get?_push_size _ rfl)
def Inv.fresh(I:Inv X pins σ H s):H s.heap.objs.size=gV:=I.hok.fresh (aI _)
def Inv.lstM(I:Inv X pins σ H s)(hH:H l=be (.lst xs)):xs.length<=gH/\∃(its:List Value)(n:Nat),Vals xs its/\xs.length=its.length/\s.heap.get? l=be { cls:=.type "list",data:=.seq its.toArray n }:=by
 let(z,a,n,r,e):=I.hok l _ hH;show(z,a,n,r,r.length,e)
def b0X(h:n<=gH):gN.List.listTooLong n=kQ:=decide_eq_false (by lia)
end
def b3O:V->List V->Hp->VK->Prop:=λx vs H Q=>∃l xs y,x=.ref l/\vs=[y]/\H l=be (.lst xs)/\xs.length<gH/\Q .non (upd H l (.lst (xs++[y])))
def a42:MtM X "list.append" b3O:=by
 ext c s σ H x k v o Q I f d h;let(l,j,y,rfl,rfl,b,i,q):=h;cases f;let(u,rfl,g):=d.one;let(z,a,n,r,m,e):=I.lstM b;show kh F.slot_list_append (_,e,rfl) F.entry_list_append (F.args_list_append_2 _ _) (PySem.list_append l a.toArray n u (by grind)) (e,?_);show(.non,_,I.lset b e (by simp) (r.append (.cons g .nil)) ?_,rfl,q);rw[aW,ft]
 lia
def b3P:V->List V->Hp->VK->Prop:=λx vs H Q=>∃l b xs zs,x=.ref l/\vs=[.ref b]/\H l=be (.lst xs)/\H b=be (.lst zs)/\xs.length+zs.length<=gH/\Q .non (upd H l (.lst (xs++zs)))
def a8P:MtM X "list.extend" b3P:=by
 ext k s σ H x A v C Q I i j h;let(l,b,B,E,rfl,rfl,f,t,G,q):=h;cases i;let(u,rfl,p):=j.one;cases p;let(z,c,n,r,D,e):=I.lstM f;let(J,a,w,m,y,o):=I.lstM t;let g:c.toArray.size+a.toArray.size<=sizeLine:=by grind
 let d:¬ (!c.toArray.isEmpty&&gN.List.listTooLong (c.toArray.size+a.toArray.size))=kP:=by
  rw[b0X g,dg];show bB
 show kh F.slot_list_extend (_,e,rfl) F.entry_list_extend (F.args_list_extend_2 _ _)
  (AutoSeq1.list_extend_list_list_0 l c.toArray n b a.toArray w d (by grind) (by lia)) (e,o,?_)
 show(.non,_,I.lset f e (by simp) (r.append m) ?_,rfl,q);rw[aW];cbv
def rCat:R2:=λx y H Q=>∃l b xs zs,x=.ref l/\y=.ref b/\H l=be (.lst xs)/\H b=be (.lst zs)/\xs.length+zs.length<=gH/\∀p,H p=gV->Q (.ref p) (upd H p (.lst (xs++zs)))
def b6s:OpR X (gY .Add) rCat:=by
 ext i s σ H x y v u Q I f k h;let(l,b,C,w,rfl,rfl,m,d,A,q):=h;cases f;cases k;let(z,c,n,r,t,e):=I.lstM m;let(B,a,D,o,p,g):=I.lstM d;show PySem.P.add_list e g ?_ (by grind);let j:c.toArray++a.toArray=(c++a).toArray:=by simp
 rw[j];show(.ref _,_,I.lnew (r.append o) (by grind),rfl,q _ I.fresh)
namespace Att
open PySem PySem.W PySem.Calls PyProof.Rows
def a27:∀(ns:List Int)(vs:List Value),WellAll kR h vs (ns.map WData.int)->hV vs ns:=by
 ext c
 induction c with
 |nil=>
  ext d w;cases w;show .nil
 |cons n c ih=>
  ext d w;cases w with
  |cons a b=>
   cases a;show .cons _ _ (ih _ b)
def a8Q{l:OpenLaw}(hn:l.most=be n)
  (hpre:l.row.toRowW.claim.pre args=kP) (hwl:WellAll kR h vals args) :
  ∃a vs ns,vals=[Value.ref a]/\args=[WData.list (ns.map WData.int)]/\h.get? a=be { cls:=.type "list",data:=.seq vs.toArray }/\hV vs ns/\ns.length<=n:=by
 let i:=(pre_splitW hpre).1;let g:l.pre.holds [] { args:=args }=kP:=(pre_splitW hpre).2;let(d,r,rfl,j,m):=hasAllW_cons i;obtain rfl:=hasAllW_nil m;let(p,rfl,o):=hasW_list j;let(b,rfl):=items_int o;let f:b.length<=n:=by
  let c:(WTm.not (.lt (.lit (.int n)) (.len (.arg 0)))).holds [] { args:=[.list (b.map .int)] }=kP:=by
   let c:=(holds_andW g).1;rw[hn]at c;show c
  let e:=condW_of c (w_not (w_lt w_lit (w_len_list (w_arg rfl))))
  first
   | (rw[decide_eq_true k]at e;show absurd e (by simp))
   | (simp at e;cbv)
 cases hwl with
 |cons w1 w2=>
  cases w2;cases w1 with
  |list ho hall=>show(_,_,b,rfl,rfl,ho,a27 b _ hall,f)
def a8R(l:OpenLaw)(args:List WData):l.row.toRowW.claim.post args (.bool kP) args=kP:=
 postW_of
  (show WShape.has [] _ .bool=kP by first |rfl |decide |simp)
  (w_eq_bool (w_res rfl) w_lit) rfl
def attach_call{l:OpenLaw}
  (hn:l.most=be n) (hdf:d.params.defaults=[])
  (call:∀(w:World)(s₀ sj:Shared)(mg mb:Str->Option Value)(fa:Addr)(o:Obj)(pm cd doc:Value)(a:Addr)(vs:List Value)(ns:List Int),
   Ground q loose [] XP w s₀ mg mb sj.heap->YP w sj.heap ->
   sj.heap.get? fa=be o->o.data=.func (docDef d.name d.params d.body d.scope pm cd doc)->sj.heap.CodeRec cd d.name->mg d.name=be (.ref fa) ->
   sj.heap.get? a=be { cls:=.type "list",data:=.seq vs.toArray }->hV vs ns->ns.length<=n->sj.gens=#[] ->
   ig (model l.prog w) iV (.call (.ref fa) ([.ref a],[])) (λr s'=>r=.ok (.ret (.bool kP))/\OldK sj.heap s'.heap/\s'.os=sj.os/\iw s'.gens) sj) :
  WalkO q loose XP YP l.row.toRowW d [] (λf vs=>PySem.call f vs):=by
 ext w C s D y G Y x o F v i Q H L B k h j N u J U c A S m T;obtain rfl:Q=.none:=Dflts.none h hdf;obtain rfl:H=.none:=Dflts.noKw h;let(a,I,E,rfl,rfl,g,b,e):=a8Q hn c m;show enter_call (iz (call w C s D y x o F v i a I E G Y L (fd_plain B) k j g b e N) λr V R=>?_);let(rfl,t,z,M):=R;show(.inl (.bool kP,.bool kP,[],rfl,λ_=>rfl,.bool kP,a8R l _,λ_=>(cA.nil,λ_ p=>(nomatch p))),t,z,M)
end Att
def a8S:∀{vs:List Value}{ns:List Int},hV vs ns->Vals (ns.map V.int) vs:=by ext z0 y0 x0;induction x0 with
 |nil=>show .nil
 |cons n t h I0=>show .cons (t,rfl) (I0)
def Only(H:Hp):Prop:=∀b,H b=gV\/∃o xs,H b=be (.frz o (.lst xs))
noncomputable def a4e(s:Stmt)(j:Nat):Stmt:=match s with
 |.ClassDef _ _ _ body _ _ _ _ _ _ _=>body.getD j (.Pass (0,0,0,0))
 |_=>.Pass (0,0,0,0)
noncomputable def a1L(s:Stmt):Arguments:=match s with
 |.FunctionDef _ a _ _ _ _ _ _ _ _=>a
 |_=>{ posonlyargs:=[],args:=[],vararg:=gV,kwonlyargs:=[],kw_defaults:=[],kwarg:=gV,defaults:=[] }
noncomputable def a0K(s:Stmt):List Stmt:=match s with
 |.FunctionDef _ _ b _ _ _ _ _ _ _=>b
 |_=>[]
noncomputable def a0h(s:Stmt):Scope:=match s with
 |.FunctionDef _ _ _ _ _ _ sc _ _ _=>sc
 |_=>{ kind:=.function,names:=[],isGenerator:=kQ,isCoroutine:=kQ }
abbrev CX0:CXT:=λ_ _ _ _ _ _=>False
abbrev E0:XK:=λ_ _ _=>False
def b3Q:a1s CX0 X E0:=λ_ _ _ _ _ _ _ h=>h.elim
structure Fun (K:Fg) (x qual:Str) (st:Stmt) (f:Addr) (fd:hZ):Prop where
 ex:∃(oc:Value)(od:Option Addr)(kV doc pm:Value)(an:Option Addr)(cdv ct:Value)(osl:Array (Option Value)),
  fd=PySem.W.fnOf x qual (a1L st) (a0K st) (a0h st) .none kV doc pm an cdv ct/\K.lookup f=be (oc,od,.func fd,osl)/\PySem.W.codeIn K cdv qual=kP
 kp:PySem.W.keepIn K (.ref f)=kP
section
variable{K:Fg}{mg:Str->Option Value}{base:Heap}
def Fun.ok{st:Stmt}(F:Fun K x qual st f fd)(S:FnScope N ps (a0h st))(len:∀vs H Q E,sp vs H Q E->vs.length=ps.length)
  (hbody:∀(cdv:Value)(A:Around)(outer:List Env)(s:Shared)(H:Hp)(vs:List V)(Q:VK)(E:XK),Room k (A.deeper (envOfC qual (a0h st) s.heap.objs.size f cdv))->sp vs H Q E ->
   ∃t,PSs (cxOf CX0 P w K mg base N qual (a0h st) f cdv A outer s H E).nox (a0K st) t/\t { nx:=λ_ H'=>Q .non H',rt:=Q } (start N vs) H):FnOk P w K mg base CX0 (k+1) f fd ps sp:=by
 let(n,u,r,l,m,o,c,p,j,rfl,i,d):=F.ex;show b3K i d S len λA a s H g Q E e b=>?_;let(t,h,q):=hbody c A a s H g Q E e b;show(t,h.nox,q)
def Fun.binds{st:Stmt}(F:Fun K x qual st f fd)
  (h:∀(kV doc pm:Value)(an:Option Addr)(cdv ct:Value)(us:List Value),us.length=ps.length->i8 (PySem.W.fnOf x qual (a1L st) (a0K st) (a0h st) .none kV doc pm an cdv ct) (us,[])=pure (ps.zip us)):Binds K fd ps []:=by
 let(k,l,g,a,e,d,b,c,i,rfl,m,j):=F.ex;show .all (h g a e d b c)
def b2N{st:Stmt}{kV doc pm cdv ct:Value}(l:K.lookup f=be (oc,od,.func (PySem.W.fnOf x qual (a1L st) (a0K st) (a0h st) .none kV doc pm an cdv ct),osl))
  (c:PySem.W.codeIn K cdv qual=kP) (k:PySem.W.keepIn K (.ref f)=kP):Fun K x qual st f (PySem.W.fnOf x qual (a1L st) (a0K st) (a0h st) .none kV doc pm an cdv ct):=((oc,od,kV,doc,pm,an,cdv,ct,osl,rfl,l,c),k)
end
def a0e(h:n<=1000):n<sizeLine:=dM h (by decide)
def pv(i:Nat)(hN:X.N[i]?=be x:=by rfl)(hv:Vis X.env.scope x:=by first |show cB rfl |show bW (cB rfl) |show bW (bW rfl))(hd:(x==("__debug__":Str))=kQ:=by decide)
  (hcd:(x==("__classdict__":Str))=kQ:=by decide):PE X (.Name x pos) (tVar i):=a8q hN hv hd hcd
def Same(H H':Hp):Prop:=∀b o,H b=be o->H' b=be o
def Same.refl(H:Hp):Same H H:=λ_ _ h=>h
def Same.trans(a:Same H H1)(b:Same H1 H2):Same H H2:=λc o h=>b c o (a c o h)
def Same.free(e:Same H H')(h:H' l=Option.none):H l=Option.none:=by
 cases q:H l with
 |none=>rfl
 |some o=>
  rw[e l o q]at h;cases h
def Same.seq{K:Fg}(e:Same H H')(h:SqL K H a xs):SqL K H' a xs:=by
 let(h||(o,h))||h:=h
 .show .inl (.inl (e _ _ h))
 .show .inl (.inr (o,e _ _ h))
 .show .inr h
section
variable{κ:Type}[DecidableEq κ]
noncomputable def valV(kvs:List (κ×V))(k:κ):Option V:=(kvs.find? λkv=>decide (kv.1=k)).map (·.2)
noncomputable def putK(kvs:List (κ×V))(k:κ)(v:V):List (κ×V):=
 if (kvs.any λkv=>decide (kv.1=k))=kP then kvs.map (λkv=>if kv.1=k then (kv.1,v,) else kv) else kvs++[(k,v,)]
noncomputable def a4f(kvs:List (κ×V))(k:κ):List (κ×V):=kvs.filter λkv=>decide (kv.1≠k)
def a4g{k:κ}(e:p.1=k):valV (p::r) k=be p.2:=by simp[valV,bI,e]
def a4h{k:κ}(e:¬ p.1=k):valV (p::r) k=valV r k:=by simp[valV,bI,e]
def b0Y(k:κ):∀kvs:List (κ×V),(kvs.any λkv=>decide (kv.1=k))=(valV kvs k).isSome:=by ext z0;induction z0 with
 |nil=>show rfl
 |cons p r I0=>
  rw[cG]
  by_cases e:p.1=k
  .simp only[a4g e,decide_eq_true e,Bool.true_or,Option.isSome_some]
  .rw[a4h e,decide_eq_false e,fv];show I0
def a1c(kvs:List (κ×V))(k:κ)(v:V):(putK kvs k v).length<=kvs.length+1:=by grind [putK]
def RelO.isSome_eq(r:RelO o kR):o.isSome=kR.isSome:=by
 cases o with
 |none=>cases kR with
  |none=>rfl
  |some _=>show (r).elim
 |some _=>cases kR with
  |none=>show (r).elim
  |some _=>rfl
def RelO.getD(r:RelO o kR)(rd:RelV d d'):RelV (o.getD d) (kR.getD d'):=by
 cases o with
 |none=>cases kR with
  |none=>show rd
  |some _=>show (r).elim
 |some _=>cases kR with
  |none=>show (r).elim
  |some _=>show r
noncomputable def KV.val(r:KV kvs vs)(k:κ):RelO (valV kvs k) (iq vs k):=by
 induction r with
 |nil=>show True.intro
 | @cons p q ps qs h t ih=>
  let(c,d):=h
  by_cases e:p.1=k
  .let a:=c.symm.trans e;let b:iq (q::qs) k=be q.2:=by simp[iq,a]
   rw[a4g e,b];show d
  .let a:¬ q.1=k:=λz=>e (c.trans z);let b:iq (q::qs) k=iq qs k:=by simp[iq,a]
   rw[a4h e,b];show ih
noncomputable def KV.any(r:KV kvs vs)(k:κ):(kvs.any λkv=>decide (kv.1=k))=vs.any λkv=>decide (kv.1=k):=by
 induction r with
 |nil=>rfl
 |cons h t ih=>rw[cG,cG,ih,h.1]
def KV.repl(r:KV kvs vs)(k:κ)(ry:RelV kR u) :
  KV (kvs.map λkv=>if kv.1=k then (kv.1,kR,) else kv) (vs.map λkv=>if kv.1=k then (kv.1,u,) else kv):=by
 induction r with
 |nil=>show .nil
 | @cons p q ps qs h t ih=>
  rw[aR,aR];show .cons ?_ ih;let(a,b):=h
  by_cases e:p.1=k
  .rw[if_pos e,if_pos (a.symm.trans e)];show(a,ry)
  .rw[if_neg e,if_neg (λz=>e (a.trans z))];show(a,b)
noncomputable def KV.put(r:KV kvs vs)(k:κ)(ry:RelV kR u):KV (putK kvs k kR) (stored vs k u):=by
 unfold putK stored;rw[r.any k]
 by_cases e:(vs.any λkv=>decide (kv.1=k))=kP
 .rw[if_pos e,if_pos e];show r.repl k ry
 .rw[if_neg e,if_neg e];show Paired.snoc r (rfl,ry)
def KV.drop(r:KV kvs vs)(k:κ):KV (a4f kvs k) (without vs k):=by
 unfold a4f without
 induction r with
 |nil=>show .nil
 | @cons p q ps qs h t ih=>
  let(c,d):=h;rw[bX,bX]
  by_cases e:p.1=k
  .simp_all
  .let f:¬ q.1=k:=λz=>e (c.trans z);let a:decide (p.1≠k)=kP:=by simp[e]
   let b:decide (q.1≠k)=kP:=by simp[f]
   rw[if_pos a,if_pos b];show .cons (c,d) ih
theorem KV.keys{kvs:List (κ×V)}(r:KV kvs vs):kvs.map (·.1)=vs.map (·.1):=by
 induction r with
 |nil=>rfl
 |cons h t ih=>rw[aR,aR,ih,h.1]
def KV.length(r:KV kvs vs):kvs.length=vs.length:=Paired.length r
def b0Z(kvs:List (κ×V))(k:κ):(a4f kvs k).length<=kvs.length:=dh _ _
end
def a43(r:RelV (kV k) u):(a0j P w).is k u=kP:=by
 match k,r with
 |.inl (be i),r=>let(t,e):=(r);subst e;show a5R P w i t
 |.inl gV,r=>rw[r];rfl
 |.inr x,r=>let(t,e):=(r);subst e;show a5S P w x t
def a8T:∀{ks:List Key}{us:List Value},Vals (ks.map kV) us->ItemsAre (a0j P w) ks us:=by ext z0;induction z0 with
 |nil=>ext _ r;rw[bN]at r;cases r;show .nil
 |cons k ks I0=>
  ext _ r;cases r with
  |cons h t=>show .cons (a43 h) (I0 t)
abbrev KT(H:Hp):List (List Key×V)->List (List Key×Addr×Value)->Prop:=Paired λp q=>p.1=q.1/\H q.2.1=be (.tup (p.1.map kV))/\RelV p.2 q.2.2
noncomputable def KT.val(r:KT H kvs xs)(k:List Key):RelO (valV kvs k) ((atKey xs k).map (·.2)):=by
 induction r with
 |nil=>show True.intro
 | @cons p q ps qs h t ih=>
  let(c,_,d):=h
  by_cases e:p.1=k
  .let a:=c.symm.trans e;let b:atKey (q::qs) k=be q.2:=by simp[atKey,a]
   rw[a4g e,b];show d
  .let a:¬ q.1=k:=λz=>e (c.trans z);let b:atKey (q::qs) k=atKey qs k:=by simp[atKey,a]
   rw[a4h e,b];show ih
def KT.repl(r:KT H kvs xs)(k:List Key)(ry:RelV kR u) :
  KT H (kvs.map λkv=>if kv.1=k then (kv.1,kR,) else kv) (xs.map (putAt k u)):=by
 induction r with
 |nil=>show .nil
 | @cons p q ps qs h t ih=>
  rw[aR,aR];show .cons ?_ ih;let(a,b,c):=h;unfold putAt
  by_cases e:p.1=k
  .rw[if_pos e,if_pos (a.symm.trans e)];show(a,b,ry)
  .rw[if_neg e,if_neg (λz=>e (a.trans z))];show(a,b,c)
noncomputable def KT.put(r:KT H kvs xs)(k:List Key)(hb:H b=be (.tup (k.map kV)))(ry:RelV kR u) :
  KT H (putK kvs k kR) (storedH xs k b u):=by
 let e:(kvs.any λa=>decide (a.1=k))=(atKey xs k).isSome:=by
  rw[b0Y,(r.val k).isSome_eq,Option.isSome_map]
 unfold putK storedH;rw[e]
 by_cases q:(atKey xs k).isSome=kP
 .rw[if_pos q,if_pos q];show r.repl k ry
 .rw[if_neg q,if_neg q];show Paired.snoc r (rfl,hb,ry)
def KT.keeps(r:KT H kvs xs)(ht:∀b ys,H b=be (.tup ys)->H' b=be (.tup ys)):KT H' kvs xs:=
 Paired.mapP r λ_ _ z=>(z.1,ht _ _ z.2.1,z.2.2)
section
variable{h:Heap}{a:Addr}
def b6t(ok:HOk P w H h)(e:Rd H a kR):ObjOk P w H h a kR:=e.ok ok
def a7M(ok:HOk P w H h)(e:Rd H a (.dK kvs)):kvs.length<=gH/\(a==g9)=kQ/\∃vs,KV kvs vs/\h.DictOf (a0j P w) a vs:=
 b6t ok e
def a8U(ok:HOk P w H h)(e:H a=be (.dK kvs)):kvs.length<=gH/\(a==g9)=kQ/\∃vs,KV kvs vs/\h.DictOf (a0j P w) a vs:=a7M ok (.inl e)
def a6I(ok:HOk P w H h)(e:H a=be (.tup (ks.map kV))):(jl (a0j P w)).is h ks a:=by
 let(_,b,r,o,d,c,n,f):=(ok a _ e);show(o,b.toArray,n,d,c,f,↑(a8T r))
def b3R(ok:HOk P w H h)(e:Rd H a (.dT kvs)):kvs.length<=gH/\(a==g9)=kQ /\
  ∃xs,KT H kvs xs/\h.DictOfH (jl (a0j P w)) a xs:=by
 let(z,y,g,r,o,d,s,j,k,f,n,i):=(b6t ok e);show(z,y,g,r,o,d,s,j,k,f,n,λx b=>?_,i);let c:∀{l:List _}{m:List _},KT H l m->∀x∈m,(jl (a0j P w)).is h x.1 x.2.1:=by
  ext l m q
  induction q with
  |nil=>ext x b;show nomatch b
  | @cons p q ps qs hq t ih=>
   ext x b;let e||b:=aL.mp b
   .subst e;show a6I ok (by simp_all)
   .show ih x b
 show c r x b
def b9a(ok:HOk P w H h)(e:H a=be (.dT kvs)):kvs.length<=gH/\(a==g9)=kQ /\
  ∃xs,KT H kvs xs/\h.DictOfH (jl (a0j P w)) a xs:=b3R ok (.inl e)
end
def DGet(H:Hp)(a:Addr)(y:V)(r:Option V):Prop:=
 (∃kvs k,Rd H a (.dK kvs)/\y=kV k/\r=valV kvs k)\/∃kvs k b,Rd H a (.dT kvs)/\y=.ref b/\H b=be (.tup (k.map kV))/\r=valV kvs k
def DPut(H:Hp)(a:Addr)(y v:V)(H':Hp):Prop:=
 (∃kvs k,H a=be (.dK kvs)/\y=kV k/\kvs.length<gH/\H'=upd H a (.dK (putK kvs k v))) \/
 ∃kvs k b,H a=be (.dT kvs)/\y=.ref b/\H b=be (.tup (k.map kV))/\kvs.length<gH/\H'=upd H a (.dT (putK kvs k v))
def DGet.k{k:Key}(e:H a=be (.dK kvs)):DGet H a (kV k) (valV kvs k):=.inl (kvs,k,.inl e,rfl,rfl)
def DGet.t{k:List Key}(e:H a=be (.dT kvs))(eb:H b=be (.tup (k.map kV))):DGet H a (.ref b) (valV kvs k):=.inr (kvs,k,b,.inl e,rfl,eb,rfl)
def DPut.k{k:Key}(e:H a=be (.dK kvs))(hl:kvs.length<gH):DPut H a (kV k) v (upd H a (.dK (putK kvs k v))):=.inl (kvs,k,e,rfl,hl,rfl)
def DPut.t{k:List Key}(e:H a=be (.dT kvs))(eb:H b=be (.tup (k.map kV)))(hl:kvs.length<gH) :
  DPut H a (.ref b) v (upd H a (.dT (putK kvs k v))):=.inr (kvs,k,b,e,rfl,eb,hl,rfl)
section
variable{σ:St}{a:Addr}{y v:V}{r:Value}{o:Option V}
def Inv.big(I:Inv X pins σ H s):g9<s.heap.objs.size:=by
 let h:=(I.mod.glob.keeps I.bk).lt;show dj (by decide) h
def a4i(I:Inv X pins σ H s)(mu:Mut (H a))(hs:Heap.SameBut a s.heap h')(he:∃q,h'.get? a=be q)(new:ObjOk X.prog X.w (upd H a ob) h' a ob) :
  Inv X pins σ (upd H a ob) { s with heap:=h',toks:=t' }:=
 I.write mu (.inl rfl) (λb q c z=>(hs.2 b c).trans z) he new
def a6J(z:kvs.length<=gH)(hd:(a==g9)=kQ)(rel:KV kvs vs)(dd:h'.DictOf (a0j P w) a vs) :
  ObjOk P w H' h' a (.dK kvs):=(z,hd,vs,rel,dd)
def a8V(hu:A.units+1<cLine)(I:Inv X pins σ H s)(g:DPut H a y v H')(ry:RelV y u)(rv:RelV v r)(h:∀s',Inv X pins σ H' s'->Q () s') :
  wpAny (model X.prog X.w) A (jF (.ref a) u r) Q E s:=by
 let(kvs,k,e,ey,l,eH)||(kvs,k,b,e,ey,eb,l,eH):=g
 .subst ey eH;let(z,m,F,d,p):=a8U I.hok e;let o:F.length<=sizeLine:=d.length▸z;let n:(putK kvs k v).length<=sizeLine:=by let:=a1c kvs k v;lia
  show wpAny_setItem_pairs (a43 ry) p λx f j=>h _ ?_;let L:∃q,x.get? a=be q:=by let(q,_,_,i,_):=f;show(q,i)
  show a4i I (e▸True.intro) j L (a6J n m (d.put k rv) f)
 .subst ey eH;cases (ry);let(z,m,D,d,p):=b9a I.hok e;let o:D.length<=sizeLine:=(Paired.length d)▸z;let n:(putK kvs k v).length<=sizeLine:=by let:=a1c kvs k v;lia
  show wpAny_setItem_heap (hsz:=o) (ki hu) (a6I I.hok eb) p λx f j=>h _ ?_;let(q,C,M,i,J,N,B,_,G):=f;show a4i I (e▸True.intro) j (q,i) (n,m,_,(d.put k eb rv).keeps λc R t=>?_,q,C,M,i,J,N,B,G);rw[a0d (b8O t e (λz=>nomatch z))];show t
end
section
variable{σ:St}{a:Addr}{kvs:List (Key×V)}{k:Key}
def b9b(I:Inv X pins σ H s)(e:H a=be (.dK kvs))(ry:RelV (kV k) u)(l:valV kvs k=be v)(hm:more=[]\/∃x,more=[x])
  (h:∀w' s',Inv X pins σ (upd H a (.dK (a4f kvs k))) s'->RelV v w'->Q w' s'):wpAny (model X.prog X.w) A (call (.builtin "dict.pop") (.ref a::u::more)) Q E s:=by
 let(z,B,f,b,d):=a8U I.hok e;let(j,m,g):=RelO.some_of (by rw[<- l];show b.val k);let r:(keyPart u).isSome=kP:=by
  match k,ry with
  |.inl (be i),ry=>let(t,q):=(ry);subst q;rfl
  |.inl gV,ry=>rw[ry];rfl
  |.inr x,ry=>let(t,q):=(ry);subst q;rfl
 let C:argsOk "dict.pop" (.ref a::u::more,[]):=by
  let q||(x,q):=hm
  .subst q;show PySem.F.args_dict_pop_2 _ _
  .subst q;show PySem.F.args_dict_pop_3 _ _ _
 show je PySem.F.slot_dict_pop d.typeIs PySem.F.entry_dict_pop C (meets_dict_pop_there _ a (a43 ry) more hm r)
  (f,j,d,by rw[<- b.length];show z,m,λn c y=>h j _ ?_ g)
 let p:∃q,n.get? a=be q:=let (q,_,_,hq,_):=c;(q,hq)
 show a4i I (by rw[e];show True.intro) y p (a6J (aU (b0Z kvs k) z) B (b.drop k) c)
end
def a4j(h:Heap)(hb:g9<h.objs.size):ObjOk P w H (h.push { cls:=.type "dict",data:=.dict #[] }) h.objs.size (.dK []):=
 (bg _,beq_eq_false_iff_ne.mpr (Ne.symm (aS hb)),[],.nil,Heap.DictOf.new h)
def b6u:TE:=λ_ H Q=>∀p,H p=gV->Q (.ref p) (upd H p (.dK []))
def b00:PE X (.Dict [] [] pos) b6u:=λb s σ H Q I h=>
 wpAny_Dict_empty (.ref s.heap.objs.size,_,I.laid (λ_ _ q=>Heap.get?_push_of_some _ q) (aI _) (a4j s.heap I.big),rfl,h _ (I.hok.fresh (aI _)))
noncomputable def b6v(kvs more:List (Key×V)):List (Key×V):=more.foldl (λacc kv=>putK acc kv.1 kv.2) kvs
def KV.merge:∀{more:List (Key×V)}{rs:List (Key×Value)}{kvs:List (Key×V)}{vs:List (Key×Value)},KV more rs->KV kvs vs->KV (b6v kvs more) (merged vs rs):=by
 ext d f a b r
 induction r generalizing a b with
 |nil=>ext q;show q
 | @cons p q ps qs h t ih=>
  ext c;let e:KV (putK a p.1 p.2) (stored b q.1 q.2):=by
   let:=c.put p.1 h.2
   rw[<- h.1];show this
  show ih e
structure M2 (X:Cx) (o:Expr) (m:Str) (apos:Pos) (e f:Expr) (cpos:Pos):Prop where
 base:i6 o m X.env (eval o X.env)=eval o X.env
 few:((backTo cpos (gJ [e,f] X.env)).all (λx=>!x.1)&&(jc cpos (jd [] X.env)).all (λx=>x.1.isSome)
  && decide (([e,f]:List Expr).length+([]:List iQ).length+(if ([]:List iQ).isEmpty then 0 else 1)<30))=kP
 line:(apos.endLine==cpos.line)=kP
 trees:backTo cpos (gJ [e,f] X.env)=[(kQ,eval e X.env,),(kQ,eval f X.env,)]
section
variable{σ:St}{a:Addr}{y d:V}{r:Value}{o:Option V}
def b6w(hu:A.units+1<cLine)(I:Inv X pins σ H s)(g:DGet H a y o)(ry:RelV y u)(h:∀w' s',Inv X pins σ H s'->RelV (o.getD .non) w'->Q w' s') :
  wpAny (model X.prog X.w) A (call (.builtin "dict.get") [.ref a,u]) Q E s:=by
 let(kvs,k,e,ey,l)||(kvs,k,b,e,ey,eb,l):=g
 .subst ey;let(z,f,j,d,c):=a7M I.hok e;show je PySem.F.slot_dict_get c.typeIs PySem.F.entry_dict_get (PySem.F.args_dict_get_2 _ _) (meets_dict_get _ a (a43 ry) f) (_,c.mapOf,h _ _ (I.tok _) ?_);rw[l];show (d.val k).getD rfl
 .subst ey;cases (ry);let(z,f,i,d,c):=b3R I.hok e;show je PySem.F.slot_dict_get c.typeIs PySem.F.entry_dict_get (PySem.F.args_dict_get_2 _ _) (meetsH_dict_get _ a b f) (ki hu,k,i,a6I I.hok eb,c,h _ _ (I.tok _) ?_);rw[l];show (d.val k).getD rfl
def b6x(hu:A.units+1<cLine)(I:Inv X pins σ H s)(g:DGet H a y o)(ry:RelV y u)(rd:RelV d r)(h:∀w' s',Inv X pins σ H s'->RelV (o.getD d) w'->Q w' s') :
  wpAny (model X.prog X.w) A (call (.builtin "dict.get") [.ref a,u,r]) Q E s:=by
 let(kvs,k,e,ey,l)||(kvs,k,b,e,ey,eb,l):=g
 .subst ey;let(z,i,m,f,c):=a7M I.hok e;show je PySem.F.slot_dict_get c.typeIs PySem.F.entry_dict_get (PySem.F.args_dict_get_3 _ _ _) (meets_dict_get_default _ a (a43 ry) i r) (_,c.mapOf,h _ _ (I.tok _) ?_);rw[l];show (f.val k).getD rd
 .subst ey;cases (ry);let(z,i,j,f,c):=b3R I.hok e;show je PySem.F.slot_dict_get c.typeIs PySem.F.entry_dict_get (PySem.F.args_dict_get_3 _ _ _) (meetsH_dict_get_default _ a b i r) (ki hu,k,j,a6I I.hok eb,c,h _ _ (I.tok _) ?_);rw[l];show (f.val k).getD rd
end
noncomputable def a2k(cap:List (Option Nat))(σ:St):St:=cap.map λo=>o.bind λj=>(σ[j]?).join
def a1d:St->St->Prop
 |[],[]=>True
 |none::a,_::b=>a1d a b
 |some x::a,y::b=>y=be x/\a1d a b
 |_,_=>False
theorem a2l:∀{a b:St},a1d a b->a.length=b.length/\∀(i:Nat) v,a[i]?=be (be v)->b[i]?=be (be v)
 |[],[],_=>(rfl,λi v h=>by simp at h)
 |none::a,y::b,h=>by
  let c:=a2l (b:=b) h;show(by simp[c.1],λi v e=>?_);cases i with
  |zero=>simp at e
  |succ i=>o_head c.2 i v (by simp_all)
 |some x::a,y::b,h=>by
  let(d,h):=(h);let c:=a2l (b:=b) h;show(by simp[c.1],λi v e=>?_);cases i with
  |zero=>rw[d];o_head e
  |succ i=>o_head c.2 i v ↑e
 |[],_::_,h=>aN h
 |none::_,[],h=>aN h
 |some _::_,[],h=>aN h
theorem a1t:∀a:St,a1d a a
 |[]=>True.intro
 |none::a=>a1t a
 |some _::a=>(rfl,a1t a)
noncomputable def capB(N:List Str)(so sc:Scope)(N':List Str)(cap:List (Option Nat)):Bool:=
 decide (sc.kind=.function)&&decide N'.Nodup&&decide (cap.length=N'.length)&&(sc.names.all λy=>decide (y.2≠.cell)) &&
 (sc.names.all λy=>decide (y.2=.local->sc.names.lookup y.1=be .local)) &&
 (sc.names.all λy=>decide (y.2=.free->so.names.lookup y.1=be .cell\/so.names.lookup y.1=be .free)) &&
 ((N'.zip cap).all λy=>match y.2 with |none=>kP |some j=>decide (N[j]?=be y.1)&&decide (sc.names.lookup y.1=be .free))
structure CapOk (N:List Str) (so sc:Scope) (N':List Str) (cap:List (Option Nat)):Prop where
 kind:sc.kind=.function
 nd:N'.Nodup
 len:cap.length=N'.length
 nocell:∀y∈sc.names,y.2≠.cell
 nms:∀y∈sc.names,y.2=.local->sc.names.lookup y.1=be .local
 fre:∀y∈sc.names,y.2=.free->so.names.lookup y.1=be .cell\/so.names.lookup y.1=be .free
 cap:∀(i:Nat) x j,N'[i]?=be x->cap[i]?=be (be j)->N[j]?=be x/\sc.names.lookup x=be .free
def a8W(h:capB N so sc N' cap=kP):CapOk N so sc N' cap:=by
 unfold capB at h;simp only[bO,decide_eq_true_eq,bU]at h;let((((((f,k),d),g),b),l),e):=h;show(f,k,d,g,b,l,λi x j c a=>?_);let m:(N'.zip cap)[i]?=be (x,be j,):=by rw[List.getElem?_zip_eq_some];show(c,a)
 o_head (e (x,be j,) (aZ m))
structure Lk (fr:List Addr) (ex:Addr->Prop) (h h':Heap):Prop where
 keep:∀b o,h.get? b=be o->b∉fr->¬ ex b->h'.get? b=be o
 slot:∀b o,h.get? b=be o->¬ ex b->∃sl,h'.get? b=be { o with slots:=sl }
 size:h.objs.size<=h'.objs.size
def Lk.refl{fr:List Addr}{ex:Addr->Prop}{h:Heap}:Lk fr ex h h:=(λ_ _ q _ _=>q,λ_ o q _=>(o.slots,q),aI _)
def Lk.trans{fr:List Addr}{ex ex2:Addr->Prop}{h h1 h2:Heap}(a:Lk fr ex h h1)(b:Lk fr ex2 h1 h2)(i:∀x,ex2 x->ex x\/h.objs.size<=x):Lk fr ex h h2:=by
 let n:∀{x o},h.get? x=be o->¬ ex x->¬ ex2 x:=λ{x o} q n z=>by
  let z||z:=i x z
  .show n z
  .show absurd (Heap.lt_size q) (Nat.not_lt.mpr z)
 show(λx o q f z=>b.keep x o (a.keep x o q f z) f (n q z),λx o q z=>?_,aU a.size b.size);let(sl,e):=a.slot x o q z;let(sl2,e2):=b.slot x _ e (n q z);show(sl2,e2)
theorem Lk.funs(k:Lk fr ex h h'):∀{l:List Env},(∀b∈frs l,¬ ex b)->h.FunFrames base l->h'.FunFrames base l
 |[],_,_=>True.intro
 |env::rest,hx,(hk,(L,o,hf,hn,ho,hd),hr)=>by
  let a:L∈frs (env::rest):=by change L∈(env::rest).filterMap _;rw[bV,hf];show .head _
  let(d,e):=k.slot L o ho (hx L a);show(hk,(L,_,hf,hn,e,hd),k.funs (λb c=>hx b (by change b∈(env::rest).filterMap _;rw[bV,hf];show .tail _ c)) hr)
def FlyT(e:Addr)(cls:Value)(T:Addr)(fl:Value)(h:Heap):Prop:=∃oe vs oT ts,h.get? e=be oe/\(oe.cls=cls/\oe.dict=gV)/\oe.data=.fields vs/\vs[1]?=be (.ref T)/\T≠e/\h.get? T=be oT/\oT.data=.fields ts/\ts[3]?=be fl
section
variable{M:Model}{base:Heap}{env:Env}{outer:List Env}{L e T:Addr}{cls fl:Value}{Q:Unit->Shared->Prop}
def a3y(f:Array Value->Array Value)(o:Obj):(o.mapFields f).dict=o.dict:=by
 unfold Obj.mapFields
 split<;>rfl
def b2O(hfr:A.frames=be (env::outer))(hl:s.heap.FunFrames base (env::outer))(hf:env.frame=be L)(he:s.heap.get? e=be oe)(hn0:oe.dict=gV)(hd:oe.data=.fields vs)(hz:1<vs.size)
  (q:∀h' T',Lk (frs (env::outer)) (·=e) s.heap h'->FlyT e oe.cls T' (rawInt L) h'->s.heap.objs.size<=T'->Q () { s with heap:=h' }) :
  wpAny M A (do let a <- frameOf env;let pl <- entryPlaceOf L hn;let b <- EntryCells.newEntry head a .none (rawInt L) .none pl;setField (.ref e) 1 b) Q E s:=by
 let t:e∉frs _:=λD=>by
  let(_,F,i,C):=hl.mem D;rw[he]at i;cases i;show C vs hd
 show gE (wpAny_frameOf_fun hfr hl hf λc g=>gE (wpAny_entryPlaceOf λl m=>?_));unfold EntryCells.newEntry;show gE (iI ?_ (m.sizeOk5 _ _ _ _ _));generalize ht:([head,Value.ref L,.none,rawInt L,.none]++_).toArray=ts;let w:ts[3]?=be (rawInt L):=by rw[<- ht];simp
 let p:=(g.2.1 e t).trans he;let z:=Heap.lt_size p;let j:=bS z;let k:=Heap.get?_push_of_some { cls:=.type "traceback",dict:=gV,data:=.fields ts } p;let r:=Obj.data_mapFields hd (·.setIfInBounds 1 (Value.ref c.objs.size));let y:=(Heap.get?_update_other (c.push { cls:=.type "traceback",dict:=gV,data:=.fields ts }) (Obj.mapFields (·.setIfInBounds 1 (Value.ref c.objs.size))) (Ne.symm j)).trans (Heap.get?_push_size c rfl);show iM k hd hz (q _ c.objs.size ?_ (_,_,_,_,(Heap.get?_update_self _ k (Obj.isFreed_of_fields r)),(Obj.cls_mapFields _ _,(a3y _ _).trans hn0),r,by simp[hz],j,y,rfl,w) (dH g.1.symm));let n:∀b o,b≠e->c.get? b=be o->((c.push { cls:=.type "traceback",dict:=gV,data:=.fields ts }).update e (Obj.mapFields (·.setIfInBounds 1 (Value.ref c.objs.size)))).get? b=be o:=λb o d f=>by
  rw[Heap.get?_update_other _ _ (Ne.symm d)];show Heap.get?_push_of_some _ f
 show(λb o f x d=>n b o d ((g.2.1 b x).trans f),λb o f d=>?_,?_)
 .let(v,B):=g.2.2 b o f;show(v,n b _ d B)
 .rw[Heap.size_update,<- g.1];show bL (by simp)
def a8X(hT:FlyT e cls T fl s.heap)(q:∀h',(∀fr,Lk fr (·=T) s.heap h')->FlyT e cls T x h'->Q () { s with heap:=h' }):wpAny M A (setField (.ref T) 3 x) Q E s:=by
 let(l,m,oT,ts,r,p,j,k,i,hT,c,t):=hT;let h:=(dN.mp t).1;show iM hT c h (q _ (λfr=>?_) ?_)
 all_goals let d:∀b,b≠T->(s.heap.update T (Obj.mapFields (·.setIfInBounds 3 x))).get? b=s.heap.get? b:=λb a=>Heap.get?_update_other _ _ (Ne.symm a)
 all_goals let n:=Heap.get?_update_self (Obj.mapFields (·.setIfInBounds 3 x)) hT (Obj.isFreed_of_fields (Obj.data_mapFields c _))
 .show(λb o a _ g=>(d b g).trans a,λb o a g=>(o.slots,(d b g).trans a),by rw[Heap.size_update];show aI _)
 .show(l,m,_,_,(d e (Ne.symm i)).trans r,p,j,k,i,n,Obj.data_mapFields c _,by simp[h])
def FlyT.field{Q:Value->Shared->Prop}(h:FlyT e cls T fl s.heap)(q:Q (.ref T) s):wpAny M A (field (.ref e) 1) Q E s:=by
 let(_,_,_,_,a,_,b,c,_):=h;show iE a b c q
def FlyT.mark{Q:Value->Shared->Prop}(h:FlyT e cls T fl s.heap)(q:Q fl s):wpAny M A (PySem.field (.ref T) 3) Q E s:=by
 let(_,_,_,_,_,_,_,_,_,a,c,b):=h;show iE a c b q
def b01(hT:FlyT e cls T fl s.heap)(q:∀h',(∀fr,Lk fr (·=T) s.heap h')->FlyT e cls T (fo.elim .none λf=>rawInt f) h'->Q () { s with heap:=h' }):wpAny M A (setFlight (.ref e) fo) Q E s:=by
 show gE (hT.field (a8X hT q))
def b02(hfr:A.frames=be (env::outer))(hl:s.heap.FunFrames base (env::outer))(hf:env.frame=be L)(he:s.heap.get? e=be oe)(hn0:oe.dict=gV)(hd:oe.data=.fields vs)(h1:vs[1]?=be .none)
  (q:∀h' T',Lk (frs (env::outer)) (·=e) s.heap h'->FlyT e oe.cls T' (rawInt L) h'->s.heap.objs.size<=T'->Q () { s with heap:=h' }):wpAny M A (jM (.ref e) env) Q E s:=by
 unfold jM;simp only[hf];show gE (iE he hd h1 (b2O hfr hl hf he hn0 hd (dN.mp h1).1 q))
def b2P(hfr:A.frames=be (env::outer))(hl:s.heap.FunFrames base (env::outer))(hf:env.frame=be L)(hT:FlyT e cls T fl s.heap)
  (q:∀h' T',Lk (frs (env::outer)) (λb=>b=e\/b=T) s.heap h'->FlyT e cls T' (rawInt L) h'->T'=T\/s.heap.objs.size<=T'->Q () { s with heap:=h' }):wpAny M A (jM (.ref e) env) Q E s:=by
 unfold jM;simp only[hf];show gE (hT.field (gE (hT.mark ?_)))
 by_cases c:(fl==rawInt L)=kP
 .rw[if_pos c];rw[show fl=rawInt L by o_head c]at hT;show gF (q s.heap T .refl hT (.inl rfl))
 .rw[if_neg c];show gE (a8X hT λh a B=>?_);let l:=(a []).funs (λb v z=>by
   let(_,I,g,u):=hl.mem v;let(_,_,_,i,_,_,_,_,_,d,j,_):=hT;rw[z,d]at g;cases g;show u i j) hl
  let(D,G,F,i,C,p,t,r,H,d,j,J):=B;show b2O hfr l hf C p.2 t (dN.mp r).1 λy w k f z=>q y w ?_ (p.1▸f) (.inr (aU (a []).size z));let m:Lk (frs (env::outer)) (λb=>b=e\/b=T) s.heap h:=(λb o q f n=>(a _).keep b o q f λz=>n (.inr z),λb o q n=>(a []).slot b o q λz=>n (.inr z),(a []).size);show m.trans k λx z=>.inl (.inl z)
def b03(hfr:A.frames=be (env::outer))(hl:s.heap.FunFrames base (env::outer))(hf:env.frame=be L)(he:s.heap.get? e=be oe)(hn0:oe.dict=gV)(hd:oe.data=.fields vs)(h1:vs[1]?=be .none)
  (q:∀h' T',Lk (frs (env::outer)) (·=e) s.heap h'->FlyT e oe.cls T' .none h'->s.heap.objs.size<=T'->Q () { s with heap:=h' }):wpAny M A (jJ env (.ref e)) Q E s:=
 gE (b02 hfr hl hf he hn0 hd h1 λ_ b k f z=>b01 f λa d c=>q a b (k.trans (d _) λx w=>.inr (w▸z)) c z)
def b6y(hfr:A.frames=be (env::outer))(hl:s.heap.FunFrames base (env::outer))(hf:env.frame=be L)(hT:FlyT e cls T fl s.heap)
  (q:∀h' T',Lk (frs (env::outer)) (λb=>b=e\/b=T) s.heap h'->FlyT e cls T' .none h'->T'=T\/s.heap.objs.size<=T'->Q () { s with heap:=h' }):wpAny M A (jJ env (.ref e)) Q E s:=
 gE (b2P hfr hl hf hT λ_ c k f z=>b01 f λa g d=>q a c (k.trans (g _) λx w=>by
  rw[w];let z||z:=z
  .show .inl (.inr z)
  .show .inr z) d z)
end
def Un.lk(u:Un fs ex0 H0 H h0 h)(v:Lk fr ex h h')(hf:∀b∈fr,b∈fs\/h0.get? b=gV)(hx:∀b,ex b->b∈ex0\/h0.get? b=gV):Un fs ex0 H0 H h0 h':=by
 let g:∀{b o},h0.get? b=be o->b∉ex0->¬ ex b:=λ{b o} q n z=>by
  let z||z:=hx b z
  .grind
  .grind
 show(λb o q n c a=>?_,λb o q n c a=>?_,u.free,λb o q a=>?_,u.tups,u.frzs,u.tbls)
 .show v.keep b o (u.keep b o q n c a) (λz=>?_) (g q a);let z||z:=hf b z
  .grind
  .grind
 .let(j,f):=u.slot b o q n c a;let(d,e):=v.slot b _ f (g q a);show(d,e)
 .let(i,f):=u.there b o q a;let(d,e):=v.slot b _ f (g q a);show(_,e)
def Un.gone(u:Un fs ex H0 H h0 h)(n:h.get? b=gV):b∈ex\/h0.get? b=gV:=by
 cases q:h0.get? b with
 |none=>show .inr rfl
 |some o=>
  by_cases c:b∈ex
  .show .inl c
  .let(a,e):=u.there b o q c;rw[n]at e;cases e
def Un.gone0(u:Un fs [] H0 H h0 h)(n:h.get? b=gV):h0.get? b=gV:=(u.gone n).resolve_left (by simp)
def ObjOk.is(x:ObjOk P w H h a o):∃ob,h.get? a=be ob:=by
 cases o with
 |lst xs=>let(_,_,_,_,e):=x;show(_,e)
 |tup xs=>let(_,_,_,b,e,_):=x;show(_,e)
 |dK kvs=>let(_,_,_,_,o,_,_,e,_):=x;show(_,e)
 |dT kvs=>let(_,_,_,_,o,_,_,e,_):=x;show(_,e)
 |set S n=>let(o,_,_,_,e,_):=x;show(_,e)
 |ins C dx fs=>let(_,_,_,e,_):=x;show(_,e)
 |own y=>let(_,e):=x;show(_,e)
 |xd fs=>let(_,(_,_,_,e,_),_):=x;show(_,e)
 |rng lo hi=>let(_,_,_,e):=x;show(_,e)
 |frz b u=>let(e,_):=x;show(_,e)
 |tbl ps=>show(_,x)
 |met f y=>show(_,x)
 |ext φ=>let(_,(_,e),_):=x;show(_,e)
def HOk.gone(x:HOk P w H h)(n:h.get? a=gV):H a=gV:=by
 cases q:H a with
 |none=>rfl
 |some u=>let(b,e):=(x a u q).is;rw[n]at e;cases e
def HOk.lk(x:HOk P w H h)(l:Lk fr ex h h')(hf:∀b∈fr,H b=gV)(he:∀b,ex b->H b=gV):HOk P w H h':=λa o q=>
 (x a o q).stay (λb u c r=>by
  let d:H b≠gV:=by
   let rfl||c:=c
   .simp_all
   .simp_all
  show l.keep b u r (λz=>d (hf b z)) λz=>d (he b z)) (λ_ q=>q) λ_ _ q=>q
structure Fly (N:Addr->Prop) (H:Hp) (fl:Value) (e:Addr) (cls:Value) (h:Heap):Prop where
 at_:∃T,FlyT e cls T fl h/\N T/\H T=gV
 old:N e
 free:H e=gV
def CXx(P:gM)(w:World):CXT:=λouter H s E ev s'=>∃e C H',ev=.ref e/\s'.os=s.os/\iw s'.gens/\Un (frs outer) [] H H' s.heap s'.heap/\HOk P w H' s'.heap/\Fly (λb=>s.heap.get? b=gV) H' .none e (.ref C) s'.heap/\E (.ref C) gV H'
structure TKs (H H':Hp):Prop where
 tup:∀b xs,H b=be (.tup xs)->H' b=be (.tup xs)
 frz:∀b o u,H b=be (.frz o u)->H' b=be (.frz o u)
def since(H:Hp)(E:XK):XK:=λc d H'=>TKs H H'->E c d H'
structure Outs (X:Cx) (E:XK):Prop where
 xe:∀ev s',wpAny (model X.prog X.w) X.A (jJ X.env ev) (λ_ s''=>CXx X.prog X.w X.outer X.H₀ X.s₀ E ev s'') (λe' s''=>CXx X.prog X.w X.outer X.H₀ X.s₀ E e' s'') s'->X.xe ev s'
 stk:X.stack=X.env::X.outer
 frm:X.env.frame=be X.env.locals
 ex:X.ex=[]
def Outs.of{P:gM}{w:World}{K:Fg}{mg:Str->Option Value}{base:Heap}{N:List Str}{qual:Str}{scope:Scope}{f:Addr}{cd:Value}{A:Around}{outer:List Env}{s:Shared}{H:Hp}{E:XK}:Outs (cxOf (CXx P w) P w K mg base N qual scope f cd A outer s H E) E:=(λ_ _ h=>h,rfl,rfl,rfl)
section
variable{E:XK}{σ:St}
def Outs.frames(O:Outs X E)(I:Inv X pins σ H s):X.A.frames=be (X.env::X.outer):=by rw[<- O.stk];show I.ok.frames
def Outs.sub(O:Outs X E)(I:Inv X pins σ H s):∀b∈frs (X.env::X.outer),b∈X.fs\/X.s₀.heap.get? b=gV:=λb a=>by
 rw[<- O.stk]at a;let z||z:=aL.mp (I.stkSub b a)
 .rw[z];show .inr (Heap.get?_none_of_le I.ok.above)
 .show .inl z
def Outs.funs(O:Outs X E)(I:Inv X pins σ H s):s.heap.FunFrames X.base (X.env::X.outer):=by rw[<- O.stk];show I.stack
def Outs.free(O:Outs X E)(I:Inv X pins σ H s):∀b∈frs (X.env::X.outer),H b=gV:=by rw[<- O.stk];show I.stkFree
def Outs.base(O:Outs X E)(I:Inv X pins σ H s):Un X.fs [] X.H₀ H X.s₀.heap s.heap:=by let:=I.base;rw[O.ex]at this;show this
def Outs.fin(O:Outs X E)(I:Inv X pins σ H s){e C T:Addr}{ex:Addr->Prop}{h':Heap}(k:Lk (frs (X.env::X.outer)) ex s.heap h')(f:FlyT e (.ref C) T .none h')(hx:∀b,ex b->X.s₀.heap.get? b=gV/\H b=gV)(he:ex e)(hT:ex T\/s.heap.objs.size<=T)(q:since X.H₀ E (.ref C) gV H) :
  CXx X.prog X.w X.outer X.H₀ X.s₀ E (.ref e) { s with heap:=h' }:=
 (e,C,H,rfl,I.os,I.bare,(O.base I).lk k (O.sub I) (λb hb=>.inr (hx b hb).1),I.hok.lk k (O.free I) λb hb=>(hx b hb).2,((T,f,by
  let z||z:=hT
  .show hx T z
  .show(Heap.get?_none_of_le (aU I.sz z),I.hok.fresh z)),(hx e he).1,(hx e he).2),q (I.base.tups,I.base.frzs))
def b04(O:Outs X E)(I:Inv X pins σ H s)(hm:Heap.MadeExcOf s.heap h' e (.ref C) vs)(q:since X.H₀ E (.ref C) gV H):X.xe (.ref e) { s with heap:=h' }:=by
 let(t,d,g,_):=hm.there;let a:Inv X pins σ H { s with heap:=h' }:=I.kept hm.keeps;show O.xe _ _ (b03 (O.frames I) (O.funs a) O.frm d rfl rfl (by simp) λh T l f z=>(O.fin a l f (λb c=>by rw[c];show((O.base I).gone0 hm.new,I.hok.gone hm.new)) rfl (.inr z) q))
def b05(O:Outs X E):a1s (CXx X.prog X.w) X (since X.H₀ E):=by
 intro a σ H s t k I (e,C,o,r,i,c,n,g,((T,f,m,d),old,fe),q);subst r;let h:=I.call' i n g c λ_ z=>nomatch z;show O.xe _ _ (b6y (O.frames I) (O.funs h) O.frm f λv u l p z=>?_);show O.fin h l p (λb j=>?_) (.inl rfl) (by
  let z||z:=z
  .simp_all
  .show .inr z) q
 let rfl||rfl:=j
 .show((O.base I).gone0 old,fe)
 .show((O.base I).gone0 m,d)
end
def ExC(X:Cx)(E:XK)(C:Addr)(s:Shared)(H:Hp)(fp:List Addr)(ev:Value)(s':Shared):Prop:=
 ∃e Cl H',ev=.ref e/\s'.os=s.os/\iw s'.gens/\Un (frs X.stack) fp H H' s.heap s'.heap/\HOk X.prog X.w H' s'.heap/\Fly (λb=>b∈fp\/s.heap.get? b=gV) H' .none e (.ref Cl) s'.heap/\(∃m,s'.heap.Ns C m)/\H' C=gV/\C≠e/\E (.ref Cl) gV H'
def a4m(X:Cx)(EW:XK)(sc:Scope):Prop:=∀(pins:List (Addr×Obj))(σ:St)(H:Hp)(s:Shared)(C:Addr)(fp:List Addr)(use:Option (Value->Sem Unit))(Fin:Value->Shared->Prop)(acc:Value),Inv X pins σ H s->(∀b∈fp,FpOk X pins H b)->C=s.heap.objs.size ->
 ∀ev s',ExC X EW C s H fp ev s'->ju (model X.prog X.w) X.A (jf sc (a0G X.env sc.names []) C X.env) (λe s''=>kj (model X.prog X.w) X.A X.xe use Fin acc C (.error e) s'') ev s'
def a6K:a4m X (λ_ _ _=>False) sc:=by
 ext a σ H s C g d c b _ _ _ e f ⟨_,_,_,_,_,_,_,_,_,_,_,_,q⟩;show q.elim
noncomputable def cxC(X:Cx)(EW:XK)(N':List Str)(sc:Scope)(C:Addr)(s:Shared)(H:Hp)(fp:List Addr):Cx:=
 { X with N:=N',s₀:=s,H₀:=H,env:=jf sc (a0G X.env sc.names []) C X.env,outer:=X.stack,stack:=X.stack,ex:=fp,fn:=λ_=>kQ,pn:=[],xe:=ExC X EW C s H fp }
def PIfs(X:Cx)(ifs:List Expr)(t:TT):Prop:=
 ∀(pins:List (Addr×Obj))(s:Shared)(σ:St)(H:Hp)(Q:Bool->Hp->Prop),Inv X pins σ H s->t σ H Q ->
  wpAny (model X.prog X.w) X.A (forIn ifs kP λc r=>if r=kP then do let ok <- isTrue c X.env (eval c X.env);pure (ForInStep.yield ok) else pure (ForInStep.yield r)) (TP X pins σ Q) X.xe s
def tTT:TT:=λ_ H Q=>Q kP H
def b06:PIfs X [] tTT:=λ_ _ _ H _ I h=>wpAny_tests_nil (H,I,h)
def b07(h:PT X c t):PIfs X [c] t:=λa s σ H Q I q=>wpAny_tests_one (h a s σ H Q I q)
def LcB(J:It)(cap:List (Option Nat))(g:TG)(tt:TT)(te:TE)(σ:St)(Q:VK)(D:Addr)(H1:Hp):Prop:=
 ∃W:Nat->Nat->List V->Hp->Prop,(∃m,W 0 m [] (upd H1 D (.lst [])))/\∀i m ys H2,W i m ys H2 ->
  (J.stop i H2/\Q (.ref D) H2) \/
  (J.go i H2/\∃N:List V->Hp->Prop,(∀ys' H',N ys' H'->∃m',m'<m/\W (i+1) m' ys' H')/\∀x H',J.yld i H2 x H' ->
   g x (a2k cap σ) H' fun σ2 H3=>a1d (a2k cap σ) σ2/\tt σ2 H3 λb H4=>if b=kP then te σ2 H4 λy H5=>∃zs,H5 D=be (.lst zs)/\zs.length<gH/\N (zs++[y]) (upd H5 D (.lst (zs++[y]))) else N ys H4)
def tLC(wi:TI)(cap:List (Option Nat))(g:TG)(tt:TT)(te:TE):TE:=fun σ H Q=>wi σ H λJ H1=>∀D,H1 D=gV->LcB J cap g tt te σ Q D H1
structure CFree (X:Cx) (pins:List (Addr×Obj)) (H:Hp) (C:Addr):Prop where
 free:H C=gV
 loc:C≠X.env.locals
 old:X.s₀.heap.objs.size<=C
 cell:∀x c,X.env.cells.lookup x=be c->c≠C
 pin:∀p∈X.pn++pins,p.1≠C
section
variable{σ:St}{N':List Str}{sc:Scope}{cap:List (Option Nat)}{C:Addr}{fp:List Addr}{EW:XK}
def a8Y(I:Inv X pins σ H s)(ck:CapOk X.N X.env.scope sc N' cap):∀x∈sc.names,x.2=.free->∃c,X.env.cells.lookup x.1=be c:=λx a b=>
 I.ok.has x.1 (ck.fre x a b)
def a28(I:Inv X pins σ H s)(ck:CapOk X.N X.env.scope sc N' cap)(h:(a0G X.env sc.names []).lookup x=be c):X.env.cells.lookup x=be c:=
 a4l sc.names [] (a8Y I ck) (λy c h=>by simp at h) c h
def a8Z(env:Env)(x:Str):(jf sc (a0G X.env sc.names []) C env).kindOf x=(sc.names.lookup x).map λk=>if (k==gR.free&&env.scope.kind==.function&&env.kindOf x==be .cell)=kP then gR.cell else k:=
 a3x sc.names
def a09{l:List (Str×gR)}(h:l.lookup x=be k):(x,k,)∈l:=PySem.mem_of_lookup h
def b9c(I:Inv X pins σ H s)(ck:CapOk X.N X.env.scope sc N' cap)(hf:∀b∈fp,FpOk X pins H b)(hlt:∀b∈fp,b<s.heap.objs.size)(hC:C=s.heap.objs.size):(cxC X EW N' sc C s H fp).Ok:=by
 let g:∀{x:Str}{c:Addr},(a0G X.env sc.names []).lookup x=be c->X.env.cells.lookup x=be c:=λh=>a28 I ck h;show(I.ok.mod,ck.kind,I.ok.glob,I.ok.blt,by rw[hC];show aI _,λx y c j m=>I.ok.inj x y c (g j) (g m),λx n=>?_,λx c h _=>(by cases h),I.ok.hd,I.ok.frames,.inl rfl,λb a=>(?_,λx c h=>?_),I.bs,aU I.ok.bsz I.sz,λb o e a=>?_,λb a l=>?_,I.stack,I.stkFree)
 .let d:(sc.names.lookup x).map (λk=>if (k==gR.free&&X.env.scope.kind==.function&&X.env.kindOf x==be .cell)=kP then gR.cell else k)=be .cell \/
    (sc.names.lookup x).map (λk=>if (k==gR.free&&X.env.scope.kind==.function&&X.env.kindOf x==be .cell)=kP then gR.cell else k)=be .free:=by
   rw[<- a8Z X.env x];show n
  cases e:sc.names.lookup x with
  |none=>rw[e]at d;let z||z:=d<;>cases z
  |some k=>
   let i:=a09 e;let f:k=.free:=by
    rw[e]at d
    by_cases f:k=.free
    .grind
    .let a:(k==gR.free)=kQ:=↑f
     simp only[cR,a,be.injEq]at d;let z||z:=d
     .show absurd z (ck.nocell _ i)
     .simp_all
   subst f;show a3S sc.names [] i
 .change b≠C
  rw[hC];show aS (hlt b a)
 .show (hf b a).2.2.2.2.1 x c (g h)
 .let(_,_,_,z,_):=hf b a;let z||z:=z
  .show I.ok.noex b o e z
  .show absurd (bo (Heap.lt_size e) (aU I.ok.bsz z)) (cm _)
 .let z||z:=aL.mp (I.stkSub b l)
  .show (hf b a).2.1 z
  .show (hf b a).2.2.1 z
def b6z(I:Inv X pins σ H s)(ck:CapOk X.N X.env.scope sc N' cap)(hf:∀b∈fp,FpOk X pins H b)(hlt:∀b∈fp,b<s.heap.objs.size)(hC:C=s.heap.objs.size)
  (hn:hjv.Ns C kR) (hk:∀b o,s.heap.get? b=be o->hjv.get? b=be o):Inv (cxC X EW N' sc C s H fp) [] (a2k cap σ) H { s with heap:=hjv,toks:=t' }:=by
 show(b9c I ck hf hlt hC,rfl,I.bare,Un.kept hk,(kR,hn,λi x v M a S=>?_),λx c h=>?_,?_,λx c h=>I.freeC x c (a28 I ck h),λp D=>absurd (show p∈([]) from D) (by simp),I.hok.kept hk,?_)
 .let A:=M;unfold a2k at a;rw[aO]at a;cases ec:cap[i]? with
  |none=>rw[ec]at a;cases a
  |some o=>
   rw[ec]at a;cases o with
   |none=>simp at a
   |some j=>
    let d:(σ[j]?).join=be v:=by simp_all
    let l:σ[j]?=be (be v):=by
     cases q:σ[j]? with
     |none=>rw[q]at d;cases d
     |some w=>rw[q]at d;rw[show w=be v from d]
    let(J,n):=ck.cap i x j A ec;let f:=ck.fre _ (a09 n) rfl;let(R,_,L):=I.loc;let(u,Q,B):=L j x v J l (.inr f);show(u,Q,.inr (?_,?_))
    .change (jf sc _ C X.env).kindOf x=be .cell\/(jf sc _ C X.env).kindOf x=be .free
     rw[a8Z,n];simp only[cR,beq_self_eq_true,bZ]
     by_cases hc:(X.env.scope.kind==ScopeKind.function&&X.env.kindOf x==be gR.cell)=kP
     .simp_all
     .rw[if_neg hc];show .inr rfl
    .let(E,g):=a3S sc.names [] (a09 n);let G:=a28 I ck g;let(k,_)||(_,c,ec',z):=B
     .let F:X.env.scope.names.lookup x=be .local:=k;let e:=f;rw[F]at e;let q||q:=e<;>cases q
     .rw[G]at ec';cases ec';let(y,r,t):=z;show(E,g,y,hk _ _ r,t)
 .let(v,y,r,t):=I.cell x c (a28 I ck h);show(v,y,hk _ _ r,t)
 .change H C=gV
  rw[hC];show I.hok.fresh (aI _)
 .change (a2k cap σ).length=N'.length
  unfold a2k;rw[aH];show ck.len
def b3S(I:Inv X pins σ H s)(hf:∀b∈fp,FpOk X pins H b)(J:Inv (cxC X EW N' sc C s H fp) pins' σ' H' s'):Inv X pins σ H' s':=
 I.call' J.os J.base J.hok J.bare λb a=>((hf b a).2.2.2.1,(hf b a).2.1,(hf b a).2.2.2.2.1,(hf b a).2.2.2.2.2)
def b08(I:Inv X pins σ H s)(hC:C=s.heap.objs.size)(J:Inv (cxC X EW N' sc C s H fp) pins' σ' H' s'):CFree X pins H' C:=by
 show(J.free,by rw[hC];show bS I.lt,by rw[hC];show I.sz,λx c e z=>?_,λp a z=>(absurd (Heap.lt_size (I.pin p a).1) (by simp_all)))
 .let(v,q):=I.cell x c e;show absurd q.lt (by simp_all)
def CFree.after(F:CFree X pins H C)(I:Inv X pins σ H s)(k:∀b o,b≠C->s.heap.get? b=be o->h'.get? b=be o):Inv X pins σ H { s with heap:=h',toks:=t' }:=
 I.turned k F.free F.loc (.inr F.old) F.cell F.pin
end
section
variable{elt tg iter:Expr}{ifs:List Expr}{sc:Scope}{wi:TI}{g:TG}{tt:TT}{te:TE}{N':List Str}{cap:List (Option Nat)}{EW:XK}
def a80(hc:X.calm=kP)(hE:a4m X EW sc)(ck:CapOk X.N X.env.scope sc N' cap)(hi:PI X tg iter wi)
    (hg:∀C s H fp,PG (cxC X EW N' sc C s H fp) tg g) (ht:∀C s H fp,PIfs (cxC X EW N' sc C s H fp) ifs tt) (he:∀C s H fp,PE (cxC X EW N' sc C s H fp) elt te)
    (hs:∀x,iH iter X.env x=pure x) {Fin:Value->Shared->Prop}
 (I:Inv X pins σ H s) (h:tLC wi cap g tt te σ H Q)
    (fin:∀D s' C m H',Inv X pins σ H' s'->Q (.ref D) H'->s'.heap.Ns C m->CFree X pins H' C->kj (model X.prog X.w) X.A X.xe use Fin (.ref D) C (.ok .next) s') :
    wpAny (model X.prog X.w) X.A (comprehension (.ListComp elt [(tg,iter,ifs,0)] sc pos) sc X.env pos' (newList []) kQ (eval iter X.env) use) Fin X.xe s:=by
  show wpAny_comprehension_free rfl hs (a4k (a8Y I ck)) ck.kind ck.nms ?_;show thn (hi pins s σ H _ I h) λv s1 h1=>thn h1 λitv j h2=>?_;let(it,f,tn,J,H2,e,I2,T,st2,f2,h2):=h2;subst e;let hD:=I2.hok.fresh (aI _);let(W,(m0,w0),turn):=h2 j.heap.objs.size hD;show iI ?_;let t:=I2.lnew (t':=j.toks) .nil (bg _);generalize hs3:({ j with heap:=j.heap.push { cls:=.type "list",data:=.seq ([]:List Value).toArray } }:Shared)=s3 at t;generalize hH3:upd H2 j.heap.objs.size (.lst [])=H3 at t w0;let ac:∀b∈f,b<j.heap.objs.size:=λb a=>by
    let(o,e,_):=T.obj _ _ st2 b a;show Heap.lt_size e
  let sz3:s3.heap.objs.size=j.heap.objs.size+1:=by rw[<- hs3];show Heap.size_push _ _
  let Y:∀b∈f,b<s3.heap.objs.size:=λb a=>by rw[sz3];show cS (ac b a)
  let B:∀b∈f,FpOk X pins H3 b:=λb a=>by
    show(?_,(f2 b a).2);rw[<- hH3,a0d (aS (ac b a))];show (f2 b a).1
  let st3:tn 0 s3.heap:=T.keep _ _ _ st2 λb _ o e=>by rw[<- hs3];show Heap.get?_push_of_some _ e
  show wpAny_newFunctionEnv ck.nocell (by ext y hy;simp at hy) (λhjv hjj hjq=>?_) ck.kind;let hk:=λb o e=>hjq.extBut b o (aS (Heap.lt_size e)) (Heap.get?_push_of_some _ e);let I4:=b6z (EW:=EW) (t':=s3.toks+([]:List (Str×Value)).length) t ck B Y rfl hjj hk;generalize hs4:({ s3 with heap:=hjv,toks:=s3.toks+([]:List (Str×Value)).length }:Shared)=s4 at I4 ⊢;let st4:tn 0 s4.heap:=T.keep _ _ _ st3 λb _ o e=>by rw[<- hs4];show hk b o e
  let G:∀{k:Hp}{l:List (Addr×Obj)},(∀p∈l,p.1∉f)->(∀b∈f,k b=gV)->∀b∈f,FpOk (cxC X EW N' sc s3.heap.objs.size s3 H3 f) l k b:=λ{k l} E hn b a=>
    (hn b a,aS (Y b a),λz=>by
      let z||z:=aL.mp (t.stkSub b z)
      . show (B b a).2.1 z
      . show (B b a).2.2.1 z,.inl a,λx c e=>(B b a).2.2.2.2.1 x c (a28 t ck e),λp hp' z=>E p hp' (by rw[z];show a))
  let hx:=hE pins σ H3 s3 s3.heap.objs.size f use Fin (.ref j.heap.objs.size) t B rfl;let ab:ig (model X.prog X.w) X.A (.compLoop (.ListComp elt [(tg,iter,ifs,0)] sc pos) 0 (.ref it) (.ref j.heap.objs.size) (jf sc (a0G X.env sc.names []) s3.heap.objs.size X.env))
      (kj (model X.prog X.w) X.A X.xe use Fin (.ref j.heap.objs.size) s3.heap.objs.size) s4:=by
    show a1M (λn s'=>∃i ys σ' k,Inv (cxC X EW N' sc s3.heap.objs.size s3 H3 f) [] σ' k s'/\a1d (a2k cap σ) σ'/\tn i s'.heap/\(∀b∈f,k b=gV)/\W i n ys k) ?_ m0
      (0,[],a2k cap σ,H3,I4,a1t _,st4,λb a=>(B b a).1,w0)
    ext n s5 ⟨i,ys,σ5,H5,I5,k5,st5,fr5,w5⟩;let kk:=a2l k5;let I5:=I5.weak kk.1 kk.2;let(stop,q)||(go,N,hN,step):=turn i n ys H5 w5
    . show thn (T.done (cxC X EW N' sc s3.heap.objs.size s3 H3 f) rfl rfl rfl hc i [] s5 _ H5 _ I5 (G (λp E=>by cases E) fr5) st5 stop) λr s6 Y=>Y.elim λhr I6=>?_
      subst hr;let(m6,n6,_):=I6.loc;show fin _ s6 _ m6 H5 (b3S t B I6) q n6 (b08 t rfl I6)
    . show thn (T.item (cxC X EW N' sc s3.heap.objs.size s3 H3 f) rfl rfl rfl hc i [] s5 _ H5 _ I5 (G (λp E=>by cases E) fr5) st5 go) λr s6 Y=>Y.elim λu Y=>Y.elim λhr h6=>?_
      subst hr;show thn h6 λ_ s7 (x,H7,I7,r7,y7,aa,fr7)=>?_;let I7':=I7.pinned (G (λp E=>by cases E) fr7) (T.obj _ _ aa);let M:∀{σ9:St}{F:Hp}{S:Shared}{L:List V},Inv (cxC X EW N' sc s3.heap.objs.size s3 H3 f) ([]++a6F f s7.heap) σ9 F S->a1d (a2k cap σ) σ9->N L F ->
          ∃m,m<n/\∃i ys σ' k,Inv (cxC X EW N' sc s3.heap.objs.size s3 H3 f) [] σ' k S/\a1d (a2k cap σ) σ'/\tn i S.heap/\(∀b∈f,k b=gV)/\W i m ys k:=λ{σ9 F S L} U k9 n9=>by
        let(m',hm,w9):=hN L F n9;show(m',hm,i+1,L,σ9,F,U.unpinned,k9,T.keep _ _ _ aa λb a o e=>(U.pin (b,o,) (bz _ (bz _ (a1A a e)))).1,λb a=>?_,w9);let(o,e,d):=T.obj _ _ aa b a;show (U.pin (b,o,) (bz _ (bz _ (a1A a e)))).2.1
      show gX (hg _ _ _ _ _ s7 _ H7 x u _ I7' r7 (step x H7 y7)) (λ_ s8 (σ8,H8,I8,k8,q8)=>?_) hx;show gX (ht _ _ _ _ _ s8 σ8 H8 _ I8 q8) (λb S Y=>Y.elim λF Y=>Y.elim λU q9=>?_) hx;cases b with
      |false=>
        show M U k8 q9
      |true=>
        rw[if_pos rfl]at q9 ⊢;show gX (he _ _ _ _ _ S σ8 F _ U q9) (λy s10 (vy,H10,I10,r10,zs,hacc,hsz,q10)=>?_) hx;show gX (a42 (X:=cxC X EW N' sc s3.heap.objs.size s3 H3 f) _ s10 σ8 H10 (.ref j.heap.objs.size) [vy] (.ref j.heap.objs.size) [y] (λ_ k=>N (zs++[vy]) k) I10 rfl (.cons r10 .nil) (_,zs,vy,rfl,rfl,hacc,hsz,q10)) (λ_ s11 (_,H11,I11,_,q11)=>?_) hx;show M I11 k8 q11
  show codeAny_compStart_list ab (T.self _ 0 _ _ _ st4 ab)
def b9d(hc:X.calm=kP)(hE:a4m X EW sc)(hNN:X.N=Nj)(hso:X.env.scope=so)(ck:capB Nj so sc N' cap=kP)(hi:PI X tg iter wi)
  (hg:∀C s H fp,PG (cxC X EW N' sc C s H fp) tg g) (ht:∀C s H fp,PIfs (cxC X EW N' sc C s H fp) ifs tt) (he:∀C s H fp,PE (cxC X EW N' sc C s H fp) elt te)
  (hs:∀x,iH iter X.env x=pure x:=by ext _;rfl):PE X (.ListComp elt [(tg,iter,ifs,0)] sc pos) (tLC wi cap g tt te):=by
 ext f s σ H Q I h;subst hNN hso;show a80 hc hE (a8W ck) hi hg ht he hs I h λD d C m i c q k F=>(m,k,λl a=>(.ref D,i,F.after c (λb o j e=>a.extBut b o j e),rfl,q))
def b09(hN:X.N.Nodup)(hx:X.N[i]?=be x)(hl:X.env.scope.names.lookup x=be .local)(hc:X.calm=kP)(hE:a4m X EW sc)(hNN:X.N=Nj)(hso:X.env.scope=so)(ck:capB Nj so sc N' cap=kP)(hi:PI X tg iter wi)
  (hg:∀C s H fp,PG (cxC X EW N' sc C s H fp) tg g) (ht:∀C s H fp,PIfs (cxC X EW N' sc C s H fp) ifs tt) (he:∀C s H fp,PE (cxC X EW N' sc C s H fp) elt te)
  (hsw:ik (.ListComp elt [(tg,iter,ifs,0)] sc pos) (be (.Name x pos')) spos.line X.env=pure kP)
  (hs:∀x,iH iter X.env x=pure x):PS X (.Assign [.Name x pos'] (.ListComp elt [(tg,iter,ifs,0)] sc pos) spos) (tAsg (tLC wi cap g tt te) (a8r i)):=by
 subst hNN hso;ext f s σ H D I h;rw[exec_Assign_Name_used _ _ _ _ hsw];show gE (j5 (gE (gE (gX (a80 hc hE (a8W ck) hi hg ht he hs I h λd c C m w t q E F=>?_) (λ_ c u=>gF (gF u)) λ_ _ e=>e))));show wpAny_assign_Name (a4V t hN hx (.inl hl) (v:=.ref d) rfl (λj n y=>?_) (.inr hl));let(a,p,r):=y;let l:C≠a:=by
  let z||z:=r
  .rw[z];show F.loc
  .show Ne.symm (F.cell _ _ z)
 show(m,E.sameBut p l,λG k=>(_,w,F.after n (λb o B e=>k.extBut b o B e),q))
end
mutual
def DV(H:Hp):PyData->V->Prop
 |.none,x=>x=.non
 |.bool b,x=>x=.bl b
 |.int i,x=>x=.int i
 |.str s,x=>x=.str s
 |.list ds,x=>∃a vs,x=.ref a/\H a=be (.lst vs)/\DVs H ds vs
 |.tuple ds,x=>∃a vs,x=.ref a/\H a=be (.tup vs)/\DVs H ds vs
 |.dict _,_=>False
def DVs(H:Hp):List PyData->List V->Prop
 |[],vs=>vs=[]
 |d::ds,vs=>∃v r,vs=v::r/\DV H d v/\DVs H ds r
end
mutual
theorem DV.reads{P:gM}{w:World}{H:Hp}{h:Heap}(ok:HOk P w H h):∀{d:PyData}{x:V}{u:Value},DV H d x->RelV x u->∃as,Reads h u d as
 |.none,x,u,q,r=>by
  unfold DV at q;subst q;cases (show u=Value.none from r);show(_,.none)
 |.bool b,x,u,q,r=>by
  unfold DV at q;subst q;cases (show u=Value.bool b from r);show(_,.bool b)
 |.int i,x,u,q,r=>by
  unfold DV at q;subst q;let(t,e):=(show ∃t,u=Value.int i t from r);subst e;show(_,.int i t)
 |.str s,x,u,q,r=>by
  unfold DV at q;subst q;let(t,e):=(show ∃t,u=Value.str s t from r);subst e;show(_,.str s t)
 |.list ds,x,u,q,r=>by
  unfold DV at q;let(a,vs,e,ha,q):=q;subst e;cases (show u=Value.ref a from r);let(_,its,n,rv,e):=ok a _ ha;let(as,rd):=DVs.reads ok q rv;show(_,.list e rfl rfl ↑rd)
 |.tuple ds,x,u,q,r=>by
  unfold DV at q;let(a,vs,e,ha,q):=q;subst e;cases (show u=Value.ref a from r);let(_,its,rv,o,e,c,n,d):=ok a _ ha;let(as,rd):=DVs.reads ok q rv;show(_,.tuple e c d ↑rd)
 |.dict _,x,u,q,r=>by unfold DV at q;show q.elim
theorem DVs.reads{P:gM}{w:World}{H:Hp}{h:Heap}(ok:HOk P w H h):∀{ds:List PyData}{vs:List V}{us:List Value},DVs H ds vs->Vals vs us->∃as,ReadsAll h us ds as
 |[],vs,us,q,r=>by
  unfold DVs at q;subst q;cases r;show(_,.nil)
 |d::ds,vs,us,q,r=>by
  unfold DVs at q;let(v,rr,e,q1,q2):=q;subst e;cases r with
  |cons r1 r2=>
   let(as,h1):=DV.reads ok q1 r1;let(bs,h2):=DVs.reads ok q2 r2;show(_,.cons h1 h2)
end
def rEqD:R2:=λx y H Q=>∃d e,DV H d x/\DV H e y/\SeqAt.shaped d=kP/\SeqAt.shaped e=kP/\Q (.bl (PyData.eqv d e)) H
def rNeD:R2:=λx y H Q=>∃d e,DV H d x/\DV H e y/\SeqAt.shaped d=kP/\SeqAt.shaped e=kP/\Q (.bl (!PyData.eqv d e)) H
def b6A(hu:X.A.units+66<cLine):OpR X (gO .Eq) rEqD:=by
 ext i s σ H x y v u Q I g k h;let(d,e,b,f,l,a,q):=h;let(m,j):=b.reads I.hok g;let(n,c):=f.reads I.hok k;show eq_dataH j c l a (by lia) (.bl _,H,I,rfl,q)
def b6B(hu:X.A.units+66<cLine):OpR X (gO .NotEq) rNeD:=by
 ext b s σ H x y v u Q I j c h;let(d,e,a,g,l,i,q):=h;let(n,f):=a.reads I.hok j;let(m,k):=g.reads I.hok c;show ne_dataH f k l i (by lia) (.bl _,H,I,rfl,q)
def rInD(neg:Bool):R2:=λx y H Q=>∃d p ds vs,DV H d x/\y=.ref p/\(H p=be (.lst vs)\/H p=be (.tup vs))/\DVs H ds vs/\SeqAt.shaped d=kP/\SeqAt.shaped (.list ds)=kP /\
 Q (.bl (if neg then !(ds.any λy=>PyData.eqv y d) else ds.any λy=>PyData.eqv y d)) H
def b6C(hu:X.A.units+66<cLine):OpR X (gO .In) (rInD kQ):=by
 ext r s σ H x y v u Q I z m h;let(d,p,b,j,w,e,a,i,k,t,q):=h;subst e;let(C,f):=w.reads I.hok z;let n:PyData.canLayAll0 b=kP:=by let:=SeqAt.canLay_of_shaped t;simpa[PyData.canLay0]using this
 let g:=SeqAt.canLay_of_shaped k;let o:=SeqAt.depth_of_shaped k;let l:X.A.units+1+min (PyData.depthAll b) d.depth<cLine:=by let:=fq (PyData.depthAll b) d.depth;lia
 let a||a:=a
 .let(B,c):=(show DV H (.list b) _ by unfold DV;show(p,j,rfl,a,i)).reads I.hok m;show SeqAt.in_list_reads c f n g l (.bl _,H,I,rfl,q)
 .let(B,c):=(show DV H (.tuple b) _ by unfold DV;show(p,j,rfl,a,i)).reads I.hok m;show SeqAt.in_tuple_reads c f n g l (.bl _,H,I,rfl,q)
def b6D(_ j:Int):Prop:=0<j/\j<2 ^ 64
def b1a:OpR X (gY .FloorDiv) (rI b6D λi j=>.int (i / j)):=opI λi j _ _ _ _ _ a q=>by
 let c:(0:Int)<j:=a.1;let d:j<2 ^ 64:=a.2;show floordiv_int (by lia) ?_ (.inl (PyProof.noPylong_of_log2 ?_))
 .rw[Int.fdiv_eq_ediv_of_nonneg i (by lia)];show q
 .let b:j.natAbs<2 ^ 64:=by cbv
  let e:=(Nat.log2_lt (by lia)).mpr b
  lia
def rIsT(K:Fg):List V->Hp->VK->Prop:=λxs H Q=>∃x T t b,xs=[x,.ty T]/\TyOf K H x t/\PySem.W.kitOne K t (.type T)=be b/\Q (.bl b) H
def b1b:CallR X (.builtin "isinstance") (rIsT X.K):=by
 ext c s σ H j k Q I r h;let(x,T,t,b,rfl,i,e,q):=h;let(u,g,rfl,f,a):=a8C r;cases (a);show a8I I f i e λd=>(.bl b,H,I.tok d,rfl,q)
abbrev veM:List Value:=[.type "ValueError",.type "Exception",.type "BaseException",.type "object"]
set_option tactic.hygienic true in
def b6E{K:Fg}(q:PySem.W.excIn K C veM "ValueError.__new__"=kP):∃bm N nm qn bs hd sn sub ab col dd k0 k1 k2 k3 k5,K.lookup C=be (excClassObj nm qn C N bs bm hd sn sub ab col dd k0 k1 k2 k3 k5 "ValueError.__new__") /\
  PySem.W.nsOkIn K N=kP/\PySem.W.nsIn K N "__init__"=be gV/\PySem.W.tailIn K veM bm=kP:=by
 unfold PySem.W.excIn at q
 split at q
 .rename_i dd cd sl ho
  split at q
  .rename_i C2 bm k0 k1 k2 k3 nw k5 hm hs
   simp at q;let(((((p,k),e),g),b),d):=q;subst p k;let(r,h,t,m,o,i,n,a,j,c,s):=cd;subst hm e;let f:sl=#[k0,k1,k2,k3,be (.builtin "ValueError.__new__"),k5]:=by
    cases sl with
    |mk l=>dsimp only at hs;rw[hs]
   subst f;show(bm,m,r,o,h,i,n,a,j,c,dd,k0,k1,k2,k3,k5,ho,b,d,g)
  .cases q
 .cases q
section
variable{E:XK}
def b1c(O:Outs X E)(hc:X.calm=kP)(hg:Gl X x)(hm:X.mg x=be (.ref C))(hq:PySem.W.excIn X.K C veM "ValueError.__new__"=kP)(he:PE X e0 te)
  (hs:gJ [e0] X.env=(kQ,eval e0 X.env,)::gJ [] X.env:=by rfl) (hp:(backTo cpos (gJ [] X.env)).any (·.1)=kQ:=by rfl) (hd:(x==("__debug__":Str))=kQ:=by decide) :
  PS X (.Raise (be (.Call (.Name x np) [e0] [] cpos)) gV pos) (λ_ σ H=>te σ H λ_ H1=>since X.H₀ E (.ref C) gV H1):=by
 ext d s σ H D I h;let(bm,N,nm,qn,bs,k,sn,sub,ab,col,dd,k0,k1,k2,k3,k5,hC,u,z6,z4):=b6E hq;let B:=I.mod.kin;let hN:X.base.Ns N (X.base.nsMap N):=.of_isNs (PySem.W.isNs_of_in B u);let T:=PySem.W.tail_of_in B z4;show wpAny_Raise_call_subT (nm:=nm) (q:=qn) (N:=N) (bs:=bs) (hdct:=k) (sn:=sn) (sub:=sub) (ab:=ab) (col:=col) (dd:=dd) (k0:=k0) (k1:=k1) (k2:=k2) (k3:=k3) (k5:=k5) PySem.F.excBase_ValueError (T.hasType (by decide)) (I.ok.hd hc)
  (by rw[hs];change (kQ||(backTo cpos _).any (·.1))=kQ;rw[hp];rfl) (PySem.W.nsMap_none_of_in B u z6) (a2j I hg hm (rfl,?_) hd)
 rw[hs];show Calls.evalArgs_plain (Calls.spliced_cons (thn (he d s σ H _ I h) λv s2 (y,H2,a,_,q2)=>Calls.spliced_nil (rfl,bL (a0e (fw rfl)),a.bk _ _ (B _ _ hC),hN.keeps a.bk,T.keeps a.bk,λh' e hm=>b04 O a hm q2)))
end
section
open PySem.Calls PySem.W
structure ExK (K:Frag) (D:Addr):Prop where
 cls:(clsIn K D).isSome=kP
 ga:findIn K (.ref D) "__getattribute__"=be (be (.builtin "BaseException.__getattribute__"))
 hk:findIn K (.ref D) "__getattr__"=be gV
 ha:findIn K (.ref D) "__class__"=be (be (.builtin "object.__class__"))
 hn:specialIn K (.builtin "object.__class__") "__get__"=be (be (.builtin "getset_descriptor.__get__"))
 tk:takesIn K (.builtin "object.__class__")=be kP
 hm:mroIn K D (.type "object")=be kP
 hb:mroIn K D (.type "BaseException")=be kP
section
variable{K:Frag}{D:Addr}
def ExK.find(k:ExK K D):findObj K D gV "__class__"=be (.bind (.builtin "getset_descriptor.__get__") (.builtin "object.__class__")):=by
 let(b,a):=fm.mp k.cls;unfold findObj;rw[a,fz,k.ha,fz];simp[k.hn,k.tk]
end
end
section
variable{σ σ':St}
def Inv.lk(I:Inv X pins σ H s)(k:Lk (frs X.stack) ex s.heap h')(hx:∀b,ex b->X.s₀.heap.get? b=gV/\H b=gV/\(∀x c,X.env.cells.lookup x=be c->c≠b)/\∀p∈X.pn++pins,p.1≠b)
  (hl:∃m,h'.Ns X.env.locals m/\∀(i:Nat)(x:Str)(v:V),X.N[i]?=be x->σ'[i]?=be (be v)->Vis X.env.scope x->∃u,RelV v u/\Look X.env h' m x u) (hn:σ'.length=σ.length):Inv X pins σ' H { s with heap:=h',toks:=t' }:=by
 show(I.ok,I.os,I.bare,I.base.lk k (λb a=>?_) (λb a=>.inr (hx b a).1),hl,λx c e=>?_,I.free,I.freeC,λp g=>?_,I.hok.lk k I.stkFree λb a=>(hx b a).2.1,hn.trans I.len)
 .let z||z:=aL.mp (I.stkSub b a)
  .rw[z];show .inr (Heap.get?_none_of_le I.ok.above)
  .simp_all
 .let(v,o,l,n):=I.cell x c e;let(r,d):=k.slot c o l λz=>(hx c z).2.2.1 x c e rfl;show(v,_,d,n)
 .let(d,q,f,h,j):=I.pin p g;show(k.keep _ _ d (λz=>?_) (λz=>(hx _ z).2.2.2 p g rfl),q,f,h,j);let z||z:=aL.mp (I.stkSub _ z)
  .show f z
  .show h z
def Inv.lk0(I:Inv X pins σ H s)(k:Lk (frs X.stack) ex s.heap h')(hx:∀b,ex b->X.s₀.heap.get? b=gV/\H b=gV/\b≠X.env.locals/\(∀x c,X.env.cells.lookup x=be c->c≠b)/\∀p∈X.pn++pins,p.1≠b):Inv X pins σ H { s with heap:=h' }:=by
 show I.lk k (λb a=>((hx b a).1,(hx b a).2.1,(hx b a).2.2.2)) ?_ rfl;let(m,(o,e,q,B,w,y,h),l):=I.loc;let(j,r):=k.slot _ o B λz=>(hx _ z).2.2.1 rfl;show(m,(_,e,q,r,w,y,h),λi x v d f A=>?_);let(u,t,n):=l i x v d f A;show(u,t,?_);let z||(z1,c,z2,oc,z3,z4):=n
 .show .inl z
 .let(j,g):=k.slot c oc z3 λz=>(hx c z).2.2.2.1 x c z2 rfl;show .inr (z1,c,z2,_,g,z4)
abbrev Cx.hnd(X:Cx)(e:Addr)(oe:Obj):Cx:={ X with A:=X.A.mark (be (.ref e)),calm:=kQ,pn:=(e,oe,)::X.pn,xe:=λ_ _=>False }
noncomputable def Inv.hnd(I:Inv X pins σ H s)(h1:s.heap.get? e=be oe)(h2:H e=gV)(h3:e≠X.env.locals)(h4:e∉X.fs)(h5:∀v,oe.data≠.cell v):Inv (X.hnd e oe) pins σ H s:=
 ((I.ok.mod,I.ok.kind,I.ok.glob,I.ok.blt,I.ok.above,I.ok.inj,I.ok.has,I.ok.cab,(λz=>nomatch z),I.ok.frames,I.ok.stk,I.ok.exf,I.ok.bs,I.ok.bsz,I.ok.noex,I.ok.exfs,I.ok.funs,I.ok.frf),I.os,I.bare,I.base,I.loc,I.cell,I.free,I.freeC,(λp a=>by
  let rfl||a:=aL.mp (a)
  .show(h1,h2,h3,h4,h5)
  .show I.pin p a),I.hok,I.len)
def Inv.unhnd(ok:X.Ok)(I:Inv (X.hnd e oe) pins σ H s):Inv X pins σ H s:=(ok,I.os,I.bare,I.base,I.loc,I.cell,I.free,I.freeC,λp a=>I.pin p (bR _ a),I.hok,I.len)
def PX(X:Cx)(e:Expr)(t:XK->TE):Prop:=∀(pins:List (Addr×Obj))(s:Shared)(σ:St)(H:Hp)(Q:VK)(E:XK),Inv X pins σ H s->t E σ H Q ->
 wpAny (model X.prog X.w) X.A (eval e X.env) (EP X pins σ Q) (λev s'=>∃H1 s1,Inv X pins σ H1 s1/\CXx X.prog X.w X.stack H1 s1 E ev s') s
end
section
variable{k:Nat}{f:Addr}{fd:hZ}{ps:List Str}{sp:Sp}{x:Str}{p:Pos}{e:Expr}{t:TA}
def b3T(F:FnOk X.prog X.w X.K X.mg X.base (CXx X.prog X.w) k f fd ps sp)(hr:Room k X.A)(hg:Gl X x)(hm:X.mg x=be (.ref f))(hk:PySem.W.keepIn X.K (.ref f)=kP)(hb:Binds X.K fd ps [])
  (ha:PA X.nox (e::es) t) (hdb:(x==("__debug__":Str))=kQ:=by decide) (he:gJ (e::es) X.env=(kQ,eval e X.env,)::gJ es X.env:=by rfl) (hpl:(backTo pos (gJ es X.env)).any (·.1)=kQ:=by rfl) :
  PX X (.Call (.Name x p) (e::es) [] pos) (λE=>b6n sp [] E t):=by
 ext d s σ H Q E I h;show ja (a2j I hg hm ?_ hdb);show PySem.W.callWith_K I.ok.mod.kin hk (gX (ha pos d s σ H _ (I.wish _) h) (λc i (j,g,a,r,q)=>(a.kIn,?_)) λ_ _ z=>aN z) he hpl;let a:=a.unwish;let q:sp _ g Q E:=q;rw[bh]at q;let l:c.length=ps.length:=by rw[<- r.length];show F.len _ _ _ _ q
 show i9 (iz (F.run X.A X.stack i g (c,[]) c j Q E hr a.env0 ↑(hb i c a.kIn (by simp_all)) r q) λr m b=>?_);cases r with
 |error e=>show(g,i,a,b)
 |ok fl=>
  cases fl with
  |ret u=>show a.after b
  |next=>show aN b
  |brk=>show aN b
  |cont=>show aN b
end
abbrev a2M(c:Addr)(q:Str):HO:=.ext λh=>h.CodeRec (.ref c) q
def TabO(H:Hp)(p:Pos)(q:Str)(ps:Array Value):Prop:=ps=#[]\/∃c oc,ps=#[rawInt p.line,rawInt p.col,.ref c]/\H c=be (.frz oc (a2M c q))
def Tab(H:Hp)(P:Addr)(p:Pos)(q:Str):Prop:=∃ps,H P=be (.tbl ps)/\TabO H p q ps
def Tab.stay(f:∀b o c,H b=be (.frz o (a2M c q))->H' b=be (.frz o (a2M c q)))(e:H' kR=H kR)(h:Tab H kR p q):Tab H' kR p q:=by
 let(a,g,h):=h;show(a,e.trans g,?_);let h||(c,oc,h,k):=h
 .show .inl h
 .show .inr (c,oc,h,f _ _ _ k)
inductive Z where
 |non |bl (b:Bool) |int (i:Int) |str (x:Str) |ref (a:Addr) |ty (n:String) |scr (a:Addr) (ns:List Int)
 |tup (ws:List Z)
mutual
def eqZ:Z->Z->Bool
 |.non,.non=>kP
 |.bl a,.bl b=>a==b
 |.int a,.int b=>decide (a=b)
 |.str a,.str b=>decide (a=b)
 |.ref a,.ref b=>decide (a=b)
 |.ty a,.ty b=>decide (a=b)
 |.scr a ns,.scr b ms=>decide (a=b)&&decide (ns=ms)
 |.tup a,.tup b=>eqZs a b
 |_,_=>kQ
def eqZs:List Z->List Z->Bool
 |[],[]=>kP
 |a::as,b::bs=>eqZ a b&&eqZs as bs
 |_,_=>kQ
end
def a3z{p:Prop}(h:kQ=kP):p:=absurd h bB
mutual
theorem a5Y:∀x y:Z,eqZ x y=kP↔x=y
 |.tup a,y=>by
  cases y with
  |tup b=>show(λh=>congrArg _ ((a2W a b).mp h),λh=>(a2W a b).mpr (by cases h;rfl))
  |_=>show(λh=>a3z h,λh=>by cases h)
 |.non,y=>by
  cases y with
  |non=>show(λ_=>rfl,λ_=>rfl)
  |_=>show(λh=>a3z h,λh=>by cases h)
 |.bl a,y=>by
  cases y with
  |bl b=>show(λh=>congrArg _ (eq_of_beq h),λh=>by cases h;show beq_self_eq_true a)
  |_=>show(λh=>a3z h,λh=>by cases h)
 |.int a,y=>by
  cases y with
  |int b=>show(λh=>congrArg _ (of_decide_eq_true h),λh=>by cases h;show decide_eq_true rfl)
  |_=>show(λh=>a3z h,λh=>by cases h)
 |.str a,y=>by
  cases y with
  |str b=>show(λh=>congrArg _ (of_decide_eq_true h),λh=>by cases h;show decide_eq_true rfl)
  |_=>show(λh=>a3z h,λh=>by cases h)
 |.ref a,y=>by
  cases y with
  |ref b=>show(λh=>congrArg _ (of_decide_eq_true h),λh=>by cases h;show decide_eq_true rfl)
  |_=>show(λh=>a3z h,λh=>by cases h)
 |.ty a,y=>by
  cases y with
  |ty b=>show(λh=>congrArg _ (of_decide_eq_true h),λh=>by cases h;show decide_eq_true rfl)
  |_=>show(λh=>a3z h,λh=>by cases h)
 |.scr a ns,y=>by
  cases y with
  |scr b ms=>show(λh=>by
    let h:=dO.mp h;rw[of_decide_eq_true h.1,of_decide_eq_true h.2],λh=>by cases h;show dO.mpr (decide_eq_true rfl,decide_eq_true rfl))
  |_=>show(λh=>a3z h,λh=>by cases h)
theorem a2W:∀x y:List Z,eqZs x y=kP↔x=y
 |[],y=>by
  cases y with
  |nil=>show(λ_=>rfl,λ_=>rfl)
  |cons b bs=>show(λh=>a3z h,λh=>by cases h)
 |a::as,y=>by
  cases y with
  |nil=>show(λh=>a3z h,λh=>by cases h)
  |cons b bs=>show(λh=>by
    let h:=dO.mp h;rw[(a5Y a b).mp h.1,(a2W as bs).mp h.2],λh=>by cases h;show dO.mpr ((a5Y a a).mpr rfl,(a2W as as).mpr rfl))
end
instance:DecidableEq Z:=λx y=>decidable_of_iff _ (a5Y x y)
section
variable{K:Fg}{H1 H2:Hp}{a p:Addr}{xs:List V}
def Fz(K:Fg)(H:Hp)(a:Addr)(xs:List V):Prop:=
 (∃o,H a=be (.frz o (.lst xs)))\/∃(o:Obj)(its:Array Value)(n:Nat),K.lookup a=be o/\o.cls=.type "list"/\o.dict=gV/\o.data=.seq its n/\its.size<=gH/\Vals xs its.toList
def Fz.sq(h:Fz K H a xs):SqL K H a xs:=by
 let(o,h)||h:=h
 .show .inl (.inr (o,h))
 .show .inr h
def Fz.of(hO:Only H)(h:SqL K H a xs):Fz K H a xs:=by
 let(h||h)||h:=h
 .let z||(o,ys,z):=hO a
  .grind
  .simp_all
 .show .inl h
 .show .inr h
structure TW (K:Fg) (H H':Hp):Prop where
 tup:∀a xs,H a=be (.tup xs)->H' a=be (.tup xs)
 frz:∀a xs,Fz K H a xs->Fz K H' a xs
structure TK (K:Fg) (H H':Hp):Prop where
 tup:∀a xs,H a=be (.tup xs)->H' a=be (.tup xs)
 frz:∀a xs,Fz K H a xs->Fz K H' a xs
 frd:∀a o u,H a=be (.frz o u)->H' a=be (.frz o u)
def TK.refl(K:Fg)(H:Hp):TK K H H:=(λ_ _ h=>h,λ_ _ h=>h,λ_ _ _ h=>h)
def TK.trans(a:TK K H H1)(b:TK K H1 H2):TK K H H2:=(λc d h=>b.tup c d (a.tup c d h),λc d h=>b.frz c d (a.frz c d h),λc o u h=>b.frd c o u (a.frd c o u h))
noncomputable def TK.upd(h:∀xs,H p≠be (.tup xs))(h2:∀o u,H p≠be (.frz o u)):TK K H (L2.upd H p o):=by
 show(λc b e=>?_,λc b e=>?_,λc a u e=>by rw[a0d (by ext rfl;show h2 _ _ e)];show e)
 .rw[a0d (by ext rfl;show h _ e)];show e
 .let(a,e)||e:=e
  .show .inl (a,by rw[a0d (by ext rfl;show h2 _ _ e)];show e)
  .show .inr e
def TK.new(h:H p=gV):TK K H (L2.upd H p o):=.upd (λa e=>by rw[h]at e;cases e) (λo u e=>by rw[h]at e;cases e)
def TK.lst{o:HO}(h:H p=be (.lst xs)):TK K H (L2.upd H p o):=by simp_all[upd]
def TK.dK{o:HO}{kvs:List (Key×V)}(h:H p=be (.dK kvs)):TK K H (L2.upd H p o):=by simp_all[upd]
def TK.ins{o:HO}{C dx:Addr}{fs:List (Str×V)}(h:H p=be (.ins C dx fs)):TK K H (L2.upd H p o):=by simp_all[upd]
end
mutual
def Rep(K:Fg)(H:Hp):Z->V->Prop
 |.non,v=>v=.non
 |.bl b,v=>v=.bl b
 |.int i,v=>v=.int i
 |.str x,v=>v=.str x
 |.ref a,v=>v=.ref a
 |.ty n,v=>v=.ty n
 |.scr a ns,v=>v=.ref a/\Fz K H a (ns.map V.int)
 |.tup ws,v=>∃a vs,v=.ref a/\H a=be (.tup vs)/\Reps K H ws vs
def Reps(K:Fg)(H:Hp):List Z->List V->Prop
 |[],vs=>vs=[]
 |w::ws,vs=>∃v r,vs=v::r/\Rep K H w v/\Reps K H ws r
end
section
variable{K:Fg}
def a0x:Rep K H .non v=(v=.non):=by unfold Rep;rfl
def a0w:Rep K H (.bl b) v=(v=.bl b):=by unfold Rep;rfl
def a0k:Rep K H (.int i) v=(v=.int i):=by unfold Rep;rfl
def a0v:Rep K H (.str x) v=(v=.str x):=by unfold Rep;rfl
def a0q:Rep K H (.ref a) v=(v=.ref a):=by unfold Rep;rfl
def a81:Rep K H (.ty n) v=(v=.ty n):=by unfold Rep;rfl
def a2m:Rep K H (.scr a ns) v=(v=.ref a/\Fz K H a (ns.map V.int)):=by unfold Rep;rfl
def a1u:Rep K H (.tup ws) v=(∃a vs,v=.ref a/\H a=be (.tup vs)/\Reps K H ws vs):=by conv=>lhs;unfold Rep
def a0p:Reps K H [] vs=(vs=[]):=by unfold Reps;rfl
def a0T:Reps K H (kR::ws) vs=(∃v r,vs=v::r/\Rep K H kR v/\Reps K H ws r):=by conv=>lhs;unfold Reps
mutual
theorem Rep.monoW(t:TW K H H'):∀(w:Z)(v:V),Rep K H w v->Rep K H' w v
 |.tup ws,v,h=>by
  rw[a1u]at h ⊢;let(a,vs,e,h,r):=h;show(a,vs,e,t.tup _ _ h,Reps.monoW t ws vs r)
 |.scr a ns,v,h=>by
  rw[a2m]at h ⊢;show(h.1,t.frz _ _ h.2)
 |.non,v,h=>by rw[a0x]at h ⊢;show h
 |.bl _,v,h=>by rw[a0w]at h ⊢;show h
 |.int _,v,h=>by rw[a0k]at h ⊢;show h
 |.str _,v,h=>by rw[a0v]at h ⊢;show h
 |.ref _,v,h=>by rw[a0q]at h ⊢;show h
 |.ty _,v,h=>by rw[a81]at h ⊢;show h
theorem Reps.monoW(t:TW K H H'):∀(ws:List Z)(vs:List V),Reps K H ws vs->Reps K H' ws vs
 |[],vs,h=>by rw[a0p]at h ⊢;show h
 |w::ws,vs,h=>by
  rw[a0T]at h ⊢;let(v,r,e,h1,h2):=h;show(v,r,e,Rep.monoW t w v h1,Reps.monoW t ws r h2)
end
def Rep.mono(t:TK K H H')(w:Z)(v:V)(h:Rep K H w v):Rep K H' w v:=Rep.monoW (t.tup,t.frz) w v h
def Reps.mono(t:TK K H H')(ws:List Z)(vs:List V)(h:Reps K H ws vs):Reps K H' ws vs:=Reps.monoW (t.tup,t.frz) ws vs h
def Reps.cons{w:Z}{v:V}{ws:List Z}{vs:List V}(a:Rep K H w v)(b:Reps K H ws vs):Reps K H (w::ws) (v::vs):=by rw[a0T];show(v,vs,rfl,a,b)
def Reps.nil:Reps K H [] []:=by rw[a0p]
def Reps.length:∀{ws:List Z}{vs:List V},Reps K H ws vs->ws.length=vs.length:=by ext z0;induction z0 with
 |nil=>ext vs h;rw[a0p]at h;rw[h];rfl
 |cons w ws I0=>
  ext vs h;let(v,r,e,_,a):=h;rw[e,aV,aV,I0 a]
def Reps.get:∀{ws:List Z}{vs:List V}{i:Nat}{w:Z},Reps K H ws vs->ws[i]?=be w->∃v,vs[i]?=be v/\Rep K H w v:=by ext z0;induction z0 with
 |nil=>ext _ _ _ _ e;simp at e
 |cons w ws I0=>
  ext vs i x h e;let(v,r,rfl,b,a):=h;cases i with
  |zero=>simp at e;subst e;show(v,rfl,b)
  |succ i=>o_head I0 a (by simp_all)
def Reps.tog{i:Nat}(h:Reps K H ws vs)(e:vs[i]?=be v):∃w,ws[i]?=be w/\Rep K H w v:=by
 let c:=h.length;let a:i<ws.length:=by grind
 let(d,b,r):=h.get (aP a);rw[e]at b;cases b;show(_,aP a,r)
def Reps.append:∀{ws ws':List Z}{vs vs':List V},Reps K H ws vs->Reps K H ws' vs'->Reps K H (ws++ws') (vs++vs'):=by ext z0;induction z0 with
 |nil=>ext _ vs _ h h';rw[a0p]at h;subst h;show h'
 |cons w ws I0=>
  ext _ vs _ h h';let(v,r,rfl,a,b):=h;show .cons a (I0 b h')
theorem Reps.drop:∀{ws:List Z}{vs:List V}(n:Nat),Reps K H ws vs->Reps K H (ws.drop n) (vs.drop n)
 |[],vs,n,h=>by rw[a0p]at h;subst h;o_head Reps.nil
 |w::ws,vs,0,h=>h
 |w::ws,vs,n+1,h=>by
  let(v,r,rfl,b,a):=h;show Reps.drop n a
theorem Reps.take:∀{ws:List Z}{vs:List V}(n:Nat),Reps K H ws vs->Reps K H (ws.take n) (vs.take n)
 |[],vs,n,h=>by rw[a0p]at h;subst h;o_head Reps.nil
 |w::ws,vs,0,h=>↑Reps.nil
 |w::ws,vs,n+1,h=>by
  let(v,r,rfl,a,b):=h;show .cons a (Reps.take n b)
def Reps.set(r:Rep K H kR v):∀{ws:List Z}{vs:List V}(i:Nat),Reps K H ws vs->Reps K H (ws.set i kR) (vs.set i v):=by ext z0;induction z0 with
 |nil=>ext vs i h;rw[a0p]at h;subst h;o_head Reps.nil
 |cons x ws I0=>
  ext vs i h;let(y,s,rfl,b,a):=h;cases i with
  |zero=>show .cons r a
  |succ i=>show .cons b (I0 i a)
def Reps.reverse:∀{ws:List Z}{vs:List V},Reps K H ws vs->Reps K H ws.reverse vs.reverse:=by ext z0;induction z0 with
 |nil=>ext vs h;rw[a0p]at h;subst h;show Reps.nil
 |cons x ws I0=>
  ext vs h;let(y,s,rfl,b,a):=h;rw[de,de];show (I0 a).append (.cons b .nil)
def a44:∀{ns:List Int}{vs:List V},Reps K H (ns.map Z.int) vs->vs=ns.map V.int:=by ext z0;induction z0 with
 |nil=>ext vs h;rw[bN,a0p]at h;subst h;rfl
 |cons n ns I0=>
  ext vs h;let(v,r,rfl,a,b):=h;rw[a,I0 b];rfl
def a1W:∀(ns:List Int),Reps K H (ns.map Z.int) (ns.map V.int):=by ext z0;induction z0 with
 |nil=>show Reps.nil
 |cons n ns I0=>show .cons (by rw[a0k]) (I0)
def Reps.one(h:Reps K H [kR] vs):∃v,vs=[v]/\Rep K H kR v:=by
 let(v,r,rfl,b,a):=h;show(v,by rw[a],b)
def Reps.two(h:Reps K H [kR,w'] vs):∃v v',vs=[v,v']/\Rep K H kR v/\Rep K H w' v':=by
 let(v,r,rfl,c,a):=h;let(d,rfl,b):=a.one;show(v,d,rfl,c,b)
end
inductive O where
 |lst (ws:List Z)
 |dK (kvs:List (Key×Z))
 |ins (C dx:Addr) (fs:List (Str×Z))
 |dF (kvs:List (Key×Z))
 |dT (ks:List (List Key))
 |tab (p:Pos) (q:Str)
abbrev Hq:=Addr->Option O
noncomputable def put(G:Hq)(a:Addr)(o:O):Hq:=λb=>if b=a then be o else G b
def a0a:put G a o a=be o:=by unfold put;rw[if_pos rfl]
def put_ne(h:b≠a):put G a o b=G b:=by unfold put;rw[if_neg h]
def a1v:put (put G a o) a kR=put G a kR:=by
 funext b;unfold put;split<;>rfl
def a0g{G:Hq}(h:G a=be o)(h':G b=gV):a≠b:=by
 ext e;subst e;rw[h]at h';cases h'
def a0b(k6:G b=be lj)(n:G a=gV):put G a o b=be lj:=(put_ne (a0g k6 n))▸k6
def ROb(K:Fg)(H:Hp)(a:Addr):O->Prop
 |.lst ws=>∃vs,H a=be (.lst vs)/\Reps K H ws vs
 |.dK kvs=>∃us,H a=be (.dK us)/\us.map (·.1)=kvs.map (·.1)/\Reps K H (kvs.map (·.2)) (us.map (·.2))
 |.ins C dx fs=>∃gs,H a=be (.ins C dx gs)/\gs.map (·.1)=fs.map (·.1)/\Reps K H (fs.map (·.2)) (gs.map (·.2))
 |.dF kvs=>∃o us,H a=be (.frz o (.dK us))/\us.map (·.1)=kvs.map (·.1)/\Reps K H (kvs.map (·.2)) (us.map (·.2))
 |.dT ks=>∃us,H a=be (.dT us)/\us.map (·.1)=ks
 |.tab p q=>Tab H a p q
def RH(K:Fg)(G:Hq)(H:Hp):Prop:=∀a o,G a=be o->ROb K H a o
section
variable{K:Fg}{G:Hq}{a p:Addr}{o:O}{u:HO}
def ROb.some(h:ROb K H a o):∃u,H a=be u:=by
 cases o with
 |lst ws=>let(b,e,_):=h;show(_,e)
 |dK kvs=>let(b,e,_):=h;show(_,e)
 |ins C dx fs=>let(b,e,_):=h;show(_,e)
 |dF kvs=>let(d,b,e,_):=h;show(_,e)
 |dT ks=>let(b,e,_):=h;show(_,e)
 |tab p q=>let(c,e,_):=h;show(_,e)
def ROb.stay(t:TK K H H')(e:H' a=H a)(h:ROb K H a o):ROb K H' a o:=by
 cases o with
 |lst ws=>let(d,q,r):=h;show(d,e.trans q,r.mono t)
 |dK kvs=>let(d,q,n,r):=h;show(d,e.trans q,n,r.mono t)
 |ins C dx fs=>let(d,q,n,r):=h;show(d,e.trans q,n,r.mono t)
 |dF kvs=>let(f,d,q,n,r):=h;show(f,d,e.trans q,n,r.mono t)
 |dT ks=>let(d,q,n):=h;show(d,e.trans q,n)
 |tab p q=>show Tab.stay (λb o c k=>t.frd b o _ k) e h
def RH.out(h:RH K G H)(e:H a=gV):G a=gV:=by
 cases q:G a with
 |none=>rfl
 |some o=>let(u,z):=(h a o q).some;rw[e]at z;cases z
def RH.hid(h:RH K G H)(e:H p=gV):RH K G (upd H p u):=λb o q=>
 (h b o q).stay (.new e) (a0d (by ext rfl;let(u,z):=(h _ o q).some;rw[e]at z;cases z))
def RH.set(h:RH K G H)(t:TK K H (upd H p u))(n:ROb K (upd H p u) p o):RH K (put G p o) (upd H p u):=λb a q=>by
 by_cases hb:b=p
 .subst hb;rw[a0a]at q;cases q;show n
 .rw[put_ne hb]at q;show (h b a q).stay t (a0d hb)
end
abbrev S3:=List (Option Z)
abbrev K3:=Z->Hq->Prop
abbrev C3:=S3->Hq->Prop
abbrev E3:=S3->Hq->K3->Prop
abbrev T3:=S3->Hq->(Bool->Hq->Prop)->Prop
abbrev A3:=S3->Hq->(List Z->Hq->Prop)->Prop
abbrev X3:=C3->K3->C3->C3->S3->Hq->Prop
def ROp(K:Fg)(H:Hp)(ow:Option Z)(ov:Option V):Prop:=∀w,ow=be w->∃v,ov=be v/\Rep K H w v
def RSt(K:Fg)(H:Hp):S3->L2.St->Prop:=Paired (ROp K H)
section
variable{K:Fg}
def RSt.mono(t:TK K H H'):∀{σ:S3}{τ:L2.St},RSt K H σ τ->RSt K H' σ τ:=by ext z0 y0 x0;induction x0 with
 |nil=>show .nil
 |cons r s I0=>show .cons (λw e=>by let(v,q,h):=r w e;show(v,q,h.mono t)) (I0)
theorem RSt.get:∀{σ:S3}{τ:L2.St}{i:Nat}{w:Z},RSt K H σ τ->σ[i]?=be (be w)->∃v,τ[i]?=be (be v)/\Rep K H w v
 |_,_,_,_,.nil,e=>by simp at e
 |_,_,0,w,.cons r _,e=>by
  let(v,q,h):=r w ↑e;show(v,by rw[q];rfl,h)
 |_,_,i+1,w,.cons _ s,e=>by
  let(v,q,h):=RSt.get s ↑e;show(v,↑q,h)
theorem RSt.set(r:Rep K H kR v):∀{σ:S3}{τ:L2.St}(i:Nat),RSt K H σ τ->RSt K H (σ.set i (be kR)) (τ.set i (be v))
 |_,_,_,.nil=>.nil
 |_,_,0,.cons _ s=>.cons (λ_ e=>by cases e;show(v,rfl,r)) s
 |_,_,i+1,.cons q s=>.cons q (RSt.set r i s)
def RSt.length(h:RSt K H σ τ):σ.length=τ.length:=Paired.length h
def RSt.nones:∀n:Nat,RSt K H (dJ n gV) (dJ n gV):=by ext z0;induction z0 with
 |zero=>show .nil
 |succ n I0=>show .cons (λ_ e=>nomatch e) (I0)
def RSt.app:∀{σ σ':S3}{τ τ':L2.St},RSt K H σ τ->RSt K H σ' τ'->RSt K H (σ++σ') (τ++τ'):=by ext z0 y0 x0 w0 v0;induction v0 with
 |nil=>ext h;show h
 |cons r s I0=>ext h;show .cons r (I0 h)
def RSt.ofVals:∀{ws:List Z}{vs:List V},Reps K H ws vs->RSt K H (ws.map be) (vs.map be):=by ext z0;induction z0 with
 |nil=>ext vs h;rw[a0p]at h;subst h;show .nil
 |cons w ws I0=>
  ext vs h;let(v,r,rfl,b,a):=h;show .cons (λ_ e=>by cases e;show(v,rfl,b)) (I0 a)
end
noncomputable def a0Z(N:List Str)(ws:List Z):S3:=ws.map be++dJ (N.length-ws.length) gV
noncomputable def RSt.start{K:Fg}(h:Reps K H ws vs):RSt K H (a0Z N ws) (L2.start N vs):=by
 unfold a0Z L2.start;rw[h.length];show (RSt.ofVals h).app (RSt.nones _)
def UpV(K:Fg)(H:Hp)(R:K3)(Q:VK):Prop:=∀w G v H',R w G->Rep K H' w v->RH K G H'->TK K H H'->Q v H'
def UpB(K:Fg)(H:Hp)(R:Bool->Hq->Prop)(Q:Bool->Hp->Prop):Prop:=∀b G H',R b G->RH K G H'->TK K H H'->Q b H'
def UpA(K:Fg)(H:Hp)(R:List Z->Hq->Prop)(Q:List V->Hp->Prop):Prop:=∀ws G vs H',R ws G->Reps K H' ws vs->RH K G H'->TK K H H'->Q vs H'
def UpS(K:Fg)(H:Hp)(R:C3)(Q:L2.St->Hp->Prop):Prop:=∀σ G τ H',R σ G->RSt K H' σ τ->RH K G H'->TK K H H'->Q τ H'
section
variable{K:Fg}
def UpV.mono(h:UpV K H R Q)(t:TK K H H'):UpV K H' R Q:=λw G v b q r g a=>h w G v b q r g (t.trans a)
def UpB.mono(h:UpB K H R Q)(t:TK K H H'):UpB K H' R Q:=λw G b q g a=>h w G b q g (t.trans a)
def UpA.mono(h:UpA K H R Q)(t:TK K H H'):UpA K H' R Q:=λw G v b q r g a=>h w G v b q r g (t.trans a)
def UpS.mono(h:UpS K H R Q)(t:TK K H H'):UpS K H' R Q:=λw G v b q r g a=>h w G v b q r g (t.trans a)
end
def low(K:Fg)(t:E3):TE:=fun τ H Q=>∃σ G R,RSt K H σ τ/\RH K G H/\t σ G R/\UpV K H R Q
def low.un{K:Fg}{C:Prop}(z:low K t τ H Q)(f:∀σ G R,(RSt K H σ τ)->(RH K G H)->(t σ G R)->(UpV K H R Q)->C):C:=by let(σ,G,R,d,b,c,a):=z;show f _ _ _ d b c a
def lowT(K:Fg)(t:T3):TT:=fun τ H Q=>∃σ G R,RSt K H σ τ/\RH K G H/\t σ G R/\UpB K H R Q
def lowT.un{K:Fg}{C:Prop}(z:lowT K t τ H Q)(f:∀σ G R,(RSt K H σ τ)->(RH K G H)->(t σ G R)->(UpB K H R Q)->C):C:=by let(σ,G,R,b,a,d,c):=z;show f _ _ _ b a d c
def lowA(K:Fg)(t:A3):TA:=fun τ H Q=>∃σ G R,RSt K H σ τ/\RH K G H/\t σ G R/\UpA K H R Q
def lowA.un{K:Fg}{C:Prop}(z:lowA K t τ H Q)(f:∀σ G R,(RSt K H σ τ)->(RH K G H)->(t σ G R)->(UpA K H R Q)->C):C:=by let(σ,G,R,d,b,c,a):=z;show f _ _ _ d b c a
def lowS(K:Fg)(t:X3):TS:=λD τ H=>∃σ G nx rt bk ct,RSt K H σ τ/\RH K G H/\t nx rt bk ct σ G/\UpS K H nx D.nx/\UpV K H rt D.rt/\UpS K H bk D.bk/\UpS K H ct D.ct
def lowS.un{K:Fg}{C:Prop}(z:lowS K t D τ H)(f:∀σ G nx rt bk ct,(RSt K H σ τ)->(RH K G H)->(t nx rt bk ct σ G)->(UpS K H nx D.nx)->(UpV K H rt D.rt)->(UpS K H bk D.bk)->(UpS K H ct D.ct)->C):C:=by let(σ,G,k,j,l,i,h,a,g,b,c,d,e):=z;show f _ _ _ _ _ _ h a g b c d e
structure QE (X:Cx) (e:Expr) (t:E3):Prop where
 p:PE X e (low X.K t)
structure QT (X:Cx) (e:Expr) (t:T3):Prop where
 p:PT X e (lowT X.K t)
structure QW (X:Cx) (e:Expr) (t:T3):Prop where
 p:PW X e (lowT X.K t)
structure QA (X:Cx) (es:List Expr) (t:A3):Prop where
 p:PA X es (lowA X.K t)
structure QS (X:Cx) (st:Stmt) (t:X3):Prop where
 p:PS X st (lowS X.K t)
structure QSs (X:Cx) (st:List Stmt) (t:X3):Prop where
 p:PSs X st (lowS X.K t)
def QW.qt(h:QW X e t):QT X e t:=⟨PW.pt h.p⟩
section
variable{e:Expr}{st:Stmt}{sts:List Stmt}
def a0P(h:PE X e t')(i:∀σ H Q,t σ H Q->t' σ H Q):PE X e t:=λa s σ H Q I q=>h a s σ H Q I (i σ H Q q)
def a82(h:PT X e t')(i:∀σ H Q,t σ H Q->t' σ H Q):PT X e t:=λa s σ H Q I q=>h a s σ H Q I (i σ H Q q)
def b6F(h:PW X e t')(i:∀σ H Q,t σ H Q->t' σ H Q):PW X e t:=λw a s σ H Q I q=>h w a s σ H Q I (i σ H Q q)
def b6G(h:PA X es t')(i:∀σ H Q,t σ H Q->t' σ H Q):PA X es t:=λb a s σ H Q I q=>h b a s σ H Q I (i σ H Q q)
def a1o(h:PS X st t')(i:∀D σ H,t D σ H->t' D σ H):PS X st t:=λa s σ H D I q=>h a s σ H D I (i D σ H q)
def a83(h:PSs X sts t')(i:∀D σ H,t D σ H->t' D σ H):PSs X sts t:=λa s σ H D I q=>h a s σ H D I (i D σ H q)
end
abbrev R3:=Z->Z->Hq->K3->Prop
def low2(K:Fg)(r:R3):R2:=λx y H Q=>∃a b G R,Rep K H a x/\Rep K H b y/\RH K G H/\r a b G R/\UpV K H R Q
def low2.un{K:Fg}{C:Prop}(z:low2 K r x kR H Q)(f:∀a b G R,(Rep K H a x)->(Rep K H b kR)->(RH K G H)->(r a b G R)->(UpV K H R Q)->C):C:=by let(a,b,G,R,e,h,g,c,d):=z;show f _ _ _ _ e h g c d
def low1(K:Fg)(r:Z->Hq->K3->Prop):V->Hp->VK->Prop:=λx H Q=>∃a G R,Rep K H a x/\RH K G H/\r a G R/\UpV K H R Q
def low1.un{K:Fg}{C:Prop}(z:low1 K r x H Q)(f:∀a G R,(Rep K H a x)->(RH K G H)->(r a G R)->(UpV K H R Q)->C):C:=by let(a,G,R,c,e,d,b):=z;show f _ _ _ c e d b
def lowC(K:Fg)(r:List Z->Hq->K3->Prop):List V->Hp->VK->Prop:=λxs H Q=>∃ws G R,Reps K H ws xs/\RH K G H/\r ws G R/\UpV K H R Q
def lowC.un{K:Fg}{C:Prop}(z:lowC K r xs H Q)(f:∀ws G R,(Reps K H ws xs)->(RH K G H)->(r ws G R)->(UpV K H R Q)->C):C:=by let(e,G,R,b,d,c,a):=z;show f _ _ _ b d c a
def lowM(K:Fg)(r:Z->List Z->Hq->K3->Prop):V->List V->Hp->VK->Prop:=λx xs H Q=>∃w ws G R,Rep K H w x/\Reps K H ws xs/\RH K G H/\r w ws G R/\UpV K H R Q
def lowM.un{K:Fg}{C:Prop}(z:lowM K r x xs H Q)(f:∀w ws G R,(Rep K H w x)->(Reps K H ws xs)->(RH K G H)->(r w ws G R)->(UpV K H R Q)->C):C:=by let(w,g,G,R,a,d,e,b,c):=z;show f _ _ _ _ a d e b c
def OpQ(X:Cx)(f:Value->Value->Sem Value)(r:R3):Prop:=OpR X f (low2 X.K r)
def UnQ(X:Cx)(f:Value->Sem Value)(r:Z->Hq->K3->Prop):Prop:=UnR X f (low1 X.K r)
def a1X(X:Cx)(f:Value)(r:List Z->Hq->K3->Prop):Prop:=CallR X f (lowC X.K r)
def IxQ(X:Cx)(r:R3):Prop:=IxR X (low2 X.K r)
def MtQ(X:Cx)(id:String)(r:Z->List Z->Hq->K3->Prop):Prop:=MtR X id (lowM X.K r)
def a29(h:OpR X f r')(i:∀x y H Q,r x y H Q->r' x y H Q):OpR X f r:=λa s σ H x y v u Q I c b q=>h a s σ H x y v u Q I c b (i x y H Q q)
def b9e(h:UnR X f r')(i:∀x H Q,r x H Q->r' x H Q):UnR X f r:=λa s σ H x v Q I b q=>h a s σ H x v Q I b (i x H Q q)
def a1w(h:CallR X f r')(i:∀xs H Q,r xs H Q->r' xs H Q):CallR X f r:=λa s σ H b d Q I c q=>h a s σ H b d Q I c (i b H Q q)
def b6H(h:IxR X r')(i:∀x y H Q,r x y H Q->r' x y H Q):IxR X r:=λa b c s σ H x y v u Q I e d q=>h a b c s σ H x y v u Q I e d (i x y H Q q)
def a5Z{id:String}(h:MtR X id r')(i:∀x xs H Q,r x xs H Q->r' x xs H Q):MtR X id r:=λa s σ H x b v e Q I d c q=>h a s σ H x b v e Q I d c (i x b H Q q)
def uVar(i:Nat):E3:=fun σ G R=>∃w,σ[i]?=be (be w)/\R w G
def uC(w:Z):E3:=λ_ G R=>R w G
section
variable{e a b c:Expr}{ta tb tc:E3}
def b6I(h:PE X e (tVar i)):QE X e (uVar i):=⟨a0P h fun τ H Q (σ,G,R,c,b,(w,e,q),d)=>by
 let(v,a,r):=c.get e;show(v,a,d w G v H q r b (.refl _ _))⟩
def a7N(h:PE X e (tC v))(hr:∀H,Rep X.K H kR v):QE X e (uC kR):=⟨a0P h fun τ H Q b=>b.un fun σ G R d a q c=>c kR G v H q (hr H) a (.refl _ _)⟩
def a84:QE X (.Constant (.int i) j pos) (uC (.int i)):=a7N b5P λ_=>by rw[a0k]
def q_bl{b j pos}:QE X (.Constant (.bool b) j pos) (uC (.bl b)):=a7N b8P λ_=>by rw[a0w]
def b9f:QE X (.Constant .none j pos) (uC .non):=a7N b5Q λ_=>by rw[a0x]
def b6J:QE X (.Constant (.str x) j pos) (uC (.str x)):=a7N b5R λ_=>by rw[a0v]
def b2Q(h:PE X e (tC (.int i))):QE X e (uC (.int i)):=a7N h λ_=>by rw[a0k]
def q_ty(h:PE X e (tC (.ty n))):QE X e (uC (.ty n)):=a7N h λ_=>by rw[a81]
def uOp(r:R3)(ta tb:E3):E3:=fun σ G R=>ta σ G λx G1=>tb σ G1 λy G2=>r x y G2 R
def uUn(r:Z->Hq->K3->Prop)(ta:E3):E3:=fun σ G R=>ta σ G λx G1=>r x G1 R
def a6L{K:Fg}(h:low K (uOp r ta tb) τ H Q):tOp (low2 K r) (low K ta) (low K tb) τ H Q:=by
 let(σ,G,R,f,k,h,o):=h;show(σ,G,_,f,k,h,λw m v p l i b e=>?_);show(σ,m,_,f.mono e,b,l,λn g q s j d c a=>?_);show(w,n,g,R,i.mono a,d,c,j,o.mono (e.trans a))
def b6K{K:Fg}(h:low K (uUn r ta) τ H Q):tUn (low1 K r) (low K ta) τ H Q:=by
 let(σ,G,R,d,f,h,c):=h;show(σ,G,_,d,f,h,λw e v j g b a i=>(w,e,R,b,a,g,c.mono i))
def q_op(ho:OpQ X (gY op) r)(ha:QE X a ta)(hb:QE X b tb):QE X (.BinOp a op b pos) (uOp r ta tb):=⟨a0P (b6b ho ha.p hb.p) λ_ _ _=>a6L⟩
def q_un(ho:UnQ X (jG op) r)(ha:QE X a ta):QE X (.UnaryOp op a pos) (uUn r ta):=⟨a0P (b8Z ho ha.p) λ_ _ _=>b6K⟩
def b3U(ho:OpQ X (gO op) r)(ha:QE X a ta)(hb:QE X b tb)(hm:iP op b=kQ):QE X (.Compare a [op] [b] pos) (uOp r ta tb):=⟨a0P (b3D ho ha.p hb.p hm) λ_ _ _=>a6L⟩
def a85(t:E3):T3:=fun σ G R=>t σ G λx G1=>∃k,x=.bl k/\R k G1
def a4n{K:Fg}(h:lowT K (a85 ta) τ H Q):low K ta τ H λx H'=>∃k,x=.bl k/\Q k H':=by
 let(σ,G,R,g,f,h,i):=h;show(σ,G,_,g,f,h,λw l v j (k,e,c) a b d=>?_);subst e;show(k,a,i _ _ _ c b d)
def a3a(ho:OpQ X (gO op) r)(ha:QE X a ta)(hb:QE X b tb)(hm:iP op b=kQ):QT X (.Compare a [op] [b] pos) (a85 (uOp r ta tb)):=⟨a82 (b3E ho ha.p hb.p hm) λ_ _ _ h=>a6L (a4n h)⟩
def a6M(r r':R3)(ta tb tc:E3):E3:=fun σ G R=>ta σ G λx G1=>tb σ G1 λy G2=>r x y G2 λz G3=>∃k,z=.bl k/\(if k=kP then tc σ G3 λw G4=>r' y w G4 R else R (.bl kQ) G3)
def a45{K:Fg}(h:low K (a6M r r' ta tb tc) τ H Q):a8B (low2 K r) (low2 K r') (low K ta) (low K tb) (low K tc) τ H Q:=by
 let(σ,G,R,g,F,h,p):=h;show(σ,G,_,g,F,h,λw A v N q B l a=>?_);show(σ,A,_,g.mono a,l,q,λm y T L s e j b=>?_);show(w,m,y,_,B.mono b,e,j,s,λz x M S (k,t,f) o d c=>?_);subst t;show(k,o,?_);cases k with
 |false=>show p _ _ _ _ ↑f (by rw[a0w]) d ((a.trans b).trans c)
 |true=>
  show(σ,x,_,g.mono ((a.trans b).trans c),d,f,λC E J I D u n i=>?_);show(m,C,E,R,e.mono (c.trans i),u,n,D,p.mono (((a.trans b).trans c).trans i))
def b3V(ho:OpQ X (gO op) r)(ho':OpQ X (gO op') r')(ha:QE X a ta)(hb:QE X b tb)(hc:QE X c tc)
  (hm:jH [op,op'] [b,c]=kQ:=by with_unfolding_all rfl):QE X (.Compare a [op,op'] [b,c] pos) (a6M r r' ta tb tc):=⟨a0P (b0M ho ho' ha.p hb.p hc.p hm) λ_ _ _=>a45⟩
def b1d(ho:OpQ X (gO op) r)(ho':OpQ X (gO op') r')(ha:QE X a ta)(hb:QE X b tb)(hc:QE X c tc)
  (hm:jH [op,op'] [b,c]=kQ:=by with_unfolding_all rfl):QT X (.Compare a [op,op'] [b,c] pos) (a85 (a6M r r' ta tb tc)):=⟨a82 (b0N ho ho' ha.p hb.p hc.p hm) λ_ _ _ h=>a45 (a4n h)⟩
def uAnd(t u:T3):T3:=fun σ G R=>t σ G λc G1=>if c=kP then u σ G1 R else R kQ G1
def uOr(t u:T3):T3:=fun σ G R=>t σ G λc G1=>if c=kP then R kP G1 else u σ G1 R
def uNot(t:T3):T3:=fun σ G R=>t σ G λc G1=>R (!c) G1
variable{t u:T3}{rest:List Expr}
def b6L(ha:QT X a t):QW X (.BoolOp .And [a] pos) t:=⟨b3t ha.p⟩
def b6M(ha:QT X a t):QW X (.BoolOp .Or [a] pos) t:=⟨b5T ha.p⟩
def b9g(ha:QT X a t)(hb:QW X (.BoolOp .And (b::rest) pos) u):QW X (.BoolOp .And (a::b::rest) pos) (uAnd t u):=⟨b6F (b5U ha.p hb.p) fun τ H Q l=>l.un fun σ G R f j h g=>by
 show(σ,G,_,f,j,h,λk i m d c e=>?_);cases k with
 |false=>show g _ _ _ (by simp_all) c e
 |true=>rw[if_pos rfl]at d ⊢;show(σ,i,R,f.mono e,c,d,g.mono e)⟩
def q_or(ha:QT X a t)(hb:QW X (.BoolOp .Or (b::rest) pos) u):QW X (.BoolOp .Or (a::b::rest) pos) (uOr t u):=⟨b6F (b8Q ha.p hb.p) fun τ H Q l=>l.un fun σ G R f j h g=>by
 show(σ,G,_,f,j,h,λk i m e c d=>?_);cases k with
 |true=>show g _ _ _ (by simp_all) c d
 |false=>rw[if_neg (by simp)]at e ⊢;show(σ,i,R,f.mono d,c,e,g.mono d)⟩
def b6N(ha:QT X a t):QT X (.UnaryOp .Not a pos) (uNot t):=⟨a82 (b5V ha.p) fun τ H Q g=>g.un fun σ G R d f h i=>
 (σ,G,_,d,f,h,λk j l e b c=>i _ _ _ e b c)⟩
def b6O(ta tb:E3):E3:=fun σ G R=>ta σ G λx G1=>∃c,x=.bl c/\if c=kP then tb σ G1 R else R (.bl kQ) G1
def uOrV(ta tb:E3):E3:=fun σ G R=>ta σ G λx G1=>∃c,x=.bl c/\if c=kP then R (.bl kP) G1 else tb σ G1 R
def b9h(ta:E3):E3:=fun σ G R=>ta σ G λx G1=>∃c,x=.bl c/\R (.bl (!c)) G1
def b6P(h:QE X a ta):QE X (.BoolOp op [a] pos) ta:=⟨b5W h.p⟩
def b2R(ha:QE X a ta)(hb:QE X (.BoolOp .And (b::rest) pos) tb):QE X (.BoolOp .And (a::b::rest) pos) (b6O ta tb):=⟨a0P (b5X ha.p hb.p) fun τ H Q l=>l.un fun σ G R g j h i=>by
 show(σ,G,_,g,j,h,λx n v o (k,m,e) f c d=>?_);subst m;show(k,f,?_);cases k with
 |false=>show i _ _ _ _ ↑e (by rw[a0w]) c d
 |true=>rw[if_pos rfl]at e ⊢;show(σ,n,R,g.mono d,c,e,i.mono d)⟩
def b9i(ha:QE X a ta)(hb:QE X (.BoolOp .Or (b::rest) pos) tb):QE X (.BoolOp .Or (a::b::rest) pos) (uOrV ta tb):=⟨a0P (b8T ha.p hb.p) fun τ H Q m=>m.un fun σ G R g n h i=>by
 show(σ,G,_,g,n,h,λx j v o (k,l,d) f c e=>?_);subst l;show(k,f,?_);cases k with
 |true=>show i _ _ _ _ ↑d (by rw[a0w]) c e
 |false=>rw[if_neg (by simp)]at d ⊢;show(σ,j,R,g.mono e,c,d,i.mono e)⟩
def b9j(ha:QE X a ta):QE X (.UnaryOp .Not a pos) (b9h ta):=⟨a0P (b5Y ha.p) fun τ H Q f=>f.un fun σ G R g d h j=>by
 show(σ,G,_,g,d,h,λx m v n (k,e,i) b c l=>?_);subst e;show(k,b,j _ _ _ _ i (by rw[a0w]) c l)⟩
def uIf(t:T3)(ta tb:E3):E3:=fun σ G R=>t σ G λc G1=>if c=kP then ta σ G1 R else tb σ G1 R
def q_if(hc:QT X c t)(ha:QE X a ta)(hb:QE X b tb):QE X (.IfExp c a b pos) (uIf t ta tb):=⟨a0P (b0H hc.p ha.p hb.p) fun τ H Q l=>l.un fun σ G R g m h j=>by
 show(σ,G,_,g,m,h,λk i n e f d=>?_);cases k with
 |true=>rw[if_pos rfl]at e ⊢;show(σ,i,R,g.mono d,f,e,j.mono d)
 |false=>rw[if_neg (by simp)]at e ⊢;show(σ,i,R,g.mono d,f,e,j.mono d)⟩
def tru:Z->Hq->(Bool->Hq->Prop)->Prop
 |.non,G,R=>R kQ G
 |.bl b,G,R=>R b G
 |.int i,G,R=>R (i != 0) G
 |.str y,G,R=>y.length<=gH/\R ((y.length:Int) != 0) G
 |.tup ws,G,R=>R (!ws.isEmpty) G
 |.scr _ ns,G,R=>R (!ns.isEmpty) G
 |.ref p,G,R=>(∃ws,G p=be (.lst ws)/\R (!ws.isEmpty) G)\/∃kvs,G p=be (.dK kvs)/\R (!kvs.isEmpty) G
 |.ty _,_,_=>False
def uTru(ta:E3):T3:=fun σ G R=>ta σ G λx G1=>tru x G1 R
def a1e{α β:Type}{a:List α}{b:List β}(h:a.length=b.length):a.isEmpty=b.isEmpty:=by
 cases a<;>cases b<;>simp_all
def b3W{K:Fg}(h:tru kR G R)(r:Rep K H kR v)(hg:RH K G H)(up:UpB K H R Q):∃k,TruV K v H k/\Q k H:=by
 cases kR with
 |non=>rw[a0x]at r;subst r;show(_,rfl,up _ _ _ h hg (.refl _ _))
 |bl b=>rw[a0w]at r;subst r;show(_,rfl,up _ _ _ h hg (.refl _ _))
 |int i=>rw[a0k]at r;subst r;show(_,rfl,up _ _ _ h hg (.refl _ _))
 |str y=>rw[a0v]at r;subst r;show(_,(h.1,rfl),up _ _ _ h.2 hg (.refl _ _))
 |ty n=>show aN h
 |scr a ns=>rw[a2m]at r;let(rfl,f):=r;show(!ns.isEmpty,.inl (_,f.sq,by rw[a1e (aH ..).symm]),up _ _ _ h hg (.refl _ _))
 |tup ws=>
  let(a,d,rfl,e,c):=r;show(!ws.isEmpty,.inr (.inl (d,SqT.of e,by rw[a1e c.length])),up _ _ _ h hg (.refl _ _))
 |ref p=>
  subst r;let(ws,e,h)||(kvs,e,h):=h
  .let(d,g,c):=hg p _ e;show(_,.inl (d,SqL.of g,by rw[<- a1e c.length]),up _ _ _ h hg (.refl _ _))
  .let(j,g,l,c):=hg p _ e;show(_,.inr (.inr (j,g,by rw[a1e (show kvs.length=j.length by rw[<- aH,c.length,aH])])),up _ _ _ h hg (.refl _ _))
def b3X(ha:QE X a ta)(he:∀whole,isTrue a X.env whole=(do let v <- whole;iF a.pos;h9 [v] (truthy v))):QT X a (uTru ta):=⟨a82 (b0O ha.p he) fun τ H Q i=>i.un fun σ G R d f h j=>
 (σ,G,_,d,f,h,λw k v l e g b c=>b3W e g b (j.mono c))⟩
def b9k(ha:QE X a ta)(he:∀whole,isTrue a X.env whole=(do let v <- whole;iF a.pos;h9 [v] (truthy v)):=by ext _;rfl):QT X a (a85 ta):=⟨a82 (b5S ha.p he) λ_ _ _ h=>a4n h⟩
end
section
variable{env:Env}
def b2S:(backTo pos (gJ [] env)).any (·.1)=kQ:=rfl
def b3Y(h:gJ (e::es) env=(kQ,eval e env,)::gJ es env)(r:(backTo pos (gJ es env)).any (·.1)=kQ):(backTo pos (gJ (e::es) env)).any (·.1)=kQ:=by
 rw[h]
 change (kQ||(backTo pos _).any _)=kQ
 rw[r];rfl
end
section
variable{e a b:Expr}{p2:Pos}{te ta tb:E3}{t:A3}
def q_ix(hr:IxQ X r)(ha:QE X a ta)(hb:QE X b tb)(hs:a8O b):QE X (.Subscript a b pos) (uOp r ta tb):=⟨a0P (b87 hr ha.p hb.p hs) λ_ _ _=>a6L⟩
abbrev O3:=S3->Hq->(Option Int->Hq->Prop)->Prop
def a86:O3:=λ_ G R=>R gV G
def b6Q(t:E3):O3:=fun σ G R=>t σ G λx G1=>∃i,x=.int i/\R (be i) G1
def lowO(K:Fg)(t:O3):TO:=fun τ H Q=>∃σ G R,RSt K H σ τ/\RH K G H/\t σ G R/\∀o G' H',R o G'->RH K G' H'->TK K H H'->Q o H'
def lowO.un{K:Fg}{t:O3}{C:Prop}(z:lowO K t τ H Q)(f:∀σ G R,(RSt K H σ τ)->(RH K G H)->(t σ G R)->(∀o G' H',R o G'->RH K G' H'->TK K H H'->Q o H')->C):C:=by let(σ,G,R,d,b,c,a):=z;show f _ _ _ d b c a
def QO(X:Cx)(e:Option Expr)(t:O3):Prop:=PO X e (lowO X.K t)
def b1e:QO X gV a86:=by ext a s τ H Q I ⟨σ,G,R,d,c,h,b⟩;show b3M a s τ H Q I (b _ _ _ h c (.refl _ _))
def b6R(h:QE X e te):QO X (be e) (b6Q te):=by ext a s τ H Q I ⟨σ,G,R,f,k,q,l⟩;show b3N h.p a s τ H Q I (σ,G,_,f,k,q,by
 ext w n v m ⟨i,g,d⟩ b c j;subst g;show(i,b,l _ _ _ d c j))
abbrev L3r:=Z->Option Int->Option Int->Hq->K3->Prop
def lowL(K:Fg)(r:L3r):V->Option Int->Option Int->Hp->VK->Prop:=λx lo hi H Q=>∃w G R,Rep K H w x/\RH K G H/\r w lo hi G R/\UpV K H R Q
def lowL.un{K:Fg}{lo hi:Option Int}{C:Prop}(z:lowL K r x lo hi H Q)(f:∀w G R,(Rep K H w x)->(RH K G H)->(r w lo hi G R)->(UpV K H R Q)->C):C:=by let(w,G,R,a,d,b,c):=z;show f _ _ _ a d b c
def SlQ(X:Cx)(r:L3r):Prop:=SlR X (lowL X.K r)
def b9l(h:SlR X r')(i:∀x lo hi H Q,r x lo hi H Q->r' x lo hi H Q):SlR X r:=λa s σ H x v l b j f d Q I c e g k q=>h a s σ H x v l b j f d Q I c e g k (i _ _ _ _ _ q)
def uSl(r:L3r)(te:E3)(tl th:O3):E3:=fun σ G R=>te σ G λx G1=>tl σ G1 λl G2=>th σ G2 λu G3=>r x l u G3 R
def b3Z{lo hi:Option Expr}(hr:SlQ X r)(he:QE X e te)(hl:QO X lo tl)(hu:QO X hi th):QE X (.Subscript e (.Slice lo hi gV p2) pos) (uSl r te tl th):=⟨a0P (b0V hr he.p hl hu) fun τ H Q q=>q.un fun σ G R c k h y=>
 (σ,G,_,c,k,h,λw m v z j t f b=>(σ,m,_,c.mono b,f,j,λl o A s d a=>(σ,o,_,c.mono (b.trans a),d,s,λu x B n i g=>
  (w,x,R,t.mono (a.trans g),i,n,y.mono ((b.trans a).trans g)))))⟩
def uNil:A3:=λ_ G R=>R [] G
def b30(ta:E3)(tr:A3):A3:=fun σ G R=>ta σ G λx G1=>tr σ G1 λxs G2=>R (x::xs) G2
def a0J:QA X [] uNil:=⟨b6G a6G fun τ H Q b=>b.un fun σ G R d a h c=>c _ _ _ _ h .nil a (.refl _ _)⟩
def b6S(ha:QE X e te)(hr:QA X es t)(hs:gJ (e::es) X.env=(kQ,eval e X.env,)::gJ es X.env):QA X (e::es) (b30 te t):=⟨b6G (a4b ha.p hr.p hs) fun τ H Q i=>i.un fun σ G R hs l h o=>
 (σ,G,_,hs,l,h,λw j v H1 g m f d=>(σ,j,_,hs.mono d,f,g,λws G2 vs H2 n k c b=>o _ _ _ _ n (.cons (m.mono b) k) c (d.trans b)))⟩
def uTup(t:A3):E3:=fun σ G R=>t σ G λxs G1=>xs.length<=gH/\R (.tup xs) G1
def uLst(t:A3):E3:=fun σ G R=>t σ G λxs G1=>xs.length<=gH/\∀p,G1 p=gV->R (.ref p) (put G1 p (.lst xs))
def b31(h:QA X es t):QE X (.Tuple es x1 pos) (uTup t):=⟨a0P (b6l h.p) fun τ H Q k=>k.un fun σ G R f j h d=>
 (σ,G,_,f,j,h,by ext o m l n ⟨i,g⟩ b c e;show(by rw[<- b.length];show i,λp a=>d _ _ _ _ g (by rw[a1u];show(p,l,rfl,a0f,b.mono (.new a))) (c.hid a) (e.trans (.new a))))⟩
def a02{K:Fg}(r:Reps K H ws vs)(t:TK K H (upd H p (.lst vs))):ROb K (upd H p (.lst vs)) p (.lst ws):=(vs,a0f,r.mono t)
def b6T(h:QA X es t):QE X (.List es pos) (uLst t):=⟨a0P (b6m h.p) fun τ H Q g=>g.un fun σ G R d k h i=>
 (σ,G,_,d,k,h,by ext m l o n ⟨f,e⟩ c b j;show(by rw[<- c.length];show f,λp a=>i _ _ _ _ (e p (b.out a)) (by rw[a0q]) (b.set (.new a) (a02 c (.new a))) (j.trans (.new a))))⟩
def uCB(r:List Z->Hq->K3->Prop)(t:A3):E3:=fun σ G R=>t σ G λws G1=>r ws G1 R
def b2T{K:Fg}(h:low K (uCB r t) τ H Q):tCB (lowC K r) (lowA K t) τ H Q:=by
 let(σ,G,R,e,j,h,i):=h;show(σ,G,_,e,j,h,λc g k l f b a d=>(c,g,R,b,a,f,i.mono d))
variable{x:Str}{p:Pos}{id T:String}{r:List Z->Hq->K3->Prop}
def b32(hc:a1X X (.builtin id) r)(hg:Gl X x)(hm:X.mg x=gV)(hv:ib x=be (.builtin id))(ha:QA X (e::es) t)(hn:x≠"__name__")(hdb:(x==("__debug__":Str))=kQ)
  (he:gJ (e::es) X.env=(kQ,eval e X.env,)::gJ es X.env) (hpl:(backTo pos (gJ es X.env)).any (·.1)=kQ):QE X (.Call (.Name x p) (e::es) [] pos) (uCB r t):=⟨a0P (a4c hc hg hm hv ha.p hn hdb he hpl) λ_ _ _=>b2T⟩
def b1f(hc:a1X X (.type T) r)(hg:Gl X x)(hm:X.mg x=gV)(hv:ib x=be (.type T))(ha:QA X (e::es) t)(hn:x≠"__name__")(hdb:(x==("__debug__":Str))=kQ)
  (he:gJ (e::es) X.env=(kQ,eval e X.env,)::gJ es X.env) (hpl:(backTo pos (gJ es X.env)).any (·.1)=kQ):QE X (.Call (.Name x p) (e::es) [] pos) (uCB r t):=⟨a0P (a1V hc hg hm hv ha.p hn hdb he hpl) λ_ _ _=>b2T⟩
def tyZ(T:String)(x:Z)(G:Hq):Prop:=match x with
 |.str _=>T="str"
 |.int _=>T="int"
 |.ref p=>(T="list"/\∃ws,G p=be (.lst ws))\/(T="dict"/\∃kvs,G p=be (.dK kvs)\/G p=be (.dF kvs))
 |.scr _ _=>T="list"
 |_=>False
def b33{K:Fg}(h:tyZ T kR G)(r:Rep K H kR v)(hg:RH K G H):tyV K T v H:=by
 cases kR with
 |str y=>rw[a0v]at r;subst r;show h
 |int y=>rw[a0k]at r;subst r;show h
 |ref q=>
  subst r;let(e,ws,g)||(e,kvs,g):=h
  .let(b,a,_):=hg q _ g;show .inl (e,b,SqL.of a)
  .let g||g:=g
   .let(b,a,_):=hg q _ g;show .inr (.inr (.inl (e,.inl (b,a))))
   .let(c,b,a,_):=hg q _ g;show .inr (.inr (.inl (e,.inr (.inr (c,b,a)))))
 |scr q ns=>rw[a2m]at r;let(rfl,f):=r;show .inl (h,_,f.sq)
 |_=>show aN h
def uBM(T:String)(r:Z->List Z->Hq->K3->Prop)(to:E3)(t:A3):E3:=fun σ G R=>to σ G λx G1=>tyZ T x G1/\t σ G1 λxs G2=>r x xs G2 R
variable{o:Expr}{name:Str}{cpos:Pos}{rm:Z->List Z->Hq->K3->Prop}
def q_bm(pa:PlainAttrs T)(slot:Slot T name id)(hty:typeOf (.builtin id)=pure (.type "method_descriptor"))(hm:MtQ X id rm)(ho:QE X o to)(ha:QA X (e::es) t)
  (hbase:i6 o name X.env (eval o X.env)=eval o X.env:=by rfl)
  (hfew:((backTo cpos (gJ (e::es) X.env)).all (λx=>!x.1)&&(jc cpos (jd [] X.env)).all (λx=>x.1.isSome)
   && decide ((e::es).length+([]:List iQ).length+(if ([]:List iQ).isEmpty then 0 else 1)<30))=kP:=by rfl)
  (hline:(apos.endLine==cpos.line)=kP:=by rfl) (hs:gJ (e::es) X.env=(kQ,eval e X.env,)::gJ es X.env:=by rfl) (hplain:(backTo cpos (gJ es X.env)).any (·.1)=kQ:=by rfl) :
  QE X (.Call (.Attribute o name apos) (e::es) [] cpos) (uBM T rm to t):=⟨a0P (b89 pa slot hty hm ho.p ha.p hbase hfew hline hs hplain) fun τ H Q q=>q.un fun σ G R hs r h u=>
  (σ,G,_,hs,r,h,by ext w j v H1 ⟨m,n⟩ d a g;show(b33 m d a,σ,j,_,hs.mono g,a,n,λs i vs H2 k l f c=>(w,s,i,R,d.mono c,l,f,k,u.mono (g.trans c))))⟩
abbrev P3:=List Z->Hq->K3->Prop
def lowP(K:Fg)(sp:P3):Sp:=λvs H Q _=>lowC K sp vs H Q
def b34(sp:P3)(t:A3):E3:=fun σ G R=>t σ G λws G1=>sp ws G1 R
variable{k:Nat}{f:Addr}{fd:hZ}{ps:List Str}{sp:P3}
def b6U(F:FnOk X.prog X.w X.K X.mg X.base CX0 k f fd ps (lowP X.K sp))(hr:Room k X.A)(hg:Gl X x)(hm:X.mg x=be (.ref f))(hk:PySem.W.keepIn X.K (.ref f)=kP)(hb:Binds X.K fd ps [])(ha:QA X (e::es) t)
  (hdb:(x==("__debug__":Str))=kQ) (he:gJ (e::es) X.env=(kQ,eval e X.env,)::gJ es X.env) (hpl:(backTo pos (gJ es X.env)).any (·.1)=kQ) :
  QE X (.Call (.Name x p) (e::es) [] pos) (b34 sp t):=⟨a0P (a8J F hr hg hm hk hb .nil b3Q ha.p hdb he hpl) fun τ H Q d=>d.un fun σ G R i hg h m=>(σ,G,_,i,hg,h,λc j vs H1 l g b n=>(c,j,R,by rw[bh];show g,b,l,m.mono n))⟩
end
section
variable{e c tg:Expr}{st:Stmt}{rest sa sb:List Stmt}{te:E3}{t u:X3}{tc:T3}
def b35:X3:=λnx _ _ _ σ G=>nx σ G
def uSeq(t u:X3):X3:=λnx rt bk ct σ G=>t (u nx rt bk ct) rt bk ct σ G
def a1Y:QSs X [] b35:=⟨a83 b3u λD τ H a=>a.un fun σ G g e k f d b h c i j l=>c _ _ _ _ h d b (.refl _ _)⟩
def a0c(h1:QS X st t)(h2:QSs X rest u):QSs X (st::rest) (uSeq t u):=⟨a83 (a6E h1.p h2.p) λD τ H q=>q.un fun σ G k j c e l o h n d b g=>
 (σ,G,_,j,c,e,l,o,h,fun σ' r τ' s m f i a=>(σ',r,k,j,c,e,f,i,m,n.mono a,d.mono a,b.mono a,g.mono a),d,b,g)⟩
def a0z(h1:QS X st t):QSs X [st] t:=⟨b3v h1.p⟩
def uCut(t u:X3):X3:=λnx rt bk ct σ G=>∃M:C3,t M rt bk ct σ G/\∀σ' G',M σ' G'->u nx rt bk ct σ' G'
def a46(h1:QS X st t)(h2:QSs X rest u):QSs X (st::rest) (uCut t u):=⟨a83 (a6E h1.p h2.p) λD τ H v=>v.un fun σ G n d j b q m l s g e i=>by
 let(M,h,k):=l;show(σ,G,M,d,j,b,q,m,h,fun σ' o τ' w r f c a=>(σ',o,n,d,j,b,f,c,k _ _ r,s.mono a,g.mono a,e.mono a,i.mono a),g,e,i)⟩
def b6V:X3:=λ_ _ bk _ σ G=>bk σ G
def b9m:X3:=λ_ _ _ ct σ G=>ct σ G
def b6W:QS X (.Pass pos) b35:=⟨a1o b3w λD τ H d=>d.un fun σ G e g i l a b h c k j f=>c _ _ _ _ h a b (.refl _ _)⟩
def b36:QS X (.Break pos) b6V:=⟨a1o b0I λD τ H a=>a.un fun σ G f i e g b d h j l c k=>c _ _ _ _ h b d (.refl _ _)⟩
def b6X:QS X (.Continue pos) b9m:=⟨a1o a5T λD τ H c=>c.un fun σ G e g i l a b h f k j d=>d _ _ _ _ h a b (.refl _ _)⟩
def b6Y:X3:=λ_ _ _ _ _ _=>False
def a50:QS X st b6Y:=⟨by ext _ _ _ _ _ _ ⟨_,_,_,_,_,_,_,_,h,_⟩;show h.elim⟩
def b6Z(te:E3):X3:=λnx _ _ _ σ G=>te σ G λ_ G1=>nx σ G1
def a2F(he:QE X e te)(hs:ik e gV pos.line X.env=pure kQ:=by rfl):QS X (.Expr e pos) (b6Z te):=⟨a1o (b3x he.p hs) λD τ H i=>i.un fun σ G nx rt bk ct hs g h f u2 u3 u4=>
 (σ,G,_,hs,g,h,λw G1 v H1 d rv c b=>f _ _ _ _ d (hs.mono b) c b)⟩
def uRet(te:E3):X3:=λ_ rt _ _ σ G=>te σ G rt
def a1Z(he:QE X e te):QS X (.Return (be e) pos) (uRet te):=⟨a1o (b51 he.p) λD τ H c=>c.un fun σ G f j k m a b h g d l i=>(σ,G,_,a,b,h,d)⟩
def b9n:X3:=λ_ rt _ _ _ G=>rt .non G
def b60:QS X (.Return gV pos) b9n:=⟨a1o b3y λD τ H b=>b.un fun σ G e j d l g a h k c f i=>c _ _ _ _ h (by rw[a0x]) a (.refl _ _)⟩
def uIfS(c:T3)(t u:X3):X3:=λnx rt bk ct σ G=>c σ G λb G1=>if b=kP then t nx rt bk ct σ G1 else u nx rt bk ct σ G1
def z_if(hc:QT X c tc)(ha:QSs X sa t)(hb:QSs X sb u):QS X (.If c sa sb pos) (uIfS tc t u):=⟨a1o (b8X hc.p ha.p hb.p) λD τ H s=>s.un fun σ G l g k m f r h n q j i=>by
 show(σ,G,_,f,r,h,λb o v d e a=>?_);cases b with
 |true=>rw[if_pos rfl]at d ⊢;show(σ,o,l,g,k,m,f.mono a,e,d,n.mono a,q.mono a,j.mono a,i.mono a)
 |false=>rw[if_neg (by simp)]at d ⊢;show(σ,o,l,g,k,m,f.mono a,e,d,n.mono a,q.mono a,j.mono a,i.mono a)⟩
def b61(c:T3)(tb:X3):X3:=λnx rt _ _ σ G=>∃I:Nat->S3->Hq->Prop,(∃m,I m σ G)/\∀m σ G,I m σ G ->
 c σ G λb G1=>if b=kP then tb (fun σ' G'=>∃m',m'<m/\I m' σ' G') rt nx (fun σ' G'=>∃m',m'<m/\I m' σ' G') σ G1 else nx σ G1
def a51(hp:g5 (model X.prog X.w) X.A X.env X.xe)(hc:QT X c tc)(hb:QSs X sb t):QS X (.While c sb [] pos) (b61 tc t):=⟨a1o (b0K hp hc.p hb.p) λD τ H L=>L.un fun σ G C R Y T F J B v Q W V=>by
 let(I,(y,E),l):=B;show(λm τ' i=>∃σ' G',RSt X.K i σ' τ'/\RH X.K G' i/\TK X.K H i/\I m σ' G',(y,σ,G,F,J,.refl _ _,E),?_);ext m τ' S ⟨σ1,u,g,x,f,M⟩;show(σ1,u,_,g,x,l m σ1 u M,λb z U j k a=>?_);cases b with
 |false=>rw[if_neg (by simp)]at j ⊢;show v _ _ _ _ j (g.mono a) k (f.trans a)
 |true=>
  show(_,fun σ' i h=>h,σ1,z,_,R,C,_,g.mono a,k,j,?_,Q.mono (f.trans a),v.mono (f.trans a),?_)
  .ext σ3 s τ3 N ⟨o,n,r⟩ d e q;show(o,n,σ3,s,d,e,(f.trans a).trans q,r)
  .ext σ3 s τ3 N ⟨o,n,r⟩ d e q;show(o,n,σ3,s,d,e,(f.trans a).trans q,r)⟩
inductive Pt where
 |nm (i:Nat)
 |tp (is:List Nat)
def gsOf:List Nat->TGs
 |[]=>gNil
 |i::is=>b52 (a8r i) (gsOf is)
def gP(K:Fg):Pt->TG
 |.nm i=>a8r i
 |.tp is=>gTup K is.length (gsOf is)
noncomputable def sets:List Nat->List Z->S3->S3
 |i::is,w::ws,σ=>sets is ws (σ.set i (be w))
 |_,_,σ=>σ
noncomputable def a3A:Pt->Z->S3->Option S3
 |.nm i,w,σ=>be (σ.set i (be w))
 |.tp is,.tup ws,σ=>if ws.length=is.length then be (sets is ws σ) else gV
 |_,_,_=>gV
noncomputable def Pt.slots:Pt->List Nat
 |.nm i=>[i]
 |.tp is=>is
noncomputable def a2N:List Nat->List V->L2.St->L2.St
 |i::is,w::ws,σ=>a2N is ws (σ.set i (be w))
 |_,_,σ=>σ
theorem a87:∀{is:List Nat}{vs:List V}{τ:L2.St},vs.length=is.length->Q (a2N is vs τ) H->gsOf is vs τ H Q
 |[],[],_,_,q=>(rfl,q)
 |i::is,v::vs,τ,h,q=>(v,vs,rfl,a87 ↑h q)
 |[],_::_,_,h,_=>by simp at h
 |_::_,[],_,h,_=>by simp at h
theorem a47{K:Fg}:∀{is:List Nat}{ws:List Z}{vs:List V}{σ:S3}{τ:L2.St},Reps K H ws vs->RSt K H σ τ->RSt K H (sets is ws σ) (a2N is vs τ)
 |[],ws,vs,σ,τ,_,h=>by unfold sets a2N;show h
 |i::is,[],vs,σ,τ,r,h=>by rw[a0p]at r;subst r;show h
 |i::is,w::ws,vs,σ,τ,r,h=>by
  let(v,c,rfl,a,b):=r;show a47 (is:=is) b (h.set a i)
theorem a3T:∀{is:List Nat}{vs:List V}{τ:L2.St}{j:Nat},j∉is->(a2N is vs τ)[j]?=τ[j]?
 |[],_,_,_,_=>by unfold a2N;rfl
 |i::is,[],_,_,_=>by unfold a2N;rfl
 |i::is,v::vs,τ,j,h=>by
  let b:j≠i:=λz=>h (z▸bM ..)
  change (a2N is vs _)[j]?=τ[j]?
  rw[a3T (λz=>h (bR _ z)),dE (Ne.symm b)]
theorem a2G:∀{is:List Nat}{vs:List V}{τ:L2.St},(a2N is vs τ).length=τ.length
 |[],_,_=>by unfold a2N;rfl
 |i::is,[],_=>by unfold a2N;rfl
 |i::is,v::vs,τ=>by
  change (a2N is vs _).length=τ.length
  rw[a2G,fA]
def b37{K:Fg}(r:Rep K H kR v)(hs:RSt K H σ τ)(hb:a3A pt kR σ=be σ')
  (q:∀τ',RSt K H σ' τ'->τ'.length=τ.length->(∀j,j∉pt.slots->τ'[j]?=τ[j]?)->Q τ' H):gP K pt v τ H Q:=by
 cases pt with
 |nm i=>
  cases hb;show q _ (hs.set r i) (by simp) λj d=>by rw[dE];ext z;show d (z▸bM ..)
 |tp is=>
  cases kR with
  |tup ws=>
   let(a,f,rfl,e,c):=r;let b:(if ws.length=is.length then be _ else gV)=be σ':=hb
   by_cases hl:ws.length=is.length
   .rw[if_pos hl]at b;cases b;show(a,f,rfl,SqT.of e,by rw[<- c.length];show hl,a87 (c.length▸hl) (q _ (a47 c hs) a2G λj d=>a3T d))
   .simp_all
  |_=>cases hb
def QP(X:Cx)(tg:Expr)(pt:Pt):Prop:=PG X tg (gP X.K pt)
def uAsg(te:E3)(pt:Pt):X3:=λnx _ _ _ σ G=>te σ G λx G1=>∃σ',a3A pt x σ=be σ'/\nx σ' G1
def a52{K:Fg}(h:lowS K (uAsg te pt) D τ H):tAsg (low K te) (gP K pt) D τ H:=by
 let(σ,G,p,s,k,l,b,e,h,j,r,m,n):=h;show(σ,G,_,b,e,h,by ext w o v q ⟨σ',g,i⟩ f c d;show b37 f (b.mono d) g fun τ' a _ _=>j _ _ _ _ i a c d)
def b9o(hN:X.N.Nodup)(hi:X.N[i]?=be x)(hx:Loc X.env.scope x)(he:QE X e te)(hs:ik e (be (.Name x pos')) pos.line X.env=pure kQ)(hf:X.fn x=kP\/X.env.scope.names.lookup x=be .local) :
  QS X (.Assign [.Name x pos'] e pos) (uAsg te (.nm i)):=⟨a1o (b55 hN hi hx he.p hs hf) λ_ _ _=>a52⟩
def b62(he:QE X e te)(hg:QP X tg pt)(hs:j6 [tg] e pos.line X.env=pure kQ:=by rfl)(hw:j7 [tg] e X.env=pure gV:=by rfl)
  (h1:(iy [tg] X.env).map (·.2)=[assign tg X.env]:=by rfl):QS X (.Assign [tg] e pos) (uAsg te pt):=⟨a1o (b2L he.p hg hs hw h1) λ_ _ _=>a52⟩
abbrev Z3:=Z->Z->Z->Hq->(Hq->Prop)->Prop
def lowZ(K:Fg)(r:Z3):TSet:=λo i v H Q=>∃a b w G R,Rep K H a o/\Rep K H b i/\Rep K H w v/\RH K G H/\r a b w G R/\∀G' H',R G'->RH K G' H'->TK K H H'->Q H'
def lowZ.un{K:Fg}{C:Prop}(z:lowZ K r o i v H Q)(f:∀a b w G R,(Rep K H a o)->(Rep K H b i)->(Rep K H w v)->(RH K G H)->(r a b w G R)->(∀G' H',R G'->RH K G' H'->TK K H H'->Q H')->C):C:=by let(a,b,w,G,R,d,j,e,g,c,h):=z;show f _ _ _ _ _ d j e g c h
def SetQ(X:Cx)(r:Z3):Prop:=PSet X (lowZ X.K r)
def b2U(h:PSet X r')(i:∀o j v H Q,r o j v H Q->r' o j v H Q):PSet X r:=λa s σ H o j v c f u Q I b d e q=>h a s σ H o j v c f u Q I b d e (i _ _ _ _ _ q)
def uPut(te to ti:E3)(r:Z3):X3:=λnx _ _ _ σ G=>te σ G λw G1=>to σ G1 λo G2=>ti σ G2 λi G3=>r o i w G3 λG4=>nx σ G4
def b9p(h:PS X st (tAsg (low X.K te) (gSub (low X.K to) (low X.K ti) (lowZ X.K r)))):QS X st (uPut te to ti r):=⟨a1o h λD τ H z=>z.un fun σ G Q I J N a s h B T V C=>
 (σ,G,_,a,s,h,λw m v U o t e d=>(σ,m,_,a.mono d,e,o,λx u R S n i l c=>(σ,u,_,a.mono (d.trans c),l,n,λy A M F q g k b=>
  (x,y,w,A,_,i.mono b,g,t.mono (c.trans b),k,q,λE L p j f=>B _ _ _ _ p (a.mono (((d.trans c).trans b).trans f)) j (((d.trans c).trans b).trans f)))))⟩
def a2H(he:QE X e te)(ho:QE X o to)(hi:QE X i ti)(hr:SetQ X r)(hs:j6 [.Subscript o i p'] e pos.line X.env=pure kQ:=by rfl)(hw:j7 [.Subscript o i p'] e X.env=pure gV:=by rfl)
  (h1:(iy [.Subscript o i p'] X.env).map (·.2)=[assign (.Subscript o i p') X.env]:=by rfl) (ha:∀v,assign (.Subscript o i p') X.env v=(do
   let ov <- h9 [v] (eval o X.env)
   let iv <- h9 [v,ov] (eval i X.env)
   iF p'
   h9 [v,ov,iv] (jF ov iv v)
   release [v,ov,iv] []):=by ext _;rfl):QS X (.Assign [.Subscript o i p'] e pos) (uPut te to ti r):=b9p (b2L he.p (b54 ho.p hi.p hr ha) hs hw h1)
def uAug(i:Nat)(te:E3)(r:R3):X3:=λnx _ _ _ σ G=>∃x,σ[i]?=be (be x)/\te σ G λy G1=>r x y G1 λz G2=>nx (σ.set i (be z)) G2
def b9q(h:PS X st (tAug i (low X.K te) (low2 X.K r))):QS X st (uAug i te r):=⟨a1o h λD τ H q=>q.un fun σ G y L C u a s k t A B M=>by
 let(x,p,h):=k;let(v,n,o):=a.get p;show(v,n,σ,G,_,a,s,h,λw m N z j c g b=>(x,w,m,_,o.mono b,c,g,j,λF I J E l d e f=>t _ _ _ _ l ((a.mono (b.trans f)).set d i) e (b.trans f)))⟩
def b63(hN:X.N.Nodup)(hi:X.N[i]?=be x)(hx:Loc X.env.scope x)(he:QE X e te)(ho:OpQ X (iG op) r)(hf:X.fn x=kP\/X.env.scope.names.lookup x=be .local) :
  QS X (.AugAssign (.Name x pos') op e pos) (uAug i te r):=b9q (b56 hN hi hx he.p ho hf)
end
abbrev I3:=S3->Hq->(List Z->(Hq->Prop)->Hq->Prop)->Prop
def a3B(K:Fg)(ws:List Z)(ok:Hq->Prop)(J:It)(H0:Hp):Prop:=∀i G H,RH K G H->TK K H0 H->ok G->i<=ws.length ->
 (i=ws.length->J.stop i H)/\∀w,ws[i]?=be w->J.go i H/\∀x H',J.yld i H x H'->Rep K H' w x/\RH K G H'/\TK K H H'
def lowI(K:Fg)(wi:I3):TI:=fun τ H R2=>∃σ G R,RSt K H σ τ/\RH K G H/\wi σ G R/\∀ws ok G' J H',R ws ok G'->a3B K ws ok J H'->RH K G' H'->TK K H H'->R2 J H'
def lowI.un{K:Fg}{R2:It->Hp->Prop}{C:Prop}(z:lowI K wi τ H R2)(f:∀σ G R,(RSt K H σ τ)->(RH K G H)->(wi σ G R)->(∀ws ok G' J H',R ws ok G'->a3B K ws ok J H'->RH K G' H'->TK K H H'->R2 J H')->C):C:=by let(σ,G,R,d,b,c,a):=z;show f _ _ _ d b c a
def QI(X:Cx)(tg iter:Expr)(wi:I3):Prop:=PI X tg iter (lowI X.K wi)
def a53(h:PI X tg iter wi')(i:∀σ H R,wi σ H R->wi' σ H R):PI X tg iter wi:=λa s σ H R I q=>h a s σ H R I (i σ H R q)
def FORB(ws:List Z)(ok:Hq->Prop)(pt:Pt)(tb:X3)(nx:C3)(rt:K3)(σ:S3)(G1:Hq):Prop:=∃I:Nat->S3->Hq->Prop,I 0 σ G1/\(∀i σ G,i<=ws.length->I i σ G->ok G) /\
 (∀i x σ G,ws[i]?=be x->I i σ G->∃σ',a3A pt x σ=be σ'/\tb (I (i+1)) rt nx (I (i+1)) σ' G)/\∀σ G,I ws.length σ G->nx σ G
def uFor(wi:I3)(pt:Pt)(tb:X3):X3:=λnx rt _ _ σ G=>wi σ G λws ok G1=>FORB ws ok pt tb nx rt σ G1
def a0H(I:Nat->S3->Hq->Prop)(h0:I 0 σ G)(hok:∀i σ G,i<=ws.length->I i σ G->ok G)
  (step:∀i x σ G,ws[i]?=be x->I i σ G->∃σ',a3A pt x σ=be σ'/\tb (I (i+1)) rt nx (I (i+1)) σ' G) (fin:∀σ G,I ws.length σ G->nx σ G):FORB ws ok pt tb nx rt σ G:=(I,h0,hok,step,fin)
def a1H(hp:g5 (model X.prog X.w) X.A X.env X.xe)(hc:X.calm=kP)(hi:QI X tg iter wi)(hg:QP X tg pt)(hb:QSs X sb t)
  (hs:∀x,iH iter X.env x=pure x:=by ext _;rfl):QS X (.For tg iter sb [] pos) (uFor wi pt t):=⟨a1o (b6a hp hc hi hg hb.p hs) λD τ H U=>U.un fun σ G nx rt bk ct hs hg h R u2 u3 u4=>by
 show(σ,G,_,hs,hg,h,?_);ext b ok G1 J L ⟨I,i0,S,u,E⟩ hJ M k;show(λi m τ' a=>m=b.length-i/\i<=b.length/\∃σ' G',RSt X.K a σ' τ'/\RH X.K G' a/\TK X.K L a/\I i σ' G',(b.length,by simp,bg _,σ,G1,hs.mono k,M,.refl _ _,i0),?_);ext i m τ2 H2 ⟨rfl,n,σ2,j,o,r,c,z⟩;let l:=hJ i j H2 r c (S i σ2 j n z) n
 by_cases hlt:i<b.length
 .let(Y,T):=l.2 _ (aP hlt);show .inr (Y,fun τ' a=>i+1<=b.length/\∃σ' G',RSt X.K a σ' τ'/\RH X.K G' a/\TK X.K L a/\I _ σ' G',fun σ' a q=>(b.length-_,by cbv,rfl,q.1,q.2),λx H3 V=>?_);let(rx,N,g):=T x H3 V;let(σ',F,h3):=u i _ σ2 j (aP hlt) z;show b37 rx (o.mono g) F fun τ' C _ _=>(σ',j,_,rt,nx,_,C,N,h3,(fun σ4 v τ4 W s d f y=>(hlt,σ4,v,d,f,(c.trans g).trans y,s)),u2.mono ((k.trans c).trans g),R.mono ((k.trans c).trans g),(fun σ4 v τ4 W s d f y=>(hlt,σ4,v,d,f,(c.trans g).trans y,s)))
 .let e:i=b.length:=by lia
  subst e;show .inl (l.1 rfl,R _ _ _ _ (E σ2 j z) o r (k.trans c))⟩
section
variable{tg l:Expr}{tl:E3}
def wkL(x:Z)(G:Hq)(R:List Z->(Hq->Prop)->Hq->Prop):Prop:=match x with
 |.ref a=>∃ws,G a=be (.lst ws)/\R ws (λG=>G a=be (.lst ws)) G
 |.scr _ ns=>R (ns.map Z.int) (λ_=>True) G
 |_=>False
def iL(tl:E3):I3:=fun σ G R=>tl σ G λx G1=>wkL x G1 R
def a7O{K:Fg}:a3B K ws (λG=>G a=be (.lst ws)) (Itl K a) H:=λi G H c t g m=>by
 let(b,e,f):=c a _ g;show(λh=>(b,SqL.of e,by rw[<- f.length,h];show aI _),λw j=>?_);let(v,d,k):=f.get j;show((b,v,SqL.of e,d),?_);ext x l ⟨rfl,y⟩
 let:=y b (SqL.of e)
 rw[d]at this;cases this;show(k,c,.refl _ _)
def a88{K:Fg}{ns:List Int}(f:Fz K H0 a (ns.map V.int)):a3B K (ns.map Z.int) (λ_=>True) (Itl K a) H0:=λi G H g t m l=>by
 let b:=(t.frz _ _ f).sq;let c:Reps K H _ _:=a1W ns;show(λh=>(_,b,by rw[<- c.length,h];show aI _),λw j=>?_);let(v,d,e):=c.get j;show((_,v,b,d),?_);ext x k ⟨rfl,y⟩
 let:=y _ b
 rw[d]at this;cases this;show(e,g,.refl _ _)
def a3b(hl:QE X l tl):QI X tg l (iL tl):=a53 (b3A hl.p) fun τ H s k=>k.un fun σ G R i j h f=>by
 show(σ,G,_,i,j,h,λw q v o c b d g=>?_);cases w with
 |ref a=>
  let(r,e,c):=c;let(m,n,_):=d a _ e;show(a,b,(m,SqL.of n),f _ _ _ _ _ c a7O d g)
 |scr a ns=>
  show(a,b.1,(_,b.2.sq),f _ _ _ _ _ c (a88 b.2) d g)
 |_=>show aN c
def wkT(x:Z)(G:Hq)(R:List Z->(Hq->Prop)->Hq->Prop):Prop:=match x with
 |.tup ws=>R ws (λ_=>True) G
 |_=>False
def iT(tl:E3):I3:=fun σ G R=>tl σ G λx G1=>wkT x G1 R
def a89{K:Fg}(e:H0 a=be (.tup vs))(rs:Reps K H0 ws vs):a3B K ws (λ_=>True) (Itt K a) H0:=λi G H f t ok hi=>by
 let e:=t.tup _ _ e;let rs:=rs.mono t;show(λh=>(vs,SqT.of e,by rw[<- rs.length,h];show aI _),λw g=>?_);let(v,c,d):=rs.get g;show((vs,v,SqT.of e,c),?_);ext x H' ⟨rfl,y⟩
 let:=y vs (SqT.of e)
 rw[c]at this;cases this;show(d,f,.refl _ _)
def b64(hl:QE X l tl):QI X tg l (iT tl):=a53 (b58 hl.p) fun τ H o j=>j.un fun σ G R m i h n=>by
 show(σ,G,_,m,i,h,λw r v q d c b k=>?_);cases w with
 |tup ws=>
  let(a,g,rfl,e,f):=c;show(a,rfl,(g,SqT.of e),n _ _ _ _ _ d (a89 e f) b k)
 |_=>show aN d
noncomputable def rng(lo:Int):Nat->List Z
 |0=>[]
 |n+1=>.int lo::rng (lo+1) n
def a1a:∀(lo:Int)(n:Nat),(rng lo n).length=n:=by ext z0 y0;induction y0 generalizing z0 with
 |zero=>show rfl
 |succ n I0=>rw[rng,aV,I0]
theorem a2n:∀{lo:Int}{n i:Nat}{w:Z},(rng lo n)[i]?=be w->i<n/\w=.int (lo+i)
 |_,0,_,_,h=>by simp[rng]at h
 |lo,n+1,0,w,h=>by simp[rng]at h;show(by lia,by rw[<- h];simp)
 |lo,n+1,i+1,w,h=>by
  let:=a2n (by simpa[rng]using h)
  show(by lia,?_);rw[this.2]
  congr 1
  lia
def a9a{K:Fg}{lo:Int}:a3B K (rng lo n) (λ_=>True) (Itr lo n) H0:=λi G H b t e g=>by
 rw[a1a];show(λh=>by rw[h];show aI _,λw d=>?_);let(a,c):=a2n d;show(a,?_);ext x f ⟨rfl,rfl⟩;show(by rw[c,a0k],b,.refl _ _)
variable{t:A3}
def iR1(t:A3):I3:=fun σ G R=>t σ G λws G1=>∃j:Int,ws=[.int j]/\-(2 ^ 62)<=j/\j<2 ^ 62/\R (rng 0 j.toNat) (λ_=>True) G1
def a9b(h:PI X tg wi (b59 (lowA X.K t))):QI X tg wi (iR1 t):=a53 h fun τ H p g=>g.un fun σ G R i d h l=>by
 show(σ,G,_,i,d,h,λq o n s (j,e,a,b,k) f c m=>?_);subst e;let(v,rfl,r):=f.one;subst r;show(j,rfl,a,b,l _ _ _ _ _ k a9a c m)
end
section
variable{tg a:Expr}{p:Pos}{t:A3}
def a7P(hg:Gl X "range")(hm:X.mg "range"=gV)(ha:QA X [a] t)(hs:gJ [a] X.env=[(kQ,eval a X.env,)]:=by rfl):QI X tg (.Call (.Name "range" p) [a] [] pos) (iR1 t):=a9b (a8u hg hm ha.p hs)
end
noncomputable def cap3(cap:List (Option Nat))(σ:S3):S3:=cap.map λo=>o.bind λj=>(σ[j]?).join
theorem a54{K:Fg}(h:RSt K H σ τ):∀cap:List (Option Nat),RSt K H (cap3 cap σ) (a2k cap τ)
 |[]=>.nil
 |none::cap=>.cons (λ_ e=>nomatch e) (a54 h cap)
 |some j::cap=>.cons (λw e=>by
   let a:(σ[j]?).join=be w:=e;let b:σ[j]?=be (be w):=by
    cases q:σ[j]? with
    |none=>rw[q]at a;cases a
    |some o=>rw[q]at a;cases o with
     |none=>cases a
     |some z=>cases a;rfl
   let(v,c,r):=h.get b;show(v,by change (τ[j]?).join=be v;rw[c];rfl,r)) (a54 h cap)
theorem a2o:∀{a b:L2.St},b.length=a.length->(∀(i:Nat) v,a[i]?=be (be v)->b[i]?=be (be v))->a1d a b
 |[],[],_,_=>True.intro
 |none::a,_::b,h,k=>a2o (b:=b) ↑h λi v e=>↑(k (i+1) v ↑e)
 |some x::a,y::b,h,k=>(↑(k 0 x rfl),a2o (b:=b) ↑h λi v e=>↑(k (i+1) v ↑e))
 |[],_::_,h,_=>by simp at h
 |_::_,[],h,_=>by simp at h
def LCB(ws:List Z)(ok:Hq->Prop)(cap:List (Option Nat))(pt:Pt)(tt:T3)(te:E3)(σ:S3)(R:K3)(D:Addr)(G1:Hq):Prop:=∃I:Nat->List Z->Hq->Prop,I 0 [] (put G1 D (.lst []))/\(∀i ys G,i<=ws.length->I i ys G->ok G) /\
 (∀i x ys G,ws[i]?=be x->I i ys G->∃σ',a3A pt x (cap3 cap σ)=be σ'/\tt σ' G λb G4=>if b=kP then te σ' G4 λy G5=>G5 D=be (.lst ys)/\ys.length<gH/\I (i+1) (ys++[y]) (put G5 D (.lst (ys++[y]))) else I (i+1) ys G4) /\
 ∀ys G,I ws.length ys G->R (.ref D) G
def uLC(wi:I3)(cap:List (Option Nat))(pt:Pt)(tt:T3)(te:E3):E3:=fun σ G R=>wi σ G λws ok G1=>∀D,G1 D=gV->LCB ws ok cap pt tt te σ R D G1
def b1g(I:Nat->List Z->Hq->Prop)(h0:I 0 [] (put G1 D (.lst [])))(hok:∀i ys G,i<=ws.length->I i ys G->ok G)
  (step:∀i x ys G,ws[i]?=be x->I i ys G->∃σ',a3A pt x (cap3 cap σ)=be σ'/\tt σ' G λb G4=>if b=kP then te σ' G4 λy G5=>G5 D=be (.lst ys)/\ys.length<gH/\I (i+1) (ys++[y]) (put G5 D (.lst (ys++[y]))) else I (i+1) ys G4)
  (fin:∀ys G,I ws.length ys G->R (.ref D) G):LCB ws ok cap pt tt te σ R D G1:=(I,h0,hok,step,fin)
def a05{α β:Type}{f:α->Option β}{ws:List α}{x:α}(h:ws[i]?=be x):(ws.take (i+1)).filterMap f=(ws.take i).filterMap f++(f x).toList:=by
 rw[cf,fB,h];cases e:f x<;>simp[e]
def b38(f:Z->Option Z)(hok:∀ys,ok (put G1 D (.lst ys)))(hz:ws.length<=1000)
  (turn:∀x,x∈ws->∀(ys:List Z)(K1:K3)(K2:Hq->Prop),(∀y,f x=be y->K1 y (put G1 D (.lst ys)))->(f x=gV->K2 (put G1 D (.lst ys)))->∃σ',a3A pt x (cap3 cap σ)=be σ'/\tt σ' (put G1 D (.lst ys)) λb G4=>if b=kP then te σ' G4 K1 else K2 G4)
  (fin:R (.ref D) (put G1 D (.lst (ws.filterMap f)))):LCB ws ok cap pt tt te σ R D G1:=by
 show(λi a G=>a=(ws.take i).filterMap f/\G=put G1 D (.lst a),(by simp,rfl),?_,?_,?_)
 .simp_all
 .ext i x a G c ⟨e,rfl⟩;show turn x (aZ c) a _ _ (λy g=>(a0a,?_,?_,?_)) λd=>(?_,rfl)
  .rw[e];show dM (aU (cq _ _) (by rw[aY];lia)) (a0e (aI 1000))
  .rw[a05 c,g,e];rfl
  .rw[a1v]
  .rw[a05 c,d,e];simp
 .simp_all
def QIfs(X:Cx)(ifs:List Expr)(t:T3):Prop:=PIfs X ifs (lowT X.K t)
def uTT:T3:=λ_ G R=>R kP G
def b39:QIfs X [] uTT:=by ext a s τ H Q I ⟨σ,G,R,d,b,h,c⟩;show b06 a s τ H Q I (c _ _ _ h b (.refl _ _))
def a9c(h:QT X c t):QIfs X [c] t:=b07 h.p
def b4a{pt:Pt}(hc:(pt.slots.all λj=>decide (cap[j]?=be gV))=kP)(h:(a2k cap τ)[i]?=be (be v)):i∉pt.slots:=λa=>by
 let q:=of_decide_eq_true ((bU.mp hc) i a);unfold a2k at h;rw[aO,q]at h;cases h
def b2V{K:Fg}(hc:(pt.slots.all λj=>decide (cap[j]?=be gV))=kP)(h:low K (uLC wi cap pt tt te) τ H Q) :
  tLC (lowI K wi) cap (gP K pt) (lowT K tt) (low K te) τ H Q:=by
 let(σ,G,R,hs,hg,h,up):=h;show(σ,G,_,hs,hg,h,λc ok G1 J H1 h1 hJ t U D B=>?_);let(I,i0,S,C,N):=h1 D (t.out B);show(λi m _ d=>m=c.length-i/\i<=c.length/\∃a G',RH K G' d/\TK K H1 d/\I i a G',(c.length,by simp,bg _,[],_,t.set (o:=.lst []) (.new B) ([],a0f,.nil),.new B,i0),?_);ext i m vs H2 ⟨rfl,w,a,f,p,g,E⟩;let n:=hJ i f H2 p g (S i a f w E) w
 by_cases hlt:i<c.length
 .let(go,yl):=n.2 _ (aP hlt);show .inr (go,λ_ d=>i+1<=c.length/\∃a G',RH K G' d/\TK K H1 d/\I _ a G',λvs' d q=>(c.length-_,by cbv,rfl,q.1,q.2),λx H3 y3=>?_);let(rx,aa,F):=yl x H3 y3;let(σ',Y,h3):=C i _ a f (aP hlt) E;show b37 rx (a54 (hs.mono ((U.trans g).trans F)) cap) Y fun τ' z M hk'=>(a2o M λj v T=>by rw[hk' j (b4a hc T)];show T,?_);show(σ',f,_,z,aa,h3,λb G4 H4 l u A=>?_);cases b with
  |false=>
   show(hlt,a,G4,u,(g.trans F).trans A,l)
  |true=>
   show(σ',G4,_,z.mono A,u,l,λy G5 v5 H5 (L,V,h5) r5 r t5=>?_);let(X,k,s):=r D _ L;show(X,k,by rw[<- s.length];show V,hlt,_,_,r.set (.lst k) (a02 (s.append (.cons r5 .nil)) (.lst k)),?_,h5);show (((g.trans F).trans A).trans t5).trans (.lst k)
 .let e:i=c.length:=by lia
  subst e;show .inl (n.1 rfl,up _ _ _ _ (N a f E) (by rw[a0q]) p (U.trans g))
section
variable{N':List Str}{sc:Scope}{cap:List (Option Nat)}{tg iter elt:Expr}{ifs:List Expr}{wi:I3}{pt:Pt}{tt:T3}{te:E3}
def q_lc(hc:X.calm=kP)(hNN:X.N=Nj)(hso:X.env.scope=so)(ck:capB Nj so sc N' cap=kP)(hp:(pt.slots.all λj=>decide (cap[j]?=be gV))=kP)(hi:QI X tg iter wi)
  (hg:∀C s H fp,QP (cxC X E0 N' sc C s H fp) tg pt) (ht:∀C s H fp,QIfs (cxC X E0 N' sc C s H fp) ifs tt) (he:∀C s H fp,QE (cxC X E0 N' sc C s H fp) elt te)
  (hs:∀x,iH iter X.env x=pure x:=by ext _;rfl):QE X (.ListComp elt [(tg,iter,ifs,0)] sc pos) (uLC wi cap pt tt te):=⟨a0P (b9d (g:=gP X.K pt) (tt:=lowT X.K tt) hc a6K hNN hso ck hi hg ht (λC s H a=>(he C s H a).p) hs) λ_ _ _=>b2V hp⟩
def b4b(hN:X.N.Nodup)(hx:X.N[i]?=be x)(hl:X.env.scope.names.lookup x=be .local)(hc:X.calm=kP)(hNN:X.N=Nj)(hso:X.env.scope=so)(ck:capB Nj so sc N' cap=kP)
  (hp:(pt.slots.all λj=>decide (cap[j]?=be gV))=kP) (hi:QI X tg iter wi)
  (hg:∀C s H fp,QP (cxC X E0 N' sc C s H fp) tg pt) (ht:∀C s H fp,QIfs (cxC X E0 N' sc C s H fp) ifs tt) (he:∀C s H fp,QE (cxC X E0 N' sc C s H fp) elt te)
  (hsw:ik (.ListComp elt [(tg,iter,ifs,0)] sc pos) (be (.Name x pos')) spos.line X.env=pure kP:=by rfl)
  (hs:∀x,iH iter X.env x=pure x:=by ext _;rfl):QS X (.Assign [.Name x pos'] (.ListComp elt [(tg,iter,ifs,0)] sc pos) spos) (uAsg (uLC wi cap pt tt te) (.nm i)):=⟨a1o (b09 (g:=gP X.K pt) (tt:=lowT X.K tt) hN hx hl hc a6K hNN hso ck hi hg ht (λC s H a=>(he C s H a).p) hsw hs) λD τ H h=>b2V hp (a52 h)⟩
end
section
variable{K:Fg}{mg:Str->Option Value}{base:Heap}
def fn3{st:Stmt}(F:Fun K x qual st f fd)(S:FnScope N ps (a0h st))(len:∀ws G R,sp ws G R->ws.length=ps.length)
  (hbody:∀(cdv:Value)(A:Around)(outer:List Env)(s:Shared)(H:Hp)(E:XK)(ws:List Z)(G:Hq)(R:K3),Room k (A.deeper (envOfC qual (a0h st) s.heap.objs.size f cdv))->sp ws G R ->
   ∃t,QSs (cxOf CX0 P w K mg base N qual (a0h st) f cdv A outer s H E).nox (a0K st) t/\t (λ_ G'=>R .non G') R (λ_ _=>False) (λ_ _=>False) (a0Z N ws) G):FnOk P w K mg base CX0 (k+1) f fd ps (lowP K sp):=by
 show F.ok S (by ext n H Q E ⟨d,G,R,c,e,h,b⟩;rw[<- c.length];show len _ _ _ h) ?_;ext g A a s H n Q E j ⟨d,G,R,c,e,h,b⟩;let(t,l,q):=hbody g A a s H E d G R j h;show(_,l.p,a0Z N d,G,_,R,_,_,.start c,e,q,fun σ' v τ' u m r i o=>b _ _ _ _ m (by rw[a0x]) i o,b,λ_ _ _ _ h _ _ _=>h.elim,λ_ _ _ _ h _ _ _=>h.elim)
end
def zAdd:R3:=λx y G R=>match x,y with
 |.int i,.int j=>R (.int (i+j)) G
 |.str a,.str b=>a.length+b.length<=gH/\R (.str (a++b)) G
 |.tup xs,.tup ys=>xs≠[]/\xs.length+ys.length<=gH/\R (.tup (xs++ys)) G
 |.ref p,.ref q=>∃xs ys,G p=be (.lst xs)/\G q=be (.lst ys)/\xs.length+ys.length<=gH/\∀t,G t=gV->R (.ref t) (put G t (.lst (xs++ys)))
 |_,_=>False
def b9r:OpQ X (gY .Add) zAdd:=a29 (op_add.or (op_add_str.or (op_catT.or b6s))) λx y H Q D=>D.un λa b G R c d f h m=>by
 cases a with
 |int i=>
  cases b with
  |int j=>rw[a0k]at c d;show .inl (_,_,c,d,m _ _ _ _ h (by rw[a0k]) f (.refl _ _))
  |_=>show aN h
 |str i=>
  cases b with
  |str j=>rw[a0v]at c d;show .inr (.inl (_,_,c,d,h.1,m _ _ _ _ h.2 (by rw[a0v]) f (.refl _ _)))
  |_=>show aN h
 |tup w=>
  cases b with
  |tup ws=>
   let(p,n,rfl,o,k):=c;let(q,r,rfl,u,l):=d;let(B,s,h):=h;show .inr (.inr (.inl (p,q,n,r,rfl,rfl,SqT.of o,SqT.of u,λz=>?_,by rw[<- k.length,<- l.length];show s,λz=>?_,λz t g=>?_)))
   .subst z;show B (cC.mp k.length)
   .subst z;let e:=cC.mp l.length;subst e;rw[bh]at h;show m _ _ _ _ h (by rw[a1u];show(p,n,rfl,o,k)) f (.refl _ _)
   .show m _ _ _ _ h (by rw[a1u];show(t,n++r,rfl,a0f,Reps.mono (.new g) _ _ (k.append l))) (f.hid g) (.new g)
  |_=>show aN h
 |ref p=>
  cases b with
  |ref q=>
   subst c d;let(n,r,o,u,s,h):=h;let(C,A,k):=f _ _ o;let(w,v,l):=f _ _ u;show .inr (.inr (.inr (_,_,C,w,rfl,rfl,A,v,by rw[<- k.length,<- l.length];show s,λt g=>m _ _ _ _ (h t (f.out g)) (by rw[a0q]) (f.set (.new g) (a02 (k.append l) (.new g))) (.new g))))
  |_=>show aN h
 |_=>show aN h
def zI(C:Int->Int->Prop)(g:Int->Int->Z):R3:=λx y G R=>match x,y with
 |.int i,.int j=>C i j/\R (g i j) G
 |_,_=>False
def zI0(g:Int->Int->Z):R3:=λx y G R=>match x,y with
 |.int i,.int j=>R (g i j) G
 |_,_=>False
def oI{g:Int->Int->Int}(h:OpR X f (rI C λi j=>.int (g i j))):OpQ X f (zI C λi j=>.int (g i j)):=a29 h λx y H Q l=>l.un λa b G R d c k h e=>by
 cases a<;>cases b<;>first
  |show aN h
  | (rw[a0k]at d c;show(_,_,d,c,h.1,e _ _ _ _ h.2 (by rw[a0k]) k (.refl _ _)))
def oI0{g:Int->Int->Int}(h:OpR X f (rI0 λi j=>.int (g i j))):OpQ X f (zI0 λi j=>.int (g i j)):=a29 h λx y H Q l=>l.un λa b G R d c k h e=>by
 cases a<;>cases b<;>first
  |show aN h
  | (rw[a0k]at d c;show(_,_,d,c,e _ _ _ _ h (by rw[a0k]) k (.refl _ _)))
def b9s:OpQ X (gY .Sub) (zI0 λi j=>.int (i-j)):=oI0 b6c
def b9t:OpQ X (gY .Mult) (zI CMul λi j=>.int (i*j)):=oI b6d
def b65:OpQ X (gY .FloorDiv) (zI b6D λi j=>.int (i / j)):=oI b1a
def b9u:OpQ X (gY .Mod) (zI (λ_ j=>0<j) λi j=>.int (i % j)):=oI b6e
def b9v:OpQ X (gY .Pow) (zI CPow λi j=>.int (i ^ j.toNat)):=oI b6f
def b2W:OpQ X (iG .Add) (zI0 λi j=>.int (i+j)):=oI0 b3B
def zNeg:Z->Hq->K3->Prop:=λx G R=>match x with
 |.int i=>R (.int (-i)) G
 |_=>False
def b9w:UnQ X (jG .USub) zNeg:=b9e b6g λx H Q c=>c.un λa G R b d h e=>by
 cases a<;>first
  |show aN h
  | (rw[a0k]at b;show(_,b,e _ _ _ _ h (by rw[a0k]) d (.refl _ _)))
def a9d:OpR X (gO .LtE) (λx y H Q=>∃i j,x=.str i/\y=.str j/\Q (.bl (!decide (j.cps.toList<i.cps.toList))) H):=by
 ext b s σ H x y v u Q I a c h;let(i,j,rfl,rfl,q):=h;let(t,rfl):=a;let(d,rfl):=c;show PySem.P.le_str (a0l I q rfl)
def a9e:OpR X (gO .Gt) (λx y H Q=>∃i j,x=.str i/\y=.str j/\Q (.bl (decide (j.cps.toList<i.cps.toList))) H):=by
 ext b s σ H x y v u Q I a c h;let(i,j,rfl,rfl,q):=h;let(t,rfl):=a;let(d,rfl):=c;show PySem.P.gt_str (a0l I q rfl)
def zC(f:Int->Int->Bool)(g:Str->Str->Bool):R3:=λx y G R=>match x,y with
 |.int i,.int j=>R (.bl (f i j)) G
 |.str i,.str j=>R (.bl (g i j)) G
 |_,_=>False
def oC(h:OpR X (gO op) (rI0 λi j=>.bl (f i j)))(h':OpR X (gO op) (λx y H Q=>∃i j,x=.str i/\y=.str j/\Q (.bl (g i j)) H)) :
  OpQ X (gO op) (zC f g):=a29 (h.or h') λx y H Q l=>l.un λa b G R c d e h k=>by
 cases a<;>cases b<;>first
  |show aN h
  | (rw[a0k]at c d;show .inl (_,_,c,d,k _ _ _ _ h (by rw[a0w]) e (.refl _ _)))
  | (rw[a0v]at c d;show .inr (_,_,c,d,k _ _ _ _ h (by rw[a0w]) e (.refl _ _)))
abbrev ltS(x y:Str):Bool:=decide (x.cps.toList<y.cps.toList)
def o_lt:OpQ X (gO .Lt) (zC (λi j=>decide (i<j)) λx y=>ltS x y):=oC b80 a8A
def o_le:OpQ X (gO .LtE) (zC (λi j=>decide (i<=j)) λx y=>!ltS y x):=oC b81 a9d
def o_gt:OpQ X (gO .Gt) (zC (λi j=>decide (j<i)) λx y=>ltS y x):=oC b82 a9e
def zIs(neg:Bool):R3:=λx y G R=>match y with
 |.non=>R (.bl (if neg then !decide (x=.non) else decide (x=.non))) G
 |.bl b=>match x with
  |.bl a=>neg=kQ/\R (.bl (a==b)) G
  |_=>False
 |_=>False
def a3U{K:Fg}(r:Rep K H kR v):decide (v=.non)=decide (kR=.non):=by
 cases kR with
 |non=>rw[a0x]at r;subst r;rfl
 |bl _=>rw[a0w]at r;subst r;simp
 |int _=>rw[a0k]at r;subst r;simp
 |str _=>rw[a0v]at r;subst r;simp
 |ref _=>rw[a0q]at r;subst r;simp
 |ty _=>rw[a81]at r;subst r;simp
 |scr _ _=>rw[a2m]at r;let(rfl,_):=r;simp
 |tup _=>rw[a1u]at r;let(_,_,rfl,_):=r;simp
mutual
def dZ:Z->PyData
 |.bl b=>.bool b
 |.int i=>.int i
 |.str x=>.str x
 |.tup ws=>.tuple (dZs ws)
 |_=>.none
def dZs:List Z->List PyData
 |[]=>[]
 |w::ws=>dZ w::dZs ws
end
noncomputable def flat:Nat->Z->Bool
 |_,.non=>kP
 |_,.int _=>kP
 |_,.str x=>PyData.strOk x
 |n+1,.tup ws=>ws.all (flat n)
 |_,_=>kQ
def b2X:∀(n:Nat)(d:Z),flat n d=kP->(dZ d).canLay0=kP/\(dZ d).depth<=n:=by
 let f:∀n,(∀d,flat n d=kP->(dZ d).canLay0=kP/\(dZ d).depth<=n)->∀a:List Z,(∀d∈a,flat n d=kP)->PyData.canLayAll0 (dZs a)=kP/\PyData.depthAll (dZs a)<=n:=by
  ext n b a
  induction a with
  |nil=>ext _;simp[dZs,PyData.canLayAll0,PyData.depthAll]
  |cons d a hi=>
   ext h;let g:=b d (h d (.head _));let c:=hi λe j=>h e (.tail _ j);simp only[dZs,PyData.canLayAll0,PyData.depthAll,g.1,c.1,eu,true_and]
   lia
 ext n
 induction n with
 |zero=>
  ext d h;cases d<;>simp_all[flat,dZ,PyData.canLay0,PyData.depth]
 |succ n b=>
  ext d h;cases d with
  |non=>simp[dZ,PyData.canLay0,PyData.depth]
  |int i=>simp[dZ,PyData.canLay0,PyData.depth]
  |str x=>simp[flat]at h;simp[dZ,PyData.canLay0,PyData.depth,h]
  |tup a=>
   let q:=f n b a (by simpa[flat]using h);simp only[dZ,PyData.canLay0,PyData.depth,q.1,true_and]
   lia
  |_=>simp[flat]at h
def b4c(n:Nat)(ds:List Z)(h:ds.all (flat n)=kP):PyData.canLayAll0 (dZs ds)=kP/\PyData.depthAll (dZs ds)<=n:=by
 let q:=b2X (n+1) (.tup ds) (by simpa[flat]using h);simp only[dZ,PyData.depth]at q;show(q.1,by lia)
def a9f:∀(n:Nat)(d e:Z)(k:Nat),flat n d=kP->flat k e=kP->(PyData.eqv (dZ d) (dZ e)=kP↔d=e):=by
 let all:∀(n:Nat),(∀d e k,flat n d=kP->flat k e=kP->(PyData.eqv (dZ d) (dZ e)=kP↔d=e))->∀(k:Nat)(ds es:List Z),(∀d∈ds,flat n d=kP)->(∀d∈es,flat k d=kP) ->
   (PyData.eqvAll (dZs ds) (dZs es)=kP↔ds=es):=by
  ext n ih k ds
  induction ds with
  |nil=>ext es _ _;cases es<;>simp[dZs,PyData.eqvAll]
  |cons d ds hi=>
   ext es h1 h2;cases es with
   |nil=>simp[dZs,PyData.eqvAll]
   |cons e es=>
    let q1:=ih d e k (h1 d (.head _)) (h2 e (.head _));let q2:=hi es (λx hx=>h1 x (.tail _ hx)) λx hx=>h2 x (.tail _ hx);simp only[dZs,PyData.eqvAll,bO,q1,q2,bE.injEq]
 ext n
 induction n with
 |zero=>
  ext d e k h1 h2;cases d<;>cases e<;>simp_all[flat,dZ,PyData.eqv]
 |succ n ih=>
  ext d e k h1 h2;cases d with
  |tup ds=>
   cases e with
   |tup es=>
    cases k with
    |zero=>simp[flat]at h2
    |succ k=>
     simp only[dZ,PyData.eqv,Z.tup.injEq];show all n ih k ds es (by simpa[flat]using h1) (by simpa[flat]using h2)
   |_=>simp_all[flat,dZ,PyData.eqv]
  |_=>cases e<;>simp_all[flat,dZ,PyData.eqv]
def a9g(n k:Nat)(ds es:List Z)(h:ds.all (flat n)=kP)(h':es.all (flat k)=kP):PyData.eqvAll (dZs ds) (dZs es)=kP↔ds=es:=by
 let q:=a9f (n+1) (.tup ds) (.tup es) (k+1) (by simpa[flat]using h) (by simpa[flat]using h');simpa only [dZ,PyData.eqv,Z.tup.injEq]using q
section
variable{K:Fg}
def b1h:∀(n:Nat)(w:Z)(v:V),flat n w=kP->Rep K H w v->DV H (dZ w) v:=by
 let g:∀n,(∀w v,flat n w=kP->Rep K H w v->DV H (dZ w) v)->∀b c,(∀d∈b,flat n d=kP)->Reps K H b c->DVs H (dZs b) c:=by
  ext n f b
  induction b with
  |nil=>ext c _ r;show r
  |cons w b hi=>
   ext c h r;let(v,j,e,o,l):=r;show(v,j,e,f w v (h w (.head _)) o,hi j (λd k=>h d (.tail _ k)) l)
 ext n
 induction n with
 |zero=>
  ext w v h r;cases w with
  |non=>rw[a0x]at r;show r
  |int i=>rw[a0k]at r;show r
  |str x=>rw[a0v]at r;show r
  |_=>simp[flat]at h
 |succ n f=>
  ext w v h r;cases w with
  |non=>rw[a0x]at r;show r
  |int i=>rw[a0k]at r;show r
  |str x=>rw[a0v]at r;show r
  |tup b=>
   let(a,c,e,p,m):=r;show(a,c,e,p,g n f b c (by simpa[flat]using h) m)
  |_=>simp[flat]at h
def a48(n:Nat):∀(ws:List Z)(vs:List V),ws.all (flat n)=kP->Reps K H ws vs->DVs H (dZs ws) vs:=by ext z0;induction z0 with
 |nil=>ext vs _ r;rw[a0p]at r;simp only[dZs];unfold DVs;show r
 |cons w ws I0=>
  ext vs h r;let(v,a,e,b,c):=r;rw[bu,bO]at h;show(v,a,e,b1h n w v h.1 b,I0 a h.2 c)
end
def a1N(h:flat n kR=kP)(hn:n<=64):SeqAt.shaped (dZ kR)=kP:=by
 let q:=b2X n kR h;unfold SeqAt.shaped;rw[q.1,bZ];show decide_eq_true (by lia)
def a1f(h:ws.all (flat n)=kP)(hn:n<=63):SeqAt.shaped (.list (dZs ws))=kP:=by
 let q:=b4c n ws h;unfold SeqAt.shaped;simp only[PyData.canLay0,PyData.depth,q.1];show decide_eq_true (by lia)
def a55{p:Prop}[Decidable p](h:a=kP↔p):a=decide p:=by
 cases a with
 |true=>show (decide_eq_true (h.mp rfl)).symm
 |false=>show (decide_eq_false λq=>by cases h.mpr q).symm
def a0u{p q:Prop}[Decidable p][Decidable q](h:p=q):decide p=decide q:=by grind
def zEq(f:Bool->Bool):R3:=λx y G R=>match x,y with
 |.bl a,.bl b=>R (.bl (f (a==b))) G
 |.int a,.int b=>R (.bl (f (decide (a=b)))) G
 |.str a,.str b=>R (.bl (f (decide (a=b)))) G
 |.ref p,.ref q=>∃xs ys,G p=be (.lst xs)/\G q=be (.lst ys)/\xs.all (flat 8)=kP/\ys.all (flat 8)=kP/\R (.bl (f (decide (xs=ys)))) G
 |x,y=>flat 8 x=kP/\flat 8 y=kP/\R (.bl (f (decide (x=y)))) G
def b2Y{K:Fg}(h:low2 K (zEq f) x kR H Q) :
    (scal x kR=kP/\Q (.bl (f (decide (x=kR)))) H)\/∃d e,DV H d x/\DV H e kR/\SeqAt.shaped d=kP/\SeqAt.shaped e=kP/\Q (.bl (f (PyData.eqv d e))) H:=by
  let(a,b,G,R,g,c,i,h,j):=h;let p:flat 8 a=kP/\flat 8 b=kP/\R (.bl (f (decide (a=b)))) G->∃d e,DV H d x/\DV H e kR/\SeqAt.shaped d=kP/\SeqAt.shaped e=kP/\Q (.bl (f (PyData.eqv d e))) H:=by
    ext⟨n,m,w⟩;show(dZ a,dZ b,b1h 8 _ _ n g,b1h 8 _ _ m c,a1N n (by simp),a1N m (by simp),?_);rw[a55 (a9f 8 a b 8 n m)];show j _ _ _ _ w (by rw[a0w]) i (.refl _ _)
  cases a<;>cases b<;>first
    |show .inr (p h)
    | (rw[a0w]at g c;subst g c;show .inl (rfl,by rw[a8x];show j _ _ _ _ h (by rw[a0w]) i (.refl _ _)))
    | (rw[a0k]at g c;subst g c;show .inl (rfl,by rw[a0u (V.int.injEq _ _)];show j _ _ _ _ h (by rw[a0w]) i (.refl _ _)))
    | (rw[a0v]at g c;subst g c;show .inl (rfl,by rw[a0u (V.str.injEq _ _)];show j _ _ _ _ h (by rw[a0w]) i (.refl _ _)))
    | (rw[a0q]at g c
       subst g c;let(r,s,t,z,k,l,h):=h;let(u,q,v):=i _ _ t;let(B,o,A):=i _ _ z;show .inr (.list _,.list _,?_,?_,a1f k (by simp),a1f l (by simp),?_);show(_,u,rfl,q,a48 8 _ _ k v);show(_,B,rfl,o,a48 8 _ _ l A)
       . simp only[PyData.eqv]
         rw[a55 (a9g 8 8 r s k l)];show j _ _ _ _ h (by rw[a0w]) i (.refl _ _))
def o_eq(hu:X.A.units+66<cLine):OpQ X (gO .Eq) (zEq id):=a29 (op_eq.or (b6A hu)) λx y H Q h=>b2Y h
def o_ne(hu:X.A.units+66<cLine):OpQ X (gO .NotEq) (zEq not):=a29 (op_ne.or (b6B hu)) λx y H Q h=>b2Y h
def zIn(f:Bool->Bool):R3:=λx y G R=>match x,y with
 |.str a,.str b=>R (.bl (f (!(gN.Str.occurrences b a 0 b.length 1).isEmpty))) G
 |x,.ref q=>∃ws,G q=be (.lst ws)/\flat 8 x=kP/\ws.all (flat 8)=kP/\R (.bl (f (decide (x∈ws)))) G
 |x,.tup ws=>flat 8 x=kP/\ws.all (flat 8)=kP/\R (.bl (f (decide (x∈ws)))) G
 |_,_=>False
def b4d(x:Z)(hx:flat 8 x=kP):∀ws:List Z,ws.all (flat 8)=kP->((dZs ws).any λy=>PyData.eqv y (dZ x))=decide (x∈ws):=by ext z0;induction z0 with
 |nil=>ext _;simp[dZs]
 |cons w ws I0=>
  ext h;rw[bu,bO]at h;simp only[dZs,cG];rw[I0 h.2,a55 (a9f 8 w x 8 h.1 hx)]
  by_cases e:w=x
  .simp_all
  .let:¬ x=w:=λz=>e z.symm
   simp[e,this]
def b66(hf:∀b,f b=if neg=kP then !b else b){K:Fg}(h:low2 K (zIn f) x kR H Q) :
  (∃i j,x=.str i/\kR=.str j/\Q (.bl (f (!(gN.Str.occurrences j i 0 j.length 1).isEmpty))) H)\/rInD neg x kR H Q:=by
 let(a,b,G,R,o,m,r,h,t):=h;let s:∀p c d,kR=.ref p->_->Reps K H c d->flat 8 a=kP->c.all _=kP->R _ G->rInD neg x kR H Q:=λp c d e w n k g h=>by
  show(dZ a,p,dZs c,d,b1h 8 _ _ k o,e,w,a48 8 _ _ g n,a1N k (by simp),a1f g (by simp),?_);rw[b4d a k c g,<- hf];show t _ _ _ _ h (by rw[a0w]) r (.refl _ _)
 cases b with
 |str j=>
  cases a with
  |str i=>rw[a0v]at o m;show .inl (_,_,o,m,t _ _ _ _ h (by rw[a0w]) r (.refl _ _))
  |_=>show aN h
 |ref q=>
  let l:∃c,G q=be (.lst c)/\flat 8 a=kP/\c.all (flat 8)=kP/\R (.bl (f (decide (a∈c)))) G:=by cases a<;>show h
  let(c,e,k,g,l):=l;let(d,u,n):=r q _ e;show .inr (s q c d m (.inl u) n k g l)
 |tup c=>
  let(q,d,e,v,n):=m;let l:flat 8 a=kP/\c.all (flat 8)=kP/\R (.bl (f (decide (a∈c)))) G:=by cases a<;>show h
  let(k,g,l):=l;show .inr (s q c d e (.inr v) n k g l)
 |_=>cases a<;>show aN h
def o_in(hu:X.A.units+66<cLine):OpQ X (gO .In) (zIn id):=a29 (op_in_str.or (b6C hu)) λx y H Q h=>b66 (λb=>by simp) h
noncomputable def Its(x:Str):It:=(λi _=>i<x.cps.size,λi H v H'=>H'=H/\∃c,x.cps[i]?=be c/\v=.str ⟨#[c]⟩,λi _=>i=x.cps.size)
theorem a6N{P:gM}{w:World}{K:Fg}{tg:Expr}{it:Addr}{ty:String}{x:Str}{t:Tok}
  (hty:["enumerate","zip","dict_itemiterator","dict_reverseitemiterator","odict_iterator","itertools.zip_longest","itertools.pairwise"].contains ty=kQ)
  (W:∀A':Around,A'.handled=gV->Walks P w A' it [it] [it] x.cps.size (SignAt x) (λi h=>h.IsStrIter it ty x t i))
  (hself:∀(A:Around)(i:Nat)(s:Shared)(Q:Value->Shared->Prop)(E:Value->Shared->Prop),s.heap.IsStrIter it ty x t i->Q (.ref it) s->wpAny (model P w) A (pyIter (.ref it)) Q E s) :
  Turn P w K tg (Its x) [it] it (λi h=>h.IsStrIter it ty x t i) where
 mem:=by simp
 obj:=λi h st b hb=>by
  let e:b=it:=↑hb
  subst e;let(o,e,c,d):=st;show(o,e,λv z=>by rw[d]at z;cases z)
 keep:=λi h h' st k=>let (o,e,r):=st;(o,k it (by simp) o e,r)
 item:=by
  ext X hP hw hK hc i pins s σ H E I hf st hg;subst hP hw hK;let(f0,f1,f2,f3,f4,f5):=hf it (by simp);show (W X.A (I.ok.hd hc)).item i s _ _ hg st λv h' tk (c,u,hx,e) st' k=>?_;subst e;let I1:Inv X pins σ H { s with heap:=h',toks:=tk }:=I.turned (t':=tk) (λb o hb e=>k b o ↑hb e) f0 f1 f3 f4 f5;let(o,e,cl,d):=id st';show(_,rfl,a7C (s:={ s with heap:=h',toks:=tk }) e cl d hty (.str ⟨#[c]⟩,H,I1,(_,rfl),(rfl,c,hx,rfl),st',λb hb=>(hf b hb).1))
 done:=by
  ext X hP hw hK hc i pins s σ H E I hf st hg;subst hP hw hK;let(f0,f1,f2,f3,f4,f5):=hf it (by simp);let hg':i=x.cps.size:=hg;subst hg';show (W X.A (I.ok.hd hc)).done s _ _ st λh' tk k=>(rfl,I.turned (t':=tk) (λb o hb e=>k b o ↑hb e) f0 f1 f3 f4 f5)
 self:=hself
def iStr(tl:TE):TI:=fun σ H R=>tl σ H λv H1=>∃x,v=.str x/\R (Its x) H1
def b67(hl:PE X l tl):PI X tg l (iStr tl):=by
 ext c s σ H R I h;show thn (hl c s σ H _ I h) λv a (x,f,d,p,m)=>?_;let(y,e,q):=m;subst e;let(t,rfl):=p;let j:∀(o:Obj),∀b∈[a.heap.objs.size],FpOk X c f b:=λo b k=>by
  let e:b=a.heap.objs.size:=↑k
  subst e;show d.fpOk (aI _) (d.hok.fresh (aI _))
 cases ha:y.cps.all _
 .show wpAny_pyIter_wide ha ?_;show(a.heap.objs.size,[a.heap.objs.size],_,_,f,rfl,d.kept (λb o e=>Heap.get?_push_of_some _ e),a6N (by decide) (λn i=>Walks.strWide i _ y t) (λ_ _ _ _ _ g h=>wpAny_pyIter_striter_wide g h),
   (_,Heap.get?_push_size _ rfl,rfl,rfl),j default,q)
 .show wpAny_pyIter_ascii ha ?_;show(a.heap.objs.size,[a.heap.objs.size],_,_,f,rfl,d.kept (λb o e=>Heap.get?_push_of_some _ e),a6N (by decide) (λn i=>Walks.strAscii i _ y t) (λ_ _ _ _ _ g h=>wpAny_pyIter_striter_ascii g h),
   (_,Heap.get?_push_size _ rfl,rfl,rfl),j default,q)
theorem Vals.tog:∀{xs:List V}{us:List Value}{i:Nat}{u:Value},Vals xs us->us[i]?=be u->∃x,xs[i]?=be x/\RelV x u
 |_,_,_,_,.nil,e=>by simp at e
 |_,_,0,_,.cons r _,e=>by simp at e;subst e;show(_,rfl,r)
 |_,_,i+1,u,.cons _ t,e=>by
  let(x,a,b):=Vals.tog t ↑e;show(x,↑a,b)
def a9h(bs:List Bool):(a9 bs.length).all (λi=>bs.getD i kQ)=bs.all id:=by
 rw[cO];simp only[bU,ca,id]
 constructor
 .ext h b c;let(i,a,e):=List.getElem_of_mem c
  let:=h i a
  rw[cu,aP a]at this;rw[<- e];show this
 .ext h i a;rw[cu,aP a];show h _ (b5 a)
def a9i(hc:X.calm=kP):CallR X (.builtin "all") (λxs H Q=>∃(p:Addr)(bs:List Bool),xs=[.ref p]/\SqL X.K H p (bs.map V.bl)/\Q (.bl (bs.all id)) H):=by
 ext n s σ H M R Q I r h;let(p,a,rfl,E,q):=h;let(u,rfl,y):=a1K r;cases y;let(d,l,g,_):=I.list E;let B:p<s.heap.objs.size:=by let(o,_,e,_):=g;show Heap.lt_size e
 show call_all_walk (jq g.isList ?_);let D:X.A.in1.handled=gV:=I.ok.hd hc;let t:(s.heap.push { cls:=.type "list_iterator",data:=.fields #[.ref p,rawInt 0] }).IsList p d.toArray:=by
  let(o,e,c):=g.isList;show(o,Heap.get?_push_of_some _ e,c)
 show(_,_,_,_,_,_,λi=>a.getD i kQ,rfl,Walks.list D s.heap.objs.size p (aS B) d.toArray,((_,Heap.get?_push_size _ rfl,rfl,rfl),t),?_,?_)
 .ext i v N L J C j;let(x,f,w):=Vals.tog l ↑C;rw[aO]at f;cases hb:a[i]? with
  |none=>rw[hb]at f;cases f
  |some b=>
   rw[hb]at f;cases f;cases w;show iC ?_
   let:a.getD i kQ=b:=by simp_all
   dsimp only at j;rw[this]at j;show j
 .ext G F k;let e:(a9 d.toArray.size).all (λi=>a.getD i kQ)=a.all id:=by
   let z:d.toArray.size=a.length:=by rw[bt,<- l.length,aH]
   rw[z];show a9h a
  rw[e];show(.bl _,H,I.kept (λb o m=>k b o ↑(aS (Heap.lt_size m)) (Heap.get?_push_of_some _ m)),rfl,q)
def b68:OpR X (gO .Is) (λx y H Q=>∃a b,x=.bl a/\y=.bl b/\Q (.bl (a==b)) H):=by
 ext d s σ H x y v u Q I c e h;let(a,b,rfl,rfl,q):=h;cases c;cases e;show wpAny_is_plain rfl (a0l I q (by cases a<;>cases b<;>rfl))
def rSlS:V->Option Int->Option Int->Hp->VK->Prop:=λx lo hi H Q=>∃z,x=.str z/\z.length<=gH/\Q (.str (Txt.slice z lo hi)) H
def b69:SlR X rSlS:=by
 ext g s σ H x v A B f b C Q I w p y m h;let(z,rfl,r,q):=h;let(t,rfl):=w;let(o,e,c,d):=p;let a:∀f b,Q _ H->(Txt.slice z f b).length<=gH/\∀n k,EP X g σ Q (.str (Txt.slice z f b) n) { s with toks:=k }:=λf b q=>
  (aU (Txt.slice_le z _ _) r,λn k=>(.str _,H,I.tok k,(_,rfl),q))
 cases y with
 |none=>
  cases m with
  |none=>show("str",_,F.slot_str_getitem.lookup,iR _ _ _,jN (l:=gV) (u:=gV) (st:=gV) (o,e,c,d) rfl (jO (a _ _ q)))
  |int j u=>show("str",_,F.slot_str_getitem.lookup,iR _ _ _,jN (l:=gV) (u:=be (j,u,)) (st:=gV) (o,e,c,d) rfl (jO (a _ _ q)))
 |int i v=>
  cases m with
  |none=>show("str",_,F.slot_str_getitem.lookup,iR _ _ _,jN (l:=be (i,v,)) (u:=gV) (st:=gV) (o,e,c,d) rfl (jO (a _ _ q)))
  |int j u=>show("str",_,F.slot_str_getitem.lookup,iR _ _ _,jN (l:=be (i,v,)) (u:=be (j,u,)) (st:=gV) (o,e,c,d) rfl (jO (a _ _ q)))
def o_is:OpQ X (gO .Is) (zIs kQ):=a29 (op_isN.or b68) λx y H Q g=>g.un λa b G R d c e h f=>by
 cases b with
 |non=>rw[a0x]at c;show .inl (c,by rw[a3U d];show f _ _ _ _ h (by rw[a0w];rfl) e (.refl _ _))
 |bl b=>
  cases a with
  |bl a=>rw[a0w]at d c;show .inr (_,_,d,c,f _ _ _ _ h.2 (by rw[a0w]) e (.refl _ _))
  |_=>show aN h
 |_=>show aN h
def b4e:OpQ X (gO .IsNot) (zIs kP):=a29 b3C λx y H Q d=>d.un λa b G R g c e h f=>by
 cases b with
 |non=>rw[a0x]at c;show(c,by rw[a3U g];show f _ _ _ _ h (by rw[a0w];rfl) e (.refl _ _))
 |bl b=>
  cases a with
  |bl a=>show nomatch h.1
  |_=>show aN h
 |_=>show aN h
def zIx:R3:=λx y G R=>match x,y with
 |.ref p,.int i=>∃ws w,G p=be (.lst ws)/\atI ws i=be w/\R w G
 |.scr _ ns,.int i=>∃n,atI ns i=be n/\R (.int n) G
 |.tup ws,.int i=>∃w,atI ws i=be w/\R w G
 |.str z,.int i=>∃c,z.length<=gH/\atI z.cps.toList i=be c/\R (.str ⟨#[c]⟩) G
 |_,_=>False
def a9j{K:Fg}(r:Reps K H ws vs)(h:atI ws i=be kR):∃v,atI vs i=be v/\Rep K H kR v:=by
 unfold atI at h ⊢;rw[<- r.length];cases e:ixN ws.length i with
 |none=>rw[e]at h;cases h
 |some j=>
  rw[e]at h;show r.get h
def b4f{α β:Type}{f:α->β}{xs:List α}{x:α}(h:atI xs i=be x):atI (xs.map f) i=be (f x):=by
 unfold atI at h ⊢;rw[aH];cases e:ixN xs.length i with
 |none=>rw[e]at h;cases h
 |some j=>
  rw[e]at h;let a:xs[j]?=be x:=h
  change _[j]?=be _
  rw[aO,a];rfl
def x_ix:IxQ X zIx:=b6H b6q λx y H Q s=>s.un λa b G R d f g h i=>by
  cases a<;>cases b<;>first
    |show aN h
    | (rw[a0q]at d
       let(z,w,e,m,h):=h;let(q,k,j):=g _ _ e;let(v,o,l):=a9j j m;show .inl (_,_,_,v,d,f,SqL.of k,o,i _ _ _ _ h l g (.refl _ _)))
    | (rw[a2m]at d
       let(n,u,h):=h;show .inl (_,_,_,_,d.1,f,d.2.sq,b4f u,i _ _ _ _ h (by rw[a0k]) g (.refl _ _)))
    | (rw[a1u]at d
       let(p,q,e,k,j):=d;let(w,m,h):=h;let(v,o,l):=a9j j m;show .inr (.inl (p,q,_,v,e,f,SqT.of k,o,i _ _ _ _ h l g (.refl _ _))))
    | (rw[a0v]at d
       let(c,r,t,h):=h;show .inr (.inr (_,_,c,d,f,r,t,i _ _ _ _ h (by rw[a0v]) g (.refl _ _))))
noncomputable def cutZ{α:Type}(xs:List α)(lo hi:Option Int):List α:=(xs.drop (HT.sIx xs.length 0 lo)).take (HT.sIx xs.length xs.length hi-HT.sIx xs.length 0 lo)
def b4g(xs:List V)(lo hi:Option Int):cutV xs lo hi=cutZ xs lo hi:=rfl
def Reps.cut{K:Fg}(r:Reps K H ws vs)(lo hi:Option Int):Reps K H (cutZ ws lo hi) (cutV vs lo hi):=by
 unfold cutZ cutV;rw[<- r.length];show (r.drop _).take _
def b1i{α β:Type}(f:α->β)(xs:List α)(lo hi:Option Int):cutZ (xs.map f) lo hi=(cutZ xs lo hi).map f:=by
 unfold cutZ;rw[aH,fC,List.map_drop]
def zSl:L3r:=λx lo hi G R=>match x with
 |.ref p=>∃ws,G p=be (.lst ws)/\∀t,G t=gV->R (.ref t) (put G t (.lst (cutZ ws lo hi)))
 |.scr _ ns=>∀t,G t=gV->R (.ref t) (put G t (.lst ((cutZ ns lo hi).map Z.int)))
 |.tup ws=>¬ (HT.sIx ws.length 0 lo=0/\HT.sIx ws.length ws.length hi=ws.length)/\R (.tup (cutZ ws lo hi)) G
 |.str z=>z.length<=gH/\R (.str (Txt.slice z lo hi)) G
 |_=>False
def x_sl:SlQ X zSl:=b9l (sl_list.or (sl_tup.or b69)) λx l k H Q m=>m.un λa G R c d h g=>by
 cases a with
 |ref p=>
  let(n,e,h):=h;let(j,i,f):=d _ _ e;show .inl (p,j,c,SqL.of i,λt b=>g _ _ _ _ (h t (d.out b)) (by rw[a0q]) (d.set (.new b) (a02 (f.cut l k) (.new b))) (.new b))
 |scr p ns=>
  show .inl (p,_,c.1,c.2.sq,λt b=>?_);rw[b4g,b1i];show g _ _ _ _ (h t (d.out b)) (by rw[a0q]) (d.set (.new b) (a02 (a1W _) (.new b))) (.new b)
 |tup n=>
  let(p,j,e,i,f):=c;show .inr (.inl (p,j,e,SqT.of i,by rw[<- f.length];show h.1,λt b=>g _ _ _ _ h.2 (by rw[a1u];show(t,_,rfl,a0f,(f.cut l k).mono (.new b))) (d.hid b) (.new b)))
 |str z=>
  show .inr (.inr (z,c,h.1,g _ _ _ _ h.2 (by rw[a0v]) d (.refl _ _)))
 |_=>show aN h
def zSet:Z3:=λo i v G R=>match o,i with
 |.ref p,.int k=>∃ws j,G p=be (.lst ws)/\ixN ws.length k=be j/\R (put G p (.lst (ws.set j v)))
 |_,_=>False
def b1j:SetQ X zSet:=b2U b0W λo i v H Q p=>p.un λa b w G R f g l k h q=>by
  cases a<;>cases b<;>first
    |show aN h
    | (rw[a0q]at f
       let(r,j,e,m,h):=h;let(n,c,d):=k _ _ e;show(_,n,_,j,f,g,c,by rw[<- d.length];show m,q _ _ h (k.set (.lst c) (a02 (d.set l j) (.lst c))) (.lst c)))
def zLen:List Z->Hq->K3->Prop:=λxs G R=>match xs with
 |[.str z]=>z.length<=gH/\R (.int z.length) G
 |[.ref p]=>∃ws,G p=be (.lst ws)/\R (.int ws.length) G
 |[.tup ws]=>R (.int ws.length) G
 |[.scr _ ns]=>R (.int ns.length) G
 |_=>False
def b9x:a1X X (.builtin "len") zLen:=a1w b0P λl H Q k=>k.un λj G R c a h d=>by
 match j,h with
 |[.str z],h=>
  let(v,rfl,r):=c.one;show(v,z.length,rfl,by rw[r];show(h.1,rfl),d _ _ _ _ h.2 (by rw[a0k]) a (.refl _ _))
 |[.ref p],h=>
  let(v,rfl,r):=c.one;let(i,e,h):=h;let(g,f,b):=a _ _ e;show(v,i.length,rfl,by rw[r];show .inl (g,SqL.of f,b.length),d _ _ _ _ h (by rw[a0k]) a (.refl _ _))
 |[.tup i],h=>
  let(v,rfl,r):=c.one;let(p,g,e,f,b):=r;show(v,i.length,rfl,by rw[e];show .inr (g,SqT.of f,b.length),d _ _ _ _ h (by rw[a0k]) a (.refl _ _))
 |[.scr p ns],h=>
  let(v,rfl,r):=c.one;show(v,ns.length,rfl,by rw[r.1];show .inl (_,r.2.sq,(aH ..).symm),d _ _ _ _ h (by rw[a0k]) a (.refl _ _))
def zMM(f:Int->Int->Int):List Z->Hq->K3->Prop:=λxs G R=>match xs with
 |[.int i,.int j]=>R (.int (f i j)) G
 |_=>False
def bMM{id:String}(hf:CallR X (.builtin id) (λxs H Q=>∃i j,xs=[.int i,.int j]/\Q (.int (f i j)) H)):a1X X (.builtin id) (zMM f):=a1w hf λl H Q d=>d.un λc G R e b h g=>by
 match c,h with
 |[.int i,.int j],h=>
  let(v,k,rfl,r,a):=e.two;show(i,j,by rw[r,a],g _ _ _ _ h (by rw[a0k]) b (.refl _ _))
def b9y(hc:X.calm=kP):a1X X (.builtin "max") (zMM λi j=>if j > i then j else i):=bMM (a8D hc)
def b9z(hc:X.calm=kP):a1X X (.builtin "min") (zMM λi j=>if j<i then j else i):=bMM (a8E hc)
def zAll:List Z->Hq->K3->Prop:=λxs G R=>match xs with
 |[.ref p]=>∃bs:List Bool,G p=be (.lst (bs.map Z.bl))/\R (.bl (bs.all id)) G
 |_=>False
def b1k{K:Fg}:∀{bs:List Bool}{vs:List V},Reps K H (bs.map Z.bl) vs->vs=bs.map V.bl:=by ext z0;induction z0 with
 |nil=>ext vs h;rw[bN,a0p]at h;subst h;rfl
 |cons n ns I0=>
  ext vs h;let(v,r,rfl,a,b):=h;rw[a,I0 b];rfl
def b7a(hc:X.calm=kP):a1X X (.builtin "all") zAll:=a1w (a9i hc) λl H Q f=>f.un λd G R c a h j=>by
 match d,h with
 |[.ref p],h=>
  let(v,rfl,r):=c.one;let(g,e,h):=h;let(k,i,b):=a _ _ e
  let:=b1k b
  subst this;show(p,g,by rw[r],SqL.of i,j _ _ _ _ h (by rw[a0w]) a (.refl _ _))
noncomputable def kit0(n T:String):Option Bool:=if (Value.type n==Value.type T)=kP then be kP else if PySem.W.kitMeta T=kP then (PySem.fastBuiltinMro n).map (·.contains (.type T)) else gV
def b7b{K:Fg}:PySem.W.kitOne K (.type n) (.type T)=kit0 n T:=rfl
noncomputable def tyN(G:Hq):Z->Option String
 |.non=>be "NoneType"
 |.bl _=>be "bool"
 |.int _=>be "int"
 |.str _=>be "str"
 |.tup _=>be "tuple"
 |.ref p=>match G p with
  |some (.lst _)=>be "list"
  |some (.dK _)=>be "dict"
  |_=>gV
 |_=>gV
def zIsT:List Z->Hq->K3->Prop:=λxs G R=>match xs with
 |[x,.ty T]=>∃n b,tyN G x=be n/\kit0 n T=be b/\R (.bl b) G
 |_=>False
def b1l{K:Fg}(h:tyN G x=be n)(r:Rep K H x v)(hg:RH K G H):TyOf K H v (.type n):=by
 cases x with
 |non=>rw[a0x]at r;subst r;cases h;show .non
 |bl _=>rw[a0w]at r;subst r;cases h;show .bl _
 |int _=>rw[a0k]at r;subst r;cases h;show .int _
 |str _=>rw[a0v]at r;subst r;cases h;show .str _
 |tup ws=>rw[a1u]at r;let(a,c,rfl,e,_):=r;cases h;show .tup e
 |ref p=>
  subst r;cases e:G p with
  |none=>simp[tyN,e]at h
  |some o=>
   cases o with
   |lst ws=>simp[tyN,e]at h;subst h;let(c,b,_):=hg _ _ e;show .lst b
   |dK kvs=>simp[tyN,e]at h;subst h;let(c,b,_):=hg _ _ e;show .dK b
   |ins C dx fs=>simp[tyN,e]at h
   |dF kvs=>simp[tyN,e]at h
   |dT ks=>simp[tyN,e]at h
   |tab _ _=>simp[tyN,e]at h
 |ty _=>cases h
 |scr _ _=>cases h
def b9A:a1X X (.builtin "isinstance") zIsT:=a1w b1b λl H Q g=>g.un λf G R d a h i=>by
 match f,h with
 |[x,.ty T],h=>
  let(v,j,rfl,r,c):=d.two;let(n,b,e,k,h):=h;show(v,T,.type n,b,by rw[c],b1l e r a,by rw[b7b];show k,i _ _ _ _ h (by rw[a0w]) a (.refl _ _))
def a2p:Z->List Z->Hq->K3->Prop:=λx xs G R=>match x,xs with
 |.ref p,[y]=>∃ws,G p=be (.lst ws)/\ws.length<gH/\R .non (put G p (.lst (ws++[y])))
 |_,_=>False
def a6O:MtQ X "list.append" a2p:=a5Z a42 λx n H Q j=>j.un λw k G R c f d h l=>by
 match w,k,h with
 |.ref p,[y],h=>
  let(v,rfl,r):=f.one;let(m,e,g,h):=h;let(i,a,b):=d _ _ e;show(p,i,v,c,rfl,a,by rw[<- b.length];show g,l _ _ _ _ h (by rw[a0x]) (d.set (.lst a) (a02 (b.append (.cons r .nil)) (.lst a))) (.lst a))
def a9k:Z->List Z->Hq->K3->Prop:=λx xs G R=>match x,xs with
 |.ref p,[.ref q]=>∃ws ys,G p=be (.lst ws)/\G q=be (.lst ys)/\ws.length+ys.length<=gH/\R .non (put G p (.lst (ws++ys)))
 |_,_=>False
def b1m:MtQ X "list.extend" a9k:=a5Z a8P λx u H Q m=>m.un λw n G R d i f h s=>by
 match w,n,h with
 |.ref p,[.ref q],h=>
  let(v,rfl,r):=i.one;let(t,y,e,k,j,h):=h;let(l,a,c):=f _ _ e;let(o,g,b):=f _ _ k;show(p,q,l,o,d,by rw[r],a,g,by rw[<- c.length,<- b.length];show j,s _ _ _ _ h (by rw[a0x]) (f.set (.lst a) (a02 (c.append b) (.lst a))) (.lst a))
def b7c:E3:=λ_ G R=>∀p,G p=gV->R (.ref p) (put G p (.dK []))
def a3V:QE X (.Dict [] [] pos) b7c:=⟨a0P b00 fun τ H Q (σ,G,R,d,b,h,c) p a=>c _ _ _ _ (h p (b.out a)) (by rw[a0q]) (b.set (.new a) ([],a0f,rfl,.nil)) (.new a)⟩
noncomputable def a2O(x:Str):List Z:=x.cps.toList.map λc=>.str ⟨#[c]⟩
def wkS(x:Z)(G:Hq)(R:List Z->(Hq->Prop)->Hq->Prop):Prop:=match x with
 |.str z=>R (a2O z) (λ_=>True) G
 |_=>False
def iS(tl:E3):I3:=fun σ G R=>tl σ G λx G1=>wkS x G1 R
def a9l{K:Fg}:a3B K (a2O x) (λ_=>True) (Its x) H0:=λi G H f t j k=>by
 let e:(a2O x).length=x.cps.size:=by unfold a2O;rw[aH,bf]
 show(λh=>by rw[h,e];rfl,λw a=>?_);unfold a2O at a;rw[aO]at a;cases hc:x.cps.toList[i]? with
 |none=>rw[hc]at a;cases a
 |some c=>
  rw[hc]at a;cases a;let b:x.cps[i]?=be c:=by simp_all
  show((dN.mp b).1,?_);ext v l ⟨rfl,g,d,rfl⟩;rw[b]at d;cases d;show(by rw[a0v],f,.refl _ _)
def b7d(hl:QE X l tl):QI X tg l (iS tl):=a53 (b67 hl.p) fun τ H j g=>g.un fun σ G R f e h i=>by
 show(σ,G,_,f,e,h,λw m v k a c b d=>?_);cases w with
 |str x=>
  show(x,c,i _ _ _ _ _ a a9l b d)
 |_=>show aN a
section
variable{σ:S3}{G:Hq}{R:K3}{Rb:Bool->Hq->Prop}{Ra:List Z->Hq->Prop}{nx bk ct:C3}{rt:K3}{t u:X3}{te ta tb tc ti:E3}{c d:T3}{al:A3}{r r':R3}{w x y:Z}{i:Nat}
def b9B(e:σ[i]?=be (be w))(h:R w G):uVar i σ G R:=(w,e,h)
def i_c(h:R w G):uC w σ G R:=h
def i_op(h:ta σ G λx G1=>tb σ G1 λy G2=>r x y G2 R):uOp r ta tb σ G R:=h
def i_un{r:Z->Hq->K3->Prop}(h:ta σ G λx G1=>r x G1 R):uUn r ta σ G R:=h
def b7e(h:ta σ G λx G1=>∃k,x=.bl k/\Rb k G1):a85 ta σ G Rb:=h
def b4h(h:ta σ G λx G1=>tb σ G1 λy G2=>r x y G2 λz G3=>∃k,z=.bl k/\(if k=kP then tc σ G3 λw G4=>r' y w G4 R else R (.bl kQ) G3)):a6M r r' ta tb tc σ G R:=h
def b9C(h:c σ G λk G1=>if k=kP then d σ G1 Rb else Rb kQ G1):uAnd c d σ G Rb:=h
def i_or(h:c σ G λk G1=>if k=kP then Rb kP G1 else d σ G1 Rb):uOr c d σ G Rb:=h
def b9D(h:c σ G λk G1=>Rb (!k) G1):uNot c σ G Rb:=h
def b7f(h:ta σ G λx G1=>∃c,x=.bl c/\if c=kP then tb σ G1 R else R (.bl kQ) G1):b6O ta tb σ G R:=h
def b9E(h:ta σ G λx G1=>∃c,x=.bl c/\if c=kP then R (.bl kP) G1 else tb σ G1 R):uOrV ta tb σ G R:=h
def i_if(h:c σ G λk G1=>if k=kP then ta σ G1 R else tb σ G1 R):uIf c ta tb σ G R:=h
def b9F(h:ta σ G λx G1=>tru x G1 Rb):uTru ta σ G Rb:=h
def a9m(e:G p=be (.lst ws))(h:Rb (!ws.isEmpty) G):tru (.ref p) G Rb:=.inl (ws,e,h)
def i_sl{r:L3r}(h:te σ G λx G1=>tl σ G1 λl G2=>th σ G2 λu G3=>r x l u G3 R):uSl r te tl th σ G R:=h
def b1n(h:Ro gV G):a86 σ G Ro:=h
def b7g(h:te σ G λx G1=>∃i,x=.int i/\Ro (be i) G1):b6Q te σ G Ro:=h
def b9G(h:Ra [] G):uNil σ G Ra:=h
def b7h(h:ta σ G λx G1=>al σ G1 λxs G2=>Ra (x::xs) G2):b30 ta al σ G Ra:=h
def b9H(h:al σ G λxs G1=>xs.length<=gH/\R (.tup xs) G1):uTup al σ G R:=h
def b9I(h:al σ G λxs G1=>xs.length<=gH/\∀p,G1 p=gV->R (.ref p) (put G1 p (.lst xs))):uLst al σ G R:=h
def i_cb{r:List Z->Hq->K3->Prop}(h:al σ G λws G1=>r ws G1 R):uCB r al σ G R:=h
def i_bm{r:Z->List Z->Hq->K3->Prop}(h:to σ G λx G1=>tyZ T x G1/\al σ G1 λxs G2=>r x xs G2 R):uBM T r to al σ G R:=h
def b7i(h:al σ G λws G1=>sp ws G1 R):b34 sp al σ G R:=h
def b7j(h:nx σ G):b35 nx rt bk ct σ G:=h
def c0D(h:t (u nx rt bk ct) rt bk ct σ G):uSeq t u nx rt bk ct σ G:=h
def b7k(h:te σ G λ_ G1=>nx σ G1):b6Z te nx rt bk ct σ G:=h
def b9J(h:te σ G rt):uRet te nx rt bk ct σ G:=h
def b9K(h:c σ G λb G1=>if b=kP then t nx rt bk ct σ G1 else u nx rt bk ct σ G1):uIfS c t u nx rt bk ct σ G:=h
def b9L(h:te σ G λx G1=>∃σ',a3A pt x σ=be σ'/\nx σ' G1):uAsg te pt nx rt bk ct σ G:=h
def b9M{r:Z3}(h:te σ G λw G1=>to σ G1 λo G2=>ti σ G2 λi G3=>r o i w G3 λG4=>nx σ G4):uPut te to ti r nx rt bk ct σ G:=h
def b9N(e:σ[i]?=be (be x))(h:te σ G λy G1=>r x y G1 λz G2=>nx (σ.set i (be z)) G2):uAug i te r nx rt bk ct σ G:=(x,e,h)
def a49(M:C3)(h:t M rt bk ct σ G)(h':∀σ' G',M σ' G'->u nx rt bk ct σ' G'):uCut t u nx rt bk ct σ G:=(M,h,h')
def b7l(h:R (.int (a+b)) G):zAdd (.int a) (.int b) G R:=h
def a9n(z:a.length+b.length<=gH)(h:R (.str (a++b)) G):zAdd (.str a) (.str b) G R:=(z,h)
def b7m(e:xs≠[])(z:xs.length+ys.length<=gH)(h:R (.tup (xs++ys)) G):zAdd (.tup xs) (.tup ys) G R:=(e,z,h)
def a6P(e:G p=be (.lst xs))(e':G q=be (.lst ys))(z:xs.length+ys.length<=gH)(h:∀t,G t=gV->R (.ref t) (put G t (.lst (xs++ys)))):zAdd (.ref p) (.ref q) G R:=(xs,ys,e,e',z,h)
def i_I(k:C a b)(h:R (g a b) G):zI C g (.int a) (.int b) G R:=(k,h)
def i_I0(h:R (g a b) G):zI0 g (.int a) (.int b) G R:=h
def b9O(h:R (.int (-a)) G):zNeg (.int a) G R:=h
def i_CI(h:R (.bl (f a b)) G):zC f g (.int a) (.int b) G R:=h
def i_CS(h:R (.bl (g a b)) G):zC f g (.str a) (.str b) G R:=h
def b9P(h:R (.bl (decide (x=.non))) G):zIs kQ x .non G R:=h
def b7n(h:R (.bl (!decide (x=.non))) G):zIs kP x .non G R:=h
def b7o(h:R (.bl (f (decide (a=b)))) G):zEq f (.int a) (.int b) G R:=h
def b9Q(h:R (.bl (f (decide (a=b)))) G):zEq f (.str a) (.str b) G R:=h
def b1o(e:G p=be (.lst xs))(e':G q=be (.lst ys))(f1:xs.all (flat 8)=kP)(f2:ys.all (flat 8)=kP)(h:R (.bl (f (decide (xs=ys)))) G):zEq f (.ref p) (.ref q) G R:=(xs,ys,e,e',f1,f2,h)
def a0y(e:G p=be (.lst ws))(a:atI ws k=be w)(h:R w G):zIx (.ref p) (.int k) G R:=(ws,w,e,a,h)
def b9R(a:atI ns k=be n)(h:R (.int n) G):zIx (.scr p ns) (.int k) G R:=(n,a,h)
def a0W(a:atI ws k=be w)(h:R w G):zIx (.tup ws) (.int k) G R:=(w,a,h)
def b4i(l:z.length<=gH)(a:atI z.cps.toList k=be ch)(h:R (.str ⟨#[ch]⟩) G):zIx (.str z) (.int k) G R:=(ch,l,a,h)
def b7p{lo hi:Option Int}(l:z.length<=gH)(h:R (.str (Txt.slice z lo hi)) G):zSl (.str z) lo hi G R:=(l,h)
def b7q{lo hi:Option Int}(e:G p=be (.lst ws))(h:∀t,G t=gV->R (.ref t) (put G t (.lst (cutZ ws lo hi)))):zSl (.ref p) lo hi G R:=(ws,e,h)
def b9S{lo hi:Option Int}(h:∀t,G t=gV->R (.ref t) (put G t (.lst ((cutZ ns lo hi).map Z.int)))):zSl (.scr p ns) lo hi G R:=h
def b4j{lo hi:Option Int}(n:¬ (HT.sIx ws.length 0 lo=0/\HT.sIx ws.length ws.length hi=ws.length))(h:R (.tup (cutZ ws lo hi)) G):zSl (.tup ws) lo hi G R:=(n,h)
def b1p(e:G p=be (.lst ws))(a:ixN ws.length k=be j)(h:Rg (put G p (.lst (ws.set j w)))):zSet (.ref p) (.int k) w G Rg:=(ws,j,e,a,h)
def b7r(h:∀p,G p=gV->R (.ref p) (put G p (.dK []))):b7c σ G R:=h
def a9o(l:z.length<=gH)(h:R (.int z.length) G):zLen [.str z] G R:=(l,h)
def a2I(e:G p=be (.lst ws))(h:R (.int ws.length) G):zLen [.ref p] G R:=(ws,e,h)
def b7s(h:R (.int ns.length) G):zLen [.scr p ns] G R:=h
def i_mm(h:R (.int (f a b)) G):zMM f [.int a,.int b] G R:=h
def b9T{bs:List Bool}(e:G p=be (.lst (bs.map Z.bl)))(h:R (.bl (bs.all id)) G):zAll [.ref p] G R:=(bs,e,h)
def a0s(e:G p=be (.lst ws))(z:ws.length<gH)(h:R .non (put G p (.lst (ws++[y])))):a2p (.ref p) [y] G R:=(ws,e,z,h)
def a6Q(e:G p=be (.lst ws))(e':G q=be (.lst ys))(z:ws.length+ys.length<=gH)(h:R .non (put G p (.lst (ws++ys)))):a9k (.ref p) [.ref q] G R:=(ws,ys,e,e',z,h)
def b9U{P:Prop}(h:P):tyZ "str" (.str z) G/\P:=(rfl,h)
def a0U{P:Prop}(e:G p=be (.lst ws))(h:P):tyZ "list" (.ref p) G/\P:=(.inl (rfl,ws,e),h)
def i_nm(h:nx (σ.set j (be w)) G):∃σ',a3A (.nm j) w σ=be σ'/\nx σ' G:=(_,rfl,h)
def b9V(e:G q=be (.lst ws))(f1:flat 8 x=kP)(f2:ws.all (flat 8)=kP)(h:R (.bl (f (decide (x∈ws)))) G):zIn f x (.ref q) G R:=by cases x<;>show(ws,e,f1,f2,h)
def b7t{tb:X3}(h:wi σ G λws ok G1=>FORB ws ok pt tb nx rt σ G1):uFor wi pt tb nx rt bk ct σ G:=h
def b9W(h:wi σ G λws ok G1=>∀D,G1 D=gV->LCB ws ok cap pt tt te σ R D G1):uLC wi cap pt tt te σ G R:=h
variable{Ri:List Z->(Hq->Prop)->Hq->Prop}
def i_iL(h:te σ G λx G1=>wkL x G1 Ri):iL te σ G Ri:=h
def i_iT(h:te σ G λx G1=>wkT x G1 Ri):iT te σ G Ri:=h
def i_iS(h:te σ G λx G1=>wkS x G1 Ri):iS te σ G Ri:=h
def b9X(h:al σ G λws G1=>∃j:Int,ws=[.int j]/\-(2 ^ 62)<=j/\j<2 ^ 62/\Ri (rng 0 j.toNat) (λ_=>True) G1):iR1 al σ G Ri:=h
def a1b(e:G p=be (.lst ws))(h:Ri ws (λG=>G p=be (.lst ws)) G):wkL (.ref p) G Ri:=(ws,e,h)
def b9Y(h:Ri ws (λ_=>True) G):wkT (.tup ws) G Ri:=h
def b9Z(h:Ri (a2O z) (λ_=>True) G):wkS (.str z) G Ri:=h
def i_tt(h:Rb kP G):uTT σ G Rb:=h
end
def ifD{p A B:Prop}[Decidable p](h1:p->A)(h2:¬ p->B):if decide p=kP then A else B:=by simp_all
def ifN{p A B:Prop}[Decidable p](h1:¬ p->A)(h2:p->B):if (!decide p)=kP then A else B:=by simp_all
def ifB{A B:Prop}(h1:b=kP->A)(h2:b=kQ->B):if b=kP then A else B:=by simp_all
def ifNB{A B:Prop}(h1:b=kQ->A)(h2:b=kP->B):if (!b)=kP then A else B:=by grind
def ifT{A B:Prop}(h:A):if kP=kP then A else B:=by rw[if_pos rfl];show h
def ifF{A B:Prop}(h:B):if kQ=kP then A else B:=by rw[if_neg (by decide)];show h
def ifNN{A B:Prop}(h:A):if decide (Z.non=Z.non)=kP then A else B:=by simp_all
def ifNI{A B:Prop}(h:B):if decide (Z.int i=Z.non)=kP then A else B:=by rw[if_neg (by simp)];show h
def ifNU{A B:Prop}(h:B):if decide (Z.tup i=Z.non)=kP then A else B:=by rw[if_neg (by simp)];show h
def ifMN{A B:Prop}(h:B):if (!decide (Z.non=Z.non))=kP then A else B:=by rw[if_neg (by simp)];show h
def ifMI{A B:Prop}(h:A):if (!decide (Z.int i=Z.non))=kP then A else B:=by rw[if_pos (by simp)];show h
def ifMU{A B:Prop}(h:A):if (!decide (Z.tup i=Z.non))=kP then A else B:=by rw[if_pos (by simp)];show h
def at0{α:Type}{a:α}{r:List α}:atI (a::r) 0=be a:=a0E (j:=0) rfl
def at1{α:Type}{a b:α}{r:List α}:atI (a::b::r) 1=be b:=a0E (j:=1) rfl
def at2{α:Type}{a b c:α}{r:List α}:atI (a::b::c::r) 2=be c:=a0E (j:=2) rfl
def Sm(G G':Hq):Prop:=∀b o,G b=be o->G' b=be o
def Sm.refl(G:Hq):Sm G G:=λ_ _ h=>h
def Sm.trans(a:Sm G G1)(b:Sm G1 G2):Sm G G2:=λc o h=>b c o (a c o h)
def Sm.get(s:Sm G G')(h:G b=be o):G' b=be o:=s b o h
def Sm.new(h:G p=gV):Sm G (put G p o):=λ_ _ e=>a0b e h
def Sm.free(s:Sm G G')(h:G' p=gV):G p=gV:=by
 cases e:G p with
 |none=>rfl
 |some o=>rw[s p o e]at h;cases h
def Kq(r:Addr)(G G':Hq):Prop:=∀b o,G b=be o->b≠r->G' b=be o
def Kq.refl(r:Addr)(G:Hq):Kq r G G:=λ_ _ h _=>h
def Kq.trans(a:Kq r G G1)(b:Kq r G1 G2):Kq r G G2:=λc o h n=>b c o (a c o h n) n
def Kq.new(h:G p=gV):Kq r G (put G p o):=λ_ _ e _=>a0b e h
def Kq.at:Kq r G (put G r o):=λ_ _ e n=>by rw[put_ne n];show e
def Sm.kq(s:Sm G G'):Kq r G G':=λb o e _=>s b o e
noncomputable def Sm.put(s:Sm G G')(h:G p=gV):Sm G (put G' p o):=λb u e=>by rw[put_ne (a0g e h)];show s b u e
namespace Tim
abbrev KF:=Keyed->Int
noncomputable def Kk(κ:KF)(xs:Array Keyed)(i:Nat):Int:=match xs[i]? with
 |some p=>κ p
 |none=>0
section
variable{xs ys:Array Keyed}{i j:Nat}{p:Keyed}
def a56(h:xs[i]?=be p):Kk κ xs i=κ p:=by unfold Kk;rw[h]
def a3c(h:xs[i]?=ys[j]?):Kk κ xs i=Kk κ ys j:=by unfold Kk;rw[h]
end
def LtOk(M:Model)(A:Around)(E:Value->Shared->Prop)(s:Shared)(κ:KF)(k0:im)(ajj:Array Keyed):Prop:=
 ∀x y,x∈ajj.toList->y∈ajj.toList->∀(st:SortSt)(Q:Option Bool->SortSt->Prop),kindOf st=k0->Q (be (decide (κ x<κ y))) st->wpS M A E s (lt' x y) Q st
structure TB (k0:im) (ajj:Array Keyed) (st:SortSt):Prop where
 pm:(arrOf st).Perm ajj
 kd:kindOf st=k0
 fl:ic st=gV
def TB.sz{st:SortSt}(h:TB k0 ajj st):(arrOf st).size=ajj.size:=h.pm.size_eq
def TB.mem{st:SortSt}(h:TB k0 ajj st){i:Nat}(e:(arrOf st)[i]?=be p):p∈ajj.toList:=by
 let a:p∈(arrOf st).toList:=by rw[fj];show Array.mem_of_getElem? e
 show (dk.mp h.pm).mem_iff.mp a
def TB.arr{st:SortSt}(h:TB k0 ajj st)(hp:xs.Perm (arrOf st)):TB k0 ajj (setArr st xs):=(hp.trans h.pm,h.kd,h.fl)
section
variable{M:Model}{k0:im}{ajj:Array Keyed}{st:SortSt}
def a0A(e:arr[i]?=be p)(h:Q p st):wpS M A E s (elem' arr i) Q st:=by
 rw[elem'_eq,e];show gK h
def a5a(L:LtOk M A E s κ k0 ajj)(B:TB k0 ajj st)(hi:i<ajj.size)(hj:j<ajj.size)
  (h:Q (be (decide (Kk κ (arrOf st) i<Kk κ (arrOf st) j))) st):wpS M A E s (ltAt' i j) Q st:=by
 let b:_[i]?=be ((arrOf st)[i]'(B.sz▸hi)):=getElem?_pos ..;let a:(arrOf st)[j]?=be ((arrOf st)[j]'(B.sz▸hj)):=getElem?_pos ..;show gI (ir (gI (a0A b (gI (a0A a (L _ _ (B.mem b) (B.mem a) st Q B.kd ?_))))));rw[a56 b,a56 a]at h;show h
end
noncomputable def a1x:Bool->Keyed->Array Keyed->Nat->Nat->Nat->StateT SortSt Sem (Option Nat):=sortPriv% PySem.Builtin.gallop
noncomputable def bey(lft:Bool)(ky:Keyed)(ar:Array Keyed)(bs:Nat)(q:Nat):StateT SortSt Sem (Option Bool):=do
  let z <- elem' ar (bs+q)
  if lft then lt' z ky else return (<- lt' ky z).map (!·)
def a7Q(lft:Bool)(ky:Keyed)(ar:Array Keyed)(bs n hnt:Nat):a1x lft ky ar bs n hnt=(do
 let mut lst:=0
 let mut oo:=1
 let mut l:=0
 let mut h:=0
 let be rgt <- bey lft ky ar bs hnt |return gV
 if rgt then
  let mx:=n-hnt
  for _ in [0:n] do
   if oo>=mx then break
   let be mo <- bey lft ky ar bs (hnt+oo) |return gV
   if !mo then break
   lst:=oo
   oo:=2*oo+1
  l:=hnt+lst+1
  h:=hnt+min oo mx
 else
  let mx:=hnt+1
  for _ in [0:n] do
   if oo>=mx then break
   let be fo <- bey lft ky ar bs (hnt-oo) |return gV
   if fo then break
   lst:=oo
   oo:=2*oo+1
  l:=hnt+1-min oo mx
  h:=hnt-lst
 for _ in [0:n] do
  if l>=h then break
  let m:=l+(h-l) / 2
  let be mo <- bey lft ky ar bs m |return gV
  if mo then l:=m+1 else h:=m
 return be h):=rfl
noncomputable def bq(lft:Bool)(k x:Int):Bool:=if lft then decide (x<k) else !decide (k<x)
section
variable{M:Model}{k0:im}{ajj:Array Keyed}{st:SortSt}
def a9p(L:LtOk M A E s κ k0 ajj)(hk:kindOf st=k0)(hm:ky∈ajj.toList)(ha:∀p∈ar.toList,p∈ajj.toList)(hq:bs+q<ar.size)
  (h:Q (be (bq lft (κ ky) (Kk κ ar (bs+q)))) st):wpS M A E s (bey lft ky ar bs q) Q st:=by
 let b:ar[bs+q]?=be (ar[bs+q]'hq):=getElem?_pos ..;let a:ar[bs+q]∈ajj.toList:=ha _ (by simp);show gI (a0A b ?_);rw[a56 b]at h;cases lft with
 |true=>
  show L _ _ a hm st Q hk h
 |false=>
  show gI (L _ _ hm a st _ hk (gK h))
def hvN{l r:Nat}(h:¬ l>=r):l<=l+(r-l) / 2/\l+(r-l) / 2<r:=by cbv
def hvM{p q:Nat}(h:¬ p>=q):p<=(p+q) / 2/\(p+q) / 2<q:=by cbv
def hvS{k x p q m:Nat}(h:x<k)(h2:q-p<=k-x)(h3:p<=m)(h4:m<q):m-p<=k-(x+1)/\q-(m+1)<=k-(x+1):=by cbv
def hvC{a b n:Nat}(m:a<b)(o:a<=n):n+1-min b (n+1)<=n-a:=by cbv
def hvD{a b h n:Nat}(m:a<b)(o:h+a<n):h+a+1<=h+min b (n-h):=by cbv
def a1B(L:LtOk M A E s κ k0 ajj)(hk:kindOf st=k0)(hm:ky∈ajj.toList)(ha:∀p∈ar.toList,p∈ajj.toList)
  (hn:bs+n<=ar.size) (hh:hnt<n) (mono:∀i j,i<=j->j<n->Kk κ ar (bs+i)<=Kk κ ar (bs+j))
  (h:∀h,h<=n->(∀i,i<h->bq lft (κ ky) (Kk κ ar (bs+i))=kP)->(∀i,h<=i->i<n->bq lft (κ ky) (Kk κ ar (bs+i))=kQ)->Q (be h) st):wpS M A E s (a1x lft ky ar bs n hnt) Q st:=by
 let t:∀i j,i<=j->j<n->bq lft (κ ky) (Kk κ ar (bs+j))=kP->bq lft (κ ky) (Kk κ ar (bs+i))=kP:=λi j C F H=>by
  let:=mono i j C F
  unfold bq at *;cases lft<;>simp at *<;>lia
 let D:∀i j,i<=j->j<n->bq lft (κ ky) (Kk κ ar (bs+i))=kQ->bq lft (κ ky) (Kk κ ar (bs+j))=kQ:=λi j C F H=>by grind
 rw[a7Q];show gI (a9p L hk hm ha (by lia) ?_);dsimp only;cases e0:bq lft (κ ky) (Kk κ ar (bs+hnt)) with
 |true=>
  rw[if_pos rfl];show gI (ie (h7 (I:=λx c d=>d=st/\∃a b,c=(gV,a,b,)/\a<b/\x+1<=b/\hnt+a<n/\bq lft (κ ky) (Kk κ ar (bs+(hnt+a)))=kP)
   (Q:=λc d=>d=st/\∃a b,c=(gV,a,b,)/\a<b/\hnt+a<n/\bq lft (κ ky) (Kk κ ar (bs+(hnt+a)))=kP/\(n-hnt<=b\/(hnt+b<n/\bq lft (κ ky) (Kk κ ar (bs+(hnt+b)))=kQ))) ?step ?fin ?init) ?post)
  case init=>show(rfl,0,1,rfl,by lia,by lia,by lia,e0)
  case fin=>
   ext c d ⟨rfl,a,b,rfl,m,k,o,f⟩;show(rfl,a,b,rfl,m,o,f,.inl (by lia))
  case step=>
   ext x c d _ G ⟨rfl,a,b,rfl,m,k,o,f⟩;dsimp only
   by_cases hge:b>=n-hnt
   .rw[if_pos hge];show gK (rfl,a,b,rfl,m,o,f,.inl hge)
   .rw[if_neg hge];show gI (a9p L hk hm ha (by lia) ?_);cases e:bq lft (κ ky) (Kk κ ar (bs+(hnt+b))) with
    |true=>
     dsimp only;rw[if_neg (by decide)];show gK (rfl,b,2*b+1,rfl,by lia,by lia,by lia,e)
    |false=>
     dsimp only;rw[if_pos (show (!false)=kP from rfl)];show gK (rfl,a,b,rfl,m,o,f,.inr (by lia,e))
  case post=>
   ext c d ⟨y,a,b,rfl,m,o,f,g⟩;let y:=y.symm;subst y;dsimp only;let q:=hvD m o;let w:hnt+min b (n-hnt)<=n:=by lia
   let v:∀i,i<hnt+a+1->bq lft (κ ky) (Kk κ ar (bs+i))=kP:=λi J=>t i _ (by lia) (by lia) f;let u:∀i,hnt+min b (n-hnt)<=i->i<n->bq lft (κ ky) (Kk κ ar (bs+i))=kQ:=λi B z=>by grind
   generalize hnt+a+1=l0 at q v ⊢;generalize hnt+min b (n-hnt)=h0 at q w u ⊢;show gI (ie (h7 (I:=λx c d=>d=st/\∃l r,c=(gV,l,r,)/\l<=r/\r<=n/\r-l<=n-x/\(∀i,i<l->bq lft (κ ky) (Kk κ ar (bs+i))=kP)/\(∀i,r<=i->i<n->bq lft (κ ky) (Kk κ ar (bs+i))=kQ))
    (Q:=λc d=>d=st/\∃l,c=(gV,l,l,)/\l<=n/\(∀i,i<l->bq lft (κ ky) (Kk κ ar (bs+i))=kP)/\(∀i,l<=i->i<n->bq lft (κ ky) (Kk κ ar (bs+i))=kQ)) ?st2 ?fi2 ?in2) ?po2)
   case in2=>show(rfl,l0,h0,rfl,q,w,by lia,v,u)
   case fi2=>
    ext c d ⟨rfl,l,r,rfl,m,k,o,f,g⟩
    let:l=r:=by lia
    subst this;show(rfl,l,rfl,k,f,g)
   case st2=>
    ext x c d _ G ⟨rfl,l,r,rfl,m,k,o,f,g⟩;dsimp only
    by_cases hge:l>=r
    .rw[if_pos hge]
     let:l=r:=by lia
     subst this;show gK (rfl,l,rfl,k,f,g)
    .rw[if_neg hge];show gI (a9p L hk hm ha (by lia) ?_);cases e:bq lft (κ ky) (Kk κ ar (bs+(l+(r-l) / 2))) with
     |true=>
      dsimp only;rw[if_pos rfl];show gK (rfl,_,r,rfl,(hvN hge).2,k,(hvS G o (hvN hge).1 (hvN hge).2).2,λi J=>t i _ (by lia) (by lia) e,g)
     |false=>
      dsimp only;rw[if_neg (by decide)];show gK (rfl,l,_,rfl,(hvN hge).1,by lia,(hvS G o (hvN hge).1 (hvN hge).2).1,f,λi B z=>D _ i B z e)
   case po2=>
    ext c d ⟨rfl,l,rfl,k,f,g⟩;show gK (h l k f g)
 |false=>
  rw[if_neg (by decide)];show gI (ie (h7 (I:=λx c d=>d=st/\∃a b,c=(gV,a,b,)/\a<b/\x+1<=b/\a<=hnt/\bq lft (κ ky) (Kk κ ar (bs+(hnt-a)))=kQ)
   (Q:=λc d=>d=st/\∃a b,c=(gV,a,b,)/\a<b/\a<=hnt/\bq lft (κ ky) (Kk κ ar (bs+(hnt-a)))=kQ/\(hnt+1<=b\/(b<=hnt/\bq lft (κ ky) (Kk κ ar (bs+(hnt-b)))=kP))) ?step ?fin ?init) ?post)
  case init=>show(rfl,0,1,rfl,by lia,by lia,by lia,e0)
  case fin=>
   ext c d ⟨rfl,a,b,rfl,m,k,o,f⟩;show(rfl,a,b,rfl,m,o,f,.inl (by lia))
  case step=>
   ext x c d _ G ⟨rfl,a,b,rfl,m,k,o,f⟩;dsimp only
   by_cases hge:b>=hnt+1
   .rw[if_pos hge];show gK (rfl,a,b,rfl,m,o,f,.inl hge)
   .rw[if_neg hge];show gI (a9p L hk hm ha (by lia) ?_);cases e:bq lft (κ ky) (Kk κ ar (bs+(hnt-b))) with
    |true=>
     dsimp only;rw[if_pos rfl];show gK (rfl,a,b,rfl,m,o,f,.inr (by lia,e))
    |false=>
     dsimp only;rw[if_neg (by decide)];show gK (rfl,b,2*b+1,rfl,by lia,by lia,by lia,e)
  case post=>
   ext c d ⟨y,a,b,rfl,m,o,f,g⟩;let y:=y.symm;subst y;dsimp only;let q:=hvC m o;let w:hnt-a<=n:=by lia
   let v:∀i,i<hnt+1-min b (hnt+1)->bq lft (κ ky) (Kk κ ar (bs+i))=kP:=λi J=>g.elim (λz=>by cbv) λz=>t i _ (by cbv) (by cbv) z.2;let u:=λi B z=>D _ i B z f;generalize hnt+1-min b (hnt+1)=l0 at q v ⊢;generalize hnt-a=h0 at q w u ⊢;show gI (ie (h7 (I:=λx c d=>d=st/\∃l r,c=(gV,l,r,)/\l<=r/\r<=n/\r-l<=n-x/\(∀i,i<l->bq lft (κ ky) (Kk κ ar (bs+i))=kP)/\(∀i,r<=i->i<n->bq lft (κ ky) (Kk κ ar (bs+i))=kQ))
    (Q:=λc d=>d=st/\∃l,c=(gV,l,l,)/\l<=n/\(∀i,i<l->bq lft (κ ky) (Kk κ ar (bs+i))=kP)/\(∀i,l<=i->i<n->bq lft (κ ky) (Kk κ ar (bs+i))=kQ)) ?st2 ?fi2 ?in2) ?po2)
   case in2=>show(rfl,l0,h0,rfl,q,w,by lia,v,u)
   case fi2=>
    ext c d ⟨rfl,l,r,rfl,m,k,o,f,g⟩
    let:l=r:=by lia
    subst this;show(rfl,l,rfl,k,f,g)
   case st2=>
    ext x c d _ G ⟨rfl,l,r,rfl,m,k,o,f,g⟩;dsimp only
    by_cases hge:l>=r
    .rw[if_pos hge]
     let:l=r:=by lia
     subst this;show gK (rfl,l,rfl,k,f,g)
    .rw[if_neg hge];show gI (a9p L hk hm ha (by lia) ?_);cases e:bq lft (κ ky) (Kk κ ar (bs+(l+(r-l) / 2))) with
     |true=>
      dsimp only;rw[if_pos rfl];show gK (rfl,_,r,rfl,(hvN hge).2,k,(hvS G o (hvN hge).1 (hvN hge).2).2,λi J=>t i _ (by lia) (by lia) e,g)
     |false=>
      dsimp only;rw[if_neg (by decide)];show gK (rfl,l,_,rfl,(hvN hge).1,by lia,(hvS G o (hvN hge).1 (hvN hge).2).1,f,λi B z=>D _ i B z e)
   case po2=>
    ext c d ⟨rfl,l,rfl,k,f,g⟩;show gK (h l k f g)
end
noncomputable def a9q:Nat->StateT SortSt Sem Unit:=sortPriv% PySem.Builtin.setMinGallop
def a4o(g:Nat):a9q g=modify λs=>SortSt.mk' (kindOf s) (arrOf s) (gQ s) g (ic s):=rfl
noncomputable def a4p:Array Keyed->Array Keyed->StateT SortSt Sem (Array Keyed):=sortPriv% PySem.Builtin.mergeLo
abbrev dnA(a b o:Array Keyed)(i j:Nat):Array Keyed:=o++a.extract i a.size++b.extract j b.size
abbrev dnB(a b o:Array Keyed)(i j:Nat):Array Keyed:=o++b.extract j b.size++a.extract i a.size
section
variable{A B o:List Keyed}{i j:Nat}{p:Keyed}
abbrev Srt(κ:KF)(l:List Keyed):Prop:=l.Pairwise λx y=>κ x<=κ y
structure MW (κ:KF) (A B o:List Keyed) (i j:Nat):Prop where
 ia:i<=A.length
 jb:j<=B.length
 pm:(o++(A.drop i++B.drop j)).Perm (A++B)
 so:Srt κ o
 ba:∀x∈o,∀y∈A.drop i,κ x<=κ y
 bb:∀x∈o,∀y∈B.drop j,κ x<=κ y
theorem MW.size(W:MW κ A B o i j):o.length=i+j:=by
 let:=W.pm.length_eq
 let b:=W.ia;let a:=W.jb;simp at this
 lia
def drop_get{l:List Keyed}(h:l[n]?=be p):l.drop n=p::l.drop (n+1):=by
 let(a,e):=aM.mp h;rw[cT a,e]
def a6R(h:Srt κ l)(hb:∀x∈l,κ x<=κ p):Srt κ (l++[p]):=by
 show bp.mpr (h,eB _ _,λx b y a=>?_);rw[aK.mp a];show hb x b
def a00(h:Srt κ l)(n:Nat):Srt κ (l.drop n):=cA.sublist (eC n l) h
def MW.pushA(W:MW κ A B o i j)(sa:Srt κ A)(hp:A[i]?=be p)(hb:∀y∈B.drop j,κ p<=κ y):MW κ A B (o++[p]) (i+1) j:=by
 let c:=drop_get hp;show(((aM.mp hp).1),W.jb,?_,a6R W.so λx b=>W.ba x b p (by simp_all),λx b y a=>?_,λx b y a=>?_)
 .let:=W.pm
  rw[c]at this;o_head this
 .let h||h:=aJ.mp b
  .show W.ba x h y (by simp_all)
  .rw[aK.mp h];show (aT.mp (c▸a00 sa i)).1 y a
 .let h||h:=aJ.mp b
  .show W.bb x h y a
  .rw[aK.mp h];show hb y a
def MW.pushB(W:MW κ A B o i j)(sb:Srt κ B)(hp:B[j]?=be p)(hb:∀y∈A.drop i,κ p<=κ y):MW κ A B (o++[p]) i (j+1):=by
 let c:=drop_get hp;show(W.ia,((aM.mp hp).1),?_,a6R W.so λx b=>W.bb x b p (by simp_all),λx b y a=>?_,λx b y a=>?_)
 .let:=W.pm
  rw[c]at this;show bn.trans ?_ this;rw[bv];show bn.append_left o (show (p::(A.drop i++B.drop _)).Perm _ from fD.symm)
 .let h||h:=aJ.mp b
  .show W.ba x h y a
  .rw[aK.mp h];show hb y a
 .let h||h:=aJ.mp b
  .show W.bb x h y (by simp_all)
  .rw[aK.mp h];show (aT.mp (c▸a00 sb j)).1 y a
def take_snoc{l:List Keyed}(h:l[n+k]?=be p):(l.drop n).take (k+1)=(l.drop n).take k++[p]:=by
 rw[cf,cU,h];rfl
def MW.runA(W:MW κ A B o i j)(sa:Srt κ A):∀k,i+k<=A.length->(∀q z,i<=q->q<i+k->A[q]?=be z->∀y∈B.drop j,κ z<=κ y)->MW κ A B (o++(A.drop i).take k) (i+k) j:=by ext z0;induction z0 with
 |zero=>ext _ _;o_head W
 |succ k I0=>
  ext hk hz;let e:A[i+k]?=be A[i+k]:=aP (by lia);rw[take_snoc e,<- bv];show (I0 (by lia) λq z a c=>hz q z a (by lia)).pushA sa e (hz _ _ (by lia) (by lia) e)
def MW.runB(W:MW κ A B o i j)(sb:Srt κ B):∀k,j+k<=B.length->(∀q z,j<=q->q<j+k->B[q]?=be z->∀y∈A.drop i,κ z<=κ y)->MW κ A B (o++(B.drop j).take k) i (j+k):=by ext z0;induction z0 with
 |zero=>ext _ _;o_head W
 |succ k I0=>
  ext hk hz;let e:B[j+k]?=be B[j+k]:=aP (by lia);rw[take_snoc e,<- bv];show (I0 (by lia) λq z a c=>hz q z a (by lia)).pushB sb e (hz _ _ (by lia) (by lia) e)
def Mgd(κ:KF)(A B r:List Keyed):Prop:=r.Perm (A++B)/\Srt κ r
def MW.doneA(W:MW κ A B o i j)(sa:Srt κ A)(sb:Srt κ B)(h:i=A.length\/j=B.length):Mgd κ A B (o++A.drop i++B.drop j):=by
 show(by rw[bv];show W.pm,?_);rw[bv];show bp.mpr (W.so,bp.mpr (a00 sa i,a00 sb j,λx a y b=>?_),λx a y b=>?_)
 .let rfl||rfl:=h
  .simp_all
  .simp_all
 .let h||h:=aJ.mp b
  .show W.ba x a y h
  .show W.bb x a y h
theorem MW.doneB(W:MW κ A B o i j)(sa:Srt κ A)(sb:Srt κ B)(h:i+1=A.length)(hl:∀z,A[A.length-1]?=be z->∀y∈B,κ y<=κ z):Mgd κ A B (o++B.drop j++A.drop i):=by
 show(?_,?_)
 .rw[bv];show bn.trans (bn.append_left o eD) W.pm
 .rw[bv];let e:A[i]?=be A[i]:=aP (by cbv);let c:A.drop i=[A[i]]:=by rw[drop_get e,dq (by lia)]
  show bp.mpr (W.so,bp.mpr (a00 sb j,a00 sa i,λx b y a=>?_),λx b y a=>?_)
  .rw[c]at a;rw[aK.mp a];show hl _ (by rw[show A.length-1=i by lia];show e) x (eE b)
  .let h||h:=aJ.mp a
   .show W.bb x b y h
   .show W.ba x b y h
def a1g(h:Srt κ l)(hp:l[n]?=be p):∀y∈l.drop n,κ p<=κ y:=λy a=>by
 let b:=a00 h n;rw[drop_get hp]at b a;let rfl||a:=aL.mp a
 .show cg _
 .show (aT.mp b).1 y a
end
abbrev SM:=StateT SortSt Sem
abbrev T1:=Option (Array Keyed)×Array Keyed×Nat×Nat×Nat×Nat
abbrev T2:=Option (Array Keyed)×Array Keyed×Nat×Nat×Nat×Nat×Nat
noncomputable def lo1(a b:Array Keyed)(g:Nat)(o:Array Keyed)(i j ac bc:Nat):SM (ForInStep T1):=do
 let y <- elem' b j
 let x <- elem' a i
 let r <- lt' y x
 match r with
 |some bw=>
  if bw=kP then do
   let y <- elem' b j
   if (j+1==b.size)=kP then pure (.done (be (dnA a b (o.push y) i (j+1)),o.push y,i,j+1,0,bc+1,))
   else if bc+1>=g then pure (.done (gV,o.push y,i,j+1,0,bc+1,)) else pure (.yield (gV,o.push y,i,j+1,0,bc+1,))
  else do
   let x <- elem' a i
   if (i+1+1==a.size)=kP then pure (.done (be (dnB a b (o.push x) (i+1) j),o.push x,i+1,j,ac+1,0,))
   else if ac+1>=g then pure (.done (gV,o.push x,i+1,j,ac+1,0,)) else pure (.yield (gV,o.push x,i+1,j,ac+1,0,))
 |_=>pure (.done (be (dnA a b o i j),o,i,j,ac,bc,))
noncomputable def lo5(a b:Array Keyed)(o:Array Keyed)(i j g ac bc:Nat):SM (ForInStep T2):=do
 let x <- elem' a i
 if (i+1+1==a.size)=kP then pure (.done (be (dnB a b (o.push x) (i+1) j),o.push x,i+1,j,g,ac,bc,))
 else if (decide (ac<7)&&decide (bc<7))=kP then pure (.done (gV,o.push x,i+1,j,g,ac,bc,)) else pure (.yield (gV,o.push x,i+1,j,g,ac,bc,))
noncomputable def lo4(a b:Array Keyed)(o:Array Keyed)(i j g ac bc:Nat):SM (ForInStep T2):=do
 let y <- elem' b j
 if (j+1==b.size)=kP then pure (.done (be (dnA a b (o.push y) i (j+1)),o.push y,i,j+1,g,ac,bc,))
 else do
  let x <- elem' a i
  let r <- a1x kP x b (j+1) (b.size-(j+1)) 0
  match r with
  |some k=>
   if k > 0 then
    if (j+1+k==b.size)=kP then pure (.done (be (dnA a b (o.push y++b.extract (j+1) (j+1+k)) i (j+1+k)),o.push y++b.extract (j+1) (j+1+k),i,j+1+k,g,ac,k,))
    else lo5 a b (o.push y++b.extract (j+1) (j+1+k)) i (j+1+k) g ac k
   else lo5 a b (o.push y) i (j+1) g ac k
  |_=>pure (.done (be (dnA a b (o.push y) i (j+1)),o.push y,i,j+1,g,ac,bc,))
noncomputable def lo3(a b:Array Keyed)(o:Array Keyed)(i j g ac bc:Nat):SM (ForInStep T2):=do
 a9q g
 let y <- elem' b j
 let r <- a1x kQ y a i (a.size-i) 0
 match r with
 |some k=>
  if k > 0 then
   if (i+k+1==a.size)=kP then pure (.done (be (dnB a b (o++a.extract i (i+k)) (i+k) j),o++a.extract i (i+k),i+k,j,g,k,bc,))
   else if (i+k==a.size)=kP then pure (.done (be (dnA a b (o++a.extract i (i+k)) (i+k) j),o++a.extract i (i+k),i+k,j,g,k,bc,))
   else lo4 a b (o++a.extract i (i+k)) (i+k) j g k bc
  else lo4 a b o i j g k bc
 |_=>pure (.done (be (dnA a b o i j),o,i,j,g,ac,bc,))
noncomputable def lo2(a b:Array Keyed)(o:Array Keyed)(i j g ac bc:Nat):SM (ForInStep T2):=
 if g > 1 then lo3 a b o i j (g-1) ac bc else lo3 a b o i j g ac bc
def a5b(a b:Array Keyed):a4p a b=(do
  liftM (rule "list.sort.merge-lo")
  let y <- elem' b 0
  if (1==b.size)=kP then pure (dnA a b #[y] 0 1)
  else if (0+1==a.size)=kP then pure (dnB a b #[y] 0 1)
  else do
   let st <- get
   let c <- forIn [0:a.size+b.size] ((gV,#[y],0,1,gallopOf st,):Option (Array Keyed)×Array Keyed×Nat×Nat×Nat) λ_ c=>do
    let c1 <- forIn [0:a.size+b.size] ((gV,c.2.1,c.2.2.1,c.2.2.2.1,0,0,):T1) λ_ c1=>lo1 a b c.2.2.2.2 c1.2.1 c1.2.2.1 c1.2.2.2.1 c1.2.2.2.2.1 c1.2.2.2.2.2
    match c1.1 with
    |some r=>pure (ForInStep.done (be r,c1.2.1,c1.2.2.1,c1.2.2.2.1,c.2.2.2.2,))
    |none=>do
     liftM (rule "list.sort.gallop")
     let c2 <- forIn [0:a.size+b.size] ((gV,c1.2.1,c1.2.2.1,c1.2.2.2.1,c.2.2.2.2+1,c1.2.2.2.2.1,c1.2.2.2.2.2,):T2) λ_ c2=>lo2 a b c2.2.1 c2.2.2.1 c2.2.2.2.1 c2.2.2.2.2.1 c2.2.2.2.2.2.1 c2.2.2.2.2.2.2
     match c2.1 with
     |some r=>pure (ForInStep.done (be r,c2.2.1,c2.2.2.1,c2.2.2.2.1,c2.2.2.2.2.1,))
     |none=>do
      a9q (c2.2.2.2.2.1+1)
      pure (ForInStep.yield (gV,c2.2.1,c2.2.2.1,c2.2.2.2.1,c2.2.2.2.2.1+1,))
   match c.1 with
   |some r=>pure r
   |none=>iJ "internal:list.sort.merge-bound"):=by
 kernel_rfl
structure SG (st st':SortSt):Prop where
 kd:kindOf st'=kindOf st
 ar:arrOf st'=arrOf st
 pe:gQ st'=gQ st
 fl:ic st'=ic st
def SG.refl(st:SortSt):SG st st:=(rfl,rfl,rfl,rfl)
def SG.trans(p:SG x kR)(q:SG kR z):SG x z:=(q.kd.trans p.kd,q.ar.trans p.ar,q.pe.trans p.pe,q.fl.trans p.fl)
section
variable{a b o:Array Keyed}{i j:Nat}
def a10:(dnA a b o i j).toList=o.toList++a.toList.drop i++b.toList.drop j:=by
 simp[cw]
def a2X:(dnB a b o i j).toList=o.toList++b.toList.drop j++a.toList.drop i:=by
 simp[cw]
def a6S:(o++a.extract i (i+k)).toList=o.toList++(a.toList.drop i).take k:=by
 simp[dP]
def a0L(h:i<a.size):a.toList[i]?=be a[i]:=by simp[h]
def a0Q(h:i<a.size):Kk κ a i=κ a[i]:=a56 (getElem?_pos ..)
def a11(h:Srt κ a.toList)(hn:i+n<=a.size):∀p q,p<=q->q<n->Kk κ a (i+p)<=Kk κ a (i+q):=λp q b c=>by
 rw[a0Q (show i+p<a.size by lia),a0Q (show i+q<a.size by lia)]
 by_cases e:p=q
 .simp_all
 .let:=cD.mp h (i+p) (i+q) (by simp;lia) (by simp;lia) (by lia)
  o_head this
end
structure MC (M:Model) (A:Around) (E:Value->Shared->Prop) (s:Shared) (κ:KF) (k0:im) (ajj a b:Array Keyed):Prop where
 L:LtOk M A E s κ k0 ajj
 ha:∀p∈a.toList,p∈ajj.toList
 hb:∀p∈b.toList,p∈ajj.toList
 sa:Srt κ a.toList
 sb:Srt κ b.toList
 h0:0<a.size
 h1:0<b.size
 hf:∀y∈a.toList,Kk κ b 0<=κ y
 hl:∀z,a.toList[a.toList.length-1]?=be z->∀y∈b.toList,κ y<=κ z
structure Rdy (κ:KF) (a b o:Array Keyed) (i j:Nat):Prop where
 w:MW κ a.toList b.toList o.toList i j
 hi:i+1<a.size
 hj:j<b.size
section
variable{M:Model}{k0:im}{ajj a b o:Array Keyed}{st:SortSt}{i j g ac bc:Nat}
def a3W{α:Type}{f:Unit->SM α}{Q:α->SortSt->Prop}(h:wpS M A E s (f ()) Q st):wpS M A E s ((liftM (rule kR):SM Unit) >>= f) Q st:=
 gI (wpS_lift (iB (rfl,h)))
def a0X(a:Array Keyed):a.toList.length=a.size:=by simp
def b90(C:MC M A E s κ k0 ajj a b)(hk:kindOf st=k0)(R:Rdy κ a b o i j)
  (dn:∀r c,Mgd κ a.toList b.toList r.toList->Q (.done (be r,c,)) st)
  (br:∀o' i' j' x y,Rdy κ a b o' i' j'->i'+j'=i+j+1->Q (.done (gV,o',i',j',x,y,)) st)
  (go:∀o' i' j' x y,Rdy κ a b o' i' j'->i'+j'=i+j+1->Q (.yield (gV,o',i',j',x,y,)) st):wpS M A E s (lo1 a b g o i j ac bc) Q st:=by
 let q:=R.hi;let n:=R.hj;let p:b[j]?=be b[j]:=getElem?_pos ..;let m:a[i]?=be a[i]:=getElem?_pos ..;let h:=a0L n;let l:=a0L (a:=a) (i:=i) (by cbv);unfold lo1;show gI (a0A p (gI (a0A m (gI (C.L _ _ (C.hb _ (aZ h)) (C.ha _ (aZ l)) st _ hk ?_)))));dsimp only
 by_cases c:κ b[j]<κ a[i]
 .rw[if_pos (decide_eq_true c)];show gI (a0A p ?_);let d:=R.w.pushB C.sb h λy k=>bC (b7 c) (a1g C.sa l y k);rw[<- bJ]at d
  by_cases e:j+1=b.size
  .rw[if_pos ↑e];show gK (dn _ _ (by rw[a10];show d.doneA C.sa C.sb (.inr (by rw[a0X];show e))))
  .rw[if_neg ↑e];let f:Rdy κ a b (o.push b[j]) i (j+1):=(d,q,by lia)
   split
   .show gK (br _ _ _ _ _ f (by lia))
   .show gK (go _ _ _ _ _ f (by lia))
 .rw[if_neg ↑c];show gI (a0A m ?_);let d:=R.w.pushA C.sa l λy k=>bC (dQ.mp c) (a1g C.sb h y k);rw[<- bJ]at d
  by_cases e:i+1+1=a.size
  .rw[if_pos ↑e];show gK (dn _ _ (by rw[a2X];show d.doneB C.sa C.sb (by rw[a0X];show e) C.hl))
  .rw[if_neg ↑e];let f:Rdy κ a b (o.push a[i]) (i+1) j:=(d,by lia,n)
   split
   .show gK (br _ _ _ _ _ f (by lia))
   .show gK (go _ _ _ _ _ f (by lia))
structure G2 (st:SortSt) (κ:KF) (a b:Array Keyed) (n:Nat) (Q:ForInStep T2->SortSt->Prop):Prop where
 dn:∀r c st',SG st st'->Mgd κ a.toList b.toList r.toList->Q (.done (be r,c,)) st'
 br:∀o' i' j' x y z st',SG st st'->Rdy κ a b o' i' j'->n<i'+j'->Q (.done (gV,o',i',j',x,y,z,)) st'
 go:∀o' i' j' x y z st',SG st st'->Rdy κ a b o' i' j'->n<i'+j'->Q (.yield (gV,o',i',j',x,y,z,)) st'
def b7u(C:MC M A E s κ k0 ajj a b)(R:Rdy κ a b o i j)(hle:∀y∈b.toList.drop j,Kk κ a i<=κ y)(H:G2 st κ a b n Q)(hn:n<=i+j):wpS M A E s (lo5 a b o i j g ac bc) Q st:=by
 let l:=R.hi;let h:a[i]?=be a[i]:=getElem?_pos ..;rw[a0Q (show i<a.size by lia)]at hle;unfold lo5;show gI (a0A h ?_);let c:=R.w.pushA C.sa (a0L (a:=a) (i:=i) (by lia)) hle;rw[<- bJ]at c
 by_cases e:i+1+1=a.size
 .rw[if_pos ↑e];show gK (H.dn _ _ _ (SG.refl _) (a2X▸c.doneB C.sa C.sb (by rw[a0X];show e) C.hl))
 .rw[if_neg ↑e];let d:Rdy κ a b (o.push a[i]) (i+1) j:=(c,by lia,R.hj)
  split
  .show gK (H.br _ _ _ _ _ _ _ (SG.refl _) d (by lia))
  .show gK (H.go _ _ _ _ _ _ _ (SG.refl _) d (by lia))
def a1O{l:List Keyed}(h:kR∈l.drop n):∃q,n<=q/\q<l.length/\l[q]?=be kR:=by
 let(m,a):=bP h;rw[cU]at a;show(n+m,by lia,(aM.mp a).1,a)
def a3d(h:a.toList[q]?=be z):Kk κ a q=κ z:=a56 (by simp_all)
def b7v(C:MC M A E s κ k0 ajj a b)(hk:kindOf st=k0)(R:Rdy κ a b o i j)(hle:∀y∈a.toList.drop i,Kk κ b j<=κ y)(H:G2 st κ a b n Q)(hn:n<=i+j):wpS M A E s (lo4 a b o i j g ac bc) Q st:=by
 let m:=R.hi;let t:=R.hj;let x:b[j]?=be b[j]:=getElem?_pos ..;let F:a[i]?=be a[i]:=getElem?_pos ..;let p:=a0L (a:=a) (i:=i) (by lia);rw[a0Q t]at hle;unfold lo4;show gI (a0A x ?_);let d:=R.w.pushB C.sb (a0L t) hle;rw[<- bJ]at d
 by_cases e:j+1=b.size
 .rw[if_pos ↑e];show gK (H.dn _ _ _ (SG.refl _) (a10▸d.doneA C.sa C.sb (.inr (by rw[a0X];show e))))
 .rw[if_neg ↑e];show gI (a0A F (gI (a1B C.L hk (C.ha _ (aZ p)) C.hb (by lia) (by lia) (a11 C.sb (by lia)) λk G v r=>?_)));dsimp only;let c:∀y∈b.toList.drop (j+1+k),Kk κ a i<=κ y:=λy h=>by
   let(q,B,u,l):=a1O h;rw[a0X]at u
   let:=r (q-(j+1)) (by lia) (by lia)
   rw[show j+1+(q-(j+1))=q by lia,a3d l]at this;simp[bq]at this;rw[a0Q (show i<a.size by lia)];cbv
  split
  .let f:=d.runB C.sb k (by rw[a0X];lia) λq z B u l y h=>by
    let:=v (q-(j+1)) (by lia)
    rw[show j+1+(q-(j+1))=q by lia,a3d l]at this;simp[bq]at this;show bC (b7 this) (a1g C.sa p y h)
   rw[<- a6S]at f
   by_cases e2:j+1+k=b.size
   .rw[if_pos ↑e2];show gK (H.dn _ _ _ (SG.refl _) (a10▸f.doneA C.sa C.sb (.inr (by rw[a0X];show e2))))
   .rw[if_neg ↑e2];show b7u C (f,m,by lia) c H (by lia)
  .let:k=0:=by lia
   subst this;show b7u C (d,m,by lia) c H (by lia)
def b91(C:MC M A E s κ k0 ajj a b)(hk:kindOf st=k0)(R:Rdy κ a b o i j)(H:G2 st κ a b n Q)(hn:n<=i+j):wpS M A E s (lo3 a b o i j g ac bc) Q st:=by
 let I:=R.hi;let h:=R.hj;let G:b[j]?=be b[j]:=getElem?_pos ..;let B:=a0L h;unfold lo3;rw[a4o];show gI (io ?_);let m:SG st (SortSt.mk' _ (arrOf st) _ g _):=(rfl,rfl,rfl,rfl);let e:kindOf (SortSt.mk' _ (arrOf st) (gQ st) g (ic st))=k0:=hk;generalize SortSt.mk' (kindOf st) (arrOf st) (gQ st) g (ic st)=st1 at m e;let l:G2 st1 κ a b n Q:=(λr c d g=>H.dn r c d (m.trans g),λ_ _ _ _ _ _ d g=>H.br _ _ _ _ _ _ d (m.trans g),λ_ _ _ _ _ _ d g=>H.go _ _ _ _ _ _ d (m.trans g));show gI (a0A G (gI (a1B C.L e (C.hb _ (aZ B)) C.ha (by lia) (by lia) (a11 C.sa (by lia)) λk J D x=>?_)));dsimp only;let f:∀y∈a.toList.drop (i+k),Kk κ b j<=κ y:=λy t=>by
  let(q,F,v,u):=a1O t;rw[a0X]at v
  let:=x (q-i) (by lia) (by lia)
  rw[show i+(q-i)=q by lia,a3d u]at this;simp[bq]at this;rw[a0Q h]
  lia
 split
 .let p:=R.w.runA C.sa k (by rw[a0X];lia) λq z F v u y t=>by
   let:=D (q-i) (by lia)
   rw[show i+(q-i)=q by lia,a3d u]at this;simp[bq]at this;show bC this (a1g C.sb B y t)
  rw[<- a6S]at p
  by_cases e1:i+k+1=a.size
  .rw[if_pos ↑e1];show gK (l.dn _ _ _ (SG.refl _) (a2X▸p.doneB C.sa C.sb (by rw[a0X];show e1) C.hl))
  .rw[if_neg ↑e1]
   by_cases e2:i+k=a.size
   .rw[if_pos ↑e2];show gK (l.dn _ _ _ (SG.refl _) (a10▸p.doneA C.sa C.sb (.inl (by rw[a0X];show e2))))
   .rw[if_neg ↑e2];show b7v C e (p,by lia,h) f l (by lia)
 .let:k=0:=by lia
  subst this;show b7v C e (R.w,I,h) f l (by lia)
def b92(C:MC M A E s κ k0 ajj a b)(hk:kindOf st=k0)(R:Rdy κ a b o i j)(H:G2 st κ a b n Q)(hn:n<=i+j):wpS M A E s (lo2 a b o i j g ac bc) Q st:=by
 unfold lo2
 split<;>show b91 C hk R H hn
def b1q(C:MC M A E s κ k0 ajj a b):MW κ a.toList b.toList [b[0]'C.h1] 0 1:=by
 let e:MW κ a.toList b.toList [] 0 0:=(bg _,bg _,by simp,.nil,λx h=>by simp at h,λx h=>by simp at h);show e.pushB C.sb (a0L C.h1) λy d=>by rw[<- a0Q (κ:=κ) C.h1];show C.hf y (by simp_all)
def a9r(C:MC M A E s κ k0 ajj a b)(hk:kindOf st=k0)
  (h:∀r st',SG st st'->Mgd κ a.toList b.toList r.toList->Q r st'):wpS M A E s (a4p a b) Q st:=by
 let h0:=C.h0;let h1:=C.h1;rw[a5b];show a3W (gI (a0A (getElem?_pos b 0 C.h1) ?_));let w0:=b1q C
 by_cases e1:1=b.size
 .rw[if_pos ↑e1];show gK (h _ _ (SG.refl _) (a10▸w0.doneA C.sa C.sb (.inr (by grind))))
 rw[if_neg ↑e1]
 by_cases e2:0+1=a.size
 .rw[if_pos ↑e2];show gK (h _ _ (SG.refl _) (a2X▸w0.doneB C.sa C.sb (by rw[a0X];show e2) C.hl))
 rw[if_neg ↑e2];show gI (ir ?_);let R0:Rdy κ a b #[b[0]] 0 1:=(w0,by lia,by lia);show gI (ie (h7 (I:=λx c e=>∃o i j g,c=(gV,o,i,j,g,)/\SG st e/\Rdy κ a b o i j/\x<i+j)
  (Q:=λc e=>∃r F,c=(be r,F,)/\SG st e/\Mgd κ a.toList b.toList r.toList) ?step ?fin (_,_,_,_,rfl,SG.refl _,R0,by lia)) ?post)
 case post=>
  ext c e ⟨r,F,rfl,H,m⟩;show gK (h r e H m)
 case fin=>
  ext c e ⟨o,i,j,g,rfl,H,R,hx⟩
  let:=R.hi
  let:=R.hj
  lia
 case step=>
  ext x c e _ hx ⟨o,i,j,g,rfl,H,R,hxi⟩;dsimp only;show gI (ie (h7 (I:=λy c f=>∃D l k J T,c=(gV,D,l,k,J,T,)/\f=e/\Rdy κ a b D l k/\i+j+y<=l+k)
   (Q:=λc f=>f=e/\((∃r F,c=(be r,F,)/\Mgd κ a.toList b.toList r.toList)\/∃D l k J T,c=(gV,D,l,k,J,T,)/\Rdy κ a b D l k/\i+j<=l+k)) ?st1 ?fi1 (_,_,_,_,_,rfl,rfl,R,by lia)) ?po1)
  case fi1=>
   ext c f ⟨D,l,k,J,T,rfl,rfl,L,hy⟩
   let:=L.hi
   let:=L.hj
   lia
  case st1=>
   ext y c f _ hy ⟨D,l,k,J,T,rfl,rfl,L,hyi⟩;dsimp only;show b90 C (H.kd.trans hk) L (λr c m=>(rfl,.inl (r,c,rfl,m))) (λo2 i2 j2 u v X V=>(rfl,.inr (_,_,_,_,_,rfl,X,by lia))) λo2 i2 j2 u v X V=>(_,_,_,_,_,rfl,rfl,X,by lia)
  case po1=>
   ext c f ⟨rfl,⟨r,F,rfl,m⟩ |⟨D,l,k,J,T,rfl,L,hij⟩⟩
   .show gK (r,_,rfl,H,m)
   .dsimp only;show a3W ?_;show gI (ie (h7 (I:=λy c B=>∃G q p S z t,c=(gV,G,q,p,S,z,t,)/\SG st B/\Rdy κ a b G q p/\l+k+y<=q+p)
     (Q:=λc B=>SG st B/\((∃r F,c=(be r,F,)/\Mgd κ a.toList b.toList r.toList)\/∃G q p S z t,c=(gV,G,q,p,S,z,t,)/\Rdy κ a b G q p/\l+k<q+p)) ?f ?fi2 (_,_,_,_,_,_,rfl,H,L,by lia)) ?po2)
    case fi2=>
     ext c B ⟨G,q,p,S,z,t,rfl,d,N,hy⟩
     let:=N.hi
     let:=N.hj
     lia
    case f=>
     ext y c B _ hy ⟨G,q,p,S,z,t,rfl,d,N,hyi⟩;dsimp only;show b92 C (d.kd.trans hk) N (λr c W U m=>(d.trans U,.inl (r,c,rfl,m)),λo4 i4 j4 u v w W U Y V=>(d.trans U,.inr (_,_,_,_,_,_,rfl,Y,by lia)),λo4 i4 j4 u v w W U Y V=>(_,_,_,_,_,_,rfl,d.trans U,Y,by lia)) (aI _)
    case po2=>
     ext c B ⟨d,⟨r,F,rfl,m⟩ |⟨G,q,p,S,z,t,rfl,N,V⟩⟩
     .show gK (r,_,rfl,d,m)
     .dsimp only;show gI (io (gK (_,_,_,_,rfl,(d.kd,d.ar,d.pe,d.fl),N,by lia)))
end
noncomputable def a4q:Array Keyed->Array Keyed->SM (Array Keyed):=sortPriv% PySem.Builtin.mergeHi
abbrev hnA(a b o:Array Keyed)(u v:Nat):Array Keyed:=a.extract 0 u++b.extract 0 v++o.reverse
abbrev hnB(a b o:Array Keyed)(u v:Nat):Array Keyed:=b.extract 0 v++a.extract 0 u++o.reverse
abbrev H1:=Option (Array Keyed)×Nat×Nat×Array Keyed×Nat×Nat
abbrev H2:=Option (Array Keyed)×Nat×Nat×Array Keyed×Nat×Nat×Nat
noncomputable def hi1(a b:Array Keyed)(g u v:Nat)(o:Array Keyed)(ac bc:Nat):SM (ForInStep H1):=do
 let y <- elem' b (v-1)
 let x <- elem' a (u-1)
 let r <- lt' y x
 match r with
 |some aw=>
  if aw=kP then do
   let x <- elem' a (u-1)
   if (u-1==0)=kP then pure (.done (be (hnA a b (o.push x) (u-1) v),u-1,v,o.push x,ac+1,0,))
   else if ac+1>=g then pure (.done (gV,u-1,v,o.push x,ac+1,0,)) else pure (.yield (gV,u-1,v,o.push x,ac+1,0,))
  else do
   let y <- elem' b (v-1)
   if (v-1==1)=kP then pure (.done (be (hnB a b (o.push y) u (v-1)),u,v-1,o.push y,0,bc+1,))
   else if bc+1>=g then pure (.done (gV,u,v-1,o.push y,0,bc+1,)) else pure (.yield (gV,u,v-1,o.push y,0,bc+1,))
 |_=>pure (.done (be (hnA a b o u v),u,v,o,ac,bc,))
noncomputable def hi5(a b:Array Keyed)(u v:Nat)(o:Array Keyed)(g ac bc:Nat):SM (ForInStep H2):=do
 let x <- elem' a (u-1)
 if (u-1==0)=kP then pure (.done (be (hnA a b (o.push x) (u-1) v),u-1,v,o.push x,g,ac,bc,))
 else if (decide (ac<7)&&decide (bc<7))=kP then pure (.done (gV,u-1,v,o.push x,g,ac,bc,)) else pure (.yield (gV,u-1,v,o.push x,g,ac,bc,))
noncomputable def hi4(a b:Array Keyed)(u v:Nat)(o:Array Keyed)(g ac bc:Nat):SM (ForInStep H2):=do
 let y <- elem' b (v-1)
 if (v-1==1)=kP then pure (.done (be (hnB a b (o.push y) u (v-1)),u,v-1,o.push y,g,ac,bc,))
 else do
  let x <- elem' a (u-1)
  let r <- a1x kP x b 0 (v-1) (v-1-1)
  match r with
  |some p=>
   if v-1-p > 0 then
    if (p==1)=kP then pure (.done (be (hnB a b (o.push y++(b.extract p (v-1)).reverse) u p),u,p,o.push y++(b.extract p (v-1)).reverse,g,ac,v-1-p,))
    else if (p==0)=kP then pure (.done (be (hnA a b (o.push y++(b.extract p (v-1)).reverse) u p),u,p,o.push y++(b.extract p (v-1)).reverse,g,ac,v-1-p,))
    else hi5 a b u p (o.push y++(b.extract p (v-1)).reverse) g ac (v-1-p)
   else hi5 a b u (v-1) (o.push y) g ac (v-1-p)
  |_=>pure (.done (be (hnA a b (o.push y) u (v-1)),u,v-1,o.push y,g,ac,bc,))
noncomputable def hi3(a b:Array Keyed)(u v:Nat)(o:Array Keyed)(g ac bc:Nat):SM (ForInStep H2):=do
 a9q g
 let y <- elem' b (v-1)
 let r <- a1x kQ y a 0 u (u-1)
 match r with
 |some p=>
  if u-p > 0 then
   if (p==0)=kP then pure (.done (be (hnA a b (o++(a.extract p u).reverse) p v),p,v,o++(a.extract p u).reverse,g,u-p,bc,))
   else hi4 a b p v (o++(a.extract p u).reverse) g (u-p) bc
  else hi4 a b u v o g (u-p) bc
 |_=>pure (.done (be (hnA a b o u v),u,v,o,g,ac,bc,))
noncomputable def hi2(a b:Array Keyed)(u v:Nat)(o:Array Keyed)(g ac bc:Nat):SM (ForInStep H2):=
 if g > 1 then hi3 a b u v o (g-1) ac bc else hi3 a b u v o g ac bc
def a5c(a b:Array Keyed):a4q a b=(do
  liftM (rule "list.sort.merge-hi")
  let x <- elem' a (a.size-1)
  if (a.size-1==0)=kP then pure (hnA a b #[x] (a.size-1) b.size)
  else if (b.size==1)=kP then pure (hnB a b #[x] (a.size-1) b.size)
  else do
   let st <- get
   let c <- forIn [0:a.size+b.size] ((gV,a.size-1,b.size,#[x],gallopOf st,):Option (Array Keyed)×Nat×Nat×Array Keyed×Nat) λ_ c=>do
    let c1 <- forIn [0:a.size+b.size] ((gV,c.2.1,c.2.2.1,c.2.2.2.1,0,0,):H1) λ_ c1=>hi1 a b c.2.2.2.2 c1.2.1 c1.2.2.1 c1.2.2.2.1 c1.2.2.2.2.1 c1.2.2.2.2.2
    match c1.1 with
    |some r=>pure (ForInStep.done (be r,c1.2.1,c1.2.2.1,c1.2.2.2.1,c.2.2.2.2,))
    |none=>do
     liftM (rule "list.sort.gallop")
     let c2 <- forIn [0:a.size+b.size] ((gV,c1.2.1,c1.2.2.1,c1.2.2.2.1,c.2.2.2.2+1,c1.2.2.2.2.1,c1.2.2.2.2.2,):H2) λ_ c2=>hi2 a b c2.2.1 c2.2.2.1 c2.2.2.2.1 c2.2.2.2.2.1 c2.2.2.2.2.2.1 c2.2.2.2.2.2.2
     match c2.1 with
     |some r=>pure (ForInStep.done (be r,c2.2.1,c2.2.2.1,c2.2.2.2.1,c2.2.2.2.2.1,))
     |none=>do
      a9q (c2.2.2.2.2.1+1)
      pure (ForInStep.yield (gV,c2.2.1,c2.2.2.1,c2.2.2.2.1,c2.2.2.2.2.1+1,))
   match c.1 with
   |some r=>pure r
   |none=>iJ "internal:list.sort.merge-bound"):=by
 kernel_rfl
section
variable{A B o:List Keyed}{u v:Nat}{p:Keyed}
structure MH (κ:KF) (A B o:List Keyed) (u v:Nat):Prop where
 ia:u<=A.length
 jb:v<=B.length
 pm:(A.take u++B.take v++o.reverse).Perm (A++B)
 so:Srt κ o.reverse
 ba:∀x∈o,∀y∈A.take u,κ y<=κ x
 bb:∀x∈o,∀y∈B.take v,κ y<=κ x
def a57{l:List Keyed}(h:l[n]?=be p):l.take (n+1)=l.take n++[p]:=by
 rw[cf,h];rfl
def a1h(h:Srt κ l)(n:Nat):Srt κ (l.take n):=cA.sublist (dL n l) h
def a1C(h:Srt κ l)(e:l[n]?=be p):∀y∈l.take (n+1),κ y<=κ p:=λy a=>by
 let b:=a1h h (n+1);rw[a57 e]at b a;let a||a:=aJ.mp a
 .show (bp.mp b).2.2 y a p (by simp)
 .simp_all
def MH.pushA(W:MH κ A B o (u+1) v)(sa:Srt κ A)(hp:A[u]?=be p)(hb:∀y∈B.take v,κ y<=κ p):MH κ A B (o++[p]) u v:=by
 let c:=a57 hp;let d:=(aM.mp hp).1;show(by lia,W.jb,?_,?_,λx b y a=>?_,λx b y a=>?_)
 .let:=W.pm
  rw[c]at this;show bn.trans ?_ this;rw[cH,cV];simp;show bn.append_left _ fD
 .rw[cH,cV,eF];show aT.mpr (λx b=>?_,W.so);show W.ba x ↑b p (by rw[c];simp)
 .let h||h:=aJ.mp b
  .show W.ba x h y (by simp_all)
  .rw[aK.mp h];show a1C sa hp y (by simp_all)
 .let h||h:=aJ.mp b
  .show W.bb x h y a
  .simp_all
def MH.pushB(W:MH κ A B o u (v+1))(sb:Srt κ B)(hp:B[v]?=be p)(hb:∀y∈A.take u,κ y<=κ p):MH κ A B (o++[p]) u v:=by
 let c:=a57 hp;let d:=(aM.mp hp).1;show(W.ia,by lia,?_,?_,λx b y a=>?_,λx b y a=>?_)
 .let:=W.pm
  rw[c]at this;show bn.trans ?_ this;rw[cH,cV];simp only[bv];show bn.refl _
 .rw[cH,cV,eF];show aT.mpr (λx b=>?_,W.so);show W.bb x (by simp_all) p (by simp_all)
 .let h||h:=aJ.mp b
  .show W.ba x h y a
  .rw[aK.mp h];show hb y a
 .let h||h:=aJ.mp b
  .show W.bb x h y (by simp_all)
  .rw[aK.mp h];show a1C sb hp y (by simp_all)
def MH.runA(sa:Srt κ A):∀(k:Nat){o:List Keyed},MH κ A B o (u+k) v->(∀q z,u<=q->q<u+k->A[q]?=be z->∀y∈B.take v,κ y<=κ z)->MH κ A B (o++((A.drop u).take k).reverse) u v:=by ext z0;induction z0 with
 |zero=>ext o W _;o_head W
 |succ k I0=>
  ext o W hz;let a:u+k<A.length:=by let:=W.ia;lia
  let e:=aP a;rw[take_snoc e,cH,cV,<- bv];show (I0 (MH.pushA W sa e (hz _ _ (by simp) (by simp) e)) λq z c f=>hz q z c (by lia))
def MH.runB(sb:Srt κ B):∀(k:Nat){o:List Keyed},MH κ A B o u (v+k)->(∀q z,v<=q->q<v+k->B[q]?=be z->∀y∈A.take u,κ y<=κ z)->MH κ A B (o++((B.drop v).take k).reverse) u v:=by ext z0;induction z0 with
 |zero=>ext o W _;o_head W
 |succ k I0=>
  ext o W hz;let a:v+k<B.length:=by let:=W.jb;lia
  let e:=aP a;rw[take_snoc e,cH,cV,<- bv];show (I0 (MH.pushB W sb e (hz _ _ (by simp) (by simp) e)) λq z c f=>hz q z c (by lia))
def MH.doneA(W:MH κ A B o u v)(sa:Srt κ A)(sb:Srt κ B)(h:u=0\/v=0):Mgd κ A B (A.take u++B.take v++o.reverse):=by
 show(W.pm,?_);show bp.mpr (bp.mpr (a1h sa u,a1h sb v,λx b y c=>?_),W.so,λx b y c=>?_)
 .let rfl||rfl:=h
  .simp_all
  .simp_all
 .let a:y∈o:=↑c
  let h||h:=aJ.mp b
  .show W.ba y a x h
  .show W.bb y a x h
def MH.doneB(W:MH κ A B o u 1)(sa:Srt κ A)(sb:Srt κ B)(hf:∀z,B[0]?=be z->∀y∈A,κ z<=κ y):Mgd κ A B (B.take 1++A.take u++o.reverse):=by
 show(?_,?_)
 .show bn.trans ?_ W.pm;show bn.append_right _ eD
 .show bp.mpr (bp.mpr (a1h sb 1,a1h sa u,λx a y c=>?_),W.so,λx a y c=>?_)
  .cases B with
   |nil=>simp at a
   |cons z B=>
    let:x=z:=↑a
    subst this;show hf x rfl y (bx c)
  .let b:y∈o:=↑c
   let h||h:=aJ.mp a
   .show W.bb y b x h
   .show W.ba y b x h
end
section
variable{a b o:Array Keyed}{u v:Nat}
def a12:(hnA a b o u v).toList=a.toList.take u++b.toList.take v++o.toList.reverse:=by
 simp
def a2Y:(hnB a b o u v).toList=b.toList.take v++a.toList.take u++o.toList.reverse:=by
 simp
def a6T:(o++(a.extract p u).reverse).toList=o.toList++((a.toList.drop p).take (u-p)).reverse:=by
 simp[dP]
end
structure RdH (κ:KF) (a b o:Array Keyed) (u v:Nat):Prop where
 w:MH κ a.toList b.toList o.toList u v
 hu:1<=u
 hv:2<=v
section
variable{M:Model}{k0:im}{ajj a b o:Array Keyed}{st:SortSt}{u v g ac bc:Nat}
def RdH.ua(R:RdH κ a b o u v):u<=a.size:=by let:=R.w.ia;rwa [a0X]at this
def RdH.vb(R:RdH κ a b o u v):v<=b.size:=by let:=R.w.jb;rwa [a0X]at this
def MC.first(C:MC M A E s κ k0 ajj a b):∀z,b.toList[0]?=be z->∀y∈a.toList,κ z<=κ y:=λz c y d=>by
 let:=C.hf y d
 rwa [a3d c]at this
def b93(C:MC M A E s κ k0 ajj a b)(hk:kindOf st=k0)(R:RdH κ a b o (u+1) (v+1))
  (dn:∀r c,Mgd κ a.toList b.toList r.toList->Q (.done (be r,c,)) st)
  (br:∀o' u' v' x y,RdH κ a b o' u' v'->u'+v'=u+v+1->Q (.done (gV,u',v',o',x,y,)) st)
  (go:∀o' u' v' x y,RdH κ a b o' u' v'->u'+v'=u+v+1->Q (.yield (gV,u',v',o',x,y,)) st):wpS M A E s (hi1 a b g (u+1) (v+1) o ac bc) Q st:=by
 let q:=R.ua;let t:=R.vb;let p:=R.hv;let l:b[v]?=be b[v]:=getElem?_pos ..;let n:a[u]?=be a[u]:=getElem?_pos ..;let j:=a0L (a:=b) (i:=v) (by lia);let k:=a0L (a:=a) (i:=u) (by lia);unfold hi1;simp only[dr];show gI (a0A l (gI (a0A n (gI (C.L _ _ (C.hb _ (aZ j)) (C.ha _ (aZ k)) st _ hk ?_)))));dsimp only
 by_cases c:κ b[v]<κ a[u]
 .rw[if_pos (decide_eq_true c)];show gI (a0A n ?_);let d:=R.w.pushA C.sa k λy h=>bC (a1C C.sb j y h) (b7 c);rw[<- bJ]at d
  by_cases e:u=0
  .rw[if_pos ↑e];show gK (dn _ _ (a12▸d.doneA C.sa C.sb (.inl e)))
  .rw[if_neg ↑e];let f:RdH κ a b (o.push a[u]) u (v+1):=(d,by lia,p)
   split
   .show gK (br _ _ _ _ _ f (by lia))
   .show gK (go _ _ _ _ _ f (by lia))
 .rw[if_neg ↑c];show gI (a0A l ?_);let d:=R.w.pushB C.sb j λy h=>bC (a1C C.sa k y h) (dQ.mp c);rw[<- bJ]at d
  by_cases e:v=1
  .rw[if_pos ↑e];subst e;show gK (dn _ _ (a2Y▸d.doneB C.sa C.sb C.first))
  .rw[if_neg ↑e];let f:RdH κ a b (o.push b[v]) (u+1) v:=(d,R.hu,by lia)
   split
   .show gK (br _ _ _ _ _ f (by lia))
   .show gK (go _ _ _ _ _ f (by lia))
structure HG (st:SortSt) (κ:KF) (a b:Array Keyed) (n:Nat) (Q:ForInStep H2->SortSt->Prop):Prop where
 dn:∀r c st',SG st st'->Mgd κ a.toList b.toList r.toList->Q (.done (be r,c,)) st'
 br:∀o' u' v' x y z st',SG st st'->RdH κ a b o' u' v'->u'+v'<n->Q (.done (gV,u',v',o',x,y,z,)) st'
 go:∀o' u' v' x y z st',SG st st'->RdH κ a b o' u' v'->u'+v'<n->Q (.yield (gV,u',v',o',x,y,z,)) st'
def b7w(C:MC M A E s κ k0 ajj a b)(R:RdH κ a b o (u+1) v)(hle:∀y∈b.toList.take v,κ y<=Kk κ a u)(H:HG st κ a b n Q)(hn:u+v<n):wpS M A E s (hi5 a b (u+1) v o g ac bc) Q st:=by
 let k:=R.ua;let j:a[u]?=be a[u]:=getElem?_pos ..;rw[a0Q (show u<a.size by lia)]at hle;unfold hi5;simp only[dr];show gI (a0A j ?_);let c:=R.w.pushA C.sa (a0L (a:=a) (i:=u) (by lia)) hle;rw[<- bJ]at c
 by_cases e:u=0
 .rw[if_pos ↑e];show gK (H.dn _ _ _ (SG.refl _) (a12▸c.doneA C.sa C.sb (.inl e)))
 .rw[if_neg ↑e];let d:RdH κ a b _ u v:=(c,by lia,R.hv)
  split
  .show gK (H.br _ _ _ _ _ _ _ (SG.refl _) d (by lia))
  .show gK (H.go _ _ _ _ _ _ _ (SG.refl _) d (by lia))
def a1P{l:List Keyed}(h:kR∈l.take n):∃q,q<n/\l[q]?=be kR:=by
 let(m,a):=bP h;let b:=(aM.mp a).1;rw[dR]at a
 split at a
 .show(m,by cbv,a)
 .grind
def b7x(C:MC M A E s κ k0 ajj a b)(hk:kindOf st=k0)(R:RdH κ a b o (u+1) (v+1))(hle:∀y∈a.toList.take (u+1),κ y<=Kk κ b v)(H:HG st κ a b n Q)(hn:u+v<n):wpS M A E s (hi4 a b (u+1) (v+1) o g ac bc) Q st:=by
 let I:=R.ua;let G:=R.vb;let F:=R.hv;let B:b[v]?=be b[v]:=getElem?_pos ..;let t:a[u]?=be a[u]:=getElem?_pos ..;let r:=a0L (a:=a) (i:=u) (by lia);rw[a0Q (show v<b.size by lia)]at hle;unfold hi4;simp only[dr];show gI (a0A B ?_);let d:=R.w.pushB C.sb (a0L (a:=b) (i:=v) (by lia)) hle;rw[<- bJ]at d
 by_cases e:v=1
 .rw[if_pos ↑e];subst e;show gK (H.dn _ _ _ (SG.refl _) (a2Y▸d.doneB C.sa C.sb C.first))
 .rw[if_neg ↑e];show gI (a0A t (gI (a1B C.L hk (C.ha _ (aZ r)) C.hb (by lia) (by lia) (a11 C.sb (by lia)) λp D j h=>?_)));dsimp only;simp only[cI]at j h;let c:∀y∈b.toList.take p,κ y<=Kk κ a u:=λy k=>by
   let(q,m,l):=a1P k
   let:=j q m
   rw[a3d l]at this;simp[bq]at this;rw[a0Q (show u<a.size by lia)]
   lia
  split
  .let f:=MH.runB C.sb (v-p) (by rw[show p+(v-p)=v by lia];show d) λq z m J l y k=>by
    let:=h q m (by lia)
    rw[a3d l]at this;simp[bq]at this;show bC (a1C C.sa r y k) this
   rw[<- a6T]at f
   by_cases e1:p=1
   .rw[if_pos ↑e1];subst e1;show gK (H.dn _ _ _ (SG.refl _) (a2Y▸f.doneB C.sa C.sb C.first))
   .rw[if_neg ↑e1]
    by_cases e2:p=0
    .rw[if_pos ↑e2];show gK (H.dn _ _ _ (SG.refl _) (a12▸f.doneA C.sa C.sb (.inr e2)))
    .rw[if_neg ↑e2];show b7w C (f,by lia,by lia) c H (by lia)
  .let:p=v:=by lia
   subst this;show b7w C (d,by lia,by lia) c H (by cbv)
def b94(C:MC M A E s κ k0 ajj a b)(hk:kindOf st=k0)(R:RdH κ a b o (u+1) (v+1))(H:HG st κ a b n Q)(hn:u+v<n):wpS M A E s (hi3 a b (u+1) (v+1) o g ac bc) Q st:=by
 let S:=R.ua;let N:=R.vb;let I:b[v]?=be b[v]:=getElem?_pos ..;let D:=a0L (a:=b) (i:=v) (by lia);unfold hi3;rw[a4o];show gI (io ?_);let h:SG st (SortSt.mk' _ _ _ g _):=(rfl,rfl,rfl,rfl);let e:kindOf (SortSt.mk' _ (arrOf st) (gQ st) g (ic st))=k0:=hk;generalize SortSt.mk' _ (arrOf st) (gQ st) g (ic st)=st1 at h e;let l:HG st1 κ a b n Q:=(λr c d g=>H.dn r c d (h.trans g),λ_ _ _ _ _ _ d g=>H.br _ _ _ _ _ _ d (h.trans g),λ_ _ _ _ _ _ d g=>H.go _ _ _ _ _ _ d (h.trans g));show gI (a0A I (gI (a1B C.L e (C.hb _ (aZ D)) C.ha (by lia) (by lia) (a11 C.sa (by lia)) λp J k j=>?_)));dsimp only;simp at k j;let f:∀y∈a.toList.take p,κ y<=Kk κ b v:=λy m=>by
  let(q,B,x):=a1P m
  let:=k q B
  rw[a3d x]at this;simp[bq]at this;rw[a0Q _];cbv
 split
 .let t:=MH.runA C.sa _ (show p+(u+1-p)=u+1 by lia▸R.w) λq z B T x y m=>by
   let:=j q B (by lia)
   rw[a3d x]at this;simp[bq]at this;show bC (a1C C.sb D y m) (b7 this)
  rw[<- a6T]at t
  by_cases e1:p=0
  .rw[if_pos ↑e1];show gK (l.dn _ _ _ (SG.refl _) (a12▸t.doneA C.sa C.sb (.inl e1)))
  .rw[if_neg ↑e1];obtain⟨G,rfl⟩:∃G,p=G+1:=(p-1,by lia);show b7x C e (t,by lia,R.hv) f l (by lia)
 .let:p=u+1:=by lia
  subst this;show b7x C e R f l (by cbv)
def b95(C:MC M A E s κ k0 ajj a b)(hk:kindOf st=k0)(R:RdH κ a b o (u+1) (v+1))(H:HG st κ a b n Q)(hn:u+v<n):wpS M A E s (hi2 a b (u+1) (v+1) o g ac bc) Q st:=by
 unfold hi2
 split<;>show b94 C hk R H hn
def b1r(C:MC M A E s κ k0 ajj a b):MH κ a.toList b.toList [a[a.size-1]'(by let:=C.h0;cbv)] (a.size-1) b.size:=by
 let f:=C.h0;let d:MH κ a.toList b.toList [] (a.size-1+1) b.size:=(by rw[a0X];lia,by rw[a0X];lia,by rw[cw (by rw[a0X];lia),cw (by rw[a0X];lia)];simp,.nil,λx h=>by simp at h,λx h=>by simp at h);show d.pushA C.sa (a0L (a:=a) (i:=a.size-1) (by cbv)) λy e=>C.hl _ (by simp) y (bx e)
def a9s(C:MC M A E s κ k0 ajj a b)(hk:kindOf st=k0)
  (h:∀r st',SG st st'->Mgd κ a.toList b.toList r.toList->Q r st'):wpS M A E s (a4q a b) Q st:=by
 let h0:=C.h0;let h1:=C.h1;rw[a5c];show a3W (gI (a0A (getElem?_pos a (a.size-1) (by cbv)) ?_));let V:=b1r C
 by_cases e1:a.size-1=0
 .rw[if_pos ↑e1];show gK (h _ _ (SG.refl _) (a12▸V.doneA C.sa C.sb (.inl e1)))
 rw[if_neg ↑e1]
 by_cases e2:b.size=1
 .rw[if_pos ↑e2];show gK (h _ _ (SG.refl _) ?_);rw[e2]at V;rw[a2Y,e2];show V.doneB C.sa C.sb C.first
 rw[if_neg ↑e2];show gI (ir ?_);let R0:RdH κ a b #[a[a.size-1]] (a.size-1) b.size:=(V,by lia,by lia);show gI (ie (h7 (I:=λx c e=>∃o u v g,c=(gV,u,v,o,g,)/\SG st e/\RdH κ a b o u v/\x+(u+v)<a.size+b.size)
  (Q:=λc e=>∃r G,c=(be r,G,)/\SG st e/\Mgd κ a.toList b.toList r.toList) ?step ?fin (_,_,_,_,rfl,SG.refl _,R0,by lia)) ?post)
 case post=>
  ext c e ⟨r,G,rfl,L,m⟩;show gK (h r e L m)
 case fin=>
  ext c e ⟨o,u,v,g,rfl,L,R,hx⟩
  lia
 case step=>
  ext x c e _ hx ⟨o,u,v,g,rfl,L,R,hxi⟩;dsimp only;let hk1:kindOf e=k0:=L.kd.trans hk;show gI (ie (h7 (I:=λy c l=>∃D f i S J,c=(gV,f,i,D,S,J,)/\l=e/\RdH κ a b D f i/\f+i+y<=u+v)
   (Q:=λc l=>l=e/\((∃r G,c=(be r,G,)/\Mgd κ a.toList b.toList r.toList)\/∃D f i S J,c=(gV,f,i,D,S,J,)/\RdH κ a b D f i/\f+i<=u+v)) ?st1 ?fi1 (_,_,_,_,_,rfl,rfl,R,by lia)) ?po1)
  case fi1=>
   ext c l ⟨D,f,i,S,J,rfl,rfl,H,Y⟩;show(rfl,.inr (_,_,_,_,_,rfl,H,by lia))
  case st1=>
   ext y c l _ Y ⟨D,f,i,S,J,rfl,rfl,H,hyi⟩;dsimp only;let hu1:=H.hu;let hv1:=H.hv;obtain⟨f,rfl⟩:∃z,f=z+1:=(f-1,by lia);obtain⟨i,rfl⟩:∃z,i=z+1:=(i-1,by lia);show b93 C hk1 H (λr c m=>(rfl,.inl (r,c,rfl,m))) (λo2 i2 j2 u v R2 U=>(rfl,.inr (_,_,_,_,_,rfl,R2,by lia))) λo2 i2 j2 u v R2 U=>(_,_,_,_,_,rfl,rfl,R2,by lia)
  case po1=>
   ext c l ⟨rfl,⟨r,G,rfl,m⟩ |⟨D,f,i,S,J,rfl,H,hij⟩⟩
   .show gK (r,_,rfl,L,m)
   .dsimp only;show a3W ?_;show gI (ie (h7 (I:=λy c p=>∃B k j N q t,c=(gV,k,j,B,N,q,t,)/\SG st p/\RdH κ a b B k j/\k+j+y<=f+i)
     (Q:=λc p=>SG st p/\((∃r G,c=(be r,G,)/\Mgd κ a.toList b.toList r.toList)\/∃B k j N q t,c=(gV,k,j,B,N,q,t,)/\RdH κ a b B k j/\k+j<f+i)) ?l ?fi2 (_,_,_,_,_,_,rfl,L,H,by lia)) ?po2)
    case fi2=>
     ext c p ⟨B,k,j,N,q,t,rfl,d,F,Y⟩;show(d,.inr (_,_,_,_,_,_,rfl,F,by let:=F.hu;lia))
    case l=>
     ext y c p _ Y ⟨B,k,j,N,q,t,rfl,d,F,hyi⟩;dsimp only;let hu1:=F.hu;let hv1:=F.hv;obtain⟨k,rfl⟩:∃z,k=z+1:=(k-1,by lia);obtain⟨j,rfl⟩:∃z,j=z+1:=(j-1,by lia);show b95 (n:=k+1+(j+1)) C (d.kd.trans hk) F (λr c W T m=>(d.trans T,.inl (r,c,rfl,m)),λo4 i4 j4 u v w W T X U=>(d.trans T,.inr (_,_,_,_,_,_,rfl,X,by lia)),λo4 i4 j4 u v w W T X U=>(_,_,_,_,_,_,rfl,d.trans T,X,by lia)) (by lia)
    case po2=>
     ext c p ⟨d,⟨r,G,rfl,m⟩ |⟨B,k,j,N,q,t,rfl,F,U⟩⟩
     .show gK (r,_,rfl,d,m)
     .dsimp only;rw[a4o];show gI (io (gK (_,_,_,_,rfl,(d.kd,d.ar,d.pe,d.fl),F,by lia)))
end
def SR(κ:KF)(xs:Array Keyed)(lo n:Nat):Prop:=∀i j,i<=j->j<n->Kk κ xs (lo+i)<=Kk κ xs (lo+j)
def NR(κ:KF)(xs:Array Keyed)(lo n:Nat):Prop:=∀i j,i<=j->j<n->Kk κ xs (lo+j)<=Kk κ xs (lo+i)
structure Ar (st st':SortSt) (lo:Nat):Prop where
 pm:(arrOf st').Perm (arrOf st)
 pre:∀i,i<lo->(arrOf st')[i]?=(arrOf st)[i]?
 kd:kindOf st'=kindOf st
 pe:gQ st'=gQ st
 fl:ic st'=ic st
section
variable{M:Model}{k0:im}{ajj:Array Keyed}{st st':SortSt}{lo:Nat}
def Ar.refl(st:SortSt)(lo:Nat):Ar st st lo:=(du.refl _,λ_ _=>rfl,rfl,rfl,rfl)
def Ar.trans(p:Ar x kR lo)(q:Ar kR z lo):Ar x z lo:=(q.pm.trans p.pm,λi h=>(q.pre i h).trans (p.pre i h),q.kd.trans p.kd,q.pe.trans p.pe,q.fl.trans p.fl)
def Ar.tb(q:Ar st st' lo)(B:TB k0 ajj st):TB k0 ajj st':=(q.pm.trans B.pm,q.kd.trans B.kd,q.fl.trans B.fl)
def b2Z(hs:src<xs.size)(hd:d<=src)(k:Nat) :
  Kk κ (bubble xs src d) k=if k=src-d then Kk κ xs src else if src-d<k/\k<=src then Kk κ xs (k-1) else Kk κ xs k:=by
 let q:=getElem?_bubble hs d hd k
 by_cases h1:k=src-d
 .rw[if_pos h1]at q ⊢;show a3c q
 .rw[if_neg h1]at q ⊢
  by_cases h2:src-d<k/\k<=src
  .rw[if_pos h2]at q ⊢;show a3c q
  .rw[if_neg h2]at q ⊢;show a3c q
def Ar.bub(hs:src<(arrOf st).size)(hd:d<=src)(h:lo<=src-d):Ar st (setArr st (bubble (arrOf st) src d)) lo:=
 (bubble_perm _ _ _,λi a=>by
  rw[getElem?_bubble hs d hd,if_neg (by lia),if_neg (by lia)],rfl,rfl,rfl)
def a9t(hj:j<=xs.size)(k:Nat):Kk κ (mirror xs i j ((j-i) / 2)) k=if i<=k/\k<j then Kk κ xs (i+j-1-k) else Kk κ xs k:=by
 let q:=getElem?_mirror_all (i:=i) hj k
 by_cases h1:i<=k/\k<j
 .rw[if_pos h1]at q ⊢;show a3c q
 .rw[if_neg h1]at q ⊢;show a3c q
def a3e(hj:j<=xs.size)(hq:∀k,i<=k->k<j->Kk κ xs k=Kk κ xs (j-1))(k:Nat):Kk κ (mirror xs i j ((j-i) / 2)) k=Kk κ xs k:=by
 rw[a9t hj]
 split
 .grind
 .rfl
def Ar.mir(hj:j<=(arrOf st).size)(h:lo<=i):Ar st (setArr st (mirror (arrOf st) i j ((j-i) / 2))) lo:=
 (mirror_perm _ _ _ _,λk a=>by
  rw[getElem?_mirror_all hj,if_neg (by lia)],rfl,rfl,rfl)
def b1s(L:LtOk M A E s κ k0 ajj)(B:TB k0 ajj st)(hn:lo+n<=ajj.size)(hok:ok<=n)(hs:SR κ (arrOf st) lo ok)
  (h:∀st',Ar st st' lo->SR κ (arrOf st') lo n->Q kP st'):wpS M A E s (binarySort' lo n ok) Q st:=by
 rw[binarySort'_eq];show gI (ie (h7 (I:=λk c z=>c=(gV,(),)/\Ar st z lo/\SR κ (arrOf z) lo (min k n)) (Q:=λc z=>c=(gV,(),)/\Ar st z lo/\SR κ (arrOf z) lo n) ?step ?fin ?init) ?post)
 case post=>
  ext c z ⟨rfl,r1,r2⟩;show gK (h z r1 r2)
 case init=>
  show(rfl,Ar.refl _ _,λi j hij hj=>?_)
  by_cases h1:ok=0
  .let:i=j:=by lia
   rw[this];show cg _
  .show hs i j hij (by lia)
 case fin=>
  ext c z ⟨hc,r1,r2⟩;show(hc,r1,?_)
  rwa [show min (max (max ok 1) n) n=n by lia]at r2
 case step=>
  ext k c z hak hkn ⟨rfl,r1,r2⟩;rw[show min k n=k by lia]at r2;let B1:=r1.tb B;show gI (ie (h7 (I:=λx c y=>y=z/\∃p q,c=(gV,p,q,)/\p<=q/\q<=k/\q-p<=k-x/\(∀i,i<p->Kk κ (arrOf z) (lo+i)<=Kk κ (arrOf z) (lo+k))/\(∀i,q<=i->i<k->Kk κ (arrOf z) (lo+k)<Kk κ (arrOf z) (lo+i)))
   (Q:=λc y=>y=z/\∃p q,c=(gV,p,q,)/\p<=k/\(∀i,i<p->Kk κ (arrOf z) (lo+i)<=Kk κ (arrOf z) (lo+k))/\(∀i,p<=i->i<k->Kk κ (arrOf z) (lo+k)<Kk κ (arrOf z) (lo+i))) ?istep ?ifin ?iinit) ?ipost)
  case iinit=>show(rfl,0,k,rfl,by lia,by lia,by lia,λi hi=>by lia,λi h1 h2=>by lia)
  case ifin=>
   ext c y ⟨rfl,p,q,rfl,u1,u2,u3,u4,u5⟩
   let:p=q:=by lia
   subst this;show(rfl,p,p,rfl,u2,u4,u5)
  case istep=>
   ext x c y _ hxk ⟨rfl,p,q,rfl,u1,u2,u3,u4,u5⟩;dsimp only
   by_cases hge:p>=q
   .rw[if_pos hge]
    let:p=q:=by lia
    subst this;show gK (rfl,p,p,rfl,u2,u4,u5)
   .rw[if_neg hge];show gI (a5a L B1 (by lia) (by lia) ?_)
    by_cases hless:Kk κ (arrOf y) (lo+k)<Kk κ (arrOf y) (lo+(p+q) / 2)
    .simp only[hless,decide_true,if_true];show gK (rfl,p,(p+q) / 2,rfl,(hvM hge).1,by lia,(hvS hxk u3 (hvM hge).1 (hvM hge).2).1,u4,λi h1 h2=>?_);show Int.lt_of_lt_of_le hless (r2 _ _ h1 h2)
    .simp only[hless,decide_false,cJ,if_false];show gK (rfl,(p+q) / 2+1,q,rfl,(hvM hge).2,u2,(hvS hxk u3 (hvM hge).1 (hvM hge).2).2,λi h1=>?_,u5);show bC (r2 i ((p+q) / 2) (by lia) (by lia)) (dQ.mp hless)
  case ipost=>
   ext c y ⟨rfl,p,q,rfl,u2,u4,u5⟩
   change wpS _ _ _ _ (do moveDown' (lo+k) (lo+p);pure (ForInStep.yield (gV,(),))) _ _
   rw[moveDown'_eq];let hks:lo+k<(arrOf y).size:=by rw[B1.sz];lia
   show gI (io (gK (rfl,r1.trans (Ar.bub hks (by lia) (by lia)),?_)));rw[show min (k+1) n=k+1 by lia];ext i j hij hj
   change Kk κ (bubble (arrOf y) (lo+k) (lo+k-(lo+p))) (lo+i)<=Kk κ (bubble (arrOf y) (lo+k) (lo+k-(lo+p))) (lo+j)
   rw[b2Z hks (by lia),b2Z hks (by lia),show lo+k-(lo+k-(lo+p))=lo+p by lia];let ek:∀t,1<=t->lo+t-1=lo+(t-1):=λt ht=>by lia
   repeat' split
   all_goals first
    | (exfalso;lia)
    |show cg _
    |show u4 _ (by lia)
    | (rw[ek _ (by lia)];show u4 _ (by lia))
    |show b7 (u5 _ (by lia) (by lia))
    | (rw[ek _ (by lia)];show b7 (u5 _ (by lia) (by lia)))
    |show r2 _ _ (by lia) (by lia)
    | (rw[ek j (by lia)];show r2 _ _ (by lia) (by lia))
    | (rw[ek i (by lia)];show r2 _ _ (by lia) (by lia))
    | (rw[ek i (by lia),ek j (by lia)];show r2 _ _ (by lia) (by lia))
end
abbrev U1:=Option (Option Nat)×Nat
abbrev U2:=Option (Option Nat)×Nat×Nat
noncomputable def rise(lo p nr:Nat):SM U1:=forIn [p:nr] ((gV,p,):U1) λ_ c=>do
 let x <- ltAt' (lo+c.2) (lo+c.2-1)
 match x with
 |some sm=>if sm=kP then pure (.done (gV,c.2,)) else pure (.yield (gV,c.2+1,))
 |_=>pure (.done (be gV,c.2,))
noncomputable def fin3(lo n nr:Nat):SM (Option Nat):=do
 jv lo (lo+n)
 let c <- rise lo n nr
 match c.1 with
 |some r=>pure r
 |none=>pure (be c.2)
noncomputable def fall(lo n nr:Nat):SM U2:=forIn [n:nr] ((gV,n,0,):U2) λ_ c=>do
 let x <- ltAt' (lo+c.2.1) (lo+c.2.1-1)
 match x with
 |some sm=>
  if sm=kP then
   if c.2.2 > 0 then do
    jv (lo+c.2.1-(c.2.2+1)) (lo+c.2.1)
    pure (.yield (gV,c.2.1+1,0,))
   else pure (.yield (gV,c.2.1+1,0,))
  else do
   let x <- ltAt' (lo+c.2.1-1) (lo+c.2.1)
   match x with
   |some lg=>if lg=kP then pure (.done (gV,c.2.1,c.2.2,)) else pure (.yield (gV,c.2.1+1,c.2.2+1,))
   |_=>pure (.done (be gV,c.2.1,c.2.2,))
 |_=>pure (.done (be gV,c.2.1,c.2.2,))
noncomputable def part(lo n nr:Nat):SM (Option Nat):=do
 liftM (rule "list.sort.descending-run")
 let c <- fall lo (n+1) nr
 match c.1 with
 |some r=>pure r
 |none=>
  if c.2.2 > 0 then do
   jv (lo+c.2.1-(c.2.2+1)) (lo+c.2.1)
   fin3 lo c.2.1 nr
  else fin3 lo c.2.1 nr
def a4r(lo nr:Nat):countRun' lo nr=(do
  let c <- rise lo 1 nr
  match c.1 with
  |some r=>pure r
  |none=>
   if (c.2==nr)=kP then pure (be c.2)
   else if c.2 > 1 then do
    let x <- ltAt' lo (lo+c.2-1)
    match x with
    |some up=>if up=kP then pure (be c.2) else do
      jv lo (lo+c.2)
      part lo c.2 nr
    |_=>pure gV
   else part lo c.2 nr):=by
 kernel_rfl
section
variable{M:Model}{k0:im}{ajj:Array Keyed}{st:SortSt}{lo nr:Nat}
def b1t{α:Type}{f:Unit->SM α}{Q:α->SortSt->Prop}(h:wpS M A E s (f ()) Q (setArr st (mirror (arrOf st) i j ((j-i) / 2)))):wpS M A E s (jv i j >>= f) Q st:=gI (io h)
def SR.one:SR κ xs lo 1:=by grind [SR]
def SR.snoc(h:SR κ xs lo n)(h1:1<=n)(c:Kk κ xs (lo+n-1)<=Kk κ xs (lo+n)):SR κ xs lo (n+1):=λi j a b=>by
 by_cases hjn:j<n
 .show h i j a hjn
 .let e:j=n:=by lia
  subst e
  by_cases e2:i=j
  .rw[e2];show cg _
  .show bC (h i (j-1) (by lia) (by lia)) ?_;rw[show lo+(j-1)=lo+j-1 by lia];show c
def NR.snoc(h:NR κ xs lo n)(h1:1<=n)(c:Kk κ xs (lo+n)<=Kk κ xs (lo+n-1)):NR κ xs lo (n+1):=λi j a b=>by
 by_cases hjn:j<n
 .show h i j a hjn
 .let e:j=n:=by lia
  subst e
  by_cases e2:i=j
  .simp_all
  .show bC ?_ (h i (j-1) (by lia) (by lia));rw[show lo+(j-1)=lo+j-1 by lia];show c
def NR.congr(h:NR κ xs lo n)(e:∀k,Kk κ ys k=Kk κ xs k):NR κ ys lo n:=λi j b a=>by rw[e,e];show h i j b a
def b20(L:LtOk M A E s κ k0 ajj)(B:TB k0 ajj st)(hn:lo+nr<=ajj.size)(hp:1<=p)(hpn:p<=nr)(hs:SR κ (arrOf st) lo p)
  (h:∀n,p<=n->n<=nr->SR κ (arrOf st) lo n->(n=nr\/Kk κ (arrOf st) (lo+n)<Kk κ (arrOf st) (lo+n-1))->Q (gV,n,) st):wpS M A E s (rise lo p nr) Q st:=by
 show h7 (I:=λx c z=>z=st/\c=(gV,x,)/\SR κ _ lo x) ?step ?fin (rfl,rfl,hs)
 case fin=>
  ext c z ⟨rfl,rfl,a⟩;rw[show max p nr=nr by lia]at a ⊢;show h nr hpn (aI _) a (.inl rfl)
 case step=>
  ext x c z b d ⟨rfl,rfl,a⟩;show gI (a5a L B (by lia) (by lia) ?_)
  by_cases q:Kk κ (arrOf z) (lo+x)<Kk κ (arrOf z) (lo+x-1)
  .simp only[q];show gK (h x b (by lia) a (.inr q))
  .simp only[q];show gK (rfl,rfl,a.snoc (by lia) (dQ.mp q))
def b21(L:LtOk M A E s κ k0 ajj)(B:TB k0 ajj st)(hn:lo+nr<=ajj.size)(h1:1<=n)(hnn:n<=nr)(hs:NR κ (arrOf st) lo n)
  (h:∀m z,Ar st z lo->1<=m->m<=nr->SR κ (arrOf z) lo m->Q (be m) z):wpS M A E s (fin3 lo n nr) Q st:=by
 let a:lo+n<=(arrOf st).size:=by rw[B.sz];lia
 show b1t ?_;let b:Ar st _ lo:=Ar.mir a (aI _);show gI (b20 L (b.tb B) hn h1 hnn ?_ λm g d c _=>gK (h m _ b (by lia) d c));ext i j e f;rw[a9t a,a9t a,if_pos (by lia),if_pos (by lia),show lo+_-1-_=lo+(n-1-i) by lia,show lo+_-1-_=lo+(n-1-j) by lia];show hs _ _ (by lia) (by lia)
def b7y(L:LtOk M A E s κ k0 ajj)(B:TB k0 ajj st)(hn:lo+nr<=ajj.size)(h1:1<=n)(hnn:n<=nr)(hs:NR κ (arrOf st) lo n)
  (h:∀m e z,Ar st z lo->n<=m->m<=nr->NR κ (arrOf z) lo m->e+1<=m->(∀i,lo+m-(e+1)<=i->i<lo+m->Kk κ (arrOf z) i=Kk κ (arrOf z) (lo+m-1))->Q (gV,m,e,) z):wpS M A E s (fall lo n nr) Q st:=by
 unfold fall;show h7 (I:=λx c z=>∃e,c=(gV,x,e,)/\Ar st z lo/\NR κ (arrOf z) lo x/\e+1<=x/\(∀i,lo+x-(e+1)<=i->i<lo+x->Kk κ (arrOf z) i=Kk κ (arrOf z) (lo+x-1))) ?step ?fin (0,rfl,Ar.refl _ _,hs,by lia,λi l a=>by congr 1;lia)
 case fin=>
  ext c z ⟨e,rfl,b,a,f,d⟩;rw[show max n nr=nr by lia]at a f d ⊢;show h nr e z b hnn (aI _) a f d
 case step=>
  ext x c z p r ⟨e,rfl,b,a,f,d⟩;dsimp only;let k:=b.tb B;let j:lo+x<=(arrOf z).size:=by rw[k.sz];lia
  show gI (a5a L k (by lia) (by lia) ?_)
  by_cases q:Kk κ (arrOf z) (lo+x)<Kk κ (arrOf z) (lo+x-1)
  .simp only[q,decide_true,if_true];let o:=a.snoc (by lia) (b7 q)
   by_cases g:e > 0
   .rw[if_pos g];show b1t (gK (0,rfl,b.trans (Ar.mir j (by lia)),o.congr (a3e j d),by lia,λi l a=>by congr 1;lia))
   .rw[if_neg g];show gK (0,rfl,b,o,by lia,λi l a=>by congr 1;lia)
  .simp only[q,decide_false,if_false];show gI (a5a L k (by lia) (by lia) ?_)
   by_cases q2:Kk κ (arrOf z) (lo+x-1)<Kk κ (arrOf z) (lo+x)
   .simp only[q2,decide_true,if_true];show gK (h x e z b p (by lia) a f d)
   .simp only[q2,decide_false,if_false];let g:Kk κ (arrOf z) (lo+x)=Kk κ (arrOf z) (lo+x-1):=by lia
    show gK (e+1,rfl,b,a.snoc (by lia) (by lia),by lia,λi l a=>?_);rw[show lo+(x+1)-1=lo+x by lia]
    by_cases hix:i=lo+x
    .rw[hix]
    .grind
def b22(L:LtOk M A E s κ k0 ajj)(B:TB k0 ajj st)(hn:lo+nr<=ajj.size)(hnn:n+1<=nr)(hs:NR κ (arrOf st) lo (n+1))
  (h:∀m z,Ar st z lo->1<=m->m<=nr->SR κ (arrOf z) lo m->Q (be m) z):wpS M A E s (part lo n nr) Q st:=by
 show a3W (gI (b7y L B hn (by simp) hnn hs λm e z c l i g o j=>?_));dsimp only;let f:=c.tb B;let a:lo+m<=(arrOf z).size:=by rw[f.sz];lia
 by_cases he:e > 0
 .rw[if_pos he];let d:Ar st (setArr z (mirror (arrOf z) (lo+m-(e+1)) _ _)) lo:=c.trans (Ar.mir a (by lia));show b1t (b21 L (d.tb B) hn (by lia) i (g.congr (a3e a j)) λk w b=>h k w (d.trans b))
 .rw[if_neg he];show b21 L f hn (by lia) i g λk w b=>h k w (c.trans b)
def b4k(L:LtOk M A E s κ k0 ajj)(B:TB k0 ajj st)(hn:lo+nr<=ajj.size)(h1:1<=nr)
  (h:∀m z,Ar st z lo->1<=m->m<=nr->SR κ (arrOf z) lo m->Q (be m) z):wpS M A E s (countRun' lo nr) Q st:=by
 rw[a4r];show gI (b20 L B hn (aI 1) h1 SR.one λn e l b t=>?_);dsimp only
 by_cases hnn:n=nr
 .rw[if_pos ↑hnn];show gK (h n st (Ar.refl _ _) e l b)
 .rw[if_neg ↑hnn];let d:=t.resolve_left hnn;let c:lo+n<=(arrOf st).size:=by rw[B.sz];lia
  by_cases hgt:n > 1
  .rw[if_pos hgt];show gI (a5a L B (by lia) (by lia) ?_)
   by_cases q:Kk κ (arrOf st) lo<Kk κ (arrOf st) (lo+n-1)
   .simp only[q,decide_true,if_true];show gK (h n st (Ar.refl _ _) e l b)
   .simp only[q,if_false];let a:∀k,lo<=k->k<lo+n->Kk κ (arrOf st) k=Kk κ (arrOf st) (lo+n-1):=λk y x=>by
     let g:=b 0 (k-lo) (by lia) (by lia);let f:=b (k-lo) (n-1) (by lia) (by lia);rw[show lo+(k-lo)=k by lia]at g f;rw[show lo+(n-1)=lo+n-1 by lia]at f;rw[dS]at g
     lia
    let o:Ar st _ lo:=Ar.mir c (aI _);let u:NR κ (arrOf st) lo (n+1):=by
     show NR.snoc (λi j p r=>?_) (by cbv) (b7 d);rw[a (lo+i) (by lia) (by lia),a (lo+j) (by lia) (by lia)];show cg _
    show b1t (b22 L (o.tb B) hn (by lia) (u.congr (a3e c a)) λk w v=>h k w (o.trans v))
  .rw[if_neg hgt]
   let:n=1:=by lia
   subst this;show b22 L B hn (by lia) ?_ h;show NR.snoc (λi j p r=>?_) (by cbv) (b7 d)
   let:i=j:=by lia
   rw[this];show cg _
end
def a58(i:Nat):kl i=(do
 let z <- get
 let (be (p,n,w,),be (q,m,_,),):=((gQ z)[i]?,(gQ z)[i+1]?,) |iJ "internal:list.sort.pending"
 set (jw z (((gQ z).setIfInBounds i (p,n+m,w,)).eraseIdxIfInBounds (i+1)))
 let be k <- a1x kQ (<- elem' (arrOf z) q) (arrOf z) p n 0 |return kQ
 let (p,n,):=(p+k,n-k,)
 if n==0 then return kP
 let be m <- a1x kP (<- elem' (arrOf z) (p+n-1)) (arrOf z) q m (m-1) |return kQ
 if m==0 then return kP
 let x:=(arrOf z).extract p q
 let y:=(arrOf z).extract q (q+m)
 let mg <- if n<=m then a4p x y else a4q x y
 modify λz=>setArr z (mg.toList.zipIdx.foldl (λa (v,j,)=>a.setIfInBounds (p+j) v) (arrOf z))
 return (ic (<- get)).isNone):=rfl
def b1u(bs:Nat):∀(l:List Keyed)(k:Nat)(xs:Array Keyed),bs+k+l.length<=xs.size ->
  ((l.zipIdx k).foldl (λa (pj:Keyed×Nat)=>a.setIfInBounds (bs+pj.2) pj.1) xs).toList=xs.toList.take (bs+k)++(l++xs.toList.drop (bs+k+l.length)):=by ext z0;induction z0 with
 |nil=>ext k xs _;simp
 |cons x l I0=>
  ext k xs h;rw[aV]at h;rw[fE,fF,I0 _ _ (by grind)];let e:(xs.setIfInBounds (bs+k) x).toList=xs.toList.set (bs+k) x:=by simp
  rw[e,show bs+_=bs+k+1 by lia,fG (by lia),aV,show bs+k+1+l.length=bs+k+(l.length+1) by lia]
  let:(xs.toList.set (bs+k) x).take (bs+k+1)=xs.toList.take (bs+k)++[x]:=by
   rw[cf,fH (aI _),dD (by grind)]
   rfl
  rw[this];simp
section
variable{M:Model}{k0:im}{ajj:Array Keyed}{st:SortSt}
def b96(h:Q ⟨⟩ z):wpS M A E s (set z:SM PUnit) Q st:=gF (rfl,h)
def b23(e:xs.toList=kR++(kU++R))(hi:i<kU.length):Kk κ xs (kR.length+i)=κ kU[i]:=by
 show a3d ?_;rw[e,cy (by simp),cz (by lia),show kR.length+i-kR.length=i by lia];show aP hi
def a13(h:Srt κ kR)(hij:i<=j)(hj:j<kR.length):κ (kR[i]'(by lia))<=κ kR[j]:=by
 by_cases e:i=j
 .subst e;show cg _
 .show cD.mp h i j (by lia) hj (by lia)
def a6U{X:List Keyed}(h:x∈X):∃i,∃(hi:i<X.length),X[i]=x:=dv.mp h
def a5d{X:List Keyed}(h:x∈X.take k):∃i,∃(hi:i<X.length),i<k/\X[i]=x:=by
 let(q,a,d):=a1P h;let(b,c):=aM.mp d;show(q,b,a,c)
def a6V{X:List Keyed}(h:x∈X.drop k):∃i,∃(hi:i<X.length),k<=i/\X[i]=x:=by
 let(q,b,e,d):=a1O h;let(c,a):=aM.mp d;show(q,c,b,a)
def a9u(L:LtOk M A E s κ k0 ajj)(B:TB k0 ajj st)(e1:(gQ st)[i]?=be (sa,na,pw,))(e2:(gQ st)[i+1]?=be (sb,nb,pw2,))
  (ea:(arrOf st).toList=kR++(kU++(Y++S))) (hP:kR.length=sa) (hX:kU.length=na) (hsb:sb=sa+na) (hY:Y.length=nb) (sX:Srt κ kU) (sY:Srt κ Y) (h1:0<na) (h2:0<nb)
  (h:∀st' Z,TB k0 ajj st'->(arrOf st').toList=kR++(Z++S)->Z.length=na+nb->Srt κ Z->gQ st'=((gQ st).setIfInBounds i (sa,na+nb,pw,)).eraseIdxIfInBounds (i+1)->Q kP st'):wpS M A E s (kl i) Q st:=by
 let hsz:(arrOf st).size=sa+na+nb+S.length:=by
  rw[<- a0X,ea];simp;lia
 let hmem:∀p∈(arrOf st).toList,p∈ajj.toList:=λp hp=>(dk.mp B.pm).mem_iff.mp hp;let eb:(arrOf st).toList=(kR++kU)++(Y++S):=by rw[ea,bv]
 let kX:∀i,(hi:i<kU.length)->Kk κ (arrOf st) (sa+i)=κ kU[i]:=λi hi=>by rw[<- hP];show b23 ea hi
 let kY:∀i,(hi:i<Y.length)->Kk κ (arrOf st) (sb+i)=κ Y[i]:=λi hi=>by
  rw[hsb,<- hP,<- hX,<- aW];show b23 eb hi
 rw[a58];show gI (ir ?_);rw[e1,e2];dsimp only;show gI (b96 ?_);let B1:TB k0 ajj (jw st (((gQ st).setIfInBounds i (sa,na+nb,pw,)).eraseIdxIfInBounds (i+1))):=(B.pm,B.kd,B.fl);let hs1:arrOf (jw st (((gQ st).setIfInBounds i (sa,na+nb,pw,)).eraseIdxIfInBounds (i+1)))=arrOf st:=rfl;let hp1:gQ (jw st (((gQ st).setIfInBounds i (sa,na+nb,pw,)).eraseIdxIfInBounds (i+1)))=((gQ st).setIfInBounds i (sa,na+nb,pw,)).eraseIdxIfInBounds (i+1):=rfl;generalize jw st (((gQ st).setIfInBounds i (sa,na+nb,pw,)).eraseIdxIfInBounds (i+1))=st1 at B1 hs1 hp1;let hy0:sb<(arrOf st).size:=by lia
 let ey:(arrOf st)[sb]?=be (arrOf st)[sb]:=getElem?_pos ..;let hky:κ (arrOf st)[sb]=κ Y[0]:=by
  let:=kY 0 (by cbv)
  rw[dS,a56 ey]at this;show this
 let hmy:(arrOf st)[sb]∈ajj.toList:=hmem _ (by simp);show gI (a0A ey (gI ?_));show a1B L B1.kd hmy hmem (by lia) (by cbv) (λp q hp hq=>by rw[kX p (by lia),kX q (by cbv)];show a13 sX hp (by cbv)) λk hkn hlt hge=>?_;dsimp only;let lo:∀q,(hq:q<kU.length)->q<k->κ kU[q]<=κ Y[0]:=λq hq hqk=>by
  let:=hlt q hqk
  rw[kX q hq,hky]at this;simpa[bq]using this
 let up:∀q,(hq:q<kU.length)->k<=q->κ Y[0]<κ kU[q]:=λq hq hqk=>by
  let:=hge q hqk (by lia)
  rw[kX q hq,hky]at this;simpa[bq]using this
 let whole:(∀x∈kU,∀y∈Y,κ x<=κ y)->Q kP st1:=λhxy=>by
  show h st1 (kU++Y) B1 (by rw[hs1,ea,bv]) (by rw[aW,hX,hY]) ?_ hp1;show bp.mpr (sX,sY,hxy)
 by_cases c1:na-k=0
 .rw[if_pos ↑c1];show gK (whole λx hx y hy=>?_);let(q,hq,rfl):=a6U hx;let(r,hr,rfl):=a6U hy;show bC (lo q hq (by lia)) (a13 sY (bg _) hr)
 rw[if_neg ↑c1];let hl:sa+k+(na-k)-1<(arrOf st).size:=by lia
 let ex:(arrOf st)[sa+k+(na-k)-1]?=be (arrOf st)[sa+k+(na-k)-1]:=getElem?_pos ..;let hkx:κ (arrOf st)[sa+k+(na-k)-1]=κ kU[na-1]:=by
  let:=kX (na-1) (by cbv)
  rw[show sa+(na-1)=sa+k+(na-k)-1 by lia,a56 ex]at this;show this
 let hmx:(arrOf st)[sa+k+(na-k)-1]∈ajj.toList:=hmem _ (by simp);show gI (a0A ex (gI ?_));show a1B L B1.kd hmx hmem (by lia) (by lia) (λp q hp hq=>by rw[kY p (by lia),kY q (by cbv)];show a13 sY hp (by cbv)) λm hmn hlt2 hge2=>?_;dsimp only;let lo2:∀q,(hq:q<Y.length)->q<m->κ Y[q]<κ kU[na-1]:=λq hq hqk=>by
  let:=hlt2 q hqk
  rw[kY q hq,hkx]at this;simpa[bq]using this
 let up2:∀q,(hq:q<Y.length)->m<=q->κ kU[na-1]<=κ Y[q]:=λq hq hqk=>by
  let:=hge2 q hqk (by lia)
  rw[kY q hq,hkx]at this;simpa[bq]using this
 by_cases c2:m=0
 .rw[if_pos ↑c2];show gK (whole λx hx y hy=>?_);let(q,hq,rfl):=a6U hx;let(r,hr,rfl):=a6U hy;show bC (a13 sX (by lia) (by lia)) (up2 r hr (by lia))
 rw[if_neg ↑c2];let lx:((arrOf st).extract (sa+k) sb).toList=kU.drop k:=by
  rw[fI,dP,ea,eG,<- hP,dq (by lia),dw,show kR.length+k-kR.length=k by lia,fJ (by lia),dU (by rw[bH];lia),cw (by rw[bH];lia)]
 let ly:((arrOf st).extract sb (sb+m)).toList=Y.take m:=by
  rw[fI,dP,eb,eG,dq (by rw[aW];lia),dw,show sb-(kR++kU).length=0 by rw[aW];lia,List.drop_zero,dU (by lia),show sb+m-sb=m by lia]
 let C:MC M A E s κ k0 ajj ((arrOf st).extract (sa+k) sb) ((arrOf st).extract sb (sb+m)):=by
  show(L,λp hp=>?_,λp hp=>?_,?_,?_,?_,?_,λy hy=>?_,λz hz y hy=>?_)
  .rw[lx]at hp;show hmem p (by rw[ea];simp[eE hp])
  .rw[ly]at hp;show hmem p (by rw[ea];simp[bx hp])
  .rw[lx];show a00 sX k
  .rw[ly];show a1h sY m
  .rw[<- a0X,lx,bH];lia
  .rw[<- a0X,ly,aY];lia
  .rw[lx]at hy;let(q,hq,hk,rfl):=a6V hy;rw[a3d (z:=Y[0]) (by rw[ly,dR,if_pos (by lia)];show aP _)];show b7 (up q hq hk)
  .rw[ly]at hy;rw[lx,bH,cU,show k+(kU.length-k-1)=na-1 by lia,aP (show na-1<kU.length by cbv)]at hz;cases hz;let(q,hq,hk,rfl):=a5d hy;show b7 (lo2 q hq hk)
 let fin:∀(r:Array Keyed)(st2:SortSt),SG st1 st2->Mgd κ ((arrOf st).extract (sa+k) sb).toList ((arrOf st).extract sb (sb+m)).toList r.toList ->
   wpS M A E s (do
    modify λz=>setArr z (r.toList.zipIdx.foldl (λa (pj:Keyed×Nat)=>a.setIfInBounds (sa+k+pj.2) pj.1) (arrOf z))
    return (ic (<- get)).isNone) Q st2:=by
  ext r st2 g2 mg;rw[lx,ly]at mg;let hrl:r.toList.length=na-k+m:=by rw[mg.1.length_eq,aW,bH,aY];lia
  show gI (io (gI (ir (gK ?_))));let ha2:arrOf st2=arrOf st:=g2.ar.trans hs1;let ef:=b1u (sa+k) r.toList 0 (arrOf st2) (by rw[ha2];lia);let el:(r.toList.zipIdx.foldl (λa (pj:Keyed×Nat)=>a.setIfInBounds (sa+k+pj.2) pj.1) (arrOf st2)).toList=kR++((kU.take k++r.toList++Y.drop m)++S):=by
   rw[ef,ha2,dS,hrl];let t1:(arrOf st).toList.take (sa+k)=kR++kU.take k:=by
    rw[ea,List.take_append,cw (by lia),<- hP,show kR.length+k-kR.length=k by lia,dU (by cbv)]
   let t2:(arrOf st).toList.drop (sa+k+(na-k+m))=Y.drop m++S:=by
    rw[eb,eG,dq (by rw[aW];cbv),dw,show sa+k+(na-k+m)-(kR++kU).length=m by rw[aW];cbv,fJ (by cbv)]
   rw[t1,t2];simp
  generalize hgz:r.toList.zipIdx.foldl (λa (pj:Keyed×Nat)=>a.setIfInBounds (sa+k+pj.2) pj.1) (arrOf st2)=ar at el;let hperm:(kU.take k++r.toList++Y.drop m).Perm (kU++Y):=by
   let:(kU.take k++r.toList++Y.drop m).Perm (kU.take k++(kU.drop k++Y.take m)++Y.drop m):=(bn.append_left _ mg.1).append_right _
   show this.trans ?_;let e:kU.take k++(kU.drop k++Y.take m)++Y.drop m=kU++Y:=by
    rw[<- bv,dy,bv,dy]
   rw[e]
  let pm:ar.Perm (arrOf st):=by
   rw[dk,el,ea];show bn.append_left _ ?_;rw[<- bv (as:=kU)];show hperm.append_right _
  let hfl:ic (setArr st2 ar)=gV:=g2.fl.trans B1.fl;let B2:TB k0 ajj (setArr st2 ar):=(pm.trans B.pm,g2.kd.trans B1.kd,hfl);rw[hfl];show h _ _ B2 el (by rw[hperm.length_eq,aW,hX,hY]) ?_ (g2.pe.trans hp1);let hr:∀w∈r.toList,w∈kU.drop k\/w∈Y.take m:=λw hw=>aJ.mp (mg.1.mem_iff.mp hw);show bp.mpr (bp.mpr (a1h sX k,mg.2,λx hx w hw=>?_),a00 sY m,λx hx y hy=>?_)
  .let(q,hq,hk,rfl):=a5d hx;let hw||hw:=hr w hw
   .let(p,hp,hk2,rfl):=a6V hw;show a13 sX (by cbv) hp
   .let(p,hp,hk2,rfl):=a5d hw;show bC (lo q hq hk) (a13 sY (bg _) hp)
  .let(p,hp,hk2,rfl):=a6V hy;let hx||hx:=aJ.mp hx
   .let(q,hq,hk,rfl):=a5d hx;show bC (lo q hq hk) (a13 sY (bg _) hp)
   .let hx||hx:=hr x hx
    .let(q,hq,hk,rfl):=a6V hx;show bC (a13 sX (by cbv) (by cbv)) (up2 p hp hk2)
    .let(q,hq,hk,rfl):=a5d hx;show a13 sY (by cbv) hp
 split
 .show gI (a9r C B1.kd λr st2 g2 mg=>fin r st2 g2 mg)
 .show gI (a9s C B1.kd λr st2 g2 mg=>fin r st2 g2 mg)
end
noncomputable def pr(p:Nat×Nat×Nat):Nat×Nat:=(p.1,p.2.1,)
noncomputable def offs:Nat->List (List Keyed)->List (Nat×Nat)
 |_,[]=>[]
 |o,R::Rs=>(o,R.length,)::offs (o+R.length) Rs
def a1Q:∀(o:Nat)(U V:List (List Keyed)),offs o (U++V)=offs o U++offs (o+U.flatten.length) V:=by ext z0 y0;induction y0 generalizing z0 with
 |nil=>ext V;simp[offs]
 |cons R U I0=>
  ext V;rw[dz,offs,offs,I0,dz,fK,aW,cW]
def a1i:∀(o:Nat)(U:List (List Keyed)),(offs o U).length=U.length:=by ext z0 y0;induction y0 generalizing z0 with
 |nil=>show rfl
 |cons R U I0=>rw[offs,aV,aV,I0]
def a9v{α:Type}{q p1 p2:α}{pv:List α}:∀pu:List α,((pu++p1::p2::pv).set pu.length q).eraseIdx (pu.length+1)=pu++q::pv:=by ext z0;induction z0 with
 |nil=>show rfl
 |cons x pu I0=>rw[dz,aV,List.set_cons_succ,eI,I0,dz]
theorem a5e{α β:Type}{f:α->β}:∀(l:List α)(k:Nat),(l.map f).eraseIdx k=(l.eraseIdx k).map f
 |[],_=>by simp
 |x::l,0=>by simp
 |x::l,k+1=>by rw[aR,eI,eI,aR,a5e l k]
def b1v:∀{Rs:List (List Keyed)},(∀R∈Rs,R≠[])->Rs.length<=Rs.flatten.length:=by ext z0;induction z0 with
 |nil=>ext _;simp
 |cons R Rs I0=>
  ext h
  let:=I0 λR a=>h R (.tail _ a)
  let b:=cK.mpr (h R (.head _));rw[fK,aW,aV]
  lia
def Runs(κ:KF)(st:SortSt)(lo:Nat)(rest:List Keyed):Prop:=∃Rs:List (List Keyed),(arrOf st).toList=Rs.flatten++rest/\(∀R∈Rs,Srt κ R/\R≠[])/\Rs.flatten.length=lo/\(gQ st).toList.map pr=offs 0 Rs
section
variable{M:Model}{k0:im}{ajj:Array Keyed}{st:SortSt}
def a1R{i lo:Nat}(L:LtOk M A E s κ k0 ajj)(B:TB k0 ajj st)(R:Runs κ st lo kR)(hi:i+1<(gQ st).size)
  (h:∀st',TB k0 ajj st'->Runs κ st' lo kR->(gQ st').size+1=(gQ st).size->Q kP st'):wpS M A E s (kl i) Q st:=by
 let(Rs,t,f,r,b):=R;let m:(gQ st).size=Rs.length:=by
  let:=congrArg bj b
  rw[aH,a1i]at this;o_head this
 obtain⟨U,X,Y,V,rfl,D⟩:∃U X Y V,Rs=U++X::Y::V/\U.length=i:=by
  show(Rs.take i,Rs[i]'(by lia),Rs[i+1]'(by lia),Rs.drop (i+2),?_,by rw[aY];lia);rw[<- cT,<- cT,dy]
 let n:=f X (by simp);let q:=f Y (by simp);rw[a1Q]at b;simp only[offs,cI]at b;let k:∀(j:Nat)(x:Nat×Nat),(offs 0 U++_::_::offs _ V)[j]?=be x->∃w,(gQ st)[j]?=be (x.1,x.2,w,):=λj x d=>by
  rw[<- b,aO]at d;rw[<- b8];cases e:(gQ st).toList[j]? with
  |none=>rw[e]at d;cases d
  |some p=>
   rw[e]at d;cases d;show(p.2.2,rfl)
 let c:(offs 0 U).length=i:=by rw[a1i,D]
 let(J,G):=k i _ (by rw[cy (by lia),c,Nat.sub_self];rfl);let(I,y):=k (i+1) (U.flatten.length+X.length,Y.length,) (by simp_all);let C:(arrOf st).toList=U.flatten++(X++(Y++(V.flatten++kR))):=by rw[t];simp
 show a9u L B G y C rfl rfl rfl rfl n.1 q.1 (cK.mpr n.2) (cK.mpr q.2) λl Z H F o v u=>?_;let g:(gQ l).toList.map pr=offs 0 (U++Z::V):=by
  rw[u,Array.toList_eraseIdxIfInBounds,fL,<- a5e,List.map_set,b,<- c,a9v,a1Q];simp only[offs,cI,pr];rw[o,cW]
 show h l H (U++Z::V,by rw[F];simp,λR a=>?_,?_,g) ?_
 .let a||a:=aJ.mp a
  .show f R (by simp[a])
  .let rfl||a:=aL.mp a
   .show(v,λz=>by rw[z]at o;let:=cK.mpr n.2;simp at o;lia)
   .show f R (by simp[a])
 .rw[<- r];simp
  lia
 .grind
def Runs.ar{lo n:Nat}(R:Runs κ st lo kR)(q:Ar st st' lo)(hs:SR κ (arrOf st') lo n)(hn:lo+n<=(arrOf st').size)(h1:1<=n):∃X rest',Srt κ X/\X.length=n/\Runs κ st' lo (X++rest'):=by
 let(Rs,g,f,c,e):=R;let b:(arrOf st').toList.take lo=Rs.flatten:=by
  show eJ λi=>?_
  by_cases a:i<lo
  .rw[dR,if_pos a,b8,q.pre i a,<- b8,g,cz (by lia)]
  .grind
 show(((arrOf st').toList.drop lo).take n,((arrOf st').toList.drop lo).drop n,?_,by rw[aY,bH,a0X];lia,Rs,?_,f,c,by rw[q.pe];show e)
 .show cD.mpr λi j a d k=>?_;rw[aY,bH,a0X]at a d
  let:=hs i j (by lia) (by lia)
  rw[a0Q _,a0Q _]at this;o_head this
 .rw[dy,<- b,dy]
def Runs.push{lo n:Nat}(R:Runs κ st lo (kR++kU))(sX:Srt κ kR)(hX:kR.length=n)(h1:1<=n)(ha:arrOf st'=arrOf st)(hp:(gQ st').toList.map pr=(gQ st).toList.map pr++[(lo,n,)]):Runs κ st' (lo+n) kU:=by
 let(Rs,e,d,b,c):=R;show(Rs++[kR],by rw[ha,e];simp,λR a=>?_,by simp[b,hX],?_)
 .let a||a:=aJ.mp a
  .show d R a
  .rw[aK.mp a];show(sX,λz=>by rw[z]at hX;simp at hX;lia)
 .rw[hp,c,a1Q,cI,b];simp[offs,hX]
def t_sortRuns(L:LtOk M A E s κ k0 ajj)(B:TB k0 ajj st)(hp:gQ st=#[])
  (h:∀st',TB k0 ajj st'->Srt κ (arrOf st').toList->Q () st'):wpS M A E s sortRuns' Q st:=by
 rw[sortRuns'_eq];show gI (ir ?_);dsimp only;rw[B.sz];generalize minRun' ajj.size ajj.size 0=mr;show gI (ie (h7 (I:=λx c z=>∃d e,c=(gV,d,)/\TB k0 ajj z/\Runs κ z d e/\x<=d)
  (Q:=λc z=>∃d e,c=(gV,d,)/\TB k0 ajj z/\Runs κ z d e/\ajj.size<=d) ?step ?fin (0,(arrOf st).toList,rfl,B,([],by simp,λR h=>by simp at h,rfl,by rw[hp];rfl),aI _)) ?post)
 case fin=>
  ext c z ⟨d,e,rfl,t,u,hx⟩;show(d,e,rfl,t,u,by lia)
 case step=>
  ext x c z _ hx ⟨d,e,rfl,t,u,hxl⟩;dsimp only
  by_cases c1:d>=ajj.size
  .rw[if_pos c1];show gK (d,e,rfl,t,u,c1)
  rw[if_neg c1];show gI (b4k L t (by lia) (by lia) λm z2 Y m1 m2 m3=>?_);dsimp only
  by_cases c2:m<mr
  .rw[if_pos c2];show a3W (gI (b1s L (Y.tb t) (by lia) (by lia) m3 λS C D=>?_));rw[if_neg (by decide)];let C:=Y.trans C;let v:1<=min (ajj.size-d) mr:=by lia
   let V:d+min (ajj.size-d) mr<=ajj.size:=by lia
   generalize min (ajj.size-d) mr=n at v V D ⊢;let r:=C.tb t;let(X,f,J,G,R3):=u.ar C D (by rw[r.sz];lia) v;show gI (ir ?_);cases hb:(gQ S).back? with
   |none=>
    dsimp only;show gI (io (gK (d+n,f,rfl,(r.pm,r.kd,r.fl),R3.push J G v rfl (by change (((gQ S).push (d,n,0,)).toList).map pr=_;rw[bJ,aQ];rfl),by lia)))
   |some p=>
    let(w,o,w1):=p;dsimp only;generalize power' ajj.size (2*w+o) (2*w+o+o+n) ajj.size=pw;show gI (ie (h7 (I:=λ_ c y=>c=(gV,(),)/\TB k0 ajj y/\Runs κ y d (X++f)) ?w (λ_ _ hh=>hh) (rfl,r,R3)) ?p1)
    case w=>
     ext x c y _ _ ⟨rfl,g,j⟩;show gI (ir ?_)
     by_cases hgt:(gQ y).size > 1
     .rw[if_pos hgt];let eo:(gQ y)[(gQ y).size-2]?=be (gQ y)[(gQ y).size-2]:=getElem?_pos ..;rw[eo];dsimp only
      split
      .show gK (rfl,g,j)
      .show gI (a1R L g j (by lia) λy2 N H _=>?_);rw[if_neg (by decide)];show gK (rfl,N,H)
     .rw[if_neg hgt];show gK (rfl,g,j)
    case p1=>
     ext c y ⟨rfl,g,j⟩;dsimp only;show gI (io (gI (io (gK (d+n,f,rfl,(g.pm,g.kd,g.fl),j.push J G v rfl ?_,by lia)))));let em:∀(q:Array (Nat×Nat×Nat))(k:Nat),(q.modify k λ(a,b,_,)=>(a,b,pw,)).toList.map pr=q.toList.map pr:=λq k=>by
      show eJ λi=>?_;rw[aO,aO,b8,b8,fM]
      split
      .cases q[i]? with
       |none=>rfl
       |some p=>rfl
      .rfl
     rw[bJ,aQ,em]
     rfl
  .rw[if_neg c2];let V:d+m<=ajj.size:=by lia
   let v:=m1;let D:=m3;let C:=Y;generalize m=n at v V D ⊢;generalize z2=S at C D ⊢;let r:=C.tb t;let(X,f,J,G,R3):=u.ar C D (by rw[r.sz];lia) v;show gI (ir ?_);cases hb:(gQ S).back? with
   |none=>
    dsimp only;show gI (io (gK (d+n,f,rfl,(r.pm,r.kd,r.fl),R3.push J G v rfl (by change (((gQ S).push (d,n,0,)).toList).map pr=_;rw[bJ,aQ];rfl),by lia)))
   |some p=>
    let(w,o,w1):=p;dsimp only;generalize power' ajj.size (2*w+o) (2*w+o+o+n) ajj.size=pw;show gI (ie (h7 (I:=λ_ c y=>c=(gV,(),)/\TB k0 ajj y/\Runs κ y d (X++f)) ?w (λ_ _ hh=>hh) (rfl,r,R3)) ?p1)
    case w=>
     ext x c y _ _ ⟨rfl,g,j⟩;show gI (ir ?_)
     by_cases hgt:(gQ y).size > 1
     .rw[if_pos hgt];let eo:(gQ y)[(gQ y).size-2]?=be (gQ y)[(gQ y).size-2]:=getElem?_pos ..;rw[eo];dsimp only
      split
      .show gK (rfl,g,j)
      .show gI (a1R L g j (by lia) λy2 N H _=>?_);rw[if_neg (by decide)];show gK (rfl,N,H)
     .rw[if_neg hgt];show gK (rfl,g,j)
    case p1=>
     ext c y ⟨rfl,g,j⟩;dsimp only;show gI (io (gI (io (gK (d+n,f,rfl,(g.pm,g.kd,g.fl),j.push J G v rfl ?_,by lia)))));let em:∀(q:Array (Nat×Nat×Nat))(k:Nat),(q.modify k λ(a,b,_,)=>(a,b,pw,)).toList.map pr=q.toList.map pr:=λq k=>by
      show eJ λi=>?_;rw[aO,aO,b8,b8,fM]
      split
      .cases q[i]? with
       |none=>rfl
       |some p=>rfl
      .rfl
     rw[bJ,aQ,em]
     rfl
 case post=>
  ext c z ⟨d,e,rfl,t,u,hlo⟩;dsimp only;let hsz:∀y,Runs κ y d e->(gQ y).size<=d:=by
   ext y ⟨Rs,T,F,e3,U⟩;let l:=congrArg bj U;rw[aH,a1i]at l;let h2:=b1v λR hR=>(F R hR).2;simp at l
   lia
  let W:d=ajj.size:=by
   let(Rs,T,F,e3,U):=u
   let:=congrArg bj T
   rw[a0X,t.sz,aW]at this
   lia
  subst W;show gI (ie (h7 (I:=λx c y=>c=(gV,(),)/\TB k0 ajj y/\Runs κ y ajj.size e/\((gQ y).size<=1\/(gQ y).size+x<=ajj.size)) (Q:=λc y=>c=(gV,(),)/\TB k0 ajj y/\Runs κ y ajj.size e/\(gQ y).size<=1) ?s2 ?f2 (rfl,t,u,.inr (hsz z u))) ?p2)
  case f2=>
   ext c y ⟨rfl,g,j,hc⟩;show(rfl,g,j,by lia)
  case s2=>
   ext x c y _ hx ⟨rfl,g,j,hc⟩;show gI (ir ?_)
   by_cases l:(gQ y).size<=1
   .rw[if_pos l];show gK (rfl,g,j,l)
   .rw[if_neg l];show gI (a1R L g j ?_ λy2 N H hy2=>?_)
    .repeat' split
     all_goals lia
    .rw[if_neg (by decide)];show gK (rfl,N,H,.inr (by lia))
  case p2=>
   ext c y ⟨rfl,g,j,hc⟩;let(Rs,T,F,e3,U):=j;let l:=congrArg bj U;rw[aH,a1i]at l;let h2:=congrArg bj T;rw[a0X,g.sz,aW,e3]at h2;let hr:e=[]:=cC.mp (by lia);show gK (h y g ?_);rw[T,hr,bh]
   match Rs,F,l with
   |[],_,_=>show .nil
   |[R],F,_=>o_head (F R (by simp)).1
   |_::_::_,_,l=>simp at l;lia
end
abbrev kN:KF:=λp=>numOf p.1
def b7z(xs:Array Keyed)(i:Nat):K xs i=Kk kN xs i:=rfl
def srt_to(h:Srt kN xs.toList)(hn:n=xs.size):SortedTo xs n:=λi j a b=>by
 rw[b7z,b7z]
 let:=a11 (i:=0) h (n:=xs.size) (by simp) i j a (by lia)
 o_head this
section
variable{ajj:Array Keyed}{k0:im}
def lt_ints(h0:IntKeys ajj):LtOk (model prog w) A E s kN oneType' ajj:=λx y c d g Q e h=>by
 let(n,t,b):=h0 x c;let(m,u,a):=h0 y d;let f:Q (be (decide (n<m))) g:=by
  let:kN x<kN y↔n<m:=by change numOf x.1<numOf y.1↔n<m;rw[b,a];rfl
  rw[decide_eq_decide.mpr this]at h;show h
 rw[lt'_eq];show gI (ir ?_);rw[e,keyLt'_oneType,b,a];show gI (wpS_lift (iN (oneLt_int (rfl,gK f))))
noncomputable def a59(h:Heap)(a:Addr)(vs:List Value):Heap:=((h.update a (Obj.mapSeq λ_=>#[])).push (seqObj "tuple" vs.toArray 0)).push (seqObj "list" #[] 0)
def b4l(ho:s.heap.get? a=be (seqObj "list" vs.toArray n))(hz:vs.length<=100000)
  (hK:2<=vs.length->∀Q:im->Shared->Prop,Q k0 { s with heap:=a59 s.heap a vs }->wpAny (model prog w) A (keyKind' vs.toArray) Q E { s with heap:=a59 s.heap a vs })
  (hL:2<=vs.length->LtOk (model prog w) A E { s with heap:=a59 s.heap a vs } κ k0 (jg vs))
  (h:∀ps:List Keyed,ps.Perm (jg vs).toList->Srt κ ps->kR (.done (.ret .none)) { s with heap:=sortedHeap s.heap a vs (ps.map (·.2)).toArray }):wpAny (model prog w) A (gN.«list.sort» ([.ref a],[])) kR E s:=by
 let i:vs.length<=sizeLine:=by rw[gU];lia
 let o:vs.toArray.size<=sizeLine:=↑i
 let t:=Heap.lt_size ho;rw[list_sort_plain];show gE (km ho rfl (gE (iW ho rfl ?_ o (by simp))));obtain⟨u,m⟩:∃u,(s.heap.update a (Obj.mapSeq λ_=>#[])).get? a=be (seqObj "list" #[] u):=(_,get?_update_seq ho λ_=>#[]);show gE (jx m rfl (gE (jh ?_ ↑i)));show gE (jy (g6 ?_));let g:(((s.heap.update a (Obj.mapSeq λ_=>#[])).push (seqObj "tuple" vs.toArray 0)).push (seqObj "list" #[] 0)).get? a=be (seqObj "list" #[] u):=by
  rw[Heap.get?_push_ne,Heap.get?_push_ne]
  .show m
  .rw[Heap.size_update];show aS t
  .rw[jP,Heap.size_update];show aS (cS t)
 dsimp only;let f:=λy p q=>by
  let:=h (arrOf y).toList (dk.mp p) q
  rw[<- Array.toList_map,fN]at this;show this
 let b:∀y:SortSt,(arrOf y).Perm (jg vs)->((arrOf y).map (·.2)).size<=gH+1:=λy p=>by
  rw[dW,p.size_eq,pairsOf_size];lia
 by_cases c:vs.toArray.size<2
 .rw[if_pos c,if_pos c];show gE (gF ?_);rw[StateT.run_pure];show gE (gF ?_);dsimp only;let x:(arrOf (SortSt.mk' general' _ #[] 7 gV)).Perm (jg vs):=du.refl _;show gE (jx g rfl (gE (iW g rfl ?_ (by simp) (b _ x))));simp only[bne_self_eq_false,cJ,if_false];show gF (f _ x ?_)
  change Srt κ (jg vs).toList
  rw[pairsOf_toList]
  let:vs.length<2:=↑c
  match vs,this with
  |[],_=>show .nil
  |[v],_=>show eB _ _
 .rw[if_neg c,if_neg c];let r:2<=vs.length:=↑c
  show gE (hK r _ ?_);show gE (gX (t_sortRuns
   (Q:=λ_ y=>(arrOf y).Perm (jg vs)/\ic y=gV/\Srt κ (arrOf y).toList) (hL r) (du.refl _,rfl,rfl) rfl λy d j=>(d.pm,d.fl,j)) ?_ λ_ _ e=>e)
  ext⟨⟨⟩,y⟩ l ⟨rfl,d,j,q3⟩;dsimp only;show gE (jx g rfl (gE (iW g rfl ?_ (by simp) (b y d))));rw[j];simp only[bne_self_eq_false,cJ,if_false];show gF (f y d q3)
def sort_any(ho:s.heap.get? a=be (seqObj "list" vs.toArray n))(hI:hV vs ns)(hz:vs.length<=1000)
  (h:∀(out:Array Value)(ms:List Int),hV out.toList ms->ms.Perm ns->ms.Pairwise (·<=·)->kR (.done (.ret .none)) { s with heap:=sortedHeap s.heap a vs out }):wpAny (model prog w) A (gN.«list.sort» ([.ref a],[])) kR E s:=by
 show b4l ho (by lia) (λc Q g=>?_) (λ_=>lt_ints hI.intKeys) λj p q=>?_
 .match vs,c with
  |v1::v2::vr,_=>rw[keyKind_ints hI];show gF g
 .let b:=dk.mpr p;let(e,i,d,f):=sorted_out hI b (srt_to q b.size_eq.symm)
  let:=h _ e i d f
  o_head this
end
end Tim
namespace Tim
open PySem.W
abbrev Pz:=Sum (Option Int) Str
def PtIs:Pz->Value->Prop
 |.inl gV,v=>v=.none
 |.inl (be i),v=>∃t,v=.int i t
 |.inr s,v=>∃t,v=.str s t
def PtsAre:List Pz->List Value->Prop
 |[],[]=>True
 |x::xs,v::vs=>PtIs x v/\PtsAre xs vs
 |_,_=>False
noncomputable def lt1:Pz->Pz->Bool
 |.inl (be i),.inl (be j)=>decide (i<j)
 |.inr a,.inr b=>decide (a.cps.toList<b.cps.toList)
 |_,_=>kQ
noncomputable def ltT:List Pz->List Pz->Bool
 |x::xs,y::ys=>if x=y then ltT xs ys else lt1 x y
 |_,_=>kQ
noncomputable def rk(rows:List (List Pz))(x:List Pz):Nat:=rows.countP λq=>ltT q x
def RowIn(h:Heap)(v:Value)(xs:List Pz):Prop:=∃a o its n,v=.ref a/\h.get? a=be o/\o.cls=.type "tuple"/\o.data=.seq its n/\PtsAre xs its.toList
def PtIs.uniq:∀{x y:Pz}{v:Value},PtIs x v->PtIs y v->x=y:=by
 ext x y v h k;let(_||i)||a:=x
 .rw[h]at k;let(_||j)||b:=y
  .rfl
  .let(_,k):=k;cases k
  .let(_,k):=k;cases k
 .let(t,rfl):=h;let(_||j)||b:=y
  .cases k
  .let(_,k):=k;cases k;rfl
  .let(_,k):=k;cases k
 .let(t,rfl):=h;let(_||j)||b:=y
  .cases k
  .let(_,k):=k;cases k
  .let(_,k):=k;cases k;rfl
theorem PtsAre.uniq:∀{xs ys:List Pz}{vs:List Value},PtsAre xs vs->PtsAre ys vs->xs=ys
 |[],[],[],_,_=>rfl
 |x::xs,y::ys,v::vs,(a,b),(c,d)=>by rw[a.uniq c,PtsAre.uniq b d]
 |[],_::_,[],_,h=>h.elim
 |[],_,_::_,h,_=>h.elim
 |_::_,_,[],h,_=>h.elim
 |_::_,[],_::_,_,h=>h.elim
def RowIn.uniq(r:RowIn h v xs)(q:RowIn h v ys):xs=ys:=by
 let(a,o,k,n,rfl,j,_,g,d):=r;let(p,m,f,l,e,b,_,c,i):=q;cases e;rw[j]at b;cases b;rw[g]at c;cases c;show d.uniq i
open Classical in
noncomputable def b1w(h:Heap)(v:Value):List Pz:=if e:∃xs,RowIn h v xs then e.choose else []
def b1x(r:RowIn h v xs):b1w h v=xs:=by
 unfold b1w;let e:∃xs,RowIn h v xs:=(xs,r);rw[dif_pos e];show e.choose_spec.uniq r
noncomputable def kT(h:Heap)(rows:List (List Pz)):KF:=λp=>(rk rows (b1w h p.1):Int)
def RowsIn(h:Heap):List Value->List (List Pz)->Prop
 |[],[]=>True
 |v::vs,x::xs=>RowIn h v x/\RowsIn h vs xs
 |_,_=>False
theorem RowsIn.len:∀{vs:List Value}{rows:List (List Pz)},RowsIn h vs rows->vs.length=rows.length
 |[],[],_=>rfl
 |_::_,_::_,(_,r)=>by rw[aV,aV,RowsIn.len r]
 |[],_::_,r=>r.elim
 |_::_,[],r=>r.elim
theorem RowsIn.mem:∀{vs:List Value}{rows:List (List Pz)},RowsIn h vs rows->∀v∈vs,∃x∈rows,RowIn h v x
 |v::vs,x::xs,(r,q),u,hu=>by
  let rfl||hu:=aL.mp hu
  .show(x,.head _,r)
  .let(y,b,a):=q.mem u hu;show(y,.tail _ b,a)
 |[],[],_,u,hu=>by simp at hu
 |[],_::_,r,_,_=>r.elim
 |_::_,[],r,_,_=>r.elim
theorem RowsIn.map:∀{vs:List Value}{rows:List (List Pz)},RowsIn h vs rows->vs.map (b1w h)=rows
 |[],[],_=>rfl
 |v::vs,x::xs,(r,q)=>by rw[aR,b1x r,q.map]
 |[],_::_,r=>r.elim
 |_::_,[],r=>r.elim
end Tim
namespace SetW
def Up(xs:Array Nat):Prop:=xs.toList.Pairwise (·<·)
structure TOk (led:Bool) (t:gG):Prop where
 up:Up t.place
 dm:t.dummies=#[]
 ld:t.led=led
def b1y(h:Up xs)(hij:i<j)(hj:j<xs.size):xs[i]'(by cbv)<xs[j]:=by
 let:=cD.mp h i j (by simp;cbv) (by cbv) hij
 o_head this
def b1z(h:Up xs)(j:Nat):∀(fuel lo hi:Nat),hi-lo<=fuel->lo<=hi->hi<=xs.size->(∀i,(hi':i<xs.size)->i<lo->xs[i]<j)->(∀i,(hi':i<xs.size)->hi<=i->j<=xs[i]) ->
  gG.below.go xs j fuel lo hi<=xs.size/\(∀i,(hi':i<xs.size)->i<gG.below.go xs j fuel lo hi->xs[i]<j)/\(∀i,(hi':i<xs.size)->gG.below.go xs j fuel lo hi<=i->j<=xs[i]):=by ext z0;induction z0 with
 |zero=>
  ext lo hi hf h1 h2 h3 h4
  let:lo=hi:=by lia
  subst this;unfold gG.below.go;show(h2,h3,h4)
 |succ fuel I0=>
  ext lo hi hf h1 h2 h3 h4;unfold gG.below.go
  split
  .next hlt=>
   let b:(lo+hi) / 2<xs.size:=by lia
   let f:xs.getD ((lo+hi) / 2) j=xs[(lo+hi) / 2]:=by simp[Array.getD,b]
   dsimp only;rw[f]
   split
   .next c=>
    show I0 _ _ (by lia) (by lia) h2 (λi a d=>?_) h4
    by_cases e:i=(lo+hi) / 2
    .subst e;show c
    .show dj (b1y h (by lia) b) c
   .next c=>
    show I0 _ _ (by lia) (by lia) (by lia) h3 λi a d=>?_
    by_cases e:i=(lo+hi) / 2
    .subst e;lia
    .let:=b1y h (show (lo+hi) / 2<i by lia) a;lia
  .next hlt=>
   let:lo=hi:=by lia
   subst this;show(h2,h3,h4)
def a6W(h:Up xs)(j:Nat):gG.below xs j<=xs.size/\(∀i,(hi':i<xs.size)->i<gG.below xs j->xs[i]<j)/\(∀i,(hi':i<xs.size)->gG.below xs j<=i->j<=xs[i]):=
 b1z h j xs.size 0 xs.size (by simp) (by simp) (aI _) nofun λi b a=>by lia
def a6a{α:Type}{xs:Array α}{x:α}:(gG.insertAt xs p x).toList=xs.toList.take p++x::xs.toList.drop p:=by
 unfold gG.insertAt;simp[cw]
def b7A(h:Up xs)(hn:xs[gG.below xs j]?≠be j):Up (gG.insertAt xs (gG.below xs j) j):=by
 let(w,s,i):=a6W h j;unfold Up at h ⊢;rw[a6a];show bp.mpr (cA.sublist (dL _ _) h,aT.mpr (λy d=>?_,cA.sublist (eC _ _) h),λx r y d=>?_)
 .let(m,a):=bP d;rw[cU]at a;let(l,e):=aM.mp a;let b:gG.below xs j+m<xs.size:=↑l
  let f:=i _ b (by lia);let o:xs[gG.below xs j+m]=y:=↑e
  by_cases c:y=j
  .subst c;exfalso
   by_cases hm0:m=0
   .simp_all
   .let t:=b1y h (show gG.below xs y<gG.below xs y+m by lia) b;let z:=i _ (by lia) (aI _)
    lia
  .lia
 .let(m,a):=bP r;let g:=(aM.mp a).1;rw[aY]at g;rw[dR,if_pos (by lia)]at a;let(l,e):=aM.mp a;let b:m<xs.size:=↑l
  let f:=s m b (by lia);let o:xs[m]=x:=↑e
  rw[o]at f;let rfl||d:=aL.mp d
  .show f
  .let(k,q):=bP d;rw[cU]at q;let(p,u):=aM.mp q;let n:gG.below xs j+k<xs.size:=↑p
   let t:=i _ n (by lia);let v:xs[gG.below xs j+k]=y:=↑u
   lia
def a9w(j:Nat):gG.has #[] j=kQ:=by unfold gG.has;simp
def b1A(hd:t.dummies=#[]):∀(fuel:Nat)(p:gG.Probe)(j:Nat)(d:Option Nat),p.dummy=gV->gG.probe.go t ha h fuel p=be (.empty j d)->d=gV/\t.slot j=.empty:=by ext z0;induction z0 with
 |zero=>ext p j d _ e;unfold gG.probe.go at e;cases e
 |succ fuel I0=>
  ext p j d a e;let b:∀p:gG.Probe,p.dummy=gV->(t.advance p).dummy=gV:=λp a=>by
   unfold gG.advance
   split
   .cbv
   .cbv
  unfold gG.probe.go at e;cases hs:t.slot p.j with
  |empty=>
   rw[hs]at e;simp at e;let(rfl,rfl):=e;show(a,hs)
  |dummy=>
   unfold gG.slot at hs;dsimp only at hs;rw[hd,a9w]at hs
   split at hs
   .cases hs
   .simp_all
  |live i=>
   rw[hs]at e;dsimp only at e
   split at e
   .grind
   .show I0 _ j d (b p a) e
def a7R{t:gG}(h:t.slot j=.empty):t.place[gG.below t.place j]?≠be j:=λe=>by
 unfold gG.slot at h;dsimp only at h;rw[e]at h;simp at h
set_option tactic.hygienic true in
def b4m{t:gG}(hd:t.dummies=#[])(e:t.freeSlot h=be (j,b,)):b=kQ/\t.place[gG.below t.place j]?≠be j:=by
 unfold gG.freeSlot at e
 split at e
 .next j' d hp=>
  let(rfl,a):=b1A hd _ _ j' d rfl hp;simp at e;let(rfl,rfl):=e;show(rfl,a7R a)
 .cases e
def TOk.standIn(h:TOk led t)(n:Nat):TOk led (t.standIn n):=by
 show(?_,rfl,h.ld)
 change Up (Array.range n)
 unfold Up;rw[Array.toList_range];show eK
def TOk.orStandIn(h:TOk led t)(n:Nat):TOk led (t.orStandIn n):=by
 unfold gG.orStandIn
 split
 .cbv
 .show h.standIn n
def TOk.layNew(h:TOk led t)(es:Array (Int×Value))(hh:Int)(x:Value):TOk led (layNew t es hh x).2.1:=by
 unfold PySem.layNew;cases e:t.freeSlot hh with
 |none=>show h.standIn _
 |some p=>
  let(j,b):=p;let(_,a):=b4m h.dm e
  let:TOk led (t.put j).1:=by
   unfold gG.put;show(b7A h.up a,?_,h.ld);rw[h.dm,a9w];rfl
  show this.orStandIn _
def b4n(f:Nat->Option Nat):(((a9 n).filterMap λj=>(f j).map (j,·,)).map (·.1)).Pairwise (·<·):=by
 let e:∀l:List Nat,l.Pairwise (·<·)->((l.filterMap λj=>(f j).map (j,·,)).map (·.1)).Pairwise (·<·)/\∀x∈(l.filterMap λj=>(f j).map (j,·,)).map (·.1),x∈l:=by
  ext l
  induction l with
  |nil=>ext _;show(.nil,λx c=>by simp at c)
  |cons a l ih=>
   ext m;let(i,h):=aT.mp m;let(g,d):=ih h;rw[bV];cases f a with
   |none=>show(g,λx c=>.tail _ (d x c))
   |some b=>
    show(aT.mpr (λy k=>i y (d y k),g),λx c=>by
     let rfl||c:=aL.mp c
     .show .head _
     .show .tail _ (d x c))
 show (e _ eK).1
def TOk.relay(h:TOk led t)(es:Array (Int×Value))(n:Nat):TOk led (ji t es n).2.1:=by
 unfold ji;cases e:t.relaid _ n with
 |none=>show h.standIn _
 |some p=>
  dsimp only
  split
  .unfold gG.relaid gG.laid at e;cases ho:gG.layClean _ _ with
   |none=>rw[ho]at e;cases e
   |some owner=>
    rw[ho]at e;let(rfl,_):=e;show(?_,rfl,h.ld);show b4n _
  .show h.standIn _
end SetW
namespace SetW
noncomputable def byT(w:World):Bool:=w.params.followText "set-order"
inductive KsAre {prog:gM}{w:World}{K:Type}[DecidableEq K] (kd:KeyKind prog w K):List Value->List K->Prop
 |nil:KsAre kd [] []
 |cons {v:Value} {k:K} {vs:List Value} {ks:List K} (h:kd.is k v=kP) (t:KsAre kd vs ks):KsAre kd (v::vs) (k::ks)
structure SO {prog:gM}{w:World}{K:Type}[DecidableEq K] (kd:KeyKind prog w K) (h:Heap) (a:Addr) (es:Array (Int×Value)) (ep:Nat) (t:gG) (ms:List K):Prop where
 at_:∃o,h.get? a=be o/\o.ExactSet/\o.data=.set es ep t
 el:jQ kd es.toList
 nums:KsAre kd (es.toList.map (·.2)) ms
 sc:es.size<ip
 fit:t.fits es.size=kP
 ok:TOk (!byT w) t
def SI{prog:gM}{w:World}{K:Type}[DecidableEq K](kd:KeyKind prog w K)(h:Heap)(a:Addr)(ms:List K):Prop:=∃es ep t,SO kd h a es ep t ms
section
variable{K:Type}[DecidableEq K]{kd:KeyKind prog w K}
def a9x(h:KsAre kd vs ns):vs.length=ns.length:=by
 induction h with
 |nil=>rfl
 |cons _ _ ih=>rw[aV,aV,ih]
def a0R(h:KsAre kd vs ns)(p:vs'.Perm vs):∃ns',KsAre kd vs' ns'/\ns'.Perm ns:=by
 induction p generalizing ns with
 |nil=>show(ns,h,.refl _)
 |cons x _ ih=>
  cases h with
  |cons h1 h2=>
   let(i,a,b):=ih h2;show(_,.cons h1 a,b.cons _)
 |swap x y l=>
  cases h with
  |cons h1 h2=>
   cases h2 with
   |cons h3 h4=>show(_,.cons h3 (.cons h1 h4),.swap ..)
 |trans _ _ ih1 ih2=>
  let(j,c,d):=ih2 h;let(g,e,f):=ih1 c;show(g,e,f.trans d)
def b4o(h:KsAre kd vs ns)(hk:kd.is k v=kP):KsAre kd (vs++[v]) (ns++[k]):=by
 induction h with
 |nil=>show .cons hk .nil
 |cons h1 _ ih=>show .cons h1 ih
def b7B(h:KsAre kd vs ns):(∃v∈vs,kd.is k v=kP)↔k∈ns:=by
 induction h with
 |nil=>simp
 | @cons v n vs ns h1 _ ih=>
  rw[aL,<- ih]
  constructor
  .ext⟨u,a,b⟩;let rfl||a:=aL.mp a
   .show .inl (kd.inj _ _ _ b h1)
   .show .inr (u,a,b)
  .ext (rfl |⟨u,a,b⟩)
   .show(v,.head _,h1)
   .show(u,.tail _ a,b)
def b97(h:KsAre kd vs ns):∀{i:Nat}{v:Value},vs[i]?=be v->∃k,ns[i]?=be k/\kd.is k v=kP:=by
 induction h with
 |nil=>ext i v e;simp at e
 |cons h1 _ ih=>
  ext i v e;cases i with
  |zero=>cases e;show(_,rfl,h1)
  |succ i=>show ih ↑e
end
section
variable{a:Addr}{es:Array (Int×Value)}{ep:Nat}{t:gG}{K:Type}[DecidableEq K]{kd:KeyKind prog w K}{ms:List K}{k:K}{v:Value}
def SO.mem(S:SO kd s.heap a es ep t ms):(∃e∈es.toList,kd.is k e.2=kP)↔k∈ms:=by
 rw[<- b7B S.nums]
 constructor
 .ext⟨e,c,b⟩;show(e.2,bA c,b)
 .ext⟨u,d,b⟩;let(e,c,rfl):=aX.mp d;show(e,c,b)
def SO.stored{h:Heap}(ho:h.get? a=be o)(hx:o.ExactSet)(hd:o.data=.set es ep t)(hel:jQ kd es'.toList)(hi:KsAre kd (es'.toList.map (·.2)) ms')(hs:es'.size<ip)(hf:t'.fits es'.size=kP)(hk:TOk (!byT w) t') :
  (h.update a (Obj.putSet es' t')).get? a=be { o with data:=.set es' (ep+1) t' }/\SO kd (h.update a (Obj.putSet es' t')) a es' (ep+1) t' ms':=by
 let b:(h.update a (Obj.putSet es' t')).get? a=be { o with data:=.set es' (ep+1) t' }:=by
  let q:=Heap.get?_update_self (Obj.putSet es' t') ho (by rw[putSet_of es' t' hd];rfl);rw[putSet_of es' t' hd]at q;show q
 show(b,((_,b,hx,rfl),hel,hi,hs,hf,hk))
def a7S(h:t.fits n=kP):({ t with plain:=b }:gG).fits n=kP:=by cases t;show h
def TOk.plain(h:TOk led t):TOk led ({ t with plain:=b }:gG):=(h.up,h.dm,h.ld)
def a6b(hkey:kd.is k v=kP)(hsv:v.scannable=kP)(S:SO kd s.heap a es ep t ms)(hr:ms.length+1<ip)
  (h:∀h' ms' b,Heap.SameBut a s.heap h'->SI kd h' a ms'->ms'.Perm (if k∈ms then ms else ms++[k])->Q b { s with heap:=h' }) :
  wpAny (model prog w) A (jR a v (kd.hash k)) Q E s:=by
 let((o,C,hx,D),n,l,V,x,hok):=id S;let M:es.size=ms.length:=by
  o_head (a9x l)
 unfold jR kr;show g6 (gE (ij C D x ?_));dsimp only;rw[byScan_of hsv V n];simp only[↓reduceIte];unfold setAddByScan;show gE (gE (iB (gE (wpAny_setScan_of hkey C D x n ?_))));cases hf:fO (λe=>kd.is k e.2) es.toList with
 |some j=>
  dsimp only;let(hj,T,_):=List.findIdx?_eq_some_iff_getElem.mp hf;let g:k∈ms:=S.mem.mp (_,b5 hj,T);show gF (gF (h s.heap ms kQ (Heap.SameBut.refl a s.heap) (es,ep,t,S) (by rw[if_pos g])))
 |none=>
  dsimp only;let g:k∉ms:=λz=>by
   let(e,he,T):=S.mem.mpr z;let q:=List.findIdx?_eq_none_iff.mp hf e he;rw[T]at q;cases q
  let i:=layNew_perm t es (kd.hash k) v;let p:=layNew_fits t es (kd.hash k) v;let y:=hok.layNew es (kd.hash k) v;generalize layNew t es (kd.hash k) v=L at i p y ⊢;let(c,t1,wd,gv):=L;dsimp only at i p y ⊢;rw[bJ]at i;let F:=(n.push hkey hsv).perm i;let sz1:c.size=ms.length+1:=by rw[<- bf,i.length_eq,aW,bf,M];rfl
  let(X,I,J):=a0R (vs':=c.toList.map (·.2)) (b4o l hkey) (by
   let q:=i.map (·.2);rw[aQ]at q;show q)
  let G:c.size<scanBound:=by lia
  let H:∀(d:gG),d.fits c.size=kP->TOk (!byT w) d->wpAny (model prog w) A (do
    jS a c d
    if (!wd&&d.tooFull)=kP then do
     (match (ji d c (gG.grown c.size)).2.2 with |true=>rule "set.scan.the-table-gave-way" |false=>pure ())
     jS a (ji d c (gG.grown c.size)).1 (ji d c (gG.grown c.size)).2.1
     pure (be kP)
    else pure (be kP)) (λr U=>wpAny (model prog w) A (match r with |some added=>pure added |none=>kr a v (kd.hash k) 99999) Q E U) E s:=by
   ext d f2 k2;show gE (jz C D ?_ (jA G));let(Y,S1):=SO.stored C hx D F I G f2 k2;let b1:=Heap.SameBut.update s.heap a (Obj.putSet c d)
   split
   .let B:=relayAll_perm d c (gG.grown c.size);let N:=relayAll_fits d c (gG.grown c.size);let R:=k2.relay c (gG.grown c.size);generalize ji d c (gG.grown c.size)=W at B N R ⊢;let(m,t3,g3):=W;dsimp only at B N R ⊢;let sz2:m.size=c.size:=by rw[<- bf,B.length_eq,bf]
    let(ms2,im2,pm2):=a0R I (B.map (·.2));show gE ?_;let u:wpAny (model prog w) A (jS a m t3 >>= λ_=>pure (be kP)) (λr U=>wpAny (model prog w) A (match r with |some added=>pure added |none=>kr a v (kd.hash k) 99999) Q E U) E { s with heap:=s.heap.update a (Obj.putSet c d) }:=by
     show gE (jz Y rfl ?_ (jA (by lia)));let(_,S2):=SO.stored (t:=d) Y hx rfl (F.perm B) im2 (by lia) N R;show gF (gF (h _ ms2 kP (b1.trans (Heap.SameBut.update _ a _)) (m,_,t3,S2) (if_neg g▸pm2.trans J)))
    cases g3 with
    |true=>show iB u
    |false=>show gF u
   .show gF (gF (h _ X kP b1 (c,_,d,S1) (if_neg g▸J)))
  let gw:∀{β:Type}{f:Unit->Sem β}{Q':β->Shared->Prop},wpAny (model prog w) A (f ()) Q' E s->wpAny (model prog w) A ((match gv with |true=>rule "set.scan.the-table-gave-way" |false=>pure ()) >>= f) Q' E s:=λhq=>by
   cases gv with
   |true=>show gE (iB hq)
   |false=>show gE (gF hq)
  show gw ?_
  split
  .show gE ?_;rw[hashByValue_scannable 8 hsv];show gF ?_;show H _ ?_ ?_<;>cases plainKind v<;>first |show p |show a7S p |show y |show y.plain
  .show gE (gF ?_);simp only[↓reduceIte];show H t1 p y
end
def SI.at{K:Type}[DecidableEq K]{kd:KeyKind prog w K}{ms:List K}(S:SI kd h a ms)(k:∀o,h.get? a=be o->h'.get? a=be o):SI kd h' a ms:=by
 let(l,i,t,(o,g,x,d),f,j,e,c,b):=S;show(l,i,t,(o,k o g,x,d),f,j,e,c,b)
def Met{K:Type}(val:Nat->K)(i:Nat)(ms:List K):Prop:=ms.Nodup/\ms.length<=i/\∀x,x∈ms↔∃j,j<i/\val j=x
def Met.step{K:Type}[DecidableEq K]{val:Nat->K}{ms ms':List K}(h:Met val i ms)(p:ms'.Perm (if val i∈ms then ms else ms++[val i])):Met val (i+1) ms':=by
 let(d,k,b):=h;let a:∀x,(∃j,j<i+1/\val j=x)↔(∃j,j<i/\val j=x)\/x=val i:=λx=>by grind
 by_cases c:val i∈ms
 .rw[if_pos c]at p;show(p.nodup_iff.mpr d,by rw[p.length_eq];lia,λx=>?_);rw[p.mem_iff,a,b];show(.inl,λz=>z.elim id λe=>(b x).mp (e▸c))
 .rw[if_neg c]at p;show(p.nodup_iff.mpr ?_,by rw[p.length_eq];simp;show k,λx=>?_)
  .rw[b9];show(d,by simp,λx g y f=>by rw[aK.mp f];ext rfl;show c g)
  .rw[p.mem_iff,a,aJ,b,aK]
section
variable{R:Result->Shared->Prop}{I:Addr}{fp wr:List Addr}{G:Array jT->Array jT->Prop}{n:Nat}{P:Nat->Value->Prop}{St:Nat->Shared->Prop}{K:Type}[DecidableEq K]{kd:KeyKind prog w K}
def b1B(W:WalksS prog w A.in1 I fp wr G n P St)(S:Addr)(hSf:S∉fp)(val:Nat->K)(hv:∀i v,P i v->kd.is (val i) v=kP/\v.scannable=kP)(hb:n+1<ip) :
  ∀(k i:Nat)(s:Shared)(ms:List K),n-i=k->i<=n->St i s->SI kd s.heap S ms->Met val i ms ->
   (∀s' ms',Moved (S::wr) G s s'->SI kd s'.heap S ms'->Met val n ms'->R (.ok (.ret .none)) s') ->
   ig (model prog w) A (.builtin "set.update.loop" ([.ref S,.ref I],[])) R s:=by
 let C:=λz=>hSf (W.sub _ z);let E:∀b∈wr,b∈S::wr:=λb z=>bR _ z;ext k
 induction k with
 |zero=>
  ext i s p Q U l r f m;let e:i=n:=by lia
  subst e;show iK PyProof.Rows.F.entry_set_update_loop ?_;rw[Around.under_plainId PyProof.Rows.F.plain_set_update_loop _];show gE (W.done s _ _ l λa d=>(gF (m a p (d.mono E) (r.at λo g=>d.heap S o C g) f)))
 |succ k ih=>
  ext i s p Q U l r f m;show iK PyProof.Rows.F.entry_set_update_loop ?_;rw[Around.under_plainId PyProof.Rows.F.plain_set_update_loop _];show gE (W.item i s _ _ (by lia) l λv a M H d=>?_);let(j,x):=hv i v M;let(Y,V,t,S1):=r.at λo g=>d.heap S o C g;show gE (g6 (g6 (gE (kd.pyHash j (a6b j x S1 (by let:=f.2.1;lia) λh' J b h y N=>(gF (iX PyProof.Rows.F.plain_set_update_loop _,ih (i+1) _ J (by lia) (by lia) (W.frame _ a _ _ H (cF _) λc q o g=>?_) y (f.step N) λT X B u D=>?_)))))))
  .rw[h.2 c λz=>hSf (z▸q)];show g
  .show m T X (Moved.trans W.gtrans ((d.mono E).then_heap (cF _) λc o q g=>?_) B) u D;rw[h.2 c λz=>q (by grind)];show g
end
section
variable{K:Type}[DecidableEq K]{kd:KeyKind prog w K}
abbrev a0o(w:World):Obj:={ cls:=.type "set",dict:=gV,data:=.set #[] 0 (.fresh 0 0 (!byT w)) }
def SI.fresh(g:h.get? a=be (a0o w)):SI kd h a []:=
 (#[],0,.fresh 0 0 _,(_,g,(rfl,rfl,rfl),rfl),λe b=>by simp at b,.nil,by decide,rfl,(.nil,rfl,rfl))
def a9y(a:Value)(h:Q (.ref s.heap.objs.size) { s with heap:=s.heap.push (a0o w) }) :
  ig (model prog w) A (.call (.builtin "set.__new__") ([.type "set",a],[])) (wants Q E) s:=by
 show kt ?_
 change wpAny _ A.in1 (do kx "set.__new__" ([.type "set",a],[]);again (.builtin "set.__new__" ([.type "set",a],[]))) _ _ s
 show gE (kA (PySem.F.newCall_set_1 a) (gF (iX PySem.F.plain_set_new _,iK PySem.F.entry_set_new ?_)));rw[Around.under_plainId PySem.F.plain_set_new _];unfold gN.«set.__new__» gN.Frozenset.newClass;let sub:=sub_set_self;let(hp,g,d,tk,os):=s;dsimp only
 wp_walk
 show jB (gF ?_);dsimp only;simp only[newObj];show gE (wpAny_alloc (gF (gF h)))
set_option maxHeartbeats 3200000 in
def call_set(hh:A.handled=gV)(hl:s.heap.IsList l items)(hi:KsAre kd items.toList ns)(hsv:∀v∈items.toList,v.scannable=kP)(hb:items.size+1<ip)
  (h:∀(h':Heap)(tk:Nat)(ms:List K),SI kd h' s.heap.objs.size ms->Met (λi=>ns.getD i k0) items.size ms->(∀b o,b<s.heap.objs.size->s.heap.get? b=be o->h'.get? b=be o)->Q (.ref s.heap.objs.size) { s with heap:=h',toks:=tk }) :
  wpAny (model prog w) A (call (.type "set") [.ref l]) Q E s:=by
 let(mc,mt,mro):=PySem.F.called_set.mro;let md:=PySem.F.called_set.made;let sb:=PySem.F.called_set.sub;show i9 (kt ?_)
 change wpAny _ _ (callAny (.type "set") _) _ _ _
 show gF (Code.quiet_builtin _ (by decide +kernel),iK PySem.F.entry_type_call ?_);rw[Around.under_plain (weight_type_call_type "set" [.ref l] []) rfl];let nt:=PySem.F.called_set.notType;let cc:=PySem.F.called_set.canCreate;let tc:=PySem.F.typeCall_set_1 (.ref l)
 repeat (any_goals (first |assumption |wp_step))
 show iz (a9y (w:=w) (.ref l) (E:=E) (Q:=λobj s1=>obj=.ref s.heap.objs.size/\s1={ s with heap:=s.heap.push (a0o w) }) (rfl,rfl)) λr s1 hr=>?_;cases r with
 |error e=>show hr
 |ok fl=>
  cases fl with
  |ret obj=>
   let(rfl,rfl):=hr;let gS:(s.heap.push (a0o w)).get? s.heap.objs.size=be (a0o w):=Heap.get?_push_size _ rfl;let tS:Shared.TypeIs { s with heap:=s.heap.push (a0o w) } (.ref s.heap.objs.size) "set":=(_,gS,rfl);let li:=PySem.F.called_set.init.lookup;let bi:=PySem.F.called_set.init.bind (.ref s.heap.objs.size)
   repeat (any_goals (first |assumption |wp_step))
   show iz (codeAny_call_builtin (R:=wants (λr s2=>r=.none/\∃h' tk ms,s2={ s with heap:=h',toks:=tk }/\SI kd h' s.heap.objs.size ms/\Met (λi=>ns.getD i k0) items.size ms /\
     (∀b o,b<s.heap.objs.size->s.heap.get? b=be o->h'.get? b=be o)) E) PySem.F.called_set.init.plain PySem.F.entry_set_init (check_set_init_1 tS ?_)) λr2 s2 hr2=>?_
   .let(ol,gl,cl,nl,dl):=hl;let(oc,od,ob,osl):=ol;simp only at cl dl;subst cl dl;let gl':(s.heap.push (a0o w)).get? l=be { cls:=.type "list",dict:=od,data:=.seq items nl,slots:=osl }:=Heap.get?_push_of_some _ gl;let s1:=PySem.F.sub_list_set;let s2:=PySem.F.sub_list_frozenset;let ne:(Value.type "list"==Value.type "dict")=kQ:=by decide
    let il:(s.heap.push (a0o w)).IsList l items:=(_,gl',rfl,nl,rfl);unfold gN.«set.__init__» noKeywords gN.Frozenset.updateFrom;generalize hPI:pyIter=PI
    wp_walk
    subst hPI;show jq il (gE (wpAny_runValue ?_));let ll:l<s.heap.objs.size:=Heap.lt_size gl;let h3:A.in1.in1.in1.handled=gV:=by simp[hh]
    let nI:l≠(s.heap.push (a0o w)).objs.size:=by rw[Heap.size_push];show aS (cS ll)
    let nf:s.heap.objs.size∉[(s.heap.push (a0o w)).objs.size,l]:=by
     rw[Heap.size_push];simp only[aL,aK,dA,or_false,not_or];show(aS (dI _),bS ll)
    show b1B ((Walks.list h3 _ l nI items).toS) s.heap.objs.size nf (λi=>ns.getD i k0) (λi v e=>by
     let e':items.toList[i]?=be v:=by rw[b8];show e
     let(k,h1,h2):=b97 hi e';show(by rw[cu,h1];show h2,hsv v (aZ e'))) hb (items.size-0) 0 _ [] (by lia) (bg _)
     ((_,Heap.get?_push_size _ rfl,rfl,rfl),(il.push _)) (SI.fresh (Heap.get?_push_of_some _ gS)) (.nil,aI _,λx=>by simp) λs' ms mv hS hM=>?_
    let(h',g',d',tk',os'):=s';let eg:g'=s.gens:=mv.gens;let ed:d'=s.drawn:=mv.drawn;let eo:os'=s.os:=mv.os;subst eg ed eo
    change wpAny _ _ _ _ _ _
    show gF ?_
    change wpAny _ _ (ret Value.none) _ _ _
    show gF (rfl,h',tk',ms,rfl,hS,hM,λb o hb e=>?_);show mv.heap b o ?_ (Heap.get?_push_of_some _ (Heap.get?_push_of_some _ e));simp only[aL,aK,dA,or_false,not_or];show(aS hb,by rw[Heap.size_push];show aS (cS hb))
   .cases r2 with
    |error e=>show hr2
    |ok f2=>
     cases f2 with
     |ret r=>
      let(rfl,h',tk,ms,rfl,hS,hM,hk):=hr2
      repeat (any_goals (first |assumption |wp_step))
      show h _ _ _ hS hM hk
     |_=>show hr2.elim
  |_=>show hr.elim
end
def sit_next:Slot "set_iterator" "__next__" "set_iterator.__next__":=.of (owner:="set_iterator") (n:="__next__") (by rw[typeLookup_type,builtinLookup_eq_fast];kernel_rfl) (by decide +kernel) (by decide +kernel) (by decide +kernel) (by first |show .inl (by decide +kernel) |show .inr (by decide +kernel)) (by rw[jC];kernel_rfl)
def a0S:jD table "set_iterator.__next__"=be gN.«set_iterator.__next__»:=entryFor_of_tree (by kernel_rfl)
def a6X:Slot "set_iterator" "__iter__" "set_iterator.__iter__":=.of (owner:="set_iterator") (n:="__iter__") (by rw[typeLookup_type,builtinLookup_eq_fast];kernel_rfl) (by decide +kernel) (by decide +kernel) (by decide +kernel) (by first |show .inl (by decide +kernel) |show .inr (by decide +kernel)) (by rw[jC];kernel_rfl)
def a3C:jD table "set_iterator.__iter__"=be gN.«dict_keyiterator.__iter__»:=kB (id':="dict_keyiterator.__iter__") (by kernel_rfl) rfl (by decide +kernel) (by kernel_rfl)
def a3D:jD table "set.__iter__"=be gN.«frozenset.__iter__»:=kB (id':="frozenset.__iter__") (by kernel_rfl) rfl (by decide +kernel) (by kernel_rfl)
def a5f:Manifest.owners.lookup (String.ofList ['r','o','t','a','r','e','t','i','_','t','e','s'].reverse)=be Manifest.sig_set_iterator:=by kernel_rfl
def a01(a:Value):argsOk "set_iterator.__next__" ([a],[]):=by unfold argsOk;rw[signature?_of (n:=['_','_','t','x','e','n','_','_']) (by kernel_rfl) a5f];kernel_rfl
def a4s(a:Value):argsOk "set_iterator.__iter__" ([a],[]):=by unfold argsOk;rw[signature?_of (n:=['_','_','r','e','t','i','_','_']) (by kernel_rfl) a5f];kernel_rfl
def SetIt(h:Heap)(it a:Addr)(first:Value)(i n ep:Nat):Prop:=∃o,h.get? it=be o/\o.cls=.type "set_iterator"/\o.data=.fields #[first,.int i 0,.ref a,.int n 0,.int ep 0]
def SetIt.ty{s:Shared}(x:SetIt s.heap it a f i n ep):s.TypeIs (.ref it) "set_iterator":=let (o,g,c,_):=x;(o,g,c)
def SetIt.at(x:SetIt h it a f i n ep)(e:∀o,h.get? it=be o->h'.get? it=be o):SetIt h' it a f i n ep:=let (o,g,r):=x;(o,e _ g,r)
section
variable{it a:Addr}{f:Value}{i n ep:Nat}{o:Obj}{k:Nat}{es:Array (Int×Value)}{t:gG}{K:Type}[DecidableEq K]{kd:KeyKind prog w K}{ms:List K}
def a4t(x:SetIt s.heap it a f i n ep)(h:Q (.ref it) s):wpAny (model prog w) A (pyIter (.ref it)) Q E s:=by
 show wpAny_pyIter_slot x.ty a6X (ii a6X x.ty a3C ?_ (a4s _));show gF (_,rfl,"set_iterator",_,x.ty,sit_next.lookup,h)
def a6Y(hh:A.handled=gV)(hQ:∀h':Heap,(∀b o,s.heap.get? b=be o->h'.get? b=be o)->Q gV { s with heap:=h' }) :
  wpAny (model prog w) A.in1 (newExc (.type "StopIteration") [] >>= λe=>(raiseNew e:Sem Final)) (λ_ _=>False) (λe s'=>wpAny (model prog w) A (do if <- isInstance e (.type "StopIteration") then pure (gV:Option Value) else throw e) Q E s') s:=by
 show gE (gE (iI ?_ (by size_fits)));show gE (kA (by first |rfl | (simp;rfl)) (iI ?_ (by size_fits)))
 show gE (wpAny_handled ?_);rw[hh];show gE (gF (wpAny_throw ?_));show gE (iY (_,Heap.get?_push_size _ rfl,rfl) isSubtype_stop ?_);show gF (hQ _ λb o e=>Heap.get?_push_of_some _ (Heap.get?_push_of_some _ e))
def a5g(S:SO kd s.heap a es ep t ms)(hT:byT w=kP)(h:Q (((iA (w.params.setOrder a ep) es)[i]?).map λe=>(e.2,k,)) s) :
  wpAny (model prog w) A (jU a k i ep) Q E s:=by
 let((o,f,n,d),l,g,j,b,m):=id S;show gE (ij f d b (iu (λ_=>?_) λc=>absurd hT c));simp;show gE (gE (ij f d b (iu (λ_=>?_) λc=>absurd hT c)));show gE (jB (gF (gF h)))
def a3X(S:SO kd s.heap a es ep t ms)(hT:byT w=kQ)(hp:(!t.plain&&decide (es.size > 1))=kQ)
  (h:Q (match es[gG.below t.place k]?,t.place[gG.below t.place k]? with |some (_,x,),be j=>be (x,j+1,) |_,_=>gV) s) :
  wpAny (model prog w) A (jU a k i ep) Q E s:=by
 let((o,g,n,f),m,e,l,b,d):=id S;show gE (ij g f b (iu (λc=>by rw[show (model prog w).w.params.followText "set-order"=byT w from rfl,hT]at c;cases c) λ_=>?_))
 change wpAny _ _ (if (!t.plain&&decide _)=kP then _ else _) _ _ _
 rw[hp]
 change wpAny _ _ ((if _=kP then _ else _) >>= _) _ _ _
 rw[d.ld,hT];show gE (gF (gF h))
def a5h(x:SetIt s.heap it a (.int k 0) i es.size ep)(S:SO kd s.heap a es ep t ms)
  (hnx:∀(B:Around)(F:Value->Shared->Prop)(R:Option (Value×Nat)->Shared->Prop),R (be (v,nx,)) s->wpAny (model prog w) B (jU a k i ep) R F s)
  (hQ:∀h',SetIt h' it a (.int nx 0) (i+1) es.size ep->Heap.SameBut it s.heap h'->Q (be v) { s with heap:=h' }):wpAny (model prog w) A (pyNext (.ref it)) Q E s:=by
 let(u,e,n,b):=id x;let((o,l,C,j),r,h,y,c,z):=id S;show gE (iN (wpAny_callSpecial?_slot x.ty sit_next (ii sit_next x.ty a0S ?_ (a01 _))));show gE (gF (gE (jV e b (gE (iZ l j c ?_)))));simp;show gE (hnx _ _ _ (gE (iM e b (by simp) ?_)));let f:=Heap.get?_update_self (Obj.mapFields (·.setIfInBounds 0 (rawInt nx))) e (Obj.isFreed_of_fields (Obj.data_mapFields b _));let d:=Obj.data_mapFields b (·.setIfInBounds 0 (rawInt nx));show gE (iM f d (by simp) ?_);let q:=Obj.data_mapFields d (·.setIfInBounds 1 (rawInt (i+1)));let p:SetIt _ it a (.int nx 0) (i+1) es.size ep:=
  (_,(Heap.get?_update_self (Obj.mapFields (·.setIfInBounds 1 (rawInt (i+1)))) f (Obj.isFreed_of_fields (Obj.data_mapFields d _))),(Obj.cls_mapFields ..).trans ((Obj.cls_mapFields ..).trans n),by rw[q];simp[rawInt])
 show gF (_,rfl,?_);show gF (hQ _ p ((Heap.SameBut.update ..).trans (Heap.SameBut.update ..)))
def a6Z(hh:A.handled=gV)(x:SetIt s.heap it a (.int k 0) i es.size ep)(S:SO kd s.heap a es ep t ms)
  (hnx:∀(B:Around)(F:Value->Shared->Prop)(R:Option (Value×Nat)->Shared->Prop),R gV s->wpAny (model prog w) B (jU a k i ep) R F s)
  (hQ:∀h',(∀b o,b≠it->s.heap.get? b=be o->h'.get? b=be o)->Q gV { s with heap:=h' }):wpAny (model prog w) A (pyNext (.ref it)) Q E s:=by
 let(u,d,G,f):=id x;let((o,g,C,p),v,h,r,c,y):=id S;show gE (iN (wpAny_callSpecial?_slot x.ty sit_next (ii sit_next x.ty a0S ?_ (a01 _))));show gE (gF (gE (jV d f (gE (iZ g p c ?_)))));simp;show gE (hnx _ _ _ (gE (iM d f (by simp) (gX (a6Y hh λj n=>?_) (λ_ _ z=>z.elim) λe D z=>z))));show (hQ j λb o l e=>n b o ((Heap.SameBut.update s.heap it _).extBut b o l e))
end
theorem a2q{α:Type}:∀(l:List α){i:Nat}(h:i<l.length),l.Perm (l[i]::l.eraseIdx i)
 |x::l,0,_=>by simp
 |x::l,i+1,h=>by
  show (bn.cons x (a2q l ↑h)).trans (bn.swap _ _ _)
def b4p{α:Type}(next:Nat->Nat):∀(fuel k:Nat)(left:List α)(out:Array α),fuel=left.length->(iA.go next fuel k left out).toList.Perm (out.toList++left):=by ext z0;induction z0 with
 |zero=>
  ext k left out h
  let:=cC.mp h.symm
  subst this;unfold iA.go;simp
 |succ fuel I0=>
  ext k left out h;unfold iA.go;let a:next k % left.length<left.length:=dX _ (by lia);rw[aP a];show (I0 _ _ _ (by grind)).trans ?_;rw[bJ,bv];show bn.append_left _ (a2q left a).symm
def a3f{α:Type}(next:Nat->Nat)(xs:Array α):(iA next xs).toList.Perm xs.toList:=by
 let:=b4p next xs.size 0 xs.toList #[] (by simp)
 simpa[iA]using this
noncomputable def a14(t:gG):Nat->Nat
 |0=>0
 |j+1=>t.place.getD j 0+1
def a3Y(h:TOk led t)(hi:i<=t.place.size):gG.below t.place (a14 t i)=i:=by
 let(f,a,d):=a6W h.up (a14 t i);cases i with
 |zero=>
  by_cases c:gG.below t.place (a14 t 0)=0
  .grind
  .let:=a 0 (by lia) (by lia)
   let z:a14 t 0=0:=rfl
   lia
 |succ j=>
  let b:j<t.place.size:=by lia
  let e:a14 t (j+1)=t.place[j]+1:=by change t.place.getD j 0+1=_;rw[fP,bG b];rfl
  let c||c||c:=Nat.lt_trichotomy (gG.below t.place (a14 t (j+1))) (j+1)
  .grind
  .cbv
  .let q:=a (j+1) (by lia) c;let r:=b1y h.up (show j<j+1 by lia) (by lia)
   lia
def SO.at{K:Type}[DecidableEq K]{kd:KeyKind prog w K}{ms:List K}(S:SO kd h a kR ep t ms)(k:∀o,h.get? a=be o->h'.get? a=be o):SO kd h' a kR ep t ms:=by
 let((o,g,x,d),i,f,e,b,c):=S;show((o,k o g,x,d),i,f,e,b,c)
section
variable{it a:Addr}{f:Value}{i n ep k:Nat}{o:Obj}{es:Array (Int×Value)}{t:gG}{K:Type}[DecidableEq K]{kd:KeyKind prog w K}{ms:List K}{T:Addr}{ps:List Nat}
noncomputable def b1C(w:World)(a:Addr)(ep:Nat)(es:Array (Int×Value)):List Value:=(iA (w.params.setOrder a ep) es).toList.map (·.2)
def a9z(hh:A.handled=gV)(hne:a≠it)(hT:byT w=kP):Walks prog w A it [it,a] [it] es.size (λi v=>(b1C w a ep es)[i]?=be v) (λi h=>SetIt h it a (.int (0:Nat) 0) i es.size ep/\SO kd h a es ep t ms):=by
 let p:(iA (w.params.setOrder a ep) es).size=es.size:=by rw[<- bf,(a3f _ es).length_eq,bf]
 show(λb d=>by simp at d;simp[d],λ_ _ _ c m=>(c.1.at λo e=>m it (by simp) o e,c.2.at λo e=>m a (by simp) o e),λi s Q E q c f=>?_,λs Q E c f=>?_,λ_ _ _ _ c f=>a4t c.1 f)
 .let l:(iA (w.params.setOrder a ep) es)[i]?=be ((iA (w.params.setOrder a ep) es)[i]'(by lia)):=bG _;show a5h (v:=((iA (w.params.setOrder a ep) es)[i]'(by lia)).2) (nx:=0) c.1 c.2 (λB F R g=>a5g c.2 hT ?_) λj x k=>?_
  .simp_all
  .show f _ j s.toks ?_ (x,c.2.at λo e=>k.extBut a o hne e) λb o d e=>k.extBut b o (λz=>d (by simp[z])) e;unfold b1C;rw[aO,b8,l]
   rfl
 .show a6Z hh c.1 c.2 (λB F R g=>a5g c.2 hT ?_) λj n=>f j s.toks λb o d e=>n b o (λz=>d (by simp[z])) e;rw[fQ (by lia)];show g
def a7T(hh:A.handled=gV)(hne:a≠it)(hT:byT w=kQ)(hp:(!t.plain&&decide (es.size > 1))=kQ)(hf:t.fits es.size=kP)(ok:TOk (!byT w) t) :
  Walks prog w A it [it,a] [it] es.size (λi v=>(es.toList.map (·.2))[i]?=be v) (λi h=>SetIt h it a (.int (a14 t i) 0) i es.size ep/\SO kd h a es ep t ms):=by
 let q:t.place.size=es.size:=by
  simp only[gG.fits,bO,beq_iff_eq]at hf;show hf.1
 show(λb d=>by simp at d;simp[d],λ_ _ _ c m=>(c.1.at λo e=>m it (by simp) o e,c.2.at λo e=>m a (by simp) o e),λi s Q E n c f=>?_,λs Q E c f=>?_,λ_ _ _ _ c f=>a4t c.1 f)
 .let j:i<t.place.size:=by lia
  show a5h (v:=es[i].2) (nx:=a14 t (i+1)) c.1 c.2 (λB F R g=>a3X c.2 hT hp ?_) λk x l=>?_
  .rw[a3Y ok (by lia),bG n,bG j];let e:a14 t (i+1)=t.place[i]+1:=by change t.place.getD i 0+1=_;rw[fP,bG j];rfl
   rw[e]at g;show g
  .show f _ k s.toks ?_ (x,c.2.at λo e=>l.extBut a o hne e) λb o d e=>l.extBut b o (λz=>d (by simp[z])) e;rw[aO,b8,bG n]
   rfl
 .show a6Z hh c.1 c.2 (λB F R g=>a3X c.2 hT hp ?_) λk p=>f k s.toks λb o d e=>p b o (λz=>d (by simp[z])) e;rw[a3Y ok (by lia),fQ (by lia)];show g
def b4q(hn:n≠0)(h:∀i d',i<n->Q i { s with drawn:=d' }):wpAny (model prog w) A (choose src n) Q E s:=
 λ_ _ _=>(hn,h _ _ (dX _ (Nat.pos_of_ne_zero hn)))
theorem a4u{α:Type}:∀(n:Nat)(xs:List α)(s:Shared)(Q:List α->Shared->Prop),xs.length=n->(∀ys d',ys.Perm xs->Q ys { s with drawn:=d' })->wpAny (model prog w) A (drawOrder n xs) Q E s
 |0,xs,s,Q,hl,h=>by
  let:=cC.mp hl
  subst this;show gF (h [] s.drawn .nil)
 |n+1,[],s,Q,hl,h=>by cases hl
 |n+1,x::xs,s,Q,hl,h=>by
  show gE (b4q (by simp) λi e a=>?_);rw[aP a];show gE (a4u n _ _ _ (by grind) λd c b=>(gF (h _ c ((bn.cons _ b).trans (a2q _ a).symm))))
def PlacesAt(h:Heap)(T:Addr)(ps:List Nat):Prop:=∃o c,h.get? T=be o/\o.data=.seq (ps.map λ(i:Nat)=>rawInt i).toArray c
def PlacesAt.at(x:PlacesAt h T ps)(k:∀o,h.get? T=be o->h'.get? T=be o):PlacesAt h' T ps:=by let(o,c,g,d):=x;show(o,c,k _ g,d)
def a7U(x:SetIt s.heap it a (.ref T) i es.size ep)(S:SO kd s.heap a es ep t ms)(y:PlacesAt s.heap T ps)(hp:ps[i]?=be p)(he:es[p]?=be e)
  (hQ:∀h',SetIt h' it a (.ref T) (i+1) es.size ep->Heap.SameBut it s.heap h'->Q (be e.2) { s with heap:=h' }):wpAny (model prog w) A (pyNext (.ref it)) Q E s:=by
 let(u,f,k,d):=id x;let((o,h,G,g),D,n,B,b,C):=id S;let(F,c,q,v):=y;show gE (iN (wpAny_callSpecial?_slot x.ty sit_next (ii sit_next x.ty a0S ?_ (a01 _))));show gE (gF (gE (jV f d (gE (iZ h g b ?_)))));rw[if_neg (by simp)];show gE (gE (jp q ?_));rw[v];show gF ?_;dsimp only;let r:(ps.map λ(i:Nat)=>rawInt i).toArray[(i:Int).toNat]?=be (rawInt p):=by simp_all
 rw[r]
 change wpAny _ _ (setNextDrawn a (p:Int).toNat (ep:Int).toNat >>= _) _ _ _
 show gE (gE (ij h g b ?_));simp;rw[he];show gF (gE (iM f d (by simp) ?_));let j:=Obj.data_mapFields d (·.setIfInBounds 1 (rawInt ((i:Int)+1)));let z:SetIt _ it a (.ref T) (i+1) es.size ep:=
  (_,(Heap.get?_update_self (Obj.mapFields (·.setIfInBounds 1 (rawInt ((i:Int)+1)))) f (Obj.isFreed_of_fields (Obj.data_mapFields d _))),(Obj.cls_mapFields ..).trans k,by rw[j];simp[rawInt])
 show gF (_,rfl,?_);show gF (hQ _ z (Heap.SameBut.update ..))
def a9A(hh:A.handled=gV)(x:SetIt s.heap it a (.ref T) i es.size ep)(S:SO kd s.heap a es ep t ms)(y:PlacesAt s.heap T ps)(hp:ps[i]?=gV)
  (hQ:∀h',(∀b o,b≠it->s.heap.get? b=be o->h'.get? b=be o)->Q gV { s with heap:=h' }):wpAny (model prog w) A (pyNext (.ref it)) Q E s:=by
 let(u,f,I,d):=id x;let((o,k,J,C),G,p,H,g,F):=id S;let(L,c,j,l):=y;show gE (iN (wpAny_callSpecial?_slot x.ty sit_next (ii sit_next x.ty a0S ?_ (a01 _))));show gE (gF (gE (jV f d (gE (iZ k C g ?_)))));rw[if_neg (by simp)];show gE (gE (jp j ?_));rw[l];show gF ?_;dsimp only;let v:(ps.map λ(i:Nat)=>rawInt i).toArray[(i:Int).toNat]?=gV:=by simp_all
 rw[v];dsimp only;show gE (iM f d (by simp) ?_);let r:=Obj.data_mapFields d (·.setIfInBounds 0 (rawInt 0));show gE (iM (Heap.get?_update_self (Obj.mapFields (·.setIfInBounds 0 (rawInt 0))) f (Obj.isFreed_of_fields (Obj.data_mapFields d _))) r (by simp) ?_);show gX (a6Y hh λB h=>?_) (λ_ _ z=>z.elim) λe M z=>z;show (hQ B λb o n e=>h b o (((Heap.SameBut.update s.heap it _).trans (Heap.SameBut.update _ it _)).extBut b o n e))
noncomputable def a5i(es:Array (Int×Value))(ps:List Nat):List Value:=ps.map λp=>((es[p]?).getD (0,.none,)).2
def a7V(hh:A.handled=gV)(hne:a≠it)(hnT:T≠it)(hps:ps.Perm (a9 es.size)) :
  Walks prog w A it [it,a,T] [it] es.size (λi v=>(a5i es ps)[i]?=be v) (λi h=>SetIt h it a (.ref T) i es.size ep/\SO kd h a es ep t ms/\PlacesAt h T ps):=by
 let q:ps.length=es.size:=by rw[hps.length_eq,dB]
 show(λb d=>by simp at d;simp[d],λ_ _ _ c l=>(c.1.at λo e=>l it (by simp) o e,c.2.1.at λo e=>l a (by simp) o e,c.2.2.at λo e=>l T (by simp) o e),λi s Q E r c f=>?_,λs Q E c f=>?_,λ_ _ _ _ c f=>a4t c.1 f)
 .let g:i<ps.length:=by lia
  let m:=ca.mp (hps.mem_iff.mp (b5 g));show a7U c.1 c.2.1 c.2.2 (aP g) (bG m) λj x k=>?_;show f _ j s.toks ?_ (x,c.2.1.at λo e=>k.extBut a o hne e,c.2.2.at λo e=>k.extBut T o hnT e) λb o d e=>k.extBut b o (λz=>d (by simp[z])) e;unfold a5i;rw[aO,aP g,cR,bG m]
  rfl
 .show a9A hh c.1 c.2.1 c.2.2 (dY (by lia)) λj n=>f j s.toks λb o d e=>n b o (λz=>d (by simp[z])) e
def a9B{α:Type}(d:α)(l:Array α):(a9 l.size).map (λp=>(l[p]?).getD d)=l.toList:=by
 show fR (by simp) λi b a=>?_
 let:i<l.size:=by cbv
 simp[this]
def a7W(hps:ps.Perm (a9 es.size)):(a5i es ps).Perm (es.toList.map (·.2)):=by
 let q:=hps.map λp=>((es[p]?).getD (0,Value.none,)).2;show q.trans (bn.of_eq ?_);rw[<- a9B (0,Value.none,) es,bQ]
 rfl
def SO.ty(S:SO kd s.heap a es ep t ms):s.TypeIs (.ref a) "set":=by let(o,g,x,_):=S.at_;show(o,g,x.1)
def SO.len(S:SO kd s.heap a es ep t ms):es.size=ms.length:=by
 let q:=a9x S.nums;o_head q
abbrev b7C(f:Value)(a:Addr)(n ep:Nat):Obj:={ cls:=.type "set_iterator",data:=.fields #[f,.int (0:Nat) 0,.ref a,.int n 0,.int ep 0] }
def a3g{h:Heap}:SetIt (h.push (b7C f a n ep)) h.objs.size a f 0 n ep:=(_,Heap.get?_push_size _ rfl,rfl,rfl)
def b1D(hh:A.handled=gV)(S:SI kd s.heap a ms)
  (h:∀(I:Addr)(fp:List Addr)(g:Heap)(d':Drawn)(vs:List Value)(ns:List K)(St:Nat->Heap->Prop),(∀b o,s.heap.get? b=be o->g.get? b=be o)->s.heap.objs.size<=I->(∀b∈fp,b=a\/s.heap.objs.size<=b) ->
   KsAre kd vs ns->ns.Perm ms->Walks prog w A I fp [I] vs.length (λi v=>vs[i]?=be v) St->St 0 g->Q (.ref I) { s with heap:=g,drawn:=d' }) :
  wpAny (model prog w) A (pyIter (.ref a)) Q E s:=by
 let(es,ep,t,S):=S;let((o,p,hx,y),hel,n,N,f,L):=id S;let G:a<s.heap.objs.size:=Heap.lt_size p;show wpAny_pyIter_slot S.ty PySem.F.slot_set_iter (ii PySem.F.slot_set_iter S.ty a3D ?_ (PySem.F.args_set_iter_1 _));unfold gN.«frozenset.__iter__» gN.Frozenset.slot0 gN.Frozenset.sizeOf;show gE (gE (gF (gF (gE (gE (iZ p y f (gF ?_)))))));unfold setDrawn setsByText;show gE (gE (ij p y f (gE (gE (jB (gF ?_))))));dsimp only;show gF ?_
 change wpAny _ _ (if (!byT w&&(!t.plain&&decide (es.size > 1)))=kP then _ else _) _ _ _
 let B:(es.toList.map (·.2)).length=es.size:=by simp
 by_cases c:(!byT w&&(!t.plain&&decide (es.size > 1)))=kP
 .rw[if_pos c];show gE (a4u es.size (a9 es.size) _ _ (by simp) λx d' q=>?_);let r:x.length=es.size:=by rw[q.length_eq,dB]
  let sb:ip<=16777216:=by decide
  show gE (jh ?_ (by rw[aH,r,gU];lia));show gE (jW (Heap.get?_push_of_some _ p) y f ?_);unfold newFields;show gE (iI (gF (_,rfl,"set_iterator",_,(_,Heap.get?_push_size _ rfl,rfl),sit_next.lookup,?_)));let(D,C,H):=a0R n (a7W (es:=es) q);let k:s.heap.objs.size<(s.heap.push { cls:=.type "tuple",data:=.seq (x.map λ(i:Nat)=>rawInt i).toArray }).objs.size:=by rw[Heap.size_push];show dI _
  let j:=a7V (kd:=kd) (A:=A) (t:=t) (ms:=ms) (ep:=ep) (a:=a) hh (aS (dj G k)) (aS k) q;let e:(a5i es x).length=es.size:=by unfold a5i;rw[aH,r]
  rw[<- e]at j;show h _ _ _ _ _ D _ (λb o g=>Heap.get?_push_of_some _ (Heap.get?_push_of_some _ g)) (bL k) (λb u=>?_) C H j (?_,S.at λo g=>Heap.get?_push_of_some _ (Heap.get?_push_of_some _ g),(_,_,Heap.get?_push_of_some _ (Heap.get?_push_size _ rfl),rfl))
  .simp only[aL,dA,or_false]at u;let rfl||rfl||rfl:=u
   .show .inr (bL k)
   .show .inl rfl
   .show .inr (aI _)
  .rw[e];show a3g
 .rw[if_neg c];show gE (gF (gE (jW p y f ?_)));unfold newFields;show gE (iI (gF (_,rfl,"set_iterator",_,(_,Heap.get?_push_size _ rfl,rfl),sit_next.lookup,?_)));let z:∀b∈[s.heap.objs.size,a],b=a\/s.heap.objs.size<=b:=λb u=>by grind
  cases k:byT w with
  |true=>
   let J:(b1C w a ep es).Perm (es.toList.map (·.2)):=(a3f _ es).map _;let(D,C,H):=a0R n J;let j:=a9z (kd:=kd) (A:=A) (t:=t) (ms:=ms) (ep:=ep) (es:=es) (a:=a) hh (aS G) k;let e:(b1C w a ep es).length=es.size:=by rw[J.length_eq,B]
   rw[<- e]at j;show h _ _ _ _ _ D _ (λb o g=>Heap.get?_push_of_some _ g) (aI _) z C H j (?_,S.at λo g=>Heap.get?_push_of_some _ g);rw[e];show a3g
  |false=>
   let M:(!t.plain&&decide (es.size > 1))=kQ:=by
    rw[k]at c;o_head c
   let j:=a7T (kd:=kd) (A:=A) (t:=t) (ms:=ms) (ep:=ep) (es:=es) (a:=a) hh (aS G) k M f L;rw[<- B]at j;show h _ _ _ _ _ ms _ (λb o g=>Heap.get?_push_of_some _ g) (aI _) z n (bn.refl _) j (?_,S.at λo g=>Heap.get?_push_of_some _ g);rw[B];show a3g
end
section
variable{a:Addr}{K:Type}[DecidableEq K]{kd:KeyKind prog w K}{ms:List K}
def b1E(y:s.TypeIs (.ref a) "set")(h:Q kQ s):wpAny (model prog w) A (gN.List.listLengthHint (.ref a)) Q E s:=by
 show gE (wpAny_specialOf y PySem.F.slot_set_len.lookup ?_);generalize e0:_=z;show gE (iY (b:=kP) y (by rw[jC];kernel_rfl) (gE (jL y (gF h))))
def b1F(h:ItemsOf (λi v=>vs[i]?=be v) acc vs.length):acc.toList=vs:=by
 let(a,b):=h;show fR (by cbv) λi d c=>?_;let e:i<acc.size:=by cbv
 let:vs[i]?=be acc[i]:=b i acc[i] (bG e)
 rw[aP c]at this;o_head this.symm
def a7X(hh:A.handled=gV)(S:SI kd s.heap a ms)(L:Addr)(hL:L≠a)(res:Value)(c0:Nat)(gL:s.heap.get? L=be { cls:=.type "list",data:=.seq #[] c0 })
  (hR:∀g tk d' acc c' ns,(∀b o,b≠L->s.heap.get? b=be o->g.get? b=be o)->g.get? L=be { cls:=.type "list",dict:=gV,data:=.seq acc c',slots:=#[] }->KsAre kd acc.toList ns->ns.Perm ms->R (.ok (.ret res)) { s with heap:=g,drawn:=d',toks:=tk }) :
  wpAny (model prog w) A.in1 (gN.List.listExtendWith (.ref L) (.ref a) res)
   (λfin s'=>match fin with |.done f=>R (.ok f) s' |.again c'=>c'.quiet=kP/\ig (model prog w) A c' R s') (λe s'=>R (.error e) s') s:=by
 let ty:s.TypeIs (.ref a) "set":=by let(_,_,_,S'):=S;show S'.ty
 let small:ms.length<=sizeLine:=by
  let(es,ep,t,S'):=S;let q1:=S'.len;let q2:=S'.sc;let sb:ip<=16777216:=by decide
  rw[gU];lia
 let lL:=Heap.lt_size gL;unfold gN.List.listExtendWith;show gE (jL ty ?_);let n1:gN.List.listSameRef (.ref L) (.ref a)=kQ:=by simp[gN.List.listSameRef,hL]
 let n2:(Value.type "set"==Value.type "list")=kQ:=by decide
 let n3:(Value.type "set"==Value.type "tuple")=kQ:=by decide
 simp only[n1,n2,n3,Bool.or_false,cJ,if_false];show gE (b1D hh S λI fp g d' vs ns St kp hI hfp i1 i2 wk st=>?_);let nf:L∉fp:=λz=>(hfp L z).elim hL λq=>cm _ (bo lL q);let hz:vs.length<=sizeLine:=by
  let q:=a9x i1;rw[i2.length_eq]at q
  lia
 let key:∀(d:Heap)(c1:Nat),St 0 d->(∀b o,b≠L->g.get? b=be o->d.get? b=be o)->d.get? L=be { cls:=.type "list",data:=.seq #[] c1 } ->
   ig (model prog w) A (.builtin "list.extend.loop" ([.ref L,.ref I,res],[])) R { s with heap:=d,drawn:=d' }:=by
  ext d c1 st2 k2 gL2;show codeAny_extend_loopS wk.toS hz L nf res vs.length 0 _ #[] c1 rfl (bg _) st2 gL2 (ItemsOf.nil _) λs3 acc c3 mv g3 hacc=>?_;rw[Moved.eq_with mv];show hR s3.heap s3.toks d' acc c3 ns (λb o i e=>mv.heap b o (λhm=>?_) (k2 b o i (kp b o e))) g3 (b1F hacc▸i1) i2;let q||q:=aL.mp hm
  .show i q
  .rw[aK.mp q]at e;show cm _ (bo (Heap.lt_size e) hI)
 let h:=kp L _ gL;show gE (g6 (b1E (by let(o,e,c):=ty;show(o,kp _ _ e,c)) (iu (λ_=>?_) λ_=>gF (iX PySem.F.plain_extend_loop _,key _ c0 st (λb o _ e=>e) h))));show gE (iB (gE ?_))
 change wpAny _ _ (updateSeq L (·.push .none) >>= λ_=>updateSeq L (·.pop)) _ _ _
 show gE (kC h rfl ?_);let d:=Heap.get?_update_self (Obj.mapSeq (·.push Value.none)) h rfl;show kC d rfl ?_;let j:∀b o,b≠L->g.get? b=be o->((g.update L (Obj.mapSeq (·.push Value.none))).update L (Obj.mapSeq (·.pop))).get? b=be o:=λb o i e=>
  (Heap.get?_update_other _ _ (Ne.symm i)).trans ((Heap.get?_update_other _ _ (Ne.symm i)).trans e)
 show gF (iX PySem.F.plain_extend_loop _,key _ _ (wk.frame 0 _ _ st λb hb o e=>j b o (λq=>nf (q▸hb)) e) j (Heap.get?_update_self (Obj.mapSeq (·.pop)) d rfl))
def collect_set(hh:A.handled=gV)(S:SI kd s.heap a ms)
  (h:∀(g:Heap)(tk:Nat)(d':Drawn)(vs:List Value)(ns:List K),(∀b o,s.heap.get? b=be o->g.get? b=be o)->KsAre kd vs ns->ns.Perm ms->R vs { s with heap:=g,drawn:=d',toks:=tk }) :
  wpAny (model prog w) A (collect (.ref a)) R E s:=by
 let C:=let (_,_,_,S'):=S;let (_,g,_):=S'.at_;Heap.lt_size g
 show gE (wpAny_runValue (iK PySem.F.entry_proto_collect ?_));rw[Around.under_plainId PySem.F.plain_proto_collect _];show gE (iI (gF (iX PySem.F.plain_list_iadd _,iK PySem.F.entry_list_iadd ?_)));rw[Around.under_plainId PySem.F.plain_list_iadd _];let z:(s.heap.push { cls:=.type "list",data:=.seq ([]).toArray }).get? s.heap.objs.size=be { cls:=.type "list",data:=.seq #[] }:=Heap.get?_push_size _ rfl;let u:=a7X (s:={ s with heap:=s.heap.push { cls:=.type "list",data:=.seq ([]).toArray } })
  (R:=λq t=>∃(g:Heap)(j:Nat)(i:Drawn)(c:Array Value)(n:Nat)(d:List K),q=.ok _/\t={ s with heap:=g,drawn:=i,toks:=j } /\
   (∀b o,s.heap.get? b=be o->g.get? b=be o)/\g.get? s.heap.objs.size=be { cls:=.type "list",dict:=gV,data:=.seq c n,slots:=#[] }/\KsAre kd c.toList d/\d.Perm ms)
  hh (S.at λo e=>Heap.get?_push_of_some _ e) s.heap.objs.size (bS C) (.ref s.heap.objs.size) 0 z
  λg j i c n d m r p k=>(g,j,i,c,n,d,rfl,rfl,λb o e=>m b o (aS (Heap.lt_size e)) (Heap.get?_push_of_some _ e),r,p,k)
 show gX u (λv t x=>?_) λe t x=>?_
 .cases v with
  |done f=>
   let(g,j,i,c,n,d,e,rfl,m,r,p,k):=x;cases e;show gE (jp r (gF (h g j i _ d m p k)))
  |again c1=>
   show(x.1,iz x.2 λq D y=>?_);let(g,j,i,c,n,d,rfl,rfl,m,r,p,k):=y;show gE (jp r (gF (h g j i _ d m p k)))
 .let(_,_,_,_,_,_,B,_):=x;cases B
end
end SetW
def a4v:∀{vs:List Value}{ns:List Int},hV vs ns->vs.length=ns.length:=by ext z0 y0 x0;induction x0 with
 |nil=>show rfl
 |cons n t h I0=>rw[aV,aV,I0]
def a5j:∀{vs:List Value}{ns:List Int},hV vs ns->Vals (ns.map V.int) vs:=by ext z0 y0 x0;induction x0 with
 |nil=>show .nil
 |cons n t h I0=>show .cons (t,rfl) (I0)
theorem a9C:∀{vs:List Value}{ns:List Int},vs.length=ns.length->(∀(i:Nat) v,vs[i]?=be v->∃n t,ns[i]?=be n/\v=.int n t)->hV vs ns
 |[],[],_,_=>.nil
 |[],_::_,h,_=>by simp at h
 |_::_,[],h,_=>by simp at h
 |v::vs,n::ns,h,q=>by
  let(m,t,a,b):=q 0 v rfl;simp at a;subst a b;show .cons _ t (a9C ↑h λi v e=>↑(q (i+1) v ↑e))
def a5k(hmx:ns.length<=1000)
  (hcol:∀R:List Value->Shared->Prop,(∀(g:Heap)(tk:Nat)(d:Drawn)(vs:List Value)(ks:List Int),(∀b o,s.heap.get? b=be o->g.get? b=be o)->hV vs ks->ks.Perm ns->R vs { s with heap:=g,drawn:=d,toks:=tk })->wpAny (model P w) A.in1 (collect (.ref r)) R E s)
  (h:∀(g g':Heap)(tk:Nat)(d:Drawn)(out:List Value)(n:Nat)(ms:List Int),(∀b o,s.heap.get? b=be o->g.get? b=be o)->(∀b o,g.get? b=be o->g'.get? b=be o)->g'.get? g.objs.size=be { cls:=.type "list",data:=.seq out.toArray n } ->
   hV out ms->ms.Perm ns->ms.Pairwise (·<=·)->Q (.ref g.objs.size) { s with heap:=g',drawn:=d,toks:=tk }):wpAny (model P w) A (call (.builtin "sorted") [.ref r]) Q E s:=by
 show Calls.call_function_entry kD kE kF (args_sorted1 _) (gE (gF (gE (hcol _ λg t d f ks p l k=>?_))));let hl:=(a4v l).trans k.length_eq;let v:f.length<=sizeLine:=by rw[gU];lia
 show gE (jy ?_ v);let j:(g.push _).get? g.objs.size=be (seqObj "list" f.toArray 0):=Heap.get?_push_size _ rfl;show gE (g6 (ii kG (_,j,rfl) kH (Tim.sort_any j l (by lia) λout u y x q=>(_,rfl,?_)) (args_list_sort _)));let c:=sortedHeap_at (out:=out) j;let(n,c):=c;show gF (_,rfl,h g _ t d out.toList n u p (λb o e=>?_) (by cbv) y (x.trans k) q);let i:=Heap.lt_size e;rw[sortedHeap_old (aS i) (by rw[Heap.size_push];show cS i)];show Heap.get?_push_of_some _ e
def Inv.drew(I:Inv X pins σ H s)(d:Drawn):Inv X pins σ H { s with drawn:=d }:=
 I.step (ch:=[]) (λb a=>nomatch a) (λb o _ _ _ e _=>e) (λb o _ _ _ e _=>(o.slots,e)) (λ_ _ _ _ n=>n) (λb o _ e=>(o,e)) (λ_ _ e=>e) (λ_ _ _ e=>e) (λb f e=>(#[],by rw[e];simp)) (λm c=>c) I.hok I.bare
def b4r(K:Fg):List V->Hp->VK->Prop:=λxs H Q=>∃(p:Addr)(ns:List Int),xs=[.ref p]/\(SqL K H p (ns.map V.int)\/∃kvs:List (Key×V),H p=be (.dK kvs)/\kvs.map (·.1)=ns.map λi=>(Sum.inl (be i):Key))/\ns.length<=1000 /\
 ∀(t:Addr)(ms:List Int),H t=gV->ms.Perm ns->ms.Pairwise (·<=·)->Q (.ref t) (upd H t (.lst (ms.map V.int)))
def a6c(hc:X.calm=kP):CallR X (.builtin "sorted") (b4r X.K):=by
 ext F s σ H xs us Q I r h;let(p,ns,rfl,C,G,q):=h;let(u,rfl,rx):=a1K r;cases rx;let hh:=I.ok.hd hc;show a5k G (λR T=>?_) λg g' l d ab n L k1 k2 e a1 S a3=>?_
 .let C||(kvs,hd,hk):=C
  .let(M,rv,pl,_):=I.list C;let U:=a3R rv;show collect_list pl.isList ?_ (by rw[a4v U,gU];lia);show T _ s.toks s.drawn M _ (λb o e=>?_) U (bn.refl _);let ac:=Heap.lt_size e;rw[Heap.get?_update_ne _ _ _ _ (aS ac)];show Heap.get?_push_of_some _ e
  .let(z,lo,E,B,dd):=a8U I.hok hd;let(ep,ad):=dd.dictAt;let Y:E.length=ns.length:=by rw[<- B.length,<- aH,hk,aH]
   show PySem.W.kdu_collect (PySem.W.kdl_dict lo) hh ad (by rw[Y,gU];lia) λg l aa kp c=>?_;show T g l s.drawn aa.toList ns kp (a9C (by rw[bf,c.1,Y]) λi v e=>?_) (bn.refl _);let(k,x,e1,e2):=c.2 i v (by simp_all);let y:E.map (·.1)=ns.map λi=>(Sum.inl (be i):Key):=by rw[<- B.keys];show hk
   let j:(ns.map λi=>(Sum.inl (be i):Key))[i]?=be k:=by rw[<- y,aO,e1];rfl
   rw[aO]at j;cases hn:ns[i]? with
   |none=>rw[hn]at j;cases j
   |some n=>
    rw[hn]at j;cases j;let D:Value.isInt n v=kP:=e2;cases v with
    |int m t=>show(n,t,rfl,by simp[Value.isInt]at D;rw[D])
    |_=>simp[Value.isInt]at D
 .let J:Inv X F σ H { s with heap:=g,drawn:=d,toks:=l }:=(I.drew d).kept k1;show(.ref g.objs.size,_,J.laid k2 (aI _) (show ObjOk X.prog X.w _ g' _ (.lst (L.map V.int)) from (by rw[aH,S.length_eq,gU];lia,ab,n,a5j a1,e)),rfl,q _ L (J.hok.fresh (aI _)) S a3)
structure Zs where
 it:Addr
 l:Addr
def Zs.At(z:Zs)(k:Nat)(h:Heap):Prop:=h.IsListIter z.it z.l k
def Zs.Has(z:Zs)(h:Heap)(xs:Array Value):Prop:=h.IsList z.l xs
def Zs.At.keep{z:Zs}(a:z.At k h)(q:∀o,h.get? z.it=be o->h'.get? z.it=be o):z.At k h':=Heap.IsListIter.at a q
def Zs.Has.keep{z:Zs}(a:z.Has h xs)(q:∀o,h.get? z.l=be o->h'.get? z.l=be o):z.Has h' xs:=let (o,ho,r):=a;(o,q o ho,r)
def Zs.At.obj{z:Zs}(a:z.At k h):∃o,h.get? z.it=be o/\∀v,o.data≠.cell v:=by let(o,e,_,d):=a;show(o,e,λv q=>by rw[d]at q;cases q)
def b4s{z:Zs}(a:z.At i s.heap)(b:z.Has s.heap xs)(hx:xs[i]?=be x)
  (q:∀g,z.At (i+1) g->Heap.SameBut z.it s.heap g->Q x { s with heap:=g }):wpAny (model P w) A (gN.SmallTypes.nextOf (.ref z.it)) Q E s:=wpAny_nextOf_list_item a b hx q
def b7D{z:Zs}(hh:A.handled=gV)(a:z.At i s.heap)(b:z.Has s.heap xs)(hx:xs[i]?=gV)
  (q:∀g e,Heap.ExtBut z.it s.heap g->(∃o,g.get? e=be o/\o.cls=.type "StopIteration")->E (.ref e) { s with heap:=g }):wpAny (model P w) A (gN.SmallTypes.nextOf (.ref z.it)) Q E s:=wpAny_nextOf_list_end hh a b hx q
abbrev IsTu(h:Heap)(T:Addr)(xs:Array Value):Prop:=h.get? T=be { cls:=.type "tuple",data:=.seq xs }
structure ZAp (z TI TO:Addr) (zs:List Zs):Prop where
 nd:(zs.map (·.it)).Nodup
 a1:TI≠z
 a2:TO≠z
 a3:TI≠TO
 its:∀y∈zs,y.it≠z/\y.it≠TI/\y.it≠TO
 ls:∀y∈zs,y.l≠z/\y.l≠TO/\∀x∈zs,y.l≠x.it
def b24{z TI TO:Addr}{olds:List Value}{arr:Zs->Array Value}{Q:Value->Shared->Prop}(hh:A.handled=gV)(D:ZAp z TI TO zs)(hne:zs≠[])(hsm:zs.length<=1000)
  (hz:IsZip s.heap z TI TO .none) (hI:IsTu s.heap TI (zs.map λy=>Value.ref y.it).toArray) (hO:IsTu s.heap TO olds.toArray) (hol:olds.length=zs.length)
  (hat:∀y∈zs,y.At k s.heap) (hhas:∀y∈zs,y.Has s.heap (arr y))
  (hQ:∀(g:Heap)(T:Addr)(vs:List Value),vs.length=zs.length->(∀(i:Nat) y,zs[i]?=be y->∃v,vs[i]?=be v/\(arr y)[k]?=be v)->T=s.heap.objs.size->IsZip g z TI TO (rawInt T)->IsTu g TI (zs.map λy=>Value.ref y.it).toArray->IsTu g TO vs.toArray->IsTu g T vs.toArray ->
   (∀y∈zs,y.At (k+1) g)->(∀c o,c≠z->c≠TO->(∀y∈zs,c≠y.it)->s.heap.get? c=be o->g.get? c=be o)->Q (.ref T) { s with heap:=g })
  (hE:(∃y∈zs,(arr y)[k]?=gV)->∀g e,(∀c o,c≠z->c≠TO->(∀y∈zs,c≠y.it)->s.heap.get? c=be o->g.get? c=be o)->(∃o,g.get? e=be o/\o.cls=.type "StopIteration")->E (.ref e) { s with heap:=g }) :
  wpAny (model P w) A (gN.«zip.__next__» ([.ref z],[])) (λfin s'=>∃v,fin=.done (.ret v)/\Q v s') E s:=by
 change wpAny (model P w) _ (field (.ref z) 2 >>= _) _ _ _
 show gE (iE hz rfl (x:=.bool kQ) rfl ?_)
 change wpAny (model P w) _ (field (.ref z) 3 >>= _) _ _ _
 show gE (iE hz rfl (x:=.ref TI) rfl (gE (kI hI rfl ?_)));let he:(zs.map λy=>Value.ref y.it).toArray.isEmpty=kQ:=by
  cases zs with
  |nil=>show absurd rfl hne
  |cons _ _=>rfl
 dsimp only;rw[he]
 change wpAny (model P w) _ (gN.SmallTypes.ownedTupleIsFree (.ref z) >>= _) _ _ _
 show gE ?_;unfold gN.SmallTypes.ownedTupleIsFree;show gE (iE hz rfl (x:=.none) rfl (gF ?_));simp only[if_true];show gE (iB (gE (iE hz rfl (x:=.ref TO) rfl (gE (jX hz (by simp) λg1 z1 N=>?_)))))
 replace z1:IsZip g1 z TI TO .ellipsis:=z1
 show gE ?_;show kJ _ (λL b s'=>b.1=gV/\∃(j n:List Zs)(d h:List Value)(g:Heap),zs=j++n/\L=(n.map λy=>Value.ref y.it).zipIdx j.length/\d.length=j.length/\h.length=n.length/\s'={ s with heap:=g } /\
  (∀(i:Nat) y,j[i]?=be y->∃v,d[i]?=be v/\(arr y)[k]?=be v)/\IsZip g z TI TO .ellipsis/\IsTu g TO (d++h).toArray/\(∀y∈j,y.At (k+1) g)/\(∀y∈n,y.At k g)/\g.objs.size=s.heap.objs.size /\
  (∀c o,c≠z->c≠TO->(∀y∈zs,c≠y.it)->s.heap.get? c=be o->g.get? c=be o)) _ ?_ ?_ _ _ ?_
 .ext x L b s' ⟨hb,j,n,d,h,g,r,R,I,U,rfl,ev,S,X,ad,F,sg,J⟩;cases n with
  |nil=>simp at R
  |cons y n=>
   cases h with
   |nil=>simp at U
   |cons o h=>
   rw[aR,fE]at R;cases R;let a:y∈zs:=by rw[r];simp
   let hyl:=λo q=>J _ o (D.ls y a).1 (D.ls y a).2.1 (D.ls y a).2.2 q;dsimp only;show gE (wpAny_onRaise ?_)
   change wpAny (model P w) _ (gN.SmallTypes.nextOf (.ref y.it) >>= _) _ _ _
   cases hx:(arr y)[k]? with
   |none=>
    show gE (b7D (z:=y) hh (F y (.head _)) ((hhas y a).keep hyl) hx λH e x2 he=>?_);let(oe,V,he2):=he;let Y:IsZip H z TI TO .ellipsis:=x2 _ _ (D.its y a).1.symm S;let hez:e≠z:=λq=>by subst q;rw[Y]at V;cases V;simp at he2
    show jX Y (by simp) λg3 _ p=>hE (y,a,hx) g3 e (λc u m G t q=>p.extBut _ _ m (x2 _ _ (t y a) (J c u m G t q))) (oe,p.extBut _ _ hez V,he2)
   |some v=>
    show gE (b4s (z:=y) (F y (.head _)) ((hhas y a).keep hyl) hx λH a2 C=>gF ?_);let o2:IsTu H TO (d++o::h).toArray:=C.extBut _ _ (D.its y a).2.2.symm X;show gE (kI o2 rfl ?_);let W:(d++o::h).length=zs.length:=by rw[r];simp[I];o_head U
    show gE (kC o2 rfl ?_ (by rw[bt,W,gU];lia) (by rw[fS,bt,W,gU];lia));show gE (wpAny_letGo (gF ?_));let nd:(j.map (·.it)++y.it::n.map (·.it)).Nodup:=by let:=D.nd;rw[r]at this;o_head this
    let p:Heap.SameBut TO H (H.update TO (Obj.mapSeq (·.setIfInBounds j.length v))):=Heap.SameBut.update ..;let o3:IsTu (H.update TO (Obj.mapSeq (·.setIfInBounds j.length v))) TO ((d++[v])++h).toArray:=by
     change Heap.get? _ _=_
     rw[Heap.get?_update_self _ o2 rfl]
     let:(d++o::h).set d.length v=(d++[v])++h:=by simp
     simp[Obj.mapSeq,<- I]
    show(rfl,j++[y],n,d++[v],h,_,by rw[r];simp,by simp,by simp[I],↑U,rfl,?_,p.extBut _ _ D.a2.symm (C.extBut _ _ (D.its y a).1.symm S),o3,?_,?_,by rw[p.1,C.1,sg],?_)
    .ext i x B
     by_cases hlt:i<j.length
     .rw[cz hlt]at B;let(v',q1,q2):=ev i x B;show(v',by rw[cz (by lia)];show q1,q2)
     .rw[cy (by lia)]at B;let h0:i-j.length=0:=by
       let:=(aM.mp B).1
       simp at this;cbv
      rw[h0]at B;simp at B;subst B;show(v,by rw[cy (by lia),show i-d.length=0 by lia];rfl,hx)
    .ext x f;let f||f:=aJ.mp f
     .let M:x∈zs:=by rw[r];simp[f]
      show (ad x f).keep λu q=>p.extBut _ _ (D.its x M).2.2 (C.extBut _ _ (λz=>?_) q);rw[b9]at nd;show nd.2.2 x.it (bA f) y.it (by simp) z
     .rw[aK.mp f];show a2.keep λu q=>p.extBut _ _ (D.its y a).2.2 q
    .ext x f;let M:x∈zs:=by rw[r];simp[f]
     show (F x (.tail _ f)).keep λu q=>p.extBut _ _ (D.its x M).2.2 (C.extBut _ _ (λz=>?_) q);rw[b9]at nd;show (bT.mp nd.2.1).1 (z▸bA f)
    .ext c u m G t q;show p.extBut _ _ G (C.extBut _ _ (t y a) (J c u m G t q))
 .ext b s' ⟨hb,j,n,d,h,g,r,R,I,U,rfl,ev,S,X,ad,F,sg,J⟩;let htd:n=[]:=by
   cases n with
   |nil=>rfl
   |cons _ _=>simp at R
  subst htd;let hos:h=[]:=↑U
  subst hos;rw[bh]at r X;subst r;let(N,C):=b;subst hb;dsimp only;show gE (kI X rfl (gE (jh ?_ (by change d.toArray.toList.length<=gH;simp only[I,gU];lia))))
  change wpAny (model P w) _ (gN.SmallTypes.ownedTupleHandOut (.ref z) (.ref g.objs.size) >>= _) _ _ _
  show gE ?_;unfold gN.SmallTypes.ownedTupleHandOut;let hzl:=Heap.lt_size S;let Y:IsZip (g.push { cls:=.type "tuple",data:=.seq d.toArray.toList.toArray }) z TI TO .ellipsis:=Heap.get?_push_of_some _ S;show gE (jX Y (by simp) λg3 z3 p=>?_)
  replace z3:IsZip g3 z TI TO (rawInt g.objs.size):=z3
  show jX z3 (by simp) λg4 z4 b4=>?_
  replace z4:IsZip g4 z TI TO (rawInt g.objs.size):=z4
  let up:∀c o,c≠z->g.get? c=be o->g4.get? c=be o:=λc o m q=>b4.extBut _ _ m (p.extBut _ _ m (Heap.get?_push_of_some _ q));let t4:IsTu g4 g.objs.size d.toArray:=b4.extBut _ _ (bS hzl) (p.extBut _ _ (bS hzl) ↑(Heap.get?_push_size _ rfl));show gF (_,rfl,?_);show hQ g4 g.objs.size d I ev sg z4 (up _ _ D.a1 (J _ _ D.a1 D.a3 (λy a=>(D.its y a).2.1.symm) hI)) (up _ _ D.a2 X) t4 (λy a=>(ad y a).keep λo q=>up _ o (D.its y a).1 q) λc o m G t q=>up c o m (J c o m G t q)
 .show(rfl,[],zs,[],olds,g1,rfl,by simp,rfl,hol,rfl,λi y q=>by simp at q,z1,↑(N.extBut _ _ D.a2 hO),λy q=>by simp at q,λy a=>(hat y a).keep λo q=>N.extBut _ _ (D.its y a).1 q,N.1,λc o m _ _ q=>N.extBut _ _ m q)
section
variable{σ:St}{h':Heap}
def Inv.turnedN{ch:List Addr}(I:Inv X pins σ H s)(hf:∀b∈ch,FpOk X pins H b)(k:∀b o,b∉ch->s.heap.get? b=be o->h'.get? b=be o):Inv X pins σ H { s with heap:=h',toks:=t' }:=by
 let d:∀b u,H b=be u->b∉ch:=λb u e z=>by rw[(hf b z).1]at e;cases e
 show I.step (λb i=>?_) (λb o _ _ a e _=>k b o a e) (λb o _ _ a e _=>(o.slots,k b o a e)) (λ_ _ _ _ n=>n)
  (λb o a e=>(o,k b o a e)) (λ_ _ e=>e) (λ_ _ _ e=>e) (λb x e=>(#[],by rw[e];simp)) (λm j=>?_) (λb u e=>?_) I.bare
 .let(_,t,_,g,w,l):=hf b i;show(g,t,w,l)
 .let(o,h,f,p,r):=j;show(o,h,f,k _ o (λz=>(hf _ z).2.1 rfl) p,r)
 .show (I.hok b u e).stay (λc v a q=>k c v ?_ q) (λ_ q=>q) λ_ _ q=>q;let z||z:=a
  .simp_all
  .simp_all
def Inv.turnedT{ch:List Addr}(I:Inv X pins σ H s)(hf:∀b∈ch,FpOk X pins H b)(k:∀b o,b∉ch->s.heap.get? b=be o->h'.get? b=be o)
  (hT:s.heap.objs.size<=T) (r:Vals vs us) (hz:vs.length<=gH) (ht:IsTup h' T us.toArray):Inv X pins σ (upd H T (.tup vs)) { s with heap:=h',toks:=t' }:=by
 let g:∀b u,H b=be u->b∉ch:=λb u e z=>by rw[(hf b z).1]at e;cases e
 let d:=I.hok.fresh hT;let y:∀b o,s.heap.get? b=be o->b≠T:=λb o e=>aS (bo (Heap.lt_size e) hT);show I.step (λb f=>?_) (λb o _ _ a e _=>k b o a e) (λb o _ _ a e _=>(o.slots,k b o a e)) (λb o _ e n=>by rw[a0d (y b o e)];show n)
  (λb o a e=>(o,k b o a e)) (λb l e=>by rw[a0d (a0t e d)];show e) (λb _ _ e=>by rw[a0d (a0t e d)];show e) (λb B e=>(#[],by rw[a0d (a0t e d),e];simp)) (λm x=>?_) (λb u e=>?_) I.bare
 .let(_,j,_,p,A,t):=hf b f;show(p,j,A,t)
 .let(o,i,w,h,r):=x;show(o,i,w,k _ o (λz=>(hf _ z).2.1 rfl) h,r)
 .by_cases f:b=T
  .subst f;rw[a0f]at e;cases e;show(hz,us,r,ht)
  .rw[a0d f]at e;show (I.hok b u e).stay (λc v a q=>k c v ?_ q) (λc q=>by rw[a0d (a0t q d)];show q) λc l q=>by rw[a0d (a0t q d)];show q
   let z||z:=a
   .simp_all
   .simp_all
end
noncomputable def SrcV.has{y:Zs}(I:Inv X pins σ H s)(h:SqL X.K H y.l xs):∃its:List Value,Vals xs its/\y.Has s.heap its.toArray:=by let(its,r,p,_):=I.list h;show(its,r,p.isList)
def SrcV.inj{y:Zs}(I:Inv X pins σ H s)(h:SqL X.K H y.l xs)(h':SqL X.K H y.l xs'):xs=xs':=I.list_inj h h'
noncomputable def Itz(K:Fg)(zs:List Zs):It:=
  (λi H=>∀y∈zs,∃xs x,SqL K H y.l xs/\xs[i]?=be x,
   λi H x H'=>∃T vs,H T=gV/\x=.ref T/\H'=upd H T (.tup vs)/\vs.length=zs.length/\∀(j:Nat) y xs,zs[j]?=be y->SqL K H y.l xs->∃v,vs[j]?=be v/\xs[i]?=be v,
   λi H=>(∀y∈zs,∃xs,SqL K H y.l xs)/\∃y∈zs,∃xs,SqL K H y.l xs/\xs.length<=i)
def TnZ(z TI TO:Addr)(zs:List Zs)(i:Nat)(h:Heap):Prop:=IsZip h z TI TO .none/\IsTu h TI (zs.map λy=>Value.ref y.it).toArray/\(∃olds:List Value,olds.length=zs.length/\IsTu h TO olds.toArray)/\∀y∈zs,y.At i h
theorem Vals.of_get:∀{vs:List V}{us:List Value},vs.length=us.length->(∀(i:Nat) v u,vs[i]?=be v->us[i]?=be u->RelV v u)->Vals vs us
 |[],[],_,_=>.nil
 |[],_::_,h,_=>by simp at h
 |_::_,[],h,_=>by simp at h
 |v::vs,u::us,h,q=>.cons (q 0 v u rfl rfl) (Vals.of_get ↑h λi v u a b=>q (i+1) v u ↑a ↑b)
theorem b1G{P:gM}{w:World}{K:Fg}{elts:List Expr}{x1}{pos:Pos}{z TI TO:Addr}{zs:List Zs}(D:∀(X:Cx) pins σ H s,X.K=K->Inv X pins σ H s->(∀b∈z::TI::TO::zs.map (·.it),H b=gV)->(∀y∈zs,∃xs,SqL K H y.l xs)->ZAp z TI TO zs)(hne:zs≠[])(hsm:zs.length<=1000) :
  Turn P w K (.Tuple elts x1 pos) (Itz K zs) (z::TI::TO::zs.map (·.it)) z (TnZ z TI TO zs) where
 mem:=by simp
 obj:=λi h (t1,t2,(olds,_,t3),t4) b hb=>by
  let rfl||hb:=aL.mp hb
  .show(_,t1,λv q=>by let q':Data.fields _=Data.cell v:=q;cases q')
  let rfl||hb:=aL.mp hb
  .show(_,t2,λv q=>by let q':Data.seq _ _=Data.cell v:=q;cases q')
  let rfl||hb:=aL.mp hb
  .show(_,t3,λv q=>by let q':Data.seq _ _=Data.cell v:=q;cases q')
  let(y,hy,rfl):=aX.mp hb;show (t4 y hy).obj
 keep:=λi h h' (t1,t2,(olds,t0,t3),t4) k=>(k z (by simp) _ t1,k TI (by simp) _ t2,(olds,t0,k TO (by simp) _ t3),λy hy=>(t4 y hy).keep λo q=>k y.it (by simp;show .inr (.inr (.inr (y,hy,rfl)))) o q)
 item:=by
  ext X hP hw hK hc i pins s σ H E I hf st hg;subst hP hw hK;let(t1,t2,(olds,t0,t3),t4):=st;let Da:=D X pins σ H s rfl I (λb hb=>(hf b hb).1) λy hy=>let (xs,_,q,_):=hg y hy;(xs,q)
  let ex:∀y:Zs,∃its:List Value,y∈zs->∃xs,SqL X.K H y.l xs/\Vals xs its/\y.Has s.heap its.toArray/\∃x,xs[i]?=be x:=λy=>by
   by_cases hy:y∈zs
   .let(xs,x,q1,q2):=hg y hy;let(its,r,p):=SrcV.has I q1;show(its,λ_=>(xs,q1,r,p,x,q2))
   .show([],λq=>absurd q hy)
  let(arr,harr):=Classical.axiomOfChoice ex;let hT:s.TypeIs (.ref z) "zip":=(_,t1,rfl);unfold pyNext;show gE (iN (wpAny_callSpecial?_slot (name:=Str.ofString "__next__") hT PySem.F.slot_zip_next (ii PySem.F.slot_zip_next hT PySem.F.entry_zip_next ?_ (PySem.F.args_zip_next_1 _))));show b24 (arr:=λy=>(arr y).toArray) (k:=i) (I.ok.hd hc) Da hne hsm t1 t2 t3 t0 t4 (λy hy=>let (_,_,_,p,_):=harr y hy;p) ?_ ?_
  .ext g T us hl hv hT' z2 ti2 to2 tt2 at2 kp;show gF (_,rfl,?_);show wpAny_letOwnedTupleGo_zip (s:={ s with heap:=g }) z2 λg3 z3 b3=>?_;let zl:=Heap.lt_size t1;let hTz:T≠z:=by rw[hT'];show bS zl
   let k3:∀b o,b∉z::TI::TO::zs.map (·.it)->s.heap.get? b=be o->g3.get? b=be o:=λb o hb q=>by
    simp only[aL,not_or]at hb;show b3.extBut _ _ hb.1 (kp b o hb.1 hb.2.2.1 (λy hy e=>hb.2.2.2 (by rw[e];show bA hy)) q)
   let exv:∀j:Nat,∃v:V,∀y xs,zs[j]?=be y->SqL X.K H y.l xs->xs[i]?=be v:=λj=>by
    cases hj:zs[j]? with
    |none=>show(.non,λy xs e=>nomatch e)
    |some y=>
     let(xs,q1,_,_,x,q2):=harr y (aZ hj);show(x,λy' xs' e q=>by cases e;rw[SrcV.inj I q q1];show q2)
   let(val,hval):=Classical.axiomOfChoice exv;let hlv:((a9 zs.length).map val).length=zs.length:=by rw[aH,dB]
   let gv:∀(j:Nat) y,zs[j]?=be y->((a9 zs.length).map val)[j]?=be (val j):=λj y e=>by
    rw[aO,List.getElem?_range (aM.mp e).1];rfl
   let rv:Vals ((a9 zs.length).map val) us:=Vals.of_get (by rw[hlv,hl]) λj v u e1 e2=>by
    let hj:j<zs.length:=by rw[<- hl];show (aM.mp e2).1
    let hz':=aP hj;rw[gv j _ hz']at e1;cases e1;let(xs,q1,q2,_,_):=harr _ (b5 hj);let q3:=hval j _ xs hz' q1;let(u',e3,e4):=hv j _ hz';rw[e2]at e3;cases e3;let(u2,e5,e6):=q2.get q3;let e4':(arr zs[j])[i]?=be u:=↑e4
    rw[e5]at e4';cases e4';show e6
   let tt3:IsTup g3 T us.toArray:=(_,b3.extBut _ _ hTz tt2,rfl,_,rfl);show(.ref T,_,I.turnedT (t':=s.toks) hf k3 (by rw[hT'];show aI _) rv (by rw[hlv];show bL (a0e hsm)) tt3,rfl,(T,_,I.hok.fresh (by rw[hT'];show aI _),rfl,rfl,hlv,λj y xs e q=>(_,gv j y e,hval j y xs e q)),(z3,b3.extBut _ _ Da.a1 ti2,(us,hl,b3.extBut _ _ Da.a2 to2),λy hy=>(at2 y hy).keep λo q=>b3.extBut _ _ (Da.its y hy).1 q),λb hb=>?_);let hbo:∃o,s.heap.get? b=be o:=by
    let rfl||hb:=aL.mp hb
    .show(_,t1)
    let rfl||hb:=aL.mp hb
    .show(_,t2)
    let rfl||hb:=aL.mp hb
    .show(_,t3)
    let(y,hy,rfl):=aX.mp hb;let(o,q,_):=(t4 y hy).obj;show(o,q)
   let(o,q):=hbo;rw[a0d (by rw[hT'];show aS (Heap.lt_size q))];show (hf b hb).1
  .ext⟨y,hy,q⟩;let(xs,_,r,_,x,q2):=harr y hy;let(u,e,_):=r.get q2;let q':(arr y)[i]?=gV:=↑q
   rw[e]at q';cases q'
 done:=by
  ext X hP hw hK hc i pins s σ H E I hf st hg;subst hP hw hK;let(t1,t2,(olds,t0,t3),t4):=st;let(hall,y0,hy0,xs0,hx0,hl0):=hg;let Da:=D X pins σ H s rfl I (λb hb=>(hf b hb).1) hall;let ex:∀y:Zs,∃its:List Value,y∈zs->∃xs,SqL X.K H y.l xs/\Vals xs its/\y.Has s.heap its.toArray:=λy=>by
   by_cases hy:y∈zs
   .let(xs,q1):=hall y hy;let(its,r,p):=SrcV.has I q1;show(its,λ_=>(xs,q1,r,p))
   .show([],λq=>absurd q hy)
  let(arr,harr):=Classical.axiomOfChoice ex;let hT:s.TypeIs (.ref z) "zip":=(_,t1,rfl);unfold pyNext;show gE (iN (wpAny_callSpecial?_slot (name:=Str.ofString "__next__") hT PySem.F.slot_zip_next (ii PySem.F.slot_zip_next hT PySem.F.entry_zip_next ?_ (PySem.F.args_zip_next_1 _))));show b24 (arr:=λy=>(arr y).toArray) (k:=i) (I.ok.hd hc) Da hne hsm t1 t2 t3 t0 t4 (λy hy=>let (_,_,_,p):=harr y hy;p) ?_ ?_
  .ext g T us hl hv _ _ _ _ _ _ _;exfalso;let(j,hj):=bP hy0;let(v,_,e):=hv j y0 hj;let(xs,q1,r,_):=harr y0 hy0;let e':(arr y0)[i]?=be v:=↑e
   let:=(aM.mp e').1
   rw[<- r.length,SrcV.inj I q1 hx0]at this;cbv
  .ext _ g e kp ⟨o,ho,hcl⟩;show gE (iY (T:="StopIteration") (b:=kP) (s:={ s with heap:=g }) (o,ho,hcl) isSubtype_stop ?_);show gF (rfl,I.turnedN (t':=s.toks) hf λb o hb q=>?_);simp only[aL,not_or]at hb;show kp b o hb.1 hb.2.2.1 (λy hy e=>hb.2.2.2 (by rw[e];show bA hy)) q
 self:=λ_ _ _ _ _ st h=>wpAny_pyIter_zip st.1 h
noncomputable def mkZs(b:Nat):List Addr->List Zs
 |[]=>[]
 |p::r=>(b,p)::mkZs (b+1) r
def a03:∀(b:Nat)(l:List Addr),(mkZs b l).length=l.length:=by ext z0 y0;induction y0 generalizing z0 with
 |nil=>show rfl
 |cons _ r I0=>simp[mkZs,I0 _]
def a3h:∀(b:Nat)(l r:List Addr),mkZs b (l++r)=mkZs b l++mkZs (b+l.length) r:=by ext z0 y0;induction y0 generalizing z0 with
 |nil=>ext _;simp[mkZs]
 |cons p l I0=>
  ext r
  let:=I0 (z0+1) r
  simp[mkZs,this]
  congr 1
  cbv
def a1j:∀{b:Nat}{l:List Addr}{y:Zs},y∈mkZs b l->@LE.le Nat _ b y.it/\@LT.lt Nat _ y.it (b+l.length)/\y.l∈l:=by ext z0 y0;induction y0 generalizing z0 with
 |nil=>ext _ h;simp[mkZs]at h
 |cons p l I0=>
  ext y h;let rfl||h:=aL.mp h
  .simp
  .let(d,c,a):=I0 h;show(by lia,by rw[aV,<- cW,fU];show c,.tail _ a)
def a7Y:∀(b:Nat)(l:List Addr),((mkZs b l).map (·.it)).Nodup:=by ext z0 y0;induction y0 generalizing z0 with
 |nil=>simp[mkZs]
 |cons p l I0=>
  change (z0::(mkZs _ l).map _).Nodup
  show bT.mpr (λh=>?_,I0 _);let(y,a,e):=aX.mp h
  let:=(a1j a).1
  lia
def HasS(p:Addr)(h:Heap):Prop:=∃xs,h.IsList p xs
def a7Z(srcs:List Addr)(hsm:srcs.length<=1000) :
  Meets (gN.«zip.__new__» (.type "zip"::srcs.map Value.ref,[])) (λ_ R s=>(∀p∈srcs,HasS p s.heap)/\∀(g:Heap),(∀b o,s.heap.get? b=be o->g.get? b=be o) ->
   g.objs.size=s.heap.objs.size+srcs.length+3->TnZ (s.heap.objs.size+srcs.length+2) (s.heap.objs.size+srcs.length) (s.heap.objs.size+srcs.length+1) (mkZs s.heap.objs.size srcs) 0 g->R (.ok (.ret (.ref (s.heap.objs.size+srcs.length+2)))) { s with heap:=g }):=
 .of_wp λU w A R s h=>by
  let(T,h):=h;unfold gN.«zip.__new__»;let C:gN.SmallTypes.newClass "zip" (.type "zip"::srcs.map Value.ref,[])=pure (.type "zip",srcs.map Value.ref,):=by
   unfold gN.SmallTypes.newClass;simp only[isType,sub_zip,pure_bind,fV,cJ,if_false]
  show gE (kA C ?_);dsimp only;rw[if_neg (by simp)];show gE ?_;unfold gN.SmallTypes.iterAll;show gE ?_;show kJ _ (λm l B=>∃(f e:List Addr)(g:Heap),srcs=f++e/\m=e.map Value.ref/\l=((mkZs s.heap.objs.size f).map λy=>Value.ref y.it).toArray/\B={ s with heap:=g }/\g.objs.size=s.heap.objs.size+f.length /\
   (∀b o,s.heap.get? b=be o->g.get? b=be o)/\∀y∈mkZs s.heap.objs.size f,y.At 0 g) _ ?_ ?_ _ _ ?_
  .ext x m l B ⟨f,e,g,t,n,rfl,rfl,j,u,k⟩;cases e with
   |nil=>simp at n
   |cons p e=>
    rw[aR]at n;cases n;let(W,V):=T p (by rw[t];simp);show gE (g6 ?_);let Q:∀z:Obj,Zs.At (g.objs.size,p) 0 (g.push z)->∃(dn' td':List Addr)(g':Heap),srcs=dn'++td'/\e.map Value.ref=td'.map Value.ref/\(((mkZs s.heap.objs.size f).map λy=>Value.ref y.it).toArray.push (.ref g.objs.size))=((mkZs s.heap.objs.size dn').map λy=>Value.ref y.it).toArray /\
      ({ s with heap:=g.push z }:Shared)={ s with heap:=g' }/\g'.objs.size=s.heap.objs.size+dn'.length/\(∀b o,s.heap.get? b=be o->g'.get? b=be o)/\∀y∈mkZs s.heap.objs.size dn',y.At 0 g':=λz S=>by
     show(f++[p],e,g.push z,by rw[t];simp,rfl,?_,rfl,by rw[Heap.size_push,j];simp;lia,λb o q=>Heap.get?_push_of_some _ (u b o q),λy d=>?_)
     .rw[a3h];simp[mkZs,j]
     .rw[a3h]at d;let d||d:=aJ.mp d
      .show (k y d).keep λo q=>Heap.get?_push_of_some _ q
      .simp[mkZs]at d;subst d;rw[<- j];show S
    show jq (by let(o,ho,r):=V;show(o,u _ _ ho,r)) (gF (Q _ (_,Heap.get?_push_size _ rfl,rfl,rfl)))
  .ext l B ⟨f,e,g,t,n,rfl,rfl,j,u,k⟩;let L:e=[]:=by
    cases e with
    |nil=>rfl
    |cons _ _=>simp at n
   subst L;rw[bh]at t;subst t;show gF (gE (jh ?_ (by change ((mkZs s.heap.objs.size srcs).map λy=>Value.ref y.it).toArray.toList.length<=gH;simp[a03];show bL (a0e hsm))));show gE (jh ?_ (by rw[aH];change ((mkZs s.heap.objs.size srcs).map λy=>Value.ref y.it).toArray.toList.length<=gH;simp[a03];show bL (a0e hsm)));show gE ?_;unfold gN.SmallTypes.newRecord;show iI ?_ (by simp[sizeOk,gN.SmallTypes.ownedTupleFields,gU]);let J:∀(a c i:Obj),a={ cls:=.type "tuple",data:=.seq ((mkZs s.heap.objs.size srcs).map λy=>Value.ref y.it).toArray }->c={ cls:=.type "tuple",data:=.seq (((mkZs s.heap.objs.size srcs).map λ_=>Value.none)).toArray } ->
     i={ cls:=.type "zip",data:=.fields #[.none,.bool kQ,.bool kQ,.ref g.objs.size,.ref (g.push a).objs.size] }->R (.ok (.ret (.ref ((g.push a).push c).objs.size))) { s with heap:=((g.push a).push c).push i }:=λa c i N D v=>by
    let H:(g.push a).objs.size=s.heap.objs.size+srcs.length+1:=by rw[Heap.size_push,j]
    let E:((g.push a).push c).objs.size=s.heap.objs.size+srcs.length+2:=by rw[Heap.size_push,H]
    let G:(((g.push a).push c).push i).get? g.objs.size=be a:=Heap.get?_push_of_some _ (Heap.get?_push_of_some _ (Heap.get?_push_size _ (by rw[N];rfl)));let F:(((g.push a).push c).push i).get? (g.push a).objs.size=be c:=Heap.get?_push_of_some _ (Heap.get?_push_size _ (by rw[D];rfl));let M:(((g.push a).push c).push i).get? ((g.push a).push c).objs.size=be i:=Heap.get?_push_size _ (by rw[v];rfl);let I:∀b o,g.get? b=be o->(((g.push a).push c).push i).get? b=be o:=λb o q=>Heap.get?_push_of_some _ (Heap.get?_push_of_some _ (Heap.get?_push_of_some _ q));rw[H]at F v;rw[E]at M ⊢;rw[j]at G v;show h _ (λb o q=>I b o (u b o q)) (by rw[Heap.size_push,E]) (M.trans (congrArg be v),G.trans (congrArg be N),((mkZs s.heap.objs.size srcs).map λ_=>Value.none,by rw[aH],F.trans (congrArg be D)),λy d=>(k y d).keep λo q=>I _ o q)
   show gF (_,rfl,J _ _ _ (by simp) (by simp) rfl)
  .show([],srcs,s.heap,rfl,rfl,by simp[mkZs],rfl,rfl,λ_ _ q=>q,λy d=>by simp[mkZs]at d)
def b4t(a b c d:Value):checkTypeCall "zip" ([a,b,c,d],[])=pure ():=by kernel_rfl
def b4u(a b c d:Value):kx "zip.__new__" ([.type "zip",a,b,c,d],[])=pure ():=by kernel_rfl
def b1H(o a b c d:Value):argsOk "object.__init__" ([o,a,b,c,d],[]):=by
 unfold argsOk;rw[signature?_of (n:=['_','_','t','i','n','i','_','_']) (by kernel_rfl) PySem.F.owner_object]
 kernel_rfl
def a5l(us:List Value):Prop:=checkTypeCall "zip" (us,[])=pure ()/\kx "zip.__new__" (.type "zip"::us,[])=pure ()/\∀o,argsOk "object.__init__" (o::us,[])
def b7E(a b c d:Value):a5l [a,b,c,d]:=(b4t a b c d,b4u a b c d,λo=>b1H o a b c d)
def a9D(hk:a5l (srcs.map Value.ref))(hsm:srcs.length<=1000)(hs:∀p∈srcs,HasS p s.heap)
  (h:∀g:Heap,(∀b o,s.heap.get? b=be o->g.get? b=be o)->TnZ (s.heap.objs.size+srcs.length+2) (s.heap.objs.size+srcs.length) (s.heap.objs.size+srcs.length+1) (mkZs s.heap.objs.size srcs) 0 g->Q (.ref (s.heap.objs.size+srcs.length+2)) { s with heap:=g }) :
  wpAny (model P w) A (call (.type "zip") (srcs.map Value.ref)) Q E s:=
 callType_new PySem.F.called_zip (by decide) hk.1 hk.2.1 hk.2.2 PySem.F.entry_zip_new (a7Z srcs hsm) (hs,λg c _ a=>((_,a.1,rfl),h g c a))
noncomputable def ItzP(K:Fg)(ps:List Addr):It:=
  (λi H=>∀y∈ps,∃xs x,SqL K H y xs/\xs[i]?=be x,
   λi H x H'=>∃T vs,H T=gV/\x=.ref T/\H'=upd H T (.tup vs)/\vs.length=ps.length/\∀(j:Nat) y xs,ps[j]?=be y->SqL K H y xs->∃v,vs[j]?=be v/\xs[i]?=be v,
   λi H=>(∀y∈ps,∃xs,SqL K H y xs)/\∃y∈ps,∃xs,SqL K H y xs/\xs.length<=i)
def b1I:∀(b:Nat)(l:List Addr),(mkZs b l).map (·.l)=l:=by ext z0 y0;induction y0 generalizing z0 with
 |nil=>show rfl
 |cons p r I0=>simp[mkZs,I0 _]
def a60{j:Nat}(h:l[j]?=be p):∃y,(mkZs b l)[j]?=be y/\y.l=p:=by
 let:=congrArg (·[j]?) (b1I b l)
 simp only[aO,h]at this;cases e:(mkZs b l)[j]? with
 |none=>rw[e]at this;cases this
 |some y=>rw[e]at this;show(y,rfl,↑this)
theorem Turn.imp{P:gM}{w:World}{K:Fg}{tg:Expr}{J J':It}{fp:List Addr}{it:Addr}{tn:Nat->Heap->Prop}(t:Turn P w K tg J fp it tn)(g:∀i H,J'.go i H->J.go i H)(y:∀i H x H',J'.go i H->J.yld i H x H'->J'.yld i H x H')(s:∀i H,J'.stop i H->J.stop i H):Turn P w K tg J' fp it tn where
 mem:=t.mem
 obj:=t.obj
 keep:=t.keep
 item:=λX h1 h2 h3 h4 i pins s σ H E I hf st hg=>gX (t.item X h1 h2 h3 h4 i pins s σ H E I hf st (g i H hg)) (λr s1 (u,e,q)=>(u,e,gX q (λ_ s2 (x,H',a,b,c,d,e)=>(x,H',a,b,y i H x H' hg c,d,e)) λ_ _ z=>z)) λ_ _ z=>z
 done:=λX h1 h2 h3 h4 i pins s' σ H E I hf st hg=>t.done X h1 h2 h3 h4 i pins s' σ H E I hf st (s i H hg)
 self:=t.self
def a15(h:@Ne Nat a b):a≠b:=h
def b98(K:Fg)(n:Nat)(ta:TA):TI:=fun σ H R=>ta σ H λvs H1=>∃ps:List Addr,vs=ps.map V.ref/\ps≠[]/\ps.length=n/\(∀p∈ps,∃xs,SqL K H1 p xs)/\R (ItzP K ps) H1
def b4v:∀{ps:List Addr}{us:List Value},Vals (ps.map V.ref) us->us=ps.map Value.ref:=by ext z0;induction z0 with
 |nil=>ext us r;rw[bN]at r;cases r;rfl
 |cons p ps I0=>
  ext us r;cases r with
  |cons r1 r2=>rw[I0 r2,r1];rfl
def b7F(hg:Gl X "zip")(hm:X.mg "zip"=gV)(hok:∀us:List Value,us.length=n->a5l us)(hn:n<=1000)(ha:PA X (e::es) ta)
  (he:gJ (e::es) X.env=(kQ,eval e X.env,)::gJ es X.env) (hpl:(backTo pos (gJ es X.env)).any (·.1)=kQ):PI X (.Tuple elts x1 tpos) (.Call (.Name "zip" p) (e::es) [] pos) (b98 X.K n ta):=by
 ext r s σ H R I h;show Call_ (a25 I hg hm (show ib "zip"=be (.type "zip") by decide +kernel) (PyProof.Rows.callWith_type1 (thn (ha pos r s σ H _ I h) λus c (vs,H1,t,r1,q1)=>?_) he hpl));let(f,rfl,hne,hl,v,q):=q1;let hsm:f.length<=1000:=by cbv
 let e:=b4v r1;subst e;let hnz:mkZs c.heap.objs.size f≠[]:=λz=>hne (cC.mp (by rw[<- a03 c.heap.objs.size f,z];rfl));show a9D (hok _ (by rw[aH,hl])) hsm (λp B=>?_) λg kp tn=>?_
 .let(A,d):=v p B;let(its,_,h):=SrcV.has (y:=(0,p)) t d;show(_,h)
 .show wpAny_pyIter_zip (s:={ c with heap:=g }) tn.1 ?_;let I2:Inv X r σ H1 { c with heap:=g }:=t.kept (t':=c.toks) kp;show(_,_,_,_,H1,rfl,I2,(b1G (K:=X.K) (zs:=mkZs c.heap.objs.size f) ?_ hnz (by rw[a03];show hsm)).imp ?_ ?_ ?_,tn,λb k=>?_,q)
  .intro X' pins' σ' C s' hK I' u hall;let w:∀y∈mkZs c.heap.objs.size f,∀b,C b=gV->b∈(c.heap.objs.size+f.length+2)::(c.heap.objs.size+f.length+1)::(mkZs c.heap.objs.size f).map (·.it)->y.l≠b:=by
    ext y a b k hm z;let(hb1,hb2,hb3):=a1j a;let(A,d):=v _ hb3;let(its,_,hh):=SrcV.has (y:=y) t d
    let:@LT.lt Nat _ y.l c.heap.objs.size:=by
     let(o,ho,_):=hh;show Heap.lt_size ho
    let e||hm:=aL.mp hm
    .show absurd (z.trans e) (a15 (by cbv))
    let e||hm:=aL.mp hm
    .show absurd (z.trans e) (a15 (by cbv))
    let(x,d,e):=aX.mp hm
    let:=(a1j d).1
    show absurd (z.trans e.symm) (a15 (by cbv))
   show(a7Y _ _,a15 (by cbv),a15 (by cbv),a15 (by cbv),λy a=>?_,λy a=>?_)
   .let:=a1j a
    show(a15 (by cbv),a15 (by cbv),a15 (by cbv))
   .show(w y a _ (u _ (by simp)) (by simp),w y a _ (u _ (by simp)) (by simp),λx d=>w y a _ (u _ (by simp;show .inr (.inr (.inr (x,d,rfl))))) (by simp;show .inr (.inr (x,d,rfl))))
  .ext i C hgo y a;show hgo y.l (a1j a).2.2
  .ext i C x H2 _ ⟨T,vs,a1,a2,a3,a4,a5⟩;show(T,vs,a1,a2,a3,by rw[a4,a03],λj p A B d=>?_);let(y,a,e):=a60 (b:=c.heap.objs.size) B;subst e;show a5 j y A a d
  .ext i C ⟨a1,p,B,A,d,hl⟩;let(j,hj):=bP B;let(y,a,e):=a60 (b:=c.heap.objs.size) hj;subst e;show(λy a=>a1 y.l (a1j a).2.2,y,aZ a,A,d,hl)
  .let hb':@LE.le Nat _ c.heap.objs.size b:=by
    let rfl||k:=aL.mp k
    .cbv
    let rfl||k:=aL.mp k
    .cbv
    let rfl||k:=aL.mp k
    .cbv
    let(x,d,rfl):=aX.mp k;show (a1j d).1
   show t.fpOk hb' (t.hok.fresh hb')
noncomputable def Itv(K:Fg)(a:Addr)(n:Nat):It:=
 (λi H=>i<n/\∃xs,SqL K H a xs/\xs.length=n,λi H x H'=>H'=H/\∀xs,SqL K H a xs->xs[n-1-i]?=be x,λi _=>i=n)
theorem b1J{P:gM}{w:World}{K:Fg}{tg:Expr}(a it:Addr)(n:Nat):Turn P w K tg (Itv K a n) [it] it (λi h=>i<=n/\h.IsRevIter it a ((n:Int)-1-(i:Nat))) where
 mem:=by simp
 obj:=λi h st b hb=>by
  let e:b=it:=↑hb
  subst e;let(o,e,c,d):=st.2;show(o,e,λv z=>by rw[d]at z;cases z)
 keep:=λi h h' st k=>(st.1,st.2.at λo e=>k it (by simp) o e)
 item:=by
  ext X hP hw hK hc i pins s σ H E I hf st hg;subst hP hw hK;let(hi,xs,hq,hx):=hg;let(its,rv,p,hz):=I.list hq;let hx':=aP (show n-1-i<xs.length by cbv);let(u,hu,ru):=rv.get hx';let(f0,f1,f2,f3,f4,f5):=hf it (by simp);let st':=st.2;let e1:(n:Int)-1-(i:Nat)=((n-1-i:Nat):Int):=by cbv
  rw[e1]at st';show wpAny_pyNext_rev_item st' p.isList (x:=u) ↑hu λh' s2 sb=>?_;let I1:Inv X pins σ H { s with heap:=h' }:=I.turned (t':=s.toks) (λb o hb e=>(sb.2 b hb).trans e) f0 f1 f3 f4 f5;let(o,e,c,d):=id s2;show(u,rfl,a7C (s:={ s with heap:=h' }) e c d (by decide) (xs[n-1-i],H,I1,ru,(rfl,λys hy=>by rw[I.list_inj hy hq];show hx'),(by cbv,?_),λb hb=>(hf b hb).1));let e2:(n:Int)-1-((i+1:Nat):Int)=((n-1-i:Nat):Int)-1:=by cbv
  rw[e2];show s2
 done:=by
  ext X hP hw hK hc i pins s σ H E I hf st hg;subst hP hw hK;let(f0,f1,f2,f3,f4,f5):=hf it (by simp);let hi:i=n:=hg;let st':=st.2;let e1:(n:Int)-1-(i:Nat)=-1:=by cbv
  rw[e1]at st';show wpAny_pyNext_rev_end (I.ok.hd hc) st' λh' eb=>(rfl,I.turned (t':=s.toks) (λb o hb e=>eb b o hb e) f0 f1 f3 f4 f5)
 self:=λ_ _ _ _ _ st h=>wpAny_pyIter_revIter st.2 h
def b99(K:Fg)(ta:TA):TI:=fun σ H R=>ta σ H λvs H1=>∃a xs,vs=[.ref a]/\SqL K H1 a xs/\R (Itv K a xs.length) H1
def b7G(hg:Gl X "reversed")(hm:X.mg "reversed"=gV)(ha:PA X [e] ta)
  (he:gJ [e] X.env=(kQ,eval e X.env,)::gJ [] X.env):PI X tg (.Call (.Name "reversed" p) [e] [] pos) (b99 X.K ta):=by
 ext i s σ H R I h;show Call_ (a25 I hg hm boot_reversed (PyProof.Rows.callWith_type1 (thn (ha pos i s σ H _ I h) λy c (A,v,f,k,l)=>?_) he rfl));let(a,d,rfl,n,q):=l;let(u,rfl,r):=a1K k;cases r;let(j,m,w,z):=f.list n;let x:j.toArray.size=d.length:=by rw[bt,m.length]
 show call_reversed_list w.isList ?_;rw[x];let g:(c.heap.push (revObj a ((d.length)-1))).IsRevIter c.heap.objs.size a ((d.length)-1-0):=(_,Heap.get?_push_size _ rfl,rfl,by simp[revObj]);show wpAny_pyIter_revIter g (c.heap.objs.size,[c.heap.objs.size],_,_,v,rfl,f.kept λb o e=>Heap.get?_push_of_some _ e,b1J a _ d.length,(bg _,g),λb t=>?_,q);let e:b=c.heap.objs.size:=by simp_all
 subst e;show f.fpOk (aI _) (f.hok.fresh (aI _))
noncomputable def a9E(x y:Str):Int:=match gN.Str.occurrences x y 0 x.length 1 with
 |i::_=>(i:Int)
 |[]=>-1
def b4w:MtR X "str.find" (λx vs H Q=>∃(z y:Str),x=.str z/\vs=[.str y]/\Q (.int (a9E z y)) H):=by
 ext c s σ H x f v g Q I b d h;let(z,y,rfl,rfl,q):=h;let(t,rfl):=b;let(u,rfl,e):=a1K d;let(a,rfl):=e;show call_gives PySem.F.slot_str_find (iR _ _ _) PySem.F.entry_str_find (PySem.F.args_str_find_2 _ _) (gives_str_find z y t a) (.int _,H,I.tok _,(_,rfl),q)
section
def b7H:Z->List Z->Hq->K3->Prop:=λx xs G R=>match x,xs with
 |.str z,[.str y]=>R (.int (a9E z y)) G
 |_,_=>False
def b7I:MtQ X "str.find" b7H:=a5Z b4w λx g H Q e=>e.un λw c G R a b d h f=>by
 match w,c,h with
 |.str z,[.str y],h=>
  let(v,rfl,r):=b.one;show(z,y,a,by rw[r],f _ _ _ _ h (by rw[a0k]) d (.refl _ _))
def b7J(h:R (.int (a9E z y)) G):b7H (.str z) [.str y] G R:=h
noncomputable def putZ(kvs:List (Key×Z))(k:Key)(v:Z):List (Key×Z):=
 if (kvs.any λkv=>decide (kv.1=k))=kP then kvs.map (λkv=>if kv.1=k then (kv.1,v,) else kv) else kvs++[(k,v,)]
theorem a9F{α β:Type}:∀{kvs:List (Key×α)}{us:List (Key×β)},us.map (·.1)=kvs.map (·.1)->(us.any λkv=>decide (kv.1=k))=kvs.any λkv=>decide (kv.1=k)
 |[],[],_=>rfl
 |[],_::_,h=>by simp at h
 |_::_,[],h=>by simp at h
 |p::ps,q::qs,h=>by
  rw[aR,aR]at h;injection h with h1 h2
  rw[cG,cG,a9F h2,h1]
def a4w{K:Fg}(rv:Rep K H kR v)(hk:us.map (·.1)=kvs.map (·.1))(hr:Reps K H (kvs.map (·.2)) (us.map (·.2))) :
  (putK us k v).map (·.1)=(putZ kvs k kR).map (·.1)/\Reps K H ((putZ kvs k kR).map (·.2)) ((putK us k v).map (·.2)):=by
 unfold putK putZ;rw[a9F hk]
 split
 .let l:∀{d:List _}{f:List _},f.map (·.1)=d.map (·.1)->Reps K H (d.map (·.2)) (f.map (·.2))->((f.map λc=>if c.1=k then (c.1,v,) else c).map (·.1)=(d.map λc=>if c.1=k then (c.1,kR,) else c).map (·.1)/\Reps K H ((d.map λc=>if c.1=k then (c.1,kR,) else c).map (·.2)) ((f.map λc=>if c.1=k then (c.1,v,) else c).map (·.2))):=by
   ext d
   induction d with
   |nil=>ext f g h;cases f with
    |nil=>show(rfl,.nil)
    |cons _ _=>simp at g
   |cons p ps ih=>
    ext f g h;cases f with
    |nil=>simp at g
    |cons q qs=>
     rw[aR,aR]at g h;injection g with h3 h4
     let(a,b,e,j,m):=h;injection e with e1 e2
     subst e1 e2;let i:=ih h4 m;simp only[aR]
     by_cases e:p.1=k
     .rw[if_pos e,if_pos (h3.trans e)];show(by rw[i.1,h3],.cons rv i.2)
     .rw[if_neg e,if_neg (λz=>e (h3.symm.trans z))];show(by rw[i.1,h3],.cons j i.2)
  show l hk hr
 .rw[aQ,aQ,hk,aQ,aQ];show(rfl,hr.append (.cons rv .nil))
noncomputable def keyZ:Z->Option Key
 |.non=>be (.inl gV)
 |.int i=>be (.inl (be i))
 |.str x=>be (.inr x)
 |_=>gV
def b7K:Z3:=λo i v G R=>match o with
 |.ref p=>∃kvs k,G p=be (.dK kvs)/\keyZ i=be k/\kvs.length<gH/\R (put G p (.dK (putZ kvs k v)))
 |_=>False
def a1D{K:Fg}(h:keyZ i=be k)(r:Rep K H i v):v=kV k:=by
 cases i with
 |non=>rw[a0x]at r;cases h;show r
 |int j=>rw[a0k]at r;cases h;show r
 |str j=>rw[a0v]at r;cases h;show r
 |_=>cases h
def b1K(hu:X.A.units+66<cLine):PSet X (λo i v H Q=>∃a H',o=.ref a/\DPut H a i v H'/\Q H'):=by
 ext e s σ H o i v j l u Q I d f b h;let(a,H',rfl,g,q):=h;cases (d);show a8V (by lia) I g f b λk c=>(H',c,q)
def a9G{α β:Type}{kvs:List (Key×α)}{us:List (Key×β)}(h:us.map (·.1)=kvs.map (·.1)):us.length=kvs.length:=by
 rw[<- aH,h,aH]
def a61(hu:X.A.units+66<cLine):SetQ X b7K:=b2U (b1K hu) λo i v H Q r=>r.un λa b w G R g q f d h u=>by
 cases a with
 |ref p=>
  let(j,k,e,n,t,h):=h;let(x,c,m,s):=d _ _ e;let l:=a4w (k:=k) f m s;show(p,_,g,?_,u _ _ h (d.set (.dK c) (_,a0f,l.1,l.2.mono (.dK c))) (.dK c));rw[a1D n q];show DPut.k c (a9G m▸t)
 |_=>show aN h
def a62(e:G p=be (.dK kvs))(a:keyZ i=be k)(z:kvs.length<gH)(h:Rg (put G p (.dK (putZ kvs k kR)))):b7K (.ref p) i kR G Rg:=(kvs,k,e,a,z,h)
def a9H:List Z->Hq->K3->Prop:=λxs G R=>match xs with
 |[.ref p]=>∃ns:List Int,(G p=be (.lst (ns.map Z.int))\/∃kvs,G p=be (.dK kvs)/\kvs.map (·.1)=ns.map λi=>Sum.inl (be i))/\ns.length<=1000/\∀(t:Addr)(ms:List Int),G t=gV->ms.Perm ns->ms.Pairwise (·<=·)->R (.ref t) (put G t (.lst (ms.map Z.int)))
 |_=>False
def b1L(hc:X.calm=kP):a1X X (.builtin "sorted") a9H:=a1w (a6c hc) λw H Q n=>n.un λm G R o b h q=>by
 match m,h with
 |[.ref p],h=>
  let(v,rfl,r):=o.one;let(l,a,e,h):=h;show(p,l,by rw[r],?_,e,λt g c i j=>q _ _ _ _ (h t g (b.out c) i j) (by rw[a0q]) (b.set (.new c) (a02 (a1W _) (.new c))) (.new c));let a||(kvs,a,hk):=a
  .let(u,d,f):=b _ _ a
   let:=a44 f
   subst this;show .inl (SqL.of d)
  .let(k,d,s,_):=b _ _ a;show .inr (k,d,s.trans hk)
def a9I(e:G p=be (.dK kvs))(k:kvs.map (·.1)=ns.map λi=>Sum.inl (be i))(z:ns.length<=1000)(h:∀(t:Addr)(ms:List Int),G t=gV->ms.Perm ns->ms.Pairwise (·<=·)->R (.ref t) (put G t (.lst (ms.map Z.int)))):a9H [.ref p] G R:=(ns,.inr (kvs,e,k),z,h)
variable{tg:Expr}{t:A3}
def iRev(t:A3):I3:=fun σ G R=>t σ G λws G1=>∃a xs,ws=[.ref a]/\G1 a=be (.lst xs)/\R xs.reverse (λG=>G a=be (.lst xs)) G1
def a9J{K:Fg}:a3B K ws.reverse (λG=>G a=be (.lst ws)) (Itv K a ws.length) H0:=λi G H g t l m=>by
 let(f,e,d):=g a _ l;rw[fW]at m ⊢;show(λh=>h,λw c=>?_);let b:i<ws.length:=by
  let:=(aM.mp c).1
  rwa [fW]at this
 rw[List.getElem?_reverse b]at c;let(v,j,k):=d.get c;show((b,f,SqL.of e,d.length.symm),?_);ext x n ⟨rfl,y⟩
 let:=y f (SqL.of e)
 rw[j]at this;cases this;show(k,g,.refl _ _)
def a3i(hg:Gl X "reversed")(hm:X.mg "reversed"=gV)(ha:QA X [e] t)
  (he:gJ [e] X.env=(kQ,eval e X.env,)::gJ [] X.env:=by rfl):QI X tg (.Call (.Name "reversed" p) [e] [] pos) (iRev t):=a53 (b7G hg hm ha.p he) fun τ H R2 i=>i.un fun σ G R k hg h o=>by
 show(σ,G,_,k,hg,h,λws G1 vs H1 (a,xs,e,f,l) g b j=>?_);subst e;let(v,rfl,r):=g.one;subst r;let(m,n,d):=b a _ f;show(a,m,rfl,SqL.of n,by rw[<- d.length];show o _ _ _ _ _ l a9J b j)
noncomputable def srcZ(G:Hq):Z->Option (List Z)
 |.ref a=>match G a with
  |some (.lst ws)=>be ws
  |_=>gV
 |_=>gV
noncomputable def zipZ:List (List Z)->List Z
 |[]=>[]
 |[xs]=>xs.map λx=>.tup [x]
 |xs::rest=>List.zipWith (λx r=>match r with |.tup ws=>.tup (x::ws) |r=>r) xs (zipZ rest)
def iZip(n:Nat)(t:A3):I3:=fun σ G R=>t σ G λws G1=>∃xss:List (List Z),ws.map (srcZ G1)=xss.map be/\xss≠[]/\ws.length=n/\R (zipZ xss) (λG=>ws.map (srcZ G)=xss.map be) G1
theorem a1E:∀(xss:List (List Z)),xss≠[]->∀(i:Nat)(w:Z),(zipZ xss)[i]?=be w↔∃vs:List Z,w=.tup vs/\xss.map (·[i]?)=vs.map be
 |[],h,_,_=>absurd rfl h
 |[xs],_,i,w=>by
  simp only[zipZ,aO,aR,bN]
  constructor
  .ext h;cases e:xs[i]? with
   |none=>rw[e]at h;cases h
   |some x=>rw[e]at h;cases h;show([x],rfl,rfl)
  .ext⟨a,rfl,h⟩
   match a,h with
   |[v],h=>rw[aR,bN]at h;injection h with h _;rw[h];rfl
   |[],h=>cases h
   |_::_::_,h=>simp at h
 |xs::ys::rest,_,i,w=>by
  let b:=a1E (ys::rest) (by simp)
  change (List.zipWith _ xs _)[i]?=be w↔_
  rw[List.getElem?_zipWith]
  constructor
  .ext h;cases e1:xs[i]? with
   |none=>rw[e1]at h;cases h
   |some x=>
    cases e2:(zipZ (ys::rest))[i]? with
    |none=>rw[e1,e2]at h;cases h
    |some r=>
     rw[e1,e2]at h;let(a,rfl,c):=(b i r).mp e2;cases h;show(x::a,rfl,by rw[aR,c,e1];rfl)
  .ext⟨a,rfl,h⟩
   match a,h with
   |[],h=>simp at h
   |v::a,h=>
    rw[aR,aR]at h;injection h with h1 h2
    let:=(b i _).mpr (a,rfl,h2)
    rw[h1,this]
def a63{K:Fg}(h:srcZ G kR=be ws)(r:Rep K H kR v)(hg:RH K G H):∃p,v=.ref p/\∃vs,SqL K H p vs/\Reps K H ws vs:=by
 cases kR with
 |ref a=>
  cases q:G a with
  |none=>simp[srcZ,q]at h
  |some o=>
   cases o with
   |lst us=>
    simp[srcZ,q]at h;subst h;let(b,d,c):=hg _ _ q;show(a,r,b,SqL.of d,c)
   |_=>simp[srcZ,q]at h
 |_=>cases h
theorem a64{K:Fg}(hg:RH K G H):∀{ws:List Z}{vs:List V}{xss:List (List Z)},ws.map (srcZ G)=xss.map be->Reps K H ws vs->∃ps:List Addr,vs=ps.map V.ref/\ps.length=ws.length/\∀p∈ps,∃us,SqL K H p us
 |[],vs,xss,_,r=>by rw[a0p]at r;subst r;show([],rfl,rfl,λp h=>by simp at h)
 |w::ws,vs,[],h,_=>by simp at h
 |w::ws,vs,xs::xss,h,r=>by
  injection h with h1 h2
  let(v,j,rfl,d,g):=r;let(p,rfl,e,c,_):=a63 h1 d hg;let(b,rfl,f,i):=a64 hg h2 g;show(p::b,rfl,by simp[f],λa h=>?_);let rfl||h:=aL.mp h
  .grind
  .simp_all
def a9K{K:Fg}(h:srcZ G kR=be ws)(r:Rep K H0 kR (.ref p))(t:TK K H0 H)(hg:RH K G H):∃vs,SqL K H p vs/\Reps K H ws vs:=by
 let(q,e,a):=a63 h (r.mono t) hg;cases e;show a
theorem a1y{α:Type}{β:Type}{f:α->Option β}:∀{l:List α}{m:List β}{j:Nat}{x:α},l.map f=m.map be->l[j]?=be x->∃y,m[j]?=be y/\f x=be y
 |[],_,_,_,_,e=>by simp at e
 |a::l,[],_,_,h,_=>by simp at h
 |a::l,b::m,j,x,h,e=>by
  injection h with h1 h2
  cases j with
  |zero=>simp at e;subst e;show(b,rfl,h1)
  |succ j=>o_head a1y h2 (by simp_all)
def a9L{K:Fg}(hne:xss≠[])(hv:vs=ps.map V.ref)(hl:ps.length=ws.length)(rs:Reps K H0 ws vs) :
  a3B K (zipZ xss) (λG=>ws.map (srcZ G)=xss.map be) (ItzP K ps) H0:=λi G H R t M hi=>by
 let A:xss.length=ws.length:=by rw[<- aH (as:=ws),M,aH]
 let o:∀j p,ps[j]?=be p->∃b a,xss[j]?=be b/\SqL K H p a/\Reps K H b a:=λj p e=>by
  let d:j<ws.length:=hl▸(aM.mp e).1;let X:=aP d;let(b,k,n):=a1y M X;let(v,m,s):=rs.get X;rw[hv,aO,e]at m;cases m;let(a,r,E):=a9K n s t R;show(b,a,k,r,E)
 show(λh=>(λp F=>?_,?_),λw hw=>?_)
 .let(j,d):=bP F;let(b,a,_,k,_):=o j p d;show(a,k)
 .show Classical.byContradiction λno=>?_;let all:∀b∈xss,i<b.length:=λb J=>by
   let(j,d):=bP J;let D:j<ps.length:=by rw[hl,<- A];show (aM.mp d).1
   let(xs',a,k,n,m):=o j _ (aP D);rw[d]at k;cases k;show Classical.byContradiction λc=>no (_,b5 D,a,n,?_);rw[<- m.length]
   lia
  let:(zipZ xss)[i]?=be (.tup (xss.map λb=>b.getD i .non)):=(a1E xss hne i _).mpr (_,rfl,by
   rw[bQ];show d6 λb J=>?_
   let:=all b J
   simp[aP this])
  let:=(aM.mp this).1
  lia
 .let(g,rfl,hz):=(a1E xss hne i w).mp hw;let U:g.length=ps.length:=by rw[<- aH,<- hz,aH,A,hl]
  let C:∀j b,xss[j]?=be b->∃z,g[j]?=be z/\b[i]?=be z:=λj b d=>a1y (f:=λl:List Z=>l[i]?) hz d;show(λp F=>?_,?_)
  .let(j,d):=bP F;let(b,a,I,k,n):=o j p d;let(z,m,s):=C j b I;let(v,r,_):=n.get s;show(a,v,k,r)
  .ext x H' ⟨T,a,N,rfl,rfl,B,hat⟩;let tT:TK K H (upd H T (.tup a)):=.new N;show(?_,R.hid N,tT);show(T,a,rfl,a0f,?_);let go:∀{g:List Z}{a:List V},g.length=a.length->(∀(j:Nat) z u,g[j]?=be z->a[j]?=be u->Rep K H z u)->Reps K H g a:=by
    ext g
    induction g with
    |nil=>ext a h _;cases a with
     |nil=>show .nil
     |cons _ _=>simp at h
    |cons z g ih=>ext a h q;cases a with
     |nil=>simp at h
     |cons u a=>show .cons (q 0 z u rfl rfl) (ih (by simp_all) λj z u L y=>q (j+1) z u ↑L ↑y)
   show (go (by grind) λj z u L y=>?_).mono tT;let d:j<ps.length:=B▸(aM.mp y).1;let(b,Q,I,k,n):=o j _ (aP d);let(z',m,s):=C j b I;rw[L]at m;cases m;let(v,r,E):=n.get s;let(u',S,Y):=hat j _ Q (aP d) k;rw[y]at S;cases S;rw[r]at Y;cases Y;show E
def b4x(hok:∀us:List Value,us.length=n->a5l us)(hn:n<=1000)(hg:Gl X "zip")(hm:X.mg "zip"=gV)(ha:QA X (e::es) t)
  (he:gJ (e::es) X.env=(kQ,eval e X.env,)::gJ es X.env:=by rfl) (hpl:(backTo pos (gJ es X.env)).any (·.1)=kQ:=by rfl):QI X (.Tuple elts x1 tpos) (.Call (.Name "zip" p) (e::es) [] pos) (iZip n t):=a53 (b7F hg hm hok hn ha.p he hpl) fun τ H R2 a=>a.un fun σ G R o hg h r=>by
 show(σ,G,_,o,hg,h,λws G1 vs H1 (c,a,d,l,s) j b q=>?_);let(m,e,g,ha):=a64 b a j;show(m,e,?_,by rw[g,l],ha,r _ _ _ _ _ s (a9L d e g j) b q);ext rfl
 let:c.length=0:=by rw[<- aH,<- a,aH,<- g];rfl
 show d (cC.mp this)
def zok4(us:List Value)(h:us.length=4):a5l us:=by
 cases us with
 |nil=>cases h
 |cons a us=>cases us with
  |nil=>cases h
  |cons b us=>cases us with
   |nil=>cases h
   |cons c us=>cases us with
    |nil=>cases h
    |cons d us=>cases us with
     |nil=>show b7E a b c d
     |cons e us=>cases h
def b7L(h:t σ G λws G1=>∃a xs,ws=[.ref a]/\G1 a=be (.lst xs)/\Ri xs.reverse (λG=>G a=be (.lst xs)) G1):iRev t σ G Ri:=h
def b7M(h:t σ G λws G1=>∃xss:List (List Z),ws.map (srcZ G1)=xss.map be/\xss≠[]/\ws.length=n/\Ri (zipZ xss) (λG=>ws.map (srcZ G)=xss.map be) G1):iZip n t σ G Ri:=h
end
noncomputable def putQ(f:Str)(y:Z):List (Str×Z)->List (Str×Z)
 |[]=>[(f,y,)]
 | (g,x,)::r=>if g=f then (g,y,)::r else (g,x,)::putQ f y r
section
variable{K:Fg}
theorem a2Z:∀{fs:List (Str×Z)}{gs:List (Str×V)},gs.map (·.1)=fs.map (·.1)->Reps K H (fs.map (·.2)) (gs.map (·.2))->(fs.lookup f=gV->gs.lookup f=gV)/\∀z,fs.lookup f=be z->∃v,gs.lookup f=be v/\Rep K H z v
 |[],[],_,_=>(λ_=>rfl,λ_ h=>by cases h)
 |[],_::_,h,_=>by simp at h
 |_::_,[],h,_=>by simp at h
 | (k,x,)::fs,(k',v,)::gs,h,r=>by
  simp at h;let(rfl,h):=h;let(i,g,e,d,b):=r;let(rfl,rfl):=bE.inj e;rw[bY,bY];cases c:f==k' with
  |true=>
   show(λe=>?_,λz e=>?_)
   .cases e
   .simp_all
  |false=>show (a2Z (f:=f) h b)
theorem a6d(ry:Rep K H kU kR):∀{fs:List (Str×Z)}{gs:List (Str×V)},gs.map (·.1)=fs.map (·.1)->Reps K H (fs.map (·.2)) (gs.map (·.2))->(putF f kR gs).map (·.1)=(putQ f kU fs).map (·.1)/\Reps K H ((putQ f kU fs).map (·.2)) ((putF f kR gs).map (·.2))
 |[],[],_,_=>(rfl,by change Reps K H [kU] [kR];rw[a0T];show(kR,[],rfl,ry,by rw[a0p]))
 |[],_::_,h,_=>by simp at h
 |_::_,[],h,_=>by simp at h
 | (k,x,)::fs,(k',v,)::gs,h,r=>by
  simp at h;let(rfl,h):=h;let(i,g,e,d,b):=r;let(rfl,rfl):=bE.inj e;let a:=a6d (f:=f) ry h b;unfold putQ putF
  by_cases c:k'=f
  .rw[if_pos c,if_pos c];show(by simp[h],by change Reps K H (kU::fs.map _) _;rw[a0T];show(kR,_,rfl,ry,b))
  .rw[if_neg c,if_neg c];show(by simp[a.1],by change Reps K H (x::(putQ f kU fs).map _) _;rw[a0T];show(v,_,rfl,d,a.2))
end
section
variable{C f:Addr}{fd:hZ}{ps:List Str}{sp:P3}{k:Nat}{a x:Str}{p pos':Pos}{e o value:Expr}{te:E3}{t:A3}
def uFld(C:Addr)(te:E3)(a:Str):E3:=fun σ G R=>te σ G λx G1=>∃q dx fs v,x=.ref q/\G1 q=be (.ins C dx fs)/\fs.lookup a=be v/\R v G1
def a6e(hc:Cls X.K C)(hn:NoAttr X.K C a)(he:QE X e te)(hb:i6 e a X.env (eval e X.env)=eval e X.env:=by rfl):QE X (.Attribute e a pos) (uFld C te a):=⟨a0P (b6j he.p hb) fun τ H Q x=>x.un fun σ G R s t h k=>
 (σ,G,_,s,t,h,by
  ext w D v B ⟨q,r,E,z,i,A,j,d⟩ c b l;subst i;let(u,m,g,y):=b _ _ A;let(o,f,n):=(a2Z g y).2 _ j;show(q,C,r,u,o,c,m,hc,hn,f,k _ _ _ _ d n b l))⟩
def a9M(C:Addr)(to te:E3)(a:Str):X3:=λnx _ _ _ σ G=>te σ G λy G1=>to σ G1 λx G2=>∃q dx fs,x=.ref q/\G2 q=be (.ins C dx fs)/\fs.length<1000/\nx σ (put G2 q (.ins C dx (putQ a y fs)))
def b7N(hc:Cls X.K C)(hn:NoAttr X.K C a)(ho:QE X o to)(hv:QE X value te)(hs:ik value (be (.Attribute o a pos')) pos.line X.env=pure kQ:=by rfl):QS X (.Assign [.Attribute o a pos'] value pos) (a9M C to te a):=⟨a1o (b6k ho.p hv.p hs) λD τ H J=>J.un fun σ G nx rt bk ct hs x h F u2 u3 u4=>
 (σ,G,_,hs,x,h,λy A u H1 E t r e=>(σ,A,_,hs.mono e,r,E,by
  ext w G2 v i ⟨q,j,fs,z,ea,hl,B⟩ k d g;subst z;let(n,l,m,I):=d _ _ ea;let b:TK X.K i (L2.upd i q (.ins C j (putF a u n))):=.ins l;let s:=a6d (f:=a) (t.mono g) m I;show(q,C,j,n,k,l,hc,hn,by let:=congrArg bj m;simp at this;lia,F _ _ _ _ B (hs.mono ((e.trans g).trans b)) (d.set b (_,a0f,s.1,s.2.mono b)) ((e.trans g).trans b))))⟩
def a9N(C:Addr)(to te:E3)(r:R3)(a:Str):X3:=λnx _ _ _ σ G=>to σ G λx G1=>∃q dx fs v,x=.ref q/\G1 q=be (.ins C dx fs)/\fs.lookup a=be v/\te σ G1 λy G2=>r v y G2 λz G3=>∃dx' fs',G3 q=be (.ins C dx' fs')/\fs'.length<1000/\nx σ (put G3 q (.ins C dx' (putQ a z fs')))
def b1M(hc:Cls X.K C)(hn:NoAttr X.K C a)(ho:QE X o to)(hv:QE X value te)(hop:OpQ X (iG op) r):QS X (.AugAssign (.Attribute o a tpos) op value pos) (a9N C to te r a):=⟨a1o (a8H ho.p hv.p hop) λD τ H hx=>hx.un fun σ G nx rt bk ct j Q h u1 u2 u3 u4=>
 (σ,G,_,j,Q,h,by
  ext w R v H1 ⟨q,I,fs,z,ew,J,S,hq⟩ l e s;subst ew;let(Y,e1,e2,M):=e _ _ J;let(v',L,r'):=(a2Z e2 M).2 _ S;show(q,C,I,Y,v',l,e1,hc,hn,L,σ,R,_,j.mono s,e,hq,λy T u H2 U V t F=>(z,y,T,_,r'.mono F,V,t,U,λz2 G3 v3 n (g,fs',x,hl,B) N b W=>?_));let(c,d,i,m):=b _ _ x;let k:TK X.K n (L2.upd n q (.ins C g (putF a v3 c))):=.ins d;let A:=a6d (f:=a) N i m;let E:=((s.trans F).trans W).trans k;show(g,c,d,by let:=congrArg bj i;simp at this;lia,u1 _ _ _ _ B (j.mono E) (b.set k (_,a0f,A.1,A.2.mono k)) E))⟩
def b1N(C:Addr)(m:Str)(sp:P3)(to:E3)(t:A3):E3:=fun σ G R=>to σ G λx G1=>∃q dx fs,x=.ref q/\G1 q=be (.ins C dx fs)/\fs.lookup m=gV/\t σ G1 λws G2=>sp (.ref q::ws) G2 R
def b1O(h:low X.K (b1N C m sp to t) τ H Q)(h1:o'=low X.K to)(h2:t'=lowA X.K t):b6o C m (lowP X.K sp) [] kR o' t' τ H Q:=by
 subst h1 h2;let(σ,G,R,f,s,h,D):=h;show(σ,G,_,f,s,h,λw B v H1 (q,r,fs,y,n,A,x) b a e=>?_);subst y;let(u,g,z,p):=a _ _ n;show(q,r,u,b,g,(a2Z z p).1 A,σ,B,_,f.mono e,a,x,λj o k H2 h2 i c l=>?_);show(.ref q::j,o,R,by rw[bh,a0T];show(v,k,rfl,by rw[a0q];show b,i),c,h2,D.mono (e.trans l))
def b7O(ho:QE X o to)(c:Cls X.K C)(hm:Meth X.K C m f)(F:FnOk X.prog X.w X.K X.mg X.base CX0 k f fd ps (lowP X.K sp))(hr:Room k X.A)(hb:Binds X.K fd ps [])(ha:QA X (e::es) t)
  (hst:gJ (e::es) X.env=(kQ,eval e X.env,)::gJ es X.env) (hpl:(backTo pos (gJ es X.env)).any (·.1)=kQ)
  (ht:eval (.Call (.Attribute o m apos) (e::es) [] pos) X.env=(do
   let ov <- eval o X.env
   iF apos.atName
   let (f,first,) <- h9 [ov] (jr ov m pl)
   j9 pos f first (backTo pos (gJ (e::es) X.env)) (jc pos (jd [] X.env)))):QE X (.Call (.Attribute o m apos) (e::es) [] pos) (b1N C m sp to t):=
 ⟨a0P (b3J ho.p c hm F hr hb .nil b3Q ha.p hst hpl ht) λ_ _ _ h=>b1O h rfl rfl⟩
def b4y(C:Addr)(sp:P3)(t:A3):E3:=fun σ G R=>t σ G λws G1=>∀q dx,G1 q=gV->sp (.ref q::ws) (put G1 q (.ins C dx [])) λv G2=>v=.non/\R (.ref q) G2
def made(h1:∀q dx,G1 q=gV->sp (.ref q::ws) (put G1 q (.ins C dx [])) λv G2=>v=.non/\R (.ref q) G2)(rs:Reps X.K H1 ws vs)(hg1:RH X.K G1 H1)(up:UpV X.K H1 R Q)(q dx:Addr)(n1:H1 q=gV)(n2:H1 dx=gV)(ne:dx≠q) :
  lowP X.K sp (.ref q::(vs++[])) (L2.upd (L2.upd H1 dx (.own q)) q (.ins C dx [])) (λv H2=>v=.non/\Q (.ref q) H2) kR:=by
 let a:L2.upd H1 dx (.own q) q=gV:=(a0d (Ne.symm ne))▸n1;let d:TK X.K H1 (L2.upd _ q (.ins C dx [])):=(TK.new n2).trans (TK.new a);show(.ref q::ws,put G1 q (.ins C dx []),_,?_,?_,h1 q dx (hg1.out n1),?_)
 .rw[bh,a0T];show(_,vs,rfl,by rw[a0q],rs.mono d)
 .show (hg1.hid n2).set (TK.new a) ([],a0f,rfl,by rw[bN,a0p];rfl)
 .ext w h v i ⟨f,g⟩ b c e;subst f;show(b,up _ _ _ _ g (by rw[a0q]) c (d.trans e))
def b4z(M:Mk X.K C f)(F:FnOk X.prog X.w X.K X.mg X.base CX0 k f fd ps (lowP X.K sp))(hr:Room (k+1) X.A)(hg:Gl X x)(hm:X.mg x=be (.ref C))(hb:Binds X.K fd ps [])
  (hdb:(x==("__debug__":Str))=kQ):QE X (.Call (.Name x p) [] [] pos) (b4y C sp uNil):=
 ⟨a0P (b0T M F hr hg hm hb .nil b3Q hdb) fun τ H Q (σ,G,R,hs,hg,h,g) q c d e b=>made h (by rw[a0p]) hg g q c d e b⟩
variable{σ:S3}{G:Hq}{R:K3}{nx bk ct:C3}{rt:K3}{q:Addr}{fs:List (Str×Z)}{v:Z}
def b7P(h:te σ G λx G1=>∃q dx fs v,x=.ref q/\G1 q=be (.ins C dx fs)/\fs.lookup a=be v/\R v G1):uFld C te a σ G R:=h
def b7Q(h:te σ G λy G1=>to σ G1 λx G2=>∃q dx fs,x=.ref q/\G2 q=be (.ins C dx fs)/\fs.length<1000/\nx σ (put G2 q (.ins C dx (putQ a y fs)))):a9M C to te a nx rt bk ct σ G:=h
def b4A(h:to σ G λx G1=>∃q dx fs,x=.ref q/\G1 q=be (.ins C dx fs)/\fs.lookup m=gV/\t σ G1 λws G2=>sp (.ref q::ws) G2 R):b1N C m sp to t σ G R:=h
def b4B(h:t σ G λws G1=>∀q dx,G1 q=gV->sp (.ref q::ws) (put G1 q (.ins C dx [])) λv G2=>v=.non/\R (.ref q) G2):b4y C sp t σ G R:=h
def b7R(h:to σ G λx G1=>∃q dx fs v,x=.ref q/\G1 q=be (.ins C dx fs)/\fs.lookup a=be v/\te σ G1 λy G2=>r v y G2 λz G3=>∃dx' fs',G3 q=be (.ins C dx' fs')/\fs'.length<1000/\nx σ (put G3 q (.ins C dx' (putQ a z fs')))):a9N C to te r a nx rt bk ct σ G:=h
end
section
variable{σ:St}{a:Addr}{kvs:List (Key×V)}{k:Key}{d:V}{r:Value}
def b7S(I:Inv X pins σ H s)(e:H a=be (.dK kvs))(ry:RelV (kV k) u)(rd:RelV d r)(hz:kvs.length<gH)
  (h1:∀v w' s',valV kvs k=be v->Inv X pins σ H s'->RelV v w'->Q w' s') (h2:valV kvs k=gV->∀s',Inv X pins σ (upd H a (.dK (putK kvs k d))) s'->Q r s') :
  wpAny (model X.prog X.w) A (call (.builtin "dict.setdefault") [.ref a,u,r]) Q E s:=by
 let(z,f,n,b,h):=a8U I.hok e;let l:(putK kvs k d).length<=sizeLine:=by let:=a1c kvs k d;lia
 show je PySem.F.slot_dict_setdefault h.typeIs PySem.F.entry_dict_setdefault (PySem.F.args_dict_setdefault_3 _ _ _) (kt_meets_setdefault _ a (a43 ry) f r) (n,h,by rw[<- b.length];show z,λm i=>?_,λx p c o=>?_)
 .cases hv:valV kvs k with
  |none=>
   let:=(b.val k).isSome_eq
   rw[hv,i]at this;cases this
  |some v=>
   let g:=b.val k;rw[hv,i]at g;show h1 v m _ hv (I.tok _) g
 .let j:valV kvs k=gV:=by
   let:=(b.val k).isSome_eq
   rw[x]at this;cases hv:valV kvs k with
   |none=>rfl
   |some v=>rw[hv]at this;cases this
  let t:∃q,p.get? a=be q:=by let(q,_,_,hq,_):=c;show(q,hq)
  show h2 j _ (a4i I (e▸True.intro) o t (a6J l f (b.put k rd) c))
end
def b4C(hu:X.A.units+66<cLine):MtR X "dict.get" (λx vs H Q=>∃a y d o,x=.ref a/\vs=[y,d]/\DGet H a y o/\Q (o.getD d) H):=by
 intro f s σ H x m v t Q I c k (a,y,d,o,h,e,g,q);subst h e;cases c;let(u,r,rfl,j,l):=a8C k;show b6x (by lia) I g j l λn p i b=>(_,H,i,b,q)
def b1P(hu:X.A.units+66<cLine):MtR X "dict.get" (λx vs H Q=>∃a y o,x=.ref a/\vs=[y]/\DGet H a y o/\Q (o.getD .non) H):=by
 intro i s σ H x m v n Q I f e (a,y,o,c,d,g,q);subst c d;cases f;let(u,rfl,h):=a1K e;show b6w (by lia) I g h λl k j b=>(_,H,j,b,q)
def b4D:MtR X "dict.setdefault" (λx vs H Q=>∃a kvs k d,x=.ref a/\vs=[kV k,d]/\H a=be (.dK kvs)/\kvs.length<gH/\(∀v,valV kvs k=be v->Q v H)/\(valV kvs k=gV->Q d (upd H a (.dK (putK kvs k d))))):=by
 intro m s σ H x z v B Q I i p (a,y,k,d,n,j,e,q,g,t);subst n j;cases i;let(u,r,rfl,o,f):=a8C p;show b7S I e o f q (λv A w l b c=>(v,H,b,c,g v l)) λh w b=>(d,_,b,f,t h)
def b4E:IxR X (λx y H Q=>∃a kvs k v,x=.ref a/\y=kV k/\H a=be (.dK kvs)/\valV kvs k=be v/\Q v H):=by
 intro h i b s σ H x y v u Q I n B (a,D,k,w,p,m,e,l,q) t;subst p m;cases n;let(z,E,j,g,c):=a8U I.hok e;let(d,A,f):=RelO.some_of (l▸g.val k);show kg c.typeIs PySem.F.slot_dict_getitem.lookup (wpAny_getItem_of (a43 B) c.mapOf A (rfl,w,H,I.tok _,f,q)) t
noncomputable def valZ(kvs:List (Key×Z))(k:Key):Option Z:=(kvs.find? λkv=>decide (kv.1=k)).map (·.2)
theorem a0M{K:Fg}:∀{kvs:List (Key×Z)}{us:List (Key×V)},us.map (·.1)=kvs.map (·.1)->Reps K H (kvs.map (·.2)) (us.map (·.2))->(valZ kvs k=gV->valV us k=gV)/\∀z,valZ kvs k=be z->∃v,valV us k=be v/\Rep K H z v
 |[],[],_,_=>(λ_=>rfl,λ_ h=>by cases h)
 |[],_::_,h,_=>by simp at h
 |_::_,[],h,_=>by simp at h
 | (c,x,)::fs,(c',v,)::gs,h,r=>by
  simp at h;let(rfl,h):=h;let(g,f,e,d,a):=r;let(rfl,rfl):=bE.inj e;unfold valZ valV;rw[bI,bI];cases q:decide (c'=k) with
  |true=>
   show(λe=>?_,λz e=>?_)
   .cases e
   .cases e;show(v,rfl,d)
  |false=>show (a0M (k:=k) h a)
def b4F:Z->List Z->Hq->K3->Prop:=λx xs G R=>match x,xs with
 |.ref p,[y,d]=>∃kvs k,(G p=be (.dK kvs)\/G p=be (.dF kvs))/\keyZ y=be k/\R ((valZ kvs k).getD d) G
 |_,_=>False
def b25(hu:X.A.units+66<cLine):MtQ X "dict.get" b4F:=a5Z (b4C hu) λx E H Q m=>m.un λw B G R j s i h l=>by
 match w,B,h with
 |.ref p,[y,d],h=>
  let(v,q,rfl,t,o):=s.two;let(g,k,e,D,h):=h;obtain⟨a,f,c,b⟩:∃a,Rd H p (.dK a)/\a.map _=g.map _/\Reps X.K H _ (a.map _):=by
   let e||e:=e
   .let(a,f,c,b):=i _ _ e;show(a,.inl f,c,b)
   .let(C,a,f,c,b):=i _ _ e;show(a,.inr (C,f),c,b)
  show(p,v,q,valV a k,j,rfl,by rw[a1D D t];show .inl (a,k,f,rfl,rfl),?_);cases hz:valZ g k with
  |none=>
   rw[hz]at h;rw[(a0M c b).1 hz];show l _ _ _ _ h o i (.refl _ _)
  |some z=>
   rw[hz]at h;let(u,r,n):=(a0M c b).2 z hz;rw[r];show l _ _ _ _ h n i (.refl _ _)
def b7T:Z->List Z->Hq->K3->Prop:=λx xs G R=>match x,xs with
 |.ref p,[y]=>∃kvs k,G p=be (.dK kvs)/\keyZ y=be k/\R ((valZ kvs k).getD .non) G
 |_,_=>False
def b4G(hu:X.A.units+66<cLine):MtQ X "dict.get" b7T:=a5Z (b1P hu) λx t H Q n=>n.un λw l G R a j b h g=>by
 match w,l,h with
 |.ref p,[y],h=>
  let(v,rfl,m):=j.one;let(c,k,e,q,h):=h;let(r,s,d,f):=b _ _ e;show(p,v,valV r k,a,rfl,by rw[a1D q m];show DGet.k s,?_);cases hz:valZ c k with
  |none=>
   rw[hz]at h;rw[(a0M d f).1 hz];show g _ _ _ _ h (by rw[et,a0x];rfl) b (.refl _ _)
  |some z=>
   rw[hz]at h;let(u,i,o):=(a0M d f).2 z hz;rw[i];show g _ _ _ _ h o b (.refl _ _)
def b7U:Z->List Z->Hq->K3->Prop:=λx xs G R=>match x,xs with
 |.ref p,[y,d]=>∃kvs k,G p=be (.dK kvs)/\keyZ y=be k/\kvs.length<gH/\(∀z,valZ kvs k=be z->R z G)/\(valZ kvs k=gV->R d (put G p (.dK (putZ kvs k d))))
 |_,_=>False
def a2J:MtQ X "dict.setdefault" b7U:=a5Z b4D λx M H Q C=>C.un λw t G R i F l h r=>by
 match w,t,h with
 |.ref p,[y,d],h=>
  let(v,E,rfl,B,q):=F.two;let(b,k,e,L,A,s,J):=h;let(D,c,f,g):=l _ _ e;show(p,D,k,E,i,by rw[a1D L B],c,by rw[a9G f];show A,λu a=>?_,λa=>?_)
  .cases hq:valZ b k with
   |none=>rw[(a0M f g).1 hq]at a;cases a
   |some z=>
    let(I,j,m):=(a0M f g).2 z hq;rw[j]at a;cases a;show r _ _ _ _ (s z hq) m l (.refl _ _)
  .cases hq:valZ b k with
   |some z=>
    let(I,j,m):=(a0M f g).2 z hq;rw[j]at a;cases a
   |none=>
    let n:=a4w (k:=k) q f g;show r _ _ _ _ (J hq) (q.mono (.dK c)) (l.set (.dK c) (_,a0f,n.1,n.2.mono (.dK c))) (.dK c)
def zDIx:R3:=λx y G R=>match x with
 |.ref p=>∃kvs k z,G p=be (.dK kvs)/\keyZ y=be k/\valZ kvs k=be z/\R z G
 |_=>False
def c0a:IxQ X zDIx:=b6H b4E λx y H Q f=>f.un λa b G R d q c h j=>by
 cases a with
 |ref p=>
  let(u,k,z,e,t,i,h):=h;let(n,r,m,l):=c _ _ e;let(s,o,g):=(a0M m l).2 z i;show(p,n,k,s,d,a1D t q,r,o,j _ _ _ _ h g c (.refl _ _))
 |_=>show aN h
def a65(e:G p=be (.dK kvs))(a:keyZ kR=be k)(h:R ((valZ kvs k).getD d) G):b4F (.ref p) [kR,d] G R:=(kvs,k,.inl e,a,h)
def b4H(e:G p=be (.dK kvs)\/G p=be (.dF kvs))(a:keyZ kR=be k)(h:R ((valZ kvs k).getD d) G):b4F (.ref p) [kR,d] G R:=(kvs,k,e,a,h)
def b26(e:G p=be (.dK kvs))(a:keyZ kR=be k)(z:kvs.length<gH)(h1:∀z,valZ kvs k=be z->R z G)(h2:valZ kvs k=gV->R d (put G p (.dK (putZ kvs k d)))):b7U (.ref p) [kR,d] G R:=(kvs,k,e,a,z,h1,h2)
def c0b(e:G p=be (.dK kvs))(a:keyZ kU=be k)(v:valZ kvs k=be kR)(h:R kR G):zDIx (.ref p) kU G R:=(kvs,k,kR,e,a,v,h)
def a6f{P:Prop}(e:G p=be (.dK kvs))(h:P):tyZ "dict" (.ref p) G/\P:=(.inr (rfl,kvs,.inl e),h)
def c0c{P:Prop}(e:G p=be (.dK kvs)\/G p=be (.dF kvs))(h:P):tyZ "dict" (.ref p) G/\P:=(.inr (rfl,kvs,e),h)
noncomputable def keysOf:List (Z×Z)->Option (List (Key×Z))
 |[]=>be []
 | (x,y,)::r=>match keyZ x,keysOf r with
  |some k,be kvs=>be ((k,y,)::kvs)
  |_,_=>gV
noncomputable def a2K(kvs more:List (Key×Z)):List (Key×Z):=more.foldl (λacc kv=>putZ acc kv.1 kv.2) kvs
def PReps(K:Fg)(H:Hp):List (Z×Z)->List (V×V)->Prop:=Paired λp q=>Rep K H p.1 q.1/\Rep K H p.2 q.2
def PReps.mono{K:Fg}(t:TK K H H'):∀{ps:List (Z×Z)}{vs:List (V×V)},PReps K H ps vs->PReps K H' ps vs:=by ext z0 y0 x0;induction x0 with
 |nil=>show .nil
 |cons r s I0=>show .cons (r.1.mono t,r.2.mono t) (I0)
theorem ln0{α:Type}{C:List α->Prop}(h:C []):∀us:List α,us.length=0->C us
 |[],_=>h
theorem lnS{α:Type}{C:List α->Prop}(h:∀a,∀us:List α,us.length=n->C (a::us)):∀us:List α,us.length=n+1->C us
 |a::us,e=>h a us (Nat.succ.inj e)
def b4I:∀{vs:List Value}{ns:List Int},hV vs ns->SetW.KsAre (jm P w) vs ns:=by ext z0 y0 x0;induction x0 with
 |nil=>show .nil
 |cons n t h I0=>show .cons (intKind_is _ _ _ _) (I0)
def b4J(h:SetW.KsAre (jm P w) vs ns):hV vs ns:=by
 induction h with
 |nil=>show .nil
 | @cons v k vs ks h _ ih=>
  cases v<;>simp[jm,Value.isInt]at h
  subst h;show .cons _ _ ih
def a9O:∀{vs:List Value}{ns:List Int},hV vs ns->∀v∈vs,v.scannable=kP:=by
 ext c b h
 induction h with
 |nil=>ext v a;cases a
 |cons n t h ih=>
  ext v a;let rfl||a:=aL.mp a
  .rfl
  .show ih v a
noncomputable def setO(X:Cx)(t:Addr)(ms:List Int):HO:=.ext λh=>SetW.SI (jm X.prog X.w) h t ms
def b7V(X:Cx):List V->Hp->VK->Prop:=λxs H Q=>∃(p:Addr)(ns:List Int),xs=[.ref p]/\SqL X.K H p (ns.map V.int)/\ns.length<=1000 /\
 ∀(t:Addr)(ms:List Int),H t=gV->SetW.Met (λi=>ns.getD i 0) ns.length ms->Q (.ref t) (upd H t (setO X t ms))
def a70(hc:X.calm=kP):CallR X (.type "set") (b7V X):=by
 ext c s σ H xs us Q I r h;let(p,ns,rfl,n,hz,q):=h;let(u,rfl,v):=a1K r;cases v;let(j,m,z,_):=I.list n;let f:=a3R m;let A:=a4v f;let sb:1001<scanBound:=by decide
 let i:j.toArray.size=ns.length:=by grind
 show SetW.call_set (ns:=ns) (k0:=0) (I.ok.hd hc) z.isList ↑(b4I f) ↑(a9O f) (by grind) λg l d S M k=>?_;rw[i]at M;let t:=
  I.laid (t':=l) (λb o e=>k b o (Heap.lt_size e) e) (aI _) (show ObjOk X.prog X.w _ g _ (setO X s.heap.objs.size d) from (S,by let(_,_,_,S'):=S;show by let(o,e,_):=S'.at_;show(o,e),λ_ _ x y=>x.at y))
 show(.ref s.heap.objs.size,_,t,rfl,q _ d (I.hok.fresh (aI _)) M)
def b1Q(X:Cx):List V->Hp->VK->Prop:=λxs H Q=>∃(p:Addr)(ms:List Int),xs=[.ref p]/\H p=be (setO X p ms)/\ms.length<=1000 /\
 ∀(t:Addr)(ks:List Int),H t=gV->ks.Perm ms->ks.Pairwise (·<=·)->Q (.ref t) (upd H t (.lst (ks.map V.int)))
def a5m(hc:X.calm=kP):CallR X (.builtin "sorted") (b1Q X):=by
 ext c s σ H xs us Q I r h;let(p,ns,rfl,y,B,q):=h;let(u,rfl,t):=a1K r;cases t;show a5k B (λR E=>SetW.collect_set (I.ok.hd hc) ((I.hok p _ y).1) λg a d m F J l C=>E g a d m F J (b4J l) C) λg v a d j n i x D e z k o=>?_;let f:Inv X c σ H { s with heap:=g,drawn:=d,toks:=a }:=(I.drew d).kept x;show(.ref g.objs.size,_,f.laid D (aI _) (show ObjOk X.prog X.w _ v _ (.lst _) from (by rw[aH,k.length_eq,gU];lia,j,n,a5j z,e)),rfl,q _ i (f.hok.fresh (aI _)) k o)
def b4K{ns ms:List Int}(h:SetW.Met (λi=>ns.getD i 0) ns.length ms):∀x,x∈ms↔x∈ns:=λx=>by
 rw[h.2.2 x]
 constructor
 .ext⟨j,a,e⟩;let e:ns.getD j 0=x:=e;rw[cu,aP a]at e;show e▸b5 a
 .ext b;let(j,a,e):=dv.mp b;show(j,a,by change ns.getD j 0=x;rw[cu,aP a];show e)
def a9P:∀{ks:List Int},ks.Nodup->ks.Pairwise (·<=·)->ks.Pairwise (·<·):=by ext z0;induction z0 with
 |nil=>ext _ _;show .nil
 |cons k ks I0=>
  ext h1 h2;let(b,c):=bT.mp h1;let(f,d):=aT.mp h2;show aT.mpr (λx a=>?_,I0 c d);let h:=f x a;let g:k≠x:=λe=>b (e▸a)
  lia
section
variable{e:Expr}{t:A3}{x:Str}{p p2 pos2:Pos}
def uSS(t:A3):E3:=fun σ G R=>t σ G λws G1=>∃(p:Addr)(ns:List Int),ws=[.ref p]/\G1 p=be (.lst (ns.map Z.int))/\ns.length<=1000 /\
 ∀(t:Addr)(ks:List Int),G1 t=gV->ks.Pairwise (·<·)->(∀x,x∈ks↔x∈ns)->ks.length<=ns.length->R (.ref t) (put G1 t (.lst (ks.map Z.int)))
def i_ss{p:Addr}{ns:List Int}{R:K3}(e:G p=be (.lst (ns.map Z.int)))(z:ns.length<=1000)
  (h:∀(t:Addr)(ks:List Int),G t=gV->ks.Pairwise (·<·)->(∀x,x∈ks↔x∈ns)->ks.length<=ns.length->R (.ref t) (put G t (.lst (ks.map Z.int)))) :
  ∃(q:Addr)(ns':List Int),[Z.ref p]=[.ref q]/\G q=be (.lst (ns'.map Z.int))/\ns'.length<=1000 /\
   ∀(t:Addr)(ks:List Int),G t=gV->ks.Pairwise (·<·)->(∀x,x∈ks↔x∈ns')->ks.length<=ns'.length->R (.ref t) (put G t (.lst (ks.map Z.int))):=(p,ns,rfl,e,z,h)
def q_ss(hc:X.calm=kP)(hg:Gl X x)(hm:X.mg x=gV)(hv:ib x=be (.builtin "sorted"))(hg2:Gl X y)(hm2:X.mg y=gV)(hv2:ib y=be (.type "set"))(ha:QA X (e::es) t)
  (he:gJ (e::es) X.env=(kQ,eval e X.env,)::gJ es X.env) (hpl:(backTo pos2 (gJ es X.env)).any (·.1)=kQ)
  (hn:x≠"__name__":=by decide) (hdb:(x==("__debug__":Str))=kQ:=by decide) (hn2:y≠"__name__":=by decide) (hdb2:(y==("__debug__":Str))=kQ:=by decide) :
  QE X (.Call (.Name x p) [.Call (.Name y p2) (e::es) [] pos2] [] pos) (uSS t):=⟨a0P (a4c (a5m hc) hg hm hv (a4b (a1V (a70 hc) hg2 hm2 hv2 ha.p hn2 hdb2 he hpl) a6G rfl) hn hdb rfl rfl) fun τ H Q n=>n.un fun σ G R hs hg h s=>
 (σ,G,_,hs,hg,h,λws G1 vs H1 f rs c w=>by
  let(p,B,rfl,A,z,f):=f;let(v,rfl,r):=rs.one;let(vs',o,k):=c _ _ A
  let:=a44 k
  subst this;show(p,B,by rw[r],SqL.of o,z,λa j ha M=>(a,j,rfl,a0f,aU M.2.1 z,λu q b g m=>?_));let l:=c.hid (u:=setO X a j) ha;show s _ _ _ _ (f u q (l.out b) (a9P (g.nodup_iff.mpr M.1) m) (λx=>by rw[g.mem_iff];show b4K M x) (g.length_eq▸M.2.1)) (by rw[a0q]) (l.set (.new b) (a02 (a1W _) (.new b))) (w.trans ((TK.new ha).trans (.new b))))⟩
end
def KD(X:Cx)(a:Addr)(kvs:List (Key×V)):Prop:=kvs.length<=gH/\(a==g9)=kQ/\∃vs,KV kvs vs/\∀h:Heap,X.K.In h->h.DictOf (a0j X.prog X.w) a vs
noncomputable def zV:Z->V
 |.str x=>.str x
 |.ref a=>.ref a
 |.int i=>.int i
 |_=>.non
noncomputable def b7W:Z->Bool
 |.str _=>kP
 |.ref _=>kP
 |.int _=>kP
 |_=>kQ
def KDZ(X:Cx)(a:Addr)(kvs:List (Key×Z)):Prop:=(∀kv∈kvs,b7W kv.2=kP)/\KD X a (kvs.map λkv=>(kv.1,zV kv.2,))
def KTup(K:Fg)(a:Addr)(ss:List Str):Prop:=∃(o:Obj)(its:Array Value)(n:Nat),K.lookup a=be o/\o.cls=.type "tuple"/\o.data=.seq its n/\its.size<=gH/\Vals (ss.map V.str) its.toList
def KTup.sq{K:Fg}(h:KTup K a ss):SqT K H a (ss.map V.str):=.inr h
def KDk(w:World)(K:Fg)(a:Addr)(kvs:List (Key×Z)):Prop:=(∀kv∈kvs,b7W kv.2=kP)/\kvs.length<=gH/\(a==g9)=kQ/\∃vs:List (Key×Value),KV (kvs.map λkv=>(kv.1,zV kv.2,)) vs/\∀(P:gM)(h:Heap),K.In h->h.DictOf (a0j P w) a vs
def KDk.at(h:KDk X.w X.K a kvs):KDZ X a kvs:=(h.1,by rw[aH];show h.2.1,h.2.2.1,by let(vs,r,q):=h.2.2.2;show(vs,r,q X.prog))
section
open PySem.W
def b7X(ea:hasDictIn kR D=kP)(eb:findIn kR (.ref D) "__getattribute__"=be (be (.builtin "BaseException.__getattribute__")))(ec:findIn kR (.ref D) "__getattr__"=be gV)(ed:findIn kR (.ref D) "__class__"=be (be (.builtin "object.__class__")))
  (ee:specialIn kR (.builtin "object.__class__") "__get__"=be (be (.builtin "getset_descriptor.__get__"))) (ef:takesIn kR (.builtin "object.__class__")=be kP) (eg:mroIn kR D (.type "object")=be kP) (eh:mroIn kR D (.type "BaseException")=be kP):ExK kR D:=
 (by let(b,a,_):=any_some ea;rw[a];rfl,eb,ec,ed,ee,ef,eg,eh)
def b7Y(xb:subIn kR (.ref D) (.type "BaseException")=be kP)(xt:typeIn kR (.ref D)=be (.type "type"))(xs:subIn kR (.ref C) (.ref D)=be kP)(xh:hasDictIn kR D=kP):exmOne kR (.ref C) (.ref D)=be kP:=by
 let(b,a,_):=any_some xh;unfold exmOne;rw[if_pos (by simp_all)]
 change (if _=kP then subIn kR _ _ else gV)=be kP
 rw[if_pos (by simp_all)];show xs
end
abbrev PX3:=List Z->Hq->K3->(Addr->Hq->Prop)->Prop
def UpX(K:Fg)(H:Hp)(EE:Addr->Hq->Prop)(E:XK):Prop:=∀C G H',EE C G->RH K G H'->TK K H H'->E (.ref C) gV H'
def a4x(K:Fg)(sp:PX3):Sp:=λvs H Q E=>∃ws G R EE,Reps K H ws vs/\RH K G H/\sp ws G R EE/\UpV K H R Q/\UpX K H EE E
def b7Z{K:Fg}(t:TKs H H'):TK K H H':=(t.tup,λa b h=>by
 let(o,h)||h:=h
 .show .inl (o,t.frz _ _ _ h)
 .show .inr h,t.frz)
def UpN(K:Fg)(EE:Addr->Hq->Prop)(E:XK):Prop:=∀C G H',EE C G->RH K G H'->E (.ref C) gV H'
def UpX.since{K:Fg}(h:UpX K H EE kR):UpN K EE (since H kR):=λC G a q r t=>h C G a q r (b7Z t)
abbrev EE0:Addr->Hq->Prop:=λ_ _=>False
def up0{K:Fg}:UpN K EE0 E0:=λ_ _ _ z _=>z.elim
def a3j:a1s (CXx X.prog X.w) X E0:=by simp[a1s,CXx]
section
variable{E:XK}{EE:Addr->Hq->Prop}{e e0:Expr}{x n:Str}{p cpos:Pos}{t:A3}{te:E3}{k:Nat}{f C:Addr}{fd:hZ}{ps:List Str}{sp:PX3}
def a9Q(sp:PX3)(EE:Addr->Hq->Prop)(t:A3):E3:=fun σ G R=>t σ G λws G1=>sp ws G1 R EE
def b4L(hp:a1s (CXx X.prog X.w) X E)(hU:UpN X.K EE E)(F:FnOk X.prog X.w X.K X.mg X.base (CXx X.prog X.w) k f fd ps (a4x X.K sp))(hr:Room k X.A)(hg:Gl X x)(hm:X.mg x=be (.ref f))(hk:PySem.W.keepIn X.K (.ref f)=kP)(hb:Binds X.K fd ps [])(ha:QA X (e::es) t)
  (hdb:(x==("__debug__":Str))=kQ:=by decide) (he:gJ (e::es) X.env=(kQ,eval e X.env,)::gJ es X.env:=by rfl) (hpl:(backTo pos (gJ es X.env)).any (·.1)=kQ:=by rfl) :
  QE X (.Call (.Name x p) (e::es) [] pos) (a9Q sp EE t):=⟨a0P (a8J F hr hg hm hk hb .nil hp ha.p hdb he hpl) fun τ H Q l=>l.un fun σ G R i hg h n=>(σ,G,_,i,hg,h,λo g vs H1 c d b j=>(o,g,R,EE,by rw[bh];show d,b,c,n.mono j,λC G m z r _=>hU C G m z r))⟩
def b70(EE:Addr->Hq->Prop)(C:Addr)(te:E3):X3:=λ_ _ _ _ σ G=>te σ G λ_ G1=>EE C G1
def b4M(O:Outs X E)(hU:UpX X.K X.H₀ EE E)(hc:X.calm=kP)(hg:Gl X x)(hm:X.mg x=be (.ref C))(hq:PySem.W.excIn X.K C veM "ValueError.__new__"=kP)(he:QE X e0 te)
  (hs:gJ [e0] X.env=(kQ,eval e0 X.env,)::gJ [] X.env:=by rfl) (hp:(backTo cpos (gJ [] X.env)).any (·.1)=kQ:=by rfl) (hd:(x==("__debug__":Str))=kQ:=by decide) :
  QS X (.Raise (be (.Call (.Name x np) [e0] [] cpos)) gV pos) (b70 EE C te):=⟨a1o (b1c O hc hg hm hq he.p hs hp hd) λD τ H d=>d.un fun σ G nx rt bk ct hs hg h u1 u2 u3 u4=>(σ,G,_,hs,hg,h,λw G1 v H1 e rv a t1=>λt=>hU _ _ _ e a (b7Z t))⟩
end
section
variable{K:Fg}{mg:Str->Option Value}{base:Heap}
def fn3x{st:Stmt}(F:Fun K x qual st f fd)(S:FnScope N ps (a0h st))(len:∀ws G R EE,sp ws G R EE->ws.length=ps.length)
  (hbody:∀(cdv:Value)(A:Around)(outer:List Env)(s:Shared)(H:Hp)(E:XK)(ws:List Z)(G:Hq)(R:K3)(EE:Addr->Hq->Prop),Room k (A.deeper (envOfC qual (a0h st) s.heap.objs.size f cdv))->sp ws G R EE->UpX K H EE E ->
   ∃t,QSs (cxOf (CXx P w) P w K mg base N qual (a0h st) f cdv A outer s H E) (a0K st) t/\t (λ_ G'=>R .non G') R (λ_ _=>False) (λ_ _=>False) (a0Z N ws) G):FnOk P w K mg base (CXx P w) (k+1) f fd ps (a4x K sp):=by
 let(I,T,U,C,M,V,m,L,z,rfl,n,g):=F.ex;show b3K n g S (λo H Q E (b,G,R,e,c,j,h,d,l)=>by rw[<- c.length];show len _ _ _ _ h) ?_;ext A a s H o Q E r ⟨b,G,R,e,c,j,h,d,l⟩;let(t,v,q):=hbody m A a s H E b G R e r h l;show(_,v.p,a0Z N b,G,_,R,_,_,.start c,j,q,fun σ' J τ' D u B i y=>d _ _ _ _ u (by rw[a0x]) i y,d,λ_ _ _ _ h _ _ _=>h.elim,λ_ _ _ _ h _ _ _=>h.elim)
end
mutual
def DZ(G:Hq):PyData->Z->Prop
 |.none,x=>x=.non
 |.bool b,x=>x=.bl b
 |.int i,x=>x=.int i
 |.str s,x=>x=.str s
 |.list ds,x=>∃p ws,x=.ref p/\G p=be (.lst ws)/\DZs G ds ws
 |.tuple ds,x=>∃ws,x=.tup ws/\DZs G ds ws
 |.dict _,_=>False
def DZs(G:Hq):List PyData->List Z->Prop
 |[],ws=>ws=[]
 |d::ds,ws=>∃w r,ws=w::r/\DZ G d w/\DZs G ds r
end
mutual
theorem DZ.sm{G G':Hq}(s:Sm G G'):∀{d:PyData}{w:Z},DZ G d w->DZ G' d w
 |.none,w,q=>by unfold DZ at q ⊢;show q
 |.bool b,w,q=>by unfold DZ at q ⊢;show q
 |.int i,w,q=>by unfold DZ at q ⊢;show q
 |.str _,w,q=>by unfold DZ at q ⊢;show q
 |.list ds,w,q=>by
  unfold DZ at q ⊢;let(p,ws,e,hp,q):=q;show(p,ws,e,s _ _ hp,DZs.sm s q)
 |.tuple ds,w,q=>by
  unfold DZ at q ⊢;let(ws,e,q):=q;show(ws,e,DZs.sm s q)
 |.dict _,w,q=>by unfold DZ at q;show q.elim
theorem DZs.sm{G G':Hq}(s:Sm G G'):∀{ds:List PyData}{ws:List Z},DZs G ds ws->DZs G' ds ws
 |[],ws,q=>by unfold DZs at q ⊢;show q
 |d::ds,ws,q=>by
  unfold DZs at q ⊢;let(w,r,e,q1,q2):=q;show(w,r,e,DZ.sm s q1,DZs.sm s q2)
end
noncomputable def ItD(o:Obj)(a:Addr)(kvs:List (Key×V)):It:=
 (λi H=>H a=be (.frz o (.dK kvs))/\i<kvs.length,λi H x H'=>H'=H/\∃p,kvs[i]?=be p/\x=kV p.1,λi H=>H a=be (.frz o (.dK kvs))/\kvs.length<=i)
def c0d(h:(a0j P w).is k u=kP):RelV (kV k) u:=by
 let(i,t,rfl,rfl)||(x,t,rfl,rfl)||(rfl,rfl):=a0n h
 .show(t,rfl)
 .show(t,rfl)
 .rfl
def a3Z:∀{kvs:List (Key×V)}{vs:List (Key×Value)},KV kvs vs->vs.length=kvs.length:=by ext z0;induction z0 with
 |nil=>ext vs h;cases h;rfl
 |cons p kvs I0=>
  ext vs h;cases h with
  |cons h1 h2=>rw[aV,aV,I0 h2]
theorem b27:∀{kvs:List (Key×V)}{vs:List (Key×Value)}{i:Nat}{p:Key×V},KV kvs vs->kvs[i]?=be p->∃q,vs[i]?=be q/\p.1=q.1
 |[],vs,i,p,h,e=>by simp at e
 |p0::kvs,vs,i,p,h,e=>by
  cases h with
  |cons h1 h2=>
   cases i with
   |zero=>cases e;show(_,rfl,h1.1)
   |succ i=>show b27 (i:=i) h2 ↑e
theorem a9R{P:gM}{w:World}{K:Fg}{tg:Expr}(a it:Addr){o:Obj}(kvs:List (Key×V)){es:Array jI}{ep:Nat}(hd:o.data=.dict es ep):Turn P w K tg (ItD o a kvs) [it] it (λi h=>h.IsKeyIter it a i kvs.length ep) where
 mem:=by simp
 obj:=λi h st b hb=>by
  let e:b=it:=↑hb
  subst e;let(o,e,c,d):=st;show(o,e,λv z=>by rw[d]at z;cases z)
 keep:=λi h h' st k=>st.at λo e=>k it (by simp) o e
 item:=by
  ext X hP hw hK hc i pins s σ H E I hf st hg;subst hP hw hK;let(ha,hi):=hg;let(g,hz,hsm,vs,kv,dof):=(show ObjOk X.prog X.w H s.heap a (.frz o (.dK kvs)) from I.hok a _ ha);let(f0,f1,f2,f3,f4,f5):=hf it (by simp);let hl:=a3Z kv;let dat:s.heap.DictAt (a0j X.prog X.w) a vs ep:=by
   let(o',es',ep',h1,h2,h3,h4):=dof;rw[g]at h1;cases h1;rw[hd]at h3;cases h3;show(o,es,g,h2,hd,h4)
  obtain⟨p,hp⟩:∃p,kvs[i]?=be p:=(kvs[i],aP hi);let((k,v),hq,e1):=b27 kv hp;show wpAny_pyNext_dict_item (by rw[hl];show st) dat hq λkey h' hk st' sb=>?_;let I1:Inv X pins σ H { s with heap:=h' }:=I.turned (t':=s.toks) (λb o hb e=>(sb.2 b hb).trans e) f0 f1 f3 f4 f5;rw[hl]at st';let(oi,e,c,d):=id st';show(key,rfl,a7C (s:={ s with heap:=h' }) e c d (by decide) (kV p.1,H,I1,by rw[e1];show c0d hk,(rfl,p,hp,rfl),st',λb hb=>(hf b hb).1))
 done:=by
  ext X hP hw hK hc i pins s σ H E I hf st hg;subst hP hw hK;let(ha,hi):=hg;let(g,hz,hsm,vs,kv,dof):=(show ObjOk X.prog X.w H s.heap a (.frz o (.dK kvs)) from I.hok a _ ha);let(f0,f1,f2,f3,f4,f5):=hf it (by simp);let hl:=a3Z kv;let dat:s.heap.DictAt (a0j X.prog X.w) a vs ep:=by
   let(o',es',ep',h1,h2,h3,h4):=dof;rw[g]at h1;cases h1;rw[hd]at h3;cases h3;show(o,es,g,h2,hd,h4)
  show wpAny_pyNext_dict_end (I.ok.hd hc) (by rw[hl];show st) dat (dY (by cbv)) λh' eb=>(rfl,I.turned (t':=s.toks) (λb o hb e=>eb b o hb e) f0 f1 f3 f4 f5)
 self:=λ_ _ _ _ _ st h=>wpAny_pyIter_keyiter st h
section
variable{σ:St}{a:Addr}{kvs:List (Key×V)}{tg:Expr}
def Inv.freeze(I:Inv X pins σ H s)(e:H a=be (.dK kvs)):∃o,Inv X pins σ (upd H a (.frz o (.dK kvs))) s:=by
 let(p,k,t,x,h):=(I.hok a _ e);let i:=h;let(o,C,B,g,r):=i;show(o,?_);let l:∀b,H b=gV->b≠a:=λb q z=>by rw[z,e]at q;cases q
 let j:∀b d,H b=be (.tup d)->b≠a:=λb d q z=>by rw[z,e]at q;cases q
 let A:∀b o u,H b=be (.frz o u)->b≠a:=λb o u q z=>by rw[z,e]at q;cases q
 let y:∀b f,H b=be (.tbl f)->b≠a:=λb f q z=>by rw[z,e]at q;cases q
 let m:∀b c,H b=be (.own c)->b≠a:=λb c q z=>by rw[z,e]at q;cases q
 show I.un (λb o q _ _ _=>q,λb o q _ _ _=>(o.slots,q),λb o q n _=>by rw[a0d (l b n)];show n,λb o q _=>(o,q),λb d q=>by rw[a0d (j b d q)];show q,λb o u q=>by rw[a0d (A b o u q)];show q,λb f q=>(#[],by rw[a0d (y b f q),eL];show q)) λb u q=>?_
 by_cases hb:b=a
 .subst hb;rw[a0f]at q;cases q;show(g,p,k,t,x,h)
 .rw[a0d hb]at q;show (I.hok b u q).stay (λc v _ r=>r) (λc r=>by rw[a0d (m c b r)];show r) λc d r=>by rw[a0d (j c d r)];show r
def iDct(tl:TE):TI:=fun σ H R=>tl σ H λx H1=>∃a kvs,x=.ref a/\((H1 a=be (.dK kvs)/\∀o,R (ItD o a kvs) (upd H1 a (.frz o (.dK kvs))))\/∃o,H1 a=be (.frz o (.dK kvs))/\R (ItD o a kvs) H1)
def b4N(hl:PE X l tl):PI X tg l (iDct tl):=by
 ext c s σ H R I h;show thn (hl c s σ H _ I h) λv d (x,B,r,C,E)=>?_;let(a,f,e,q):=E;subst e;cases C;let k:∀o i,Inv X c σ i d->i a=be (.frz o (.dK f))->R _ i->wpAny _ X.A _ (PIE X c σ tg R) X.xe d:=λo i j m q=>by
  let(g,M,t,L,D,y):=(j.hok a _ m);let(N,n):=y.dictAt;let p:=n;let(J,G,u,_,F,_):=p;rw[g]at u;cases u;show wpAny_pyIter_dict t n (d.heap.objs.size,[d.heap.objs.size],_,_,i,rfl,j.kept λb o e=>Heap.get?_push_of_some _ e,a9R a _ f F,(_,Heap.get?_push_size _ rfl,rfl,by rw[a3Z D];rfl),λb z=>?_,q);let e:b=d.heap.objs.size:=by grind
  subst e;show j.fpOk (aI _) (j.hok.fresh (aI _))
 let(m,q)||(o,m,q):=q
 .let(o,j):=r.freeze m;show k o _ j a0f (q o)
 .show k o B r m q
end
noncomputable def keyW:Key->Z
 |.inl (be i)=>.int i
 |.inl gV=>.non
 |.inr s=>.str s
theorem b1R{K:Fg}:∀k:Key,Rep K H (keyW k) (kV k)
 |.inl (be i)=>by change Rep K H (.int i) (.int i);rw[a0k]
 |.inl gV=>by change Rep K H .non .non;rw[a0x]
 |.inr s=>by change Rep K H (.str s) (.str s);rw[a0v]
def wkD(x:Z)(G:Hq)(R:List Z->(Hq->Prop)->Hq->Prop):Prop:=match x with
 |.ref a=>∃kvs,(G a=be (.dK kvs)\/G a=be (.dF kvs))/\R (kvs.map λp=>keyW p.1) (λ_=>True) (put G a (.dF kvs))
 |_=>False
def iD(tl:E3):I3:=fun σ G R=>tl σ G λx G1=>wkD x G1 R
def a30{K:Fg}{kvs:List (Key×Z)}(e:H0 a=be (.frz o (.dK us)))(hn:us.map (·.1)=kvs.map (·.1)):a3B K (kvs.map λp=>keyW p.1) (λ_=>True) (ItD o a us) H0:=λi G H g t n j=>by
 let d:=t.frd _ _ _ e;let l:us.length=kvs.length:=by let:=congrArg bj hn;o_head this
 rw[aH]at j;show(λh=>(d,by rw[aH]at h;lia),λw b=>?_);rw[aO]at b;cases hk:kvs[i]? with
 |none=>rw[hk]at b;cases b
 |some p=>
  rw[hk]at b;cases b;let k:=(aM.mp hk).1;show((d,by lia),?_);ext x m ⟨rfl,q,f,rfl⟩
  let:q.1=p.1:=by
   let c:(us.map (·.1))[i]?=be q.1:=by rw[aO,f];rfl
   rw[hn,aO,hk]at c;show (be.inj c).symm
  rw[this];show(b1R _,g,.refl _ _)
section
variable{tg l:Expr}{tl:E3}
def b4O(hl:QE X l tl):QI X tg l (iD tl):=a53 (b4N hl.p) fun τ H B u=>u.un fun σ G R z A h t=>by
 show(σ,G,_,z,A,h,λw r v q d k c s=>?_);cases w with
 |ref a=>
  let(j,e,d):=d;let e||e:=e
  .let(g,f,i,n):=c _ _ e;show(a,g,k,.inl (f,λo=>?_));let m:TK X.K q (L2.upd q a (.frz o (.dK g))):=.dK f;show t _ _ _ _ _ d (a30 a0f i) (c.set m (o,g,a0f,i,n.mono m)) (s.trans m)
  .let x:=e;let(o,g,f,i,n):=c _ _ e;show(a,g,k,.inr (o,f,?_));let y:put r a (.dF j)=r:=by
    funext b
    unfold put
    split
    .simp_all
    .rfl
   rw[y]at d;show t _ _ _ _ _ d (a30 f i) c s
 |_=>show aN d
def i_iD(h:tl σ G λx G1=>wkD x G1 R):iD tl σ G R:=h
def c0e(e:G p=be (.dK kvs)\/G p=be (.dF kvs))(h:R (kvs.map λp=>keyW p.1) (λ_=>True) (put G p (.dF kvs))):wkD (.ref p) G R:=(kvs,e,h)
end
def b4P:∀{ss:List Str}{us:List Value},Vals (ss.map V.str) us->jE us ss:=by ext z0;induction z0 with
 |nil=>ext us r;rw[bN]at r;cases r;show .nil
 |cons s ss I0=>
  ext us r;cases r with
  |cons r1 r2=>let(t,rfl):=r1;show .cons s t (I0 r2)
def a5n:∀{vs:List Value}{ss:List Str},jE vs ss->Vals (ss.map V.str) vs:=by ext z0 y0 x0;induction x0 with
 |nil=>show .nil
 |cons s t h I0=>show .cons (t,rfl) (I0)
def b1S(K:Fg):List V->Hp->VK->Prop:=λxs H Q=>∃(p:Addr)(ss:List Str),xs=[.ref p]/\SqL K H p (ss.map V.str)/\ss.length<64 /\
 ∀(t:Addr)(ts:List Str),H t=gV->ts.Perm ss->jj ts=kP->Q (.ref t) (upd H t (.lst (ts.map V.str)))
def a5o:CallR X (.builtin "sorted") (b1S X.K):=by
 ext k s σ H y z Q I r h;let(p,x,rfl,g,t,q):=h;let(u,rfl,i):=a1K r;cases i;let(c,n,m,_):=I.list g;let f:=b4P n;let v:=f.length;show sorted_strs m.isList f (by lia) λa b o d l=>?_;let(e,j):=sortedAll_at s.heap c a;show(.ref _,_,I.laid (λ_ _=>sortedAll_old) (cF _) (show ObjOk X.prog X.w _ _ _ (.lst _) from (by rw[aH,d.length_eq,gU];lia,a.toList,e,a5n o,↑j)),rfl,q _ b (I.hok.fresh (cF _)) d l)
def a31{K:Fg}:∀ss:List Str,Reps K H (ss.map Z.str) (ss.map V.str):=by ext z0;induction z0 with
 |nil=>rw[bN,bN,a0p]
 |cons s ss I0=>
  show(_,_,rfl,by rw[a0v],I0)
def a71{K:Fg}:∀{ss:List Str}{vs:List V},Reps K H (ss.map Z.str) vs->vs=ss.map V.str:=by ext z0;induction z0 with
 |nil=>ext vs h;rw[bN,a0p]at h;subst h;rfl
 |cons s ss I0=>
  ext vs h;let(v,r,rfl,a,b):=h;rw[a,I0 b];rfl
def a66:List Z->Hq->K3->Prop:=λxs G R=>match xs with
 |[.ref p]=>∃ss:List Str,G p=be (.lst (ss.map Z.str))/\ss.length<64/\∀(t:Addr)(ts:List Str),G t=gV->ts.Perm ss->jj ts=kP->R (.ref t) (put G t (.lst (ts.map Z.str)))
 |_=>False
def a9S:a1X X (.builtin "sorted") a66:=a1w a5o λu H Q n=>n.un λg G R j b h q=>by
 match g,h with
 |[.ref p],h=>
  let(v,rfl,r):=j.one;let(i,e,d,h):=h;let(s,k,l):=b _ _ e
  let:=a71 l
  subst this;show(p,i,by rw[r],SqL.of k,d,λt a c f m=>q _ _ _ _ (h t a (b.out c) f m) (by rw[a0q]) (b.set (.new c) (_,a0f,a31 a)) (.new c))
def a9T(e:G p=be (.lst (ss.map Z.str)))(z:ss.length<64)(h:∀(t:Addr)(ts:List Str),G t=gV->ts.Perm ss->jj ts=kP->R (.ref t) (put G t (.lst (ts.map Z.str)))):a66 [.ref p] G R:=(ss,e,z,h)
structure Cl where
 x:Str
 np:Pos
 b₀:Stmt
 suite:List Stmt
 hp:Pos
noncomputable def Cl.h(n:Str)(c:Cl):ExceptHandler:=.ExceptHandler (be (.Name c.x c.np)) (be n) (c.b₀::c.suite) c.hp
inductive Picks (X:Cx) (C:Addr) (th:Addr->TS):List Cl->Prop
 |here {c:Cl} {cs:List Cl} {D:Addr} (hg:Gl X c.x) (hm:X.mg c.x=be (.ref D)) (hd:(c.x==("__debug__":Str))=kQ) (hD:PySem.W.exmOne X.K (.ref C) (.ref D)=be kP)
   (hh:∀e oe,oe.cls=.ref C->oe.dict=gV->PySem.W.notCls oe=kP->PSs (X.hnd e oe) (c.b₀::c.suite) (th e)):Picks X C th (c::cs)
 |next {c:Cl} {cs:List Cl} {D:Addr} (hg:Gl X c.x) (hm:X.mg c.x=be (.ref D)) (hd:(c.x==("__debug__":Str))=kQ) (hD:PySem.W.exmOne X.K (.ref C) (.ref D)=be kQ) (hp:Picks X C th cs):Picks X C th (c::cs)
inductive Alt (X:Cx) (cs:List Cl):List (Addr×(Addr->X3))->Prop
 |nil:Alt X cs []
 |cons {C:Addr} {th:Addr->X3} {l:List (Addr×(Addr->X3))} (h:Picks X C (λe=>lowS X.K (th e)) cs) (hs:Alt X cs l):Alt X cs ((C,th,)::l)
theorem Alt.get:∀{l:List (Addr×(Addr->X3))},Alt X cs l->∀p∈l,Picks X p.1 (λe=>lowS X.K (p.2 e)) cs
 |_,.nil,p,h=>by simp at h
 |_,.cons h hs,p,hp=>by
  let rfl||hp:=aL.mp hp
  .cbv
  .show hs.get p hp
def Inv.melt(I:Inv X pins σ H s)(e:H a=be (.frz o (.dK kvs)))(n:∀o u,X.H₀ a≠be (.frz o u)):Inv X pins σ (upd H a (.dK kvs)) s:=by
 let(g,E,j,A,B,t):=(I.hok a _ e);let i:∀b,H b=gV->b≠a:=λb q z=>by rw[z,e]at q;cases q
 let k:∀b d,H b=be (.tup d)->b≠a:=λb d q z=>by rw[z,e]at q;cases q
 let D:∀b f,H b=be (.tbl f)->b≠a:=λb f q z=>by rw[z,e]at q;cases q
 let L:∀b c,H b=be (.own c)->b≠a:=λb c q z=>by rw[z,e]at q;cases q
 show(I.ok,I.os,I.bare,(I.base.keep,I.base.slot,λb o F C y=>?_,I.base.there,λb d q=>?_,λb o u q=>?_,λb f q=>?_),I.loc,I.cell,?_,λx c q=>?_,λp M=>?_,λb u q=>?_,I.len)
 .let h:=I.base.free b o F C y;rw[a0d (i b h)];show h
 .let h:=I.base.tups b d q;rw[a0d (k b d h)];show h
 .rw[a0d (λz=>n o u (by simp_all))];show I.base.frzs b o u q
 .let(m,h):=I.base.tbls b f q;show(m,by rw[a0d (D b _ h)];show h)
 .rw[a0d (i _ I.free)];show I.free
 .let h:=I.freeC x c q;rw[a0d (i _ h)];show h
 .let(G,l,J):=I.pin p M;show(G,by rw[a0d (i _ l)];show l,J)
 .by_cases hb:b=a
  .subst hb;rw[a0f]at q;cases q;show(E,j,A,B,t)
  .rw[a0d hb]at q;show (I.hok b u q).stay (λc v _ r=>r) (λc r=>by rw[a0d (L c b r)];show r) λc d r=>by rw[a0d (k c d r)];show r
section
variable{K:Fg}{H1:Hp}{a:Addr}{us us1:List (Key×V)}{o:Obj}{e:Expr}{t:E3}{G:Hq}{kvs:List (Key×Z)}
def a3k(h:H1 a=be (.frz o (.dK us1))):TW K H1 (upd H1 a (.dK us1)):=
 (λc b q=>by rw[a0d (λz=>by rw[z,h]at q;cases q)];show q,λc b q=>by
  let(o',q)||q:=q
  .show .inl (o',by rw[a0d (λz=>by rw[z,h]at q;cases q)];show q)
  .show .inr q)
def b4Q(h0:H a=be (.dK us))(t:TK K H H1)(h:H1 a=be (.frz o (.dK us1))):TK K H (upd H1 a (.dK us1)):=
 (λc b q=>(a3k (K:=K) h).tup c b (t.tup c b q),λc b q=>(a3k (K:=K) h).frz c b (t.frz c b q),λc d u q=>by
  rw[a0d (λz=>by rw[z,h0]at q;cases q)];show t.frd c d u q)
def c0f(t:TW K H H1)(fc:∀b o c q,H b=be (.frz o (a2M c q))->H1 b=be (.frz o (a2M c q)))(e:H1 b=H b)(h:ROb K H b o'):ROb K H1 b o':=by
 cases o' with
 |lst ws=>let(a,q,r):=h;show(a,e.trans q,r.monoW t)
 |dK kvs=>let(a,q,n,r):=h;show(a,e.trans q,n,r.monoW t)
 |ins C dx fs=>let(a,q,n,r):=h;show(a,e.trans q,n,r.monoW t)
 |dF kvs=>let(d,a,q,n,r):=h;show(d,a,e.trans q,n,r.monoW t)
 |dT ks=>let(a,q,n):=h;show(a,e.trans q,n)
 |tab p q=>show Tab.stay (λb o c k=>fc b o c _ k) e h
def b4R(g:RH K G H1)(e1:G a=be (.dF kvs)):∃o us1,H1 a=be (.frz o (.dK us1))/\RH K (put G a (.dK kvs)) (upd H1 a (.dK us1)):=by
 let(o,d,h,f,i):=g _ _ e1;show(o,d,h,λb e q=>?_)
 by_cases hb:b=a
 .subst hb;rw[a0a]at q;cases q;show(d,a0f,f,i.monoW (a3k h))
 .rw[put_ne hb]at q;show c0f (a3k h) (λc o x y z=>by rw[a0d (λw=>by rw[w,h]at z;cases z)];show z) (a0d hb) (g b e q)
def uUnf(t:E3):E3:=fun σ G R=>∃a kvs,G a=be (.dK kvs)/\t σ G λv G'=>G' a=be (.dF kvs)/\R v (put G' a (.dK kvs))
def c0g(h:QE X e t):QE X e (uUnf t):=⟨λf s τ H Q I z=>by
 let(σ,G,R,y,j,(a,d,x,A),C):=z;let(F,k,L,J):=j _ _ x;show thn (h.p f s τ H (λv c=>∃w b,Rep X.K c w v/\RH X.K b c/\TK X.K H c/\b a=be _/\R w _) I (σ,G,_,y,j,A,λw b v c q r g t=>(w,b,r,g,t,q.1,q.2))) λu E (v,c,l,m,w,b,r,g,t,n,q)=>?_;let(o,D,i,B):=b4R g n;show(v,_,l.melt i (λo u z=>by let:=I.base.frzs a o u z;rw[k]at this;cases this),m,C w _ v _ q (r.monoW (a3k i)) B (b4Q k t i))⟩
def c0h(e:G a=be (.dK kvs))(h:t σ G λv G'=>G' a=be (.dF kvs)/\R v (put G' a (.dK kvs))):uUnf t σ G R:=(a,kvs,e,h)
end
namespace DictP
def a32:jD table "dict.update.loop"=be gN.«dict.update.loop»:=entryFor_of_tree (by kernel_rfl)
def a2r:plainId "dict.update.loop"=kP:=by decide +kernel
def b4S:typeLookup (.type "list") "keys"=pure gV:=am_miss_of_fast (by decide +kernel)
section
variable{a:Addr}{xs:Array Value}{k:Nat}{sl:Array (Option Value)}
def a9U(hx:s.heap.get? a=be { cls:=.type "list",dict:=gV,data:=.seq xs k,slots:=sl })(hA:A.handled=gV)
  (h:∀h' tk,(∀b ob,s.heap.get? b=be ob->h'.get? b=be ob)->Q gV { s with heap:=h',toks:=tk }):wpAny (model prog w) A (getAttr? (.ref a) "keys") Q E s:=by
 let(hp,g,d,tk,os):=s;let hT:∀tk',((hp,g,d,tk',os):Shared).TypeIs (.ref a) "list":=λ_=>(_,hx,rfl);let f1:=sub_AttributeError;let f3:=F.slot_list_getattribute.lookup;let f4:=F.slot_list_getattribute.bind (.ref a);let f5:=am_list_getattr_none;unfold getAttr? getAttrBy? getAttrBy
 repeat (any_goals (first |assumption |show hT _ | ((with_reducible change wpAny _ _ (call (Value.builtin "list.__getattribute__") _ _) _ _ _);show kh F.slot_list_getattribute (hT _) am_entry_list_getattribute (F.args_list_getattribute_2 _ _) (meets_getattribute_miss_list a xs k sl "keys" _ b4S (by decide +kernel)) (hx,hA,λh' tk' e hx'=>?_)) |wp_step))
 let(t',u',he):=hx'.there
 change wpAny _ _ (getattributeRaised _ _ _ _ _ _ _) _ _ _
 unfold getattributeRaised
 repeat (any_goals (first |assumption |wp_step))
 show h _ _ hx'.keeps
def a72(g:s.heap.get? t=be o)(hc:o.cls=.type "tuple")(hd:o.data=.seq #[x,kR] n)(h:Q [x,kR] s):wpAny (model prog w) A (gN.Dict.pairItems (.ref t)) Q E s:=by
 let(c,a,b,e):=o;simp only at hc hd;subst hc hd
 repeat (any_goals (first |assumption |wp_step))
end
abbrev Sv(h h':Heap):Prop:=∀b o,h.get? b=be o->h'.get? b=be o
section
variable{R:Result->Shared->Prop}{I:Addr}{fp wr:List Addr}{G:Array jT->Array jT->Prop}{n:Nat}{P:Nat->Value->Prop}{St:Nat->Shared->Prop}
def b28(prog:gM)(w:World)(A:Around)(h0:Heap)(D:Nat->Heap->Prop)(d:Addr)(i:Nat)(v:Value):Prop:=∃t o x y m,v=.ref t/\h0.get? t=be o/\o.cls=.type "tuple"/\o.data=.seq #[x,y] m /\
 ∀(E:Value->Shared->Prop)(s:Shared)(Q:Unit->Shared->Prop),Sv h0 s.heap->D i s.heap->(∀h' tk,s.toks<=tk->D (i+1) h'->Heap.SameBut d s.heap h'->Q () { s with heap:=h',toks:=tk })->wpAny (model prog w) A (dictSet d x y) Q E s
def c0i(W:WalksS prog w A.in1 I fp wr G n P St)(d:Addr)(hdf:d∉fp)(dm:∀i h h',D i h->Sv h0 h->Sv h0 h'->(∀o,h.get? d=be o->h'.get? d=be o)->D i h')
  (nw:∀b o,h0.get? b=be o->b≠d/\b∉wr) (hP:∀j v,P j v->b28 prog w A.in1 h0 D d j v) :
  ∀(k i:Nat)(s:Shared),n-i=k->i<=n->St i s->Sv h0 s.heap->D i s.heap->(∀s',Moved (d::wr) G s s'->D n s'.heap->R (.ok (.ret .none)) s') ->
   ig (model prog w) A (.builtin "dict.update.loop" ([.ref d,.ref I,rawInt i,.none],[])) R s:=by
 let r:=λh=>hdf (W.sub _ h);let V:∀b∈wr,b∈d::wr:=λb q=>bR _ q;ext k
 induction k with
 |zero=>
  ext i s hk hi p l F E;let L:i=n:=by lia
  subst L;show iK a32 (gE (W.done s _ _ p λa c=>(gE (gF (gF (E a (c.mono V) (dm _ _ _ F l (λb o e=>c.heap b o (nw b o e).2 (l b o e)) λo e=>c.heap d o r e)))))))
 |succ k ih=>
  ext i s hk hi p l F E;show iK a32 ?_;rw[Around.under_plainId a2r _];show gE (W.item i s _ _ (by lia) p λv a M B c=>?_);let(t,o,x,y,m,rfl,g,hc,X,N):=hP i v M;let f:=λb o e=>c.heap b o (nw b o e).2 (l b o e);show gE (g6 (gE (wpAny_tryCatch (a72 (f t o g) hc X (g6 (N _ _ _ f (dm _ _ _ F l f λo e=>c.heap d o r e) λS tk J T Q=>?_))))));let u:∀b o,b≠d->a.heap.get? b=be o->S.get? b=be o:=λb o Y e=>by rw[Q.2 b Y];show e
  show gF (iX a2r _,?_);show ih (i+1) { a with heap:=S,toks:=tk } (by lia) (by lia) (W.frame _ a _ _ B J λb q o e=>u b o (λz=>hdf (z▸q)) e) (λb o e=>u b o (nw b o e).1 (f b o e)) T
   λU H C=>E U (Moved.trans W.gtrans ((c.mono V).then_heap J λb o q e=>u b o (λz=>q (z▸bM)) e) H) C
def b4T(hh:A.handled=gV)
  (hl:s.heap.get? l=be { cls:=.type "list",dict:=gV,data:=.seq items c,slots:=sl }) (dm:∀i h h',D i h->Sv s.heap h->Sv s.heap h'->(∀o,h.get? s.heap.objs.size=be o->h'.get? s.heap.objs.size=be o)->D i h')
  (d0:D 0 (s.heap.push { cls:=.type "dict",data:=.dict #[] })) (hi:∀(j:Nat) v,items[j]?=be v->b28 prog w A.in1.in1 s.heap D s.heap.objs.size j v)
  (h:∀(h':Heap)(tk:Nat),D items.size h'->Sv s.heap h'->Q (.ref s.heap.objs.size) { s with heap:=h',toks:=tk }) :
  wpAny (model prog w) A (call (.type "dict") [.ref l]) Q E s:=by
 show callType_codes (Q₁:=λm u=>m=.ref s.heap.objs.size/\u={ s with heap:=s.heap.push { cls:=.type "dict",data:=.dict #[] } }) F.kt_called_dict (F.kt_typeCall_dict_1 _) F.entry_dict_init (kt_code_dict_new _ (rfl,rfl)) ?_;ext m u ⟨rfl,rfl⟩;let f:(s.heap.push { cls:=.type "dict",data:=.dict #[] }).get? l=be { cls:=.type "list",dict:=gV,data:=.seq items c,slots:=sl }:=Heap.get?_push_of_some _ hl;let L:Shared.TypeIs { s with heap:=s.heap.push { cls:=.type "dict",data:=.dict #[] } } (.ref l) "list":=(_,f,rfl);let H:Shared.TypeIs { s with heap:=s.heap.push { cls:=.type "dict",data:=.dict #[] } } (.ref s.heap.objs.size) "dict":=(_,Heap.get?_push_size _ rfl,rfl);show(H,F.args_dict_init_2 _ _,?_);show gE (gE (kK H (gF ?_)))
 change wpAny _ _ (gN.Dict.updateFrom "dict.__init__" s.heap.objs.size (.ref l) [] .none) _ _ _
 show gE (jL L (gE (a9U f (by lia) λa t1 k=>?_)));let C:a.IsList l items:=(_,k l _ f,rfl,c,rfl);show gE (iB (gE (jq C (gF (iX a2r _,?_)))));let t:=Heap.lt_size hl;let p:=Heap.lt_size (k _ _ (Heap.get?_push_size _ rfl));let Y:A.in1.in1.handled=gV:=by lia
 let W:s.heap.objs.size∉[a.objs.size,l]:=by grind
 let q:∀b o,s.heap.get? b=be o->b≠s.heap.objs.size/\b∉[a.objs.size]:=λb o e=>by
  let r:=Heap.lt_size e;show(aS r,λn=>by rw[aK.mp n]at r;show cm _ (dj r p))
 let d:∀x,Sv s.heap (a.push x):=λx b o e=>Heap.get?_push_of_some _ ((λb o e=>k b o (Heap.get?_push_of_some _ e)) b o e);show c0i ((Walks.list Y _ l (aS (dj t p)) items).toS) s.heap.objs.size W dm q hi (items.size-0) 0 _ (by lia) (bg _)
  ((_,Heap.get?_push_size _ rfl,rfl,rfl),C.push _) (d _) (dm 0 _ _ d0 (λb o e=>Heap.get?_push_of_some _ e) (d _) λo e=>Heap.get?_push_of_some _ (k _ o e)) λR g V=>?_
 let(S,T,J,y,B):=R;let U:T=s.gens:=g.gens;let X:J=s.drawn:=g.drawn;let I:B=s.os:=g.os;subst U X I;show(rfl,h S y V λb o e=>g.heap b o (λn=>?_) (d _ b o e));let z||z:=aL.mp n
 .show (q b o e).1 z
 .simp_all
end
section
variable{K:Type}[DecidableEq K]{knd:KeyKind prog w K}
def PairAt(knd:KeyKind prog w K)(h:Heap)(v:Value)(r:K×Value):Prop:=∃t o key m,v=.ref t/\h.get? t=be o/\o.cls=.type "tuple"/\o.data=.seq #[key,r.2] m/\knd.is r.1 key=kP
def call_pairs(hh:A.handled=gV)
  (hl:s.heap.get? l=be { cls:=.type "list",dict:=gV,data:=.seq items c,slots:=sl }) (hi:∀(j:Nat) v,items[j]?=be v->∃r,rows[j]?=be r/\PairAt knd s.heap v r) (hn:items.size=rows.length) (hz:rows.length<=gH)
  (h:∀(h':Heap)(tk:Nat),h'.DictOf knd s.heap.objs.size (merged [] rows)->(∀b o,s.heap.get? b=be o->h'.get? b=be o)->Q (.ref s.heap.objs.size) { s with heap:=h',toks:=tk }) :
  wpAny (model prog w) A (call (.type "dict") [.ref l]) Q E s:=by
 show b4T (D:=λi h=>h.DictOf knd s.heap.objs.size (merged [] (rows.take i))) hh hl (by ext i h d ⟨o,G,C,z,n⟩ _ _ q;show(o,G,C,q _ z,n)) (Heap.DictOf.new s.heap) (λj v e=>?_) λd H a F=>h d H (by simp_all) F;let(r,B,t,o,p,m,rfl,g,y,x,k):=hi j v e;show(t,o,p,r.2,m,rfl,g,y,x,λE J Q I a q=>wpAny_dictSet_pairs k a (λd f u=>q d _ (cF _) (by rw[<- merged_take_succ _ _ _ _ B]at f;show f) u) ?_)
 let:=merged_length_le [] (rows.take j)
 simp at this
 lia
end
end DictP
noncomputable def a73(rows:List (Addr×Key×V))(acc:List (Key×V)):List (Key×V):=rows.foldl (λacc r=>putK acc r.2.1 r.2.2) acc
def b71(X:Cx):List V->Hp->VK->Prop:=λxs H Q=>∃(p:Addr)(rows:List (Addr×Key×V)),xs=[.ref p]/\SqL X.K H p (rows.map λr=>V.ref r.1)/\(∀r∈rows,H r.1=be (.tup [kV r.2.1,r.2.2]))/\rows.length<=1000 /\
 ∀t,H t=gV->Q (.ref t) (upd H t (.dK (a73 rows [])))
def b1T(ok:HOk P w H h):∀{rows:List (Addr×Key×V)},(∀r∈rows,H r.1=be (.tup [kV r.2.1,r.2.2]))->∃vs:List (Key×Value),vs.length=rows.length /\
  (∀(j:Nat) r,rows[j]?=be r->∃q,vs[j]?=be q/\DictP.PairAt (a0j P w) h (.ref r.1) q)/\∀acc bcc,KV acc bcc->KV (a73 rows acc) (merged bcc vs):=by ext z0;induction z0 with
 |nil=>ext _;show([],rfl,λj r e=>by simp at e,λ_ _ k=>k)
 |cons r rows I0=>
  ext hr;let(m,p,d,l):=I0 λr a=>hr r (.tail _ a);let(_,y,s,o,i,f,n,t):=(ok _ _ (hr r (.head _)));let(b,u,rfl,g,c):=Vals.two s;show((r.2.1,u,)::m,by rw[aV,aV,p],λj q e=>?_,λx v k=>l _ _ (k.put r.2.1 c));cases j with
  |zero=>
   cases e;show(_,rfl,r.1,o,b,n,rfl,i,f,t,a43 g)
  |succ j=>show d j q (by simp_all)
def a9V:∀(rows:List (Addr×Key×V))(acc:List (Key×V)),(a73 rows acc).length<=acc.length+rows.length:=by ext z0;induction z0 with
 |nil=>ext _;show aI _
 |cons r rows I0=>
  ext acc
  let:=I0 (putK acc r.2.1 r.2.2)
  let:=a1c acc r.2.1 r.2.2
  change (a73 rows (putK acc r.2.1 r.2.2)).length<=_
  rw[aV];lia
def a74(hc:X.calm=kP):CallR X (.type "dict") (b71 X):=by
 ext f s σ H xs us Q I r h;let(p,rows,rfl,T,ht,hz,q):=h;let(u,rfl,V):=a1K r;cases V;let(d,z,(o,n,F,C,E,B),_):=I.list T;let(c,dd,dt,sl):=o;subst C E B;let(A,k,h2,W):=b1T I.hok ht;let G:d.length=rows.length:=by let:=z.length;rw[aH]at this;lia
 let b:A.length<=sizeLine:=by grind
 show DictP.call_pairs (knd:=a0j X.prog X.w) (I.ok.hd hc) F (λj v e=>?_) (by grind) b λg t M U=>?_
 .let l:d[j]?=be v:=↑e
  obtain⟨r,D⟩:∃r,rows[j]?=be r:=(rows[j]'(by grind),aP _);let(q,m,pa):=h2 j r D;let(u,y,N):=z.get (by rw[aO,D];rfl);rw[l]at y;cases y;rw[N];show(q,m,pa)
 .let L:=W [] [] .nil;let Y:=(a4j (P:=X.prog) (w:=X.w) (H:=λ_=>gV) s.heap I.big).2.1;let R:=a9V rows [];let J:=
   I.laid (t':=t) U (aI _) (show ObjOk X.prog X.w _ g _ (.dK _) from (by rw[gU];simp at R;lia,Y,_,L,M))
  show(.ref s.heap.objs.size,_,J,rfl,q _ (I.hok.fresh (aI s.heap.objs.size)))
def a75(h64:ss.length<64)
  (hcol:∀R:List Value->Shared->Prop,(∀(g:Heap)(tk:Nat)(d:Drawn)(vs:List Value)(ks:List Str),(∀b o,s.heap.get? b=be o->g.get? b=be o)->jE vs ks->ks.Perm ss->R vs { s with heap:=g,drawn:=d,toks:=tk })->wpAny (model P w) A.in1 (collect (.ref r)) R E s)
  (h:∀(g g':Heap)(tk:Nat)(d:Drawn)(out:List Value)(n:Nat)(ts:List Str),(∀b o,s.heap.get? b=be o->g.get? b=be o)->(∀b o,g.get? b=be o->g'.get? b=be o)->g'.get? g.objs.size=be { cls:=.type "list",data:=.seq out.toArray n } ->
   jE out ts->ts.Perm ss->jj ts=kP->Q (.ref g.objs.size) { s with heap:=g',drawn:=d,toks:=tk }):wpAny (model P w) A (call (.builtin "sorted") [.ref r]) Q E s:=by
 show Calls.call_function_entry kD kE kF (args_sorted1 _) (gE (gF (gE (hcol _ λg t d f D x c l=>?_))));let F:=c.length.trans l.length_eq;let z:f.length<=sizeLine:=by rw[gU];lia
 show gE (jy ?_ z);let k:(g.push _).get? g.objs.size=be (seqObj "list" f.toArray 0):=Heap.get?_push_size _ rfl;show gE (g6 (ii kG (_,k,rfl) kH (list_sort_treeK strKind_oneLt k c.keysOf (λH G B e=>keyKind_strs (e▸c)) (by lia) λi p v=>(_,rfl,?_)) (args_list_sort _)));let(y,u,C,q):=sorted_out_str c p v;let a:=sortedHeap_at (out:=(arrOf i).map (·.2)) k;let(n,a):=a;show gF (_,rfl,h g _ t d ((arrOf i).map (·.2)).toList n y x (λb o e=>?_) (by cbv) u (C.trans l) q);let j:=Heap.lt_size e;rw[sortedHeap_old (aS j) (by rw[Heap.size_push];show cS j)];show Heap.get?_push_of_some _ e
section
variable{K:Fg}
def b1U(h:Rep K H (keyW k) v):v=kV k:=by
 match k,h with
 |.inl (be i),h=>rw[show keyW _=.int i from rfl,a0k]at h;show h
 |.inl gV,h=>rw[show keyW _=.non from rfl,a0x]at h;show h
 |.inr x,h=>rw[show keyW _=.str x from rfl,a0v]at h;show h
noncomputable def prZ(r:Key×Z):Z:=.tup [keyW r.1,r.2]
def b4U:∀{rows:List (Key×Z)}{vs:List V},Reps K H (rows.map prZ) vs->∃rs:List (Addr×Key×V),vs=rs.map (λr=>V.ref r.1)/\(∀r∈rs,H r.1=be (.tup [kV r.2.1,r.2.2]))/\rs.length=rows.length /\
  ∀acc bcc,bcc.map (·.1)=acc.map (·.1)->Reps K H (acc.map (·.2)) (bcc.map (·.2))->(a73 rs bcc).map (·.1)=(a2K acc rows).map (·.1)/\Reps K H ((a2K acc rows).map (·.2)) ((a73 rs bcc).map (·.2)):=by ext z0;induction z0 with
 |nil=>
  ext vs h;show([],h,λr e=>by simp at e,rfl,λf g b c=>(b,c))
 |cons r rows I0=>
  ext vs h;let(v,x,rfl,b,c):=h;let(t,rfl,l,n,u):=I0 c;let(a,y,rfl,p,e):=b;let(z,w,rfl,j,i):=e.two
  let:=b1U j
  subst this;show((a,r.1,w,)::t,rfl,λq d=>?_,by rw[aV,aV,n],λf g b s=>?_)
  .let rfl||d:=aL.mp d
   .grind
   .show l q d
  .let(m,o):=a4w i b s;show u _ _ m o
def b29:List Z->Hq->K3->Prop:=λxs G R=>match xs with
 |[.ref p]=>∃rows:List (Key×Z),G p=be (.lst (rows.map prZ))/\rows.length<=1000/\∀t,G t=gV->R (.ref t) (put G t (.dK (a2K [] rows)))
 |_=>False
def b4V(hc:X.calm=kP):a1X X (.type "dict") b29:=a1w (a74 hc) λx H Q n=>n.un λg G R d b h q=>by
 match g,h with
 |[.ref p],h=>
  let(v,rfl,r):=d.one;let(c,e,w,h):=h;let(s,j,l):=b _ _ e;let(d,rfl,f,u,k):=b4U l;let(m,i):=k [] [] rfl .nil;show(p,d,by rw[r],SqL.of j,f,by lia,λt a=>q _ _ _ _ (h t (b.out a)) (by rw[a0q]) (b.set (.new a) (_,a0f,m,i.mono (.new a))) (.new a))
def b4W(e:G p=be (.lst (rows.map prZ)))(z:rows.length<=1000)(h:∀t,G t=gV->R (.ref t) (put G t (.dK (a2K [] rows)))):b29 [.ref p] G R:=(rows,e,z,h)
theorem Reps.dropLast:∀{ws:List Z}{vs:List V},Reps K H ws vs->Reps K H ws.dropLast vs.dropLast
 |[],vs,h=>by rw[a0p]at h;subst h;show .nil
 |[w],vs,h=>by
  let(v,rfl,_):=h.one;show .nil
 |w::w'::ws,vs,h=>by
  let(v,r,rfl,c,b):=h;let a:=b;let(e,d,rfl,_,_):=a;show .cons c (Reps.dropLast b)
end
def b4X(h:SetW.KsAre (PySem.strKind P w) vs ss):jE vs ss:=by
 induction h with
 |nil=>show .nil
 | @cons v k vs ks h _ ih=>
  cases v<;>simp[PySem.strKind,Value.isStrOf]at h
  subst h;show .cons _ _ ih
def metK{K:Type}{k0:K}{ns ms:List K}(h:SetW.Met (λi=>ns.getD i k0) ns.length ms):∀x,x∈ms↔x∈ns:=λx=>by
 rw[h.2.2 x]
 constructor
 .ext⟨j,a,e⟩;let e:ns.getD j k0=x:=e;rw[cu,aP a]at e;show e▸b5 a
 .ext b;let(j,a,e):=dv.mp b;show(j,a,by change ns.getD j k0=x;rw[cu,aP a];show e)
noncomputable def setS(X:Cx)(t:Addr)(ms:List Str):HO:=.ext λh=>SetW.SI (PySem.strKind X.prog X.w) h t ms
def a9W(X:Cx):List V->Hp->VK->Prop:=λxs H Q=>∃(p:Addr)(ms:List Str),xs=[.ref p]/\H p=be (setS X p ms)/\ms.length<64 /\
 ∀(t:Addr)(ks:List Str),H t=gV->ks.Perm ms->jj ks=kP->Q (.ref t) (upd H t (.lst (ks.map V.str)))
def a4y(hc:X.calm=kP):CallR X (.builtin "sorted") (a9W X):=by
 ext b s σ H M L Q I r h;let(p,c,rfl,v,x,q):=h;let(u,rfl,J):=a1K r;cases J;let D:=I.ok.hd hc;let S:=(I.hok p _ v).1;show a75 x (λR E=>SetW.collect_set D S λg a d y B t C G=>E g a d y B t (b4X C) G) λg z a d k n j o m e l f F=>?_;let i:Inv X b σ H { s with heap:=g,drawn:=d,toks:=a }:=(I.drew d).kept o;show(.ref g.objs.size,_,i.laid m (aI _) (show ObjOk X.prog X.w _ z _ (.lst _) from (by rw[aH,f.length_eq,gU];lia,k,n,a5n l,e)),rfl,q _ j (i.hok.fresh (aI _)) f F)
namespace Tim
open PySem.W
def RowQ(h:Heap)(v:Value)(xs:List Pz):Prop:=∃a o its n ps b,v=.ref a/\h.get? a=be o/\o.cls=.type "tuple"/\o.data=.seq its n/\its.toList=ps++[Value.ref b]/\PtsAre xs ps
def RowQ.uniq(r:RowQ h v xs)(q:RowQ h v ys):xs=ys:=by
 let(a,o,s,n,x,b,rfl,j,_,m,l,g):=r;let(z,y,k,u,t,w,i,f,_,d,c,p):=q;cases i;rw[j]at f;cases f;rw[m]at d;cases d;rw[l]at c;let e:=(List.append_inj' c rfl).1;subst e;show g.uniq p
def RowsQ(h:Heap):List Value->List (List Pz)->Prop
 |[],[]=>True
 |v::vs,x::xs=>RowQ h v x/\RowsQ h vs xs
 |_,_=>False
theorem RowsQ.mem:∀{vs:List Value}{rows:List (List Pz)},RowsQ h vs rows->∀v∈vs,∃x∈rows,RowQ h v x
 |v::vs,x::xs,(r,q),u,hu=>by
  let rfl||hu:=aL.mp hu
  .show(x,.head _,r)
  .let(y,a,b):=q.mem u hu;show(y,.tail _ a,b)
 |[],[],_,u,hu=>by simp at hu
 |[],_::_,r,_,_=>r.elim
 |_::_,[],r,_,_=>r.elim
theorem RowsQ.inj:∀{vs:List Value}{rows:List (List Pz)},RowsQ h vs rows->rows.Nodup->∀{v u x},v∈vs->u∈vs->RowQ h v x->RowQ h u x->v=u
 |w::vs,y::ys,(r,q),nd,v,u,x,hv,hu,e1,e2=>by
  let(e,g):=bT.mp nd;let c:∀{z},z∈vs->RowQ h z x->RowQ h w x->False:=λf a b=>by
   let(j,d,i):=q.mem _ f;rw[i.uniq a]at d;rw[b.uniq r]at d;show e d
  let c1||c1:=aL.mp hv
  .let c2||c2:=aL.mp hu
   .simp_all
   .rw[c1]at e1;show (c c2 e2 e1).elim
  .let c2||c2:=aL.mp hu
   .rw[c2]at e2;show (c c1 e1 e2).elim
   .show q.inj g c1 c2 e1 e2
 |[],[],_,_,_,_,_,hv,_,_,_=>by simp at hv
 |[],_::_,r,_,_,_,_,_,_,_,_=>r.elim
 |_::_,[],r,_,_,_,_,_,_,_,_=>r.elim
def perm_lift{α β:Type}{f:α->β}:∀{l:List α}{m:List β},m.Perm (l.map f)->∃l':List α,l'.Perm l/\l'.map f=m:=by
 ext l m h;generalize hk:l.map f=k at h
 induction h generalizing l with
 |nil=>show(l,.refl _,hk)
 |cons x _ ih=>
  cases l with
  |nil=>simp at hk
  |cons y l=>
   injection hk with h1 h2
   let(e,c,d):=ih h2;show(y::e,c.cons y,by rw[aR,h1,d])
 |swap x y t=>
  match l,hk with
  |a::b::l,hk=>
   injection hk with h1 hk
   injection hk with h2 h3
   show(b::a::l,.swap ..,by rw[aR,aR,h1,h2,h3])
 |trans _ _ ih1 ih2=>
  let(n,c,d):=ih2 hk;let(g,j,i):=ih1 d;show(g,j.trans c,i)
end Tim
section
variable{K:Fg}{mg:Str->Option Value}{base:Heap}
def b4Y(S:FnScope N ps scope)
    (hbind:∀us:List Value,us.length=ps.length->i8 (PySem.W.kla_fn name qual params body scope [] pm (.ref c') ctv) (us,[])=pure (ps.zip us))
 (hr:Room k A) (e0:Env0 P w K mg base A outer s H) (r:Vals vs us) (hl:vs.length=ps.length)
    (ho:s.heap.get? f=be (PySem.W.kla_obj name qual params body scope [] pm c' ctv)) (hcd:s.heap.CodeRec (.ref c') qual)
 (ht:PE (cxOf CX0 P w K mg base N qual scope f (.ref c') A outer s H E0).nox body t) (hq:t (start N vs) H Q) :
    ig (model P w) A (.call (.ref f) (us,[])) (CR CX0 outer P w H s Q E0) s:=by
  let c:=e0.mod.nolimit.keeps λb o e=>(e0.bs b o e).1;let a:∀y∈ps.zip us,scope.names.lookup y.1=be .local\/(scope.names.lookup y.1=be .cell/\((jK (s.heap.objs.size+1) scope.names []).lookup y.1).isSome=kP):=λ(n,v) h=>by
    let q||q:=S.par n (cP h).1
    . show .inl q
    . show .inr (q,PySem.W.cellsFrom_some _ _ _ (.inl q))
  show PySem.W.kla_callFunE hr.depth ho rfl S.co S.gen rfl hcd ?_;rw[hbind us (by rw[<- r.length];show hl)];show gF ?_;show wpAny_newFunctionEnv_cells S.kind a λp j d x=>?_;subst j;show(c.keeps x.toInCall.keep,PySem.W.kla_codeExpr ?_);let I:Inv (cxOf CX0 P w K mg base N qual scope f _ A outer s H E0) [] _ H d:=a40 S hr.hd e0 hl r x;show gX (ht [] d _ H Q (I.wish _) hq) (λu g (v,l,J,i,q)=>(v,l,J.os,J.bare,J.base,J.hok,i,q)) λe g m=>m.elim
end
def b1V(r:h.CodeRec (.ref c) q):∃oc,h.get? c=be oc/\ObjOk Pr w H h c (a2M c q):=by
 let(s,o,b,t,e,g,d,x):=r;cases e;show(o,g,(c,o,b,t,rfl,g,d,x),(o,g),λu v (p,f,a,m,l,i,n,j) k=>by cases l;show(c,f,a,m,rfl,k _ i,n,j))
def b1W(I:Inv X pins σ H s)(hT:Tab H kR lpos q)(hq:q=X.env.qual++"<lambda>")
  (hdef:kL params X.env=([],[],)) (hcl:jt scope X.env=pure []) (hcode:X.env.code=.ref c) (hhd:PySem.W.codeHdIn X.K c kR=kP) (hgP:gZ≠kR) (hb:X.base.BuiltinsAt X.mg kR)
  (h:∀(f c':Addr)(H':Hp)(pm ctv:Value)(s1:Shared)(oc:Obj),Inv X (pins++[(f,PySem.W.kla_obj "<lambda>" q params body scope [] pm c' ctv,)]) σ H' s1->H' c'=be (.frz oc (a2M c' q))->Tab H' kR lpos q->(∀b u,H b=be u->b≠kR->H' b=be u)->Q (.ref f) s1) :
  wpAny (model X.prog X.w) X.A (eval (.Lambda params body scope lpos) X.env) Q E s:=by
 show PySem.W.kla_eval hdef ?_;rw[<- hq];let(ps,k,ht):=hT;let oP:=I.hok kR _ k;let hg:=I.ok.mod.glob.keeps I.bk;let S:∀(N:Hp) L (f:Addr) (o:Obj),Inv X pins σ N L->L.heap.get? f=be o->N f=gV->s.heap.objs.size<=f->_->Inv X (pins++[(f,o,)]) σ N L:=λN L f o J e n l d=>by
  show J.pins_of λp F=>?_;let F||F:=aJ.mp F
  .show J.pin p (bz _ F)
  .rw[aK.mp F];show(e,n,bS (bo I.lt l),I.nofs l,d)
 let rfl||(c0,g,rfl,hc):=ht
 .show PySem.W.kla_makeFunction hcl I.ok.glob hg hcode (PySem.W.codeHd_of_K I.kIn hhd) oP trivial rfl hgP (hb.keeps I.bk) λa t j V hx x R Y T=>?_;generalize hfo:PySem.W.kla_obj "<lambda>" q params body scope [] _ a t=fo;let hfd:∀v,fo.data≠.cell v:=λv z=>by rw[<- hfo]at z;cases z
  let hn:=I.hok.fresh x;let hcP:=a0t k hn |>.symm;let G:∀b o,b≠kR->s.heap.get? b=be o->(j.push fo).get? b=be o:=λb o hb e=>Heap.get?_push_of_some _ (hx b o hb e);let M:∀b,H b=gV->b≠kR:=λb e z=>by rw[z,k]at e;cases e
  let nc:∀b o,s.heap.get? b=be o->b≠a:=λb o e=>aS (bo (Heap.lt_size e) x);let(g,D,B):=b1V (Pr:=X.prog) (w:=X.w) (H:=upd (upd H kR (.tbl (#[]++#[rawInt lpos.line,rawInt lpos.col,.ref a]))) a (.frz default (a2M a q))) (Y.push fo);let m:∀b u,H b=be u->b≠kR->upd (upd H kR (.tbl (#[]++#[rawInt lpos.line,rawInt lpos.col,.ref a]))) a (.frz g (a2M a q)) b=be u:=λb u e hb=>by
   rw[a0d (a0t e hn),a0d hb];show e
  let U:upd (upd H kR (.tbl (#[]++#[rawInt lpos.line,rawInt lpos.col,.ref a]))) a (.frz g (a2M a q)) kR=be (.tbl (#[]++#[rawInt lpos.line,rawInt lpos.col,.ref a])):=by rw[a0d hcP.symm,a0f]
  let J:Inv X pins σ (upd (upd H kR (.tbl (#[]++#[rawInt lpos.line,rawInt lpos.col,.ref a]))) a (.frz g (a2M a q))) { s with heap:=j.push fo,toks:=V }:=by
   show I.un (λb o e n _ _=>G b o (M b n) e,λb o e n _ _=>(o.slots,G b o (M b n) e),λb o e n _=>by rw[a0d (nc b o e),a0d (M b n)];show n,λb o e _=>?_,λb xs e=>m b _ e λz=>(by rw[z,k]at e;cases e),λb o u e=>m b _ e λz=>(by rw[z,k]at e;cases e),λb ps e=>?_) λb u e=>?_
   .by_cases hb:b=kR
    .rw[hb];show(_,Heap.get?_push_of_some _ T)
    .show(o,G b o hb e)
   .by_cases hb:b=kR
    .grind
    .show(#[],by rw[eL];show m b _ e hb)
   .by_cases hb:b=a
    .subst hb;rw[a0f]at e;cases e;show(D,B)
    .by_cases hb2:b=kR
     .subst hb2;rw[U]at e;cases e;show Heap.get?_push_of_some _ T
     .rw[a0d hb,a0d hb2]at e;show (I.hok b u e).stay (λd v hd q=>G d v ?_ q) (λd r=>m d _ r λz=>by rw[z,k]at r;cases r) λd xs r=>m d _ r λz=>by rw[z,k]at r;cases r
      let z||z:=hd
      .rw[z];show hb2
      .grind
  let gf:(j.push fo).get? j.objs.size=be fo:=Heap.get?_push_size _ (by rw[<- hfo];rfl);let C:=bL (dM x R);let nf:upd (upd H kR (.tbl (#[]++#[rawInt lpos.line,rawInt lpos.col,.ref a]))) a (.frz g (a2M a q)) j.objs.size=gV:=by
   rw[a0d (bS R),a0d (M _ (I.hok.fresh C))];show I.hok.fresh C
  let J2:=S _ _ _ fo J gf nf C hfd;rw[<- hfo]at J2;rw[<- hfo];show h _ a _ _ t _ g J2 a0f (_,U,.inr (a,g,by simp,a0f)) m
 .show PySem.W.kla_makeFunctionHit hcl I.ok.glob hg hcode (PySem.W.codeHd_of_K I.kIn hhd) oP trivial (cv:=.ref c0) (by simp[codeAmong,rawInt]) (hb.keeps I.bk) λt j V kp sz=>?_;let J:Inv X pins σ H { s with heap:=j.push (PySem.W.kla_obj "<lambda>" q params body scope [] ((X.mg "__name__").getD .none) c0 t),toks:=V }:=I.kept λb o e=>Heap.get?_push_of_some _ (kp b o e);show h _ c0 H _ t _ g (S _ _ _ _ J (Heap.get?_push_size _ rfl) (I.hok.fresh sz) sz λv z=>by cases z) hc (_,k,.inr (c0,g,rfl,hc)) λb u e _=>e
section
variable{pl:List (Addr×Obj)}{σ:St}{h':Heap}{b:Addr}
def Inv.repin(I:Inv X (pl++[(b,o,)]) σ H s)(fb:FpOk X pl H b)(k:∀c u,c≠b->s.heap.get? c=be u->h'.get? c=be u)(g:h'.get? b=be o')(d:∀v,o'.data≠.cell v):Inv X (pl++[(b,o',)]) σ H { s with heap:=h',toks:=t' }:=by
 let(f,e,j,l,h,i):=fb;let J:Inv X pl σ H { s with heap:=h',toks:=t' }:=I.unpinned.turned k f e l h i;show J.pins_of λp a=>?_;let a||a:=aJ.mp a
 .show J.pin p (bz _ a)
 .rw[aK.mp a];show(g,f,e,j,d)
def Inv.adopt(I:Inv X pl σ H s)(fb:FpOk X pl H b)(k:∀c u,c≠b->s.heap.get? c=be u->h'.get? c=be u)(new:ObjOk X.prog X.w (upd H b o) h' b o)(th:∃u,h'.get? b=be u):Inv X pl σ (upd H b o) { s with heap:=h',toks:=t' }:=by
 let(A,g,D,B,j,h):=fb;let f:∀c u,H c=be u->c≠b:=λc u e z=>by rw[z,A]at e;cases e
 show I.step (ch:=[b]) (λc a=>?_) (λc u _ _ a e _=>k c u ↑a e) (λc u _ _ a e _=>(u.slots,k c u ↑a e)) (λc u a _ n=>by rw[a0d ↑a];show n) (λc u a e=>(u,k c u ↑a e))
  (λc x e=>by rw[a0d (f c _ e)];show e) (λc _ _ e=>by rw[a0d (f c _ e)];show e) (λc C e=>(#[],by rw[a0d (f c _ e),eL];show e)) (λm t=>?_) (λc u e=>?_) I.bare
 .rw[aK.mp a];show(B,g,j,h)
 .let(u,l,i,p,r):=t;show(u,l,i,k _ u (λz=>g z.symm) p,r)
 .by_cases hb:c=b
  .subst hb;rw[a0f]at e;cases e;show new
  .rw[a0d hb]at e;show (I.hok c u e).stay (λd v y q=>k d v ?_ q) (λd q=>by rw[a0d (f d _ q)];show q) λd x q=>by rw[a0d (f d _ q)];show q
   let z||z:=y
   .rw[z];show hb
   .show f d _ z
end
section
variable{pf:List (Addr×Obj)}{σ:St}{a kS f:Addr}{vs:List Value}{kz:List Int}{e1:Nat}{P:Fin->Shared->Prop}
abbrev lObj(xs:Array Value)(n:Nat):Obj:=seqObj "list" xs n
def a4z(xs:Array Value)(n:Nat):∀v,(lObj xs n).data≠.cell v:=λv z=>by cases z
def FpOk.re(f:FpOk X pl H b)(h:H' b=gV):FpOk X pl H' b:=(h,f.2)
def b4Z(I:Inv X (pf++[(a,lObj #[] e1,),(kS,lObj keys e,)]) σ H s)(fa:FpOk X pf H a)(fk:FpOk X (pf++[(a,lObj #[] e1,)]) H kS)(hk:hV keys.toList kz)(hlen:kz.length=vs.length)(hz:vs.length<=100000)
  (h:∀(s':Shared)(out:List Value)(n:Nat),KskOut kQ kz vs out->Inv X pf σ H s'->FpOk X pf H a->s'.heap.get? a=be (lObj #[] e1)->P (.done (.ret .none)) { s' with heap:=s'.heap.update a (Obj.mapSeq λ_=>out.toArray) }) :
  wpAny (model X.prog X.w) X.A.in1.in1 (ksk_end a kQ vs.toArray e1 (.ref kS) keys) P E s:=by
 let k:keys.size=vs.length:=by
  let R:=hk.length;rw[bf]at R
  lia
 let m:(keys.zip vs.toArray).size=vs.length:=by rw[Array.size_zip,k,bt,Nat.min_self]
 let v:=(I.pin (kS,lObj keys e,) (by simp)).1;let L:=(I.pin (a,lObj #[] e1,) (by simp)).1;let D:a≠kS:=fk.2.2.2.2.2 (a,lObj #[] e1,) (by simp);let g:∀st:SortSt,(arrOf st).Perm (keys.zip vs.toArray)->SortedTo (arrOf st) (arrOf st).size->ic st=gV->wpAny (model X.prog X.w) X.A.in1.in1 (ksk_tail a kQ e1 (.ref kS) st) P E s:=λst B N M=>by
  let r:(arrOf st).size=vs.length:=by rw[B.size_eq,m]
  unfold ksk_tail;dsimp only;show gE (iW v rfl ?_ (by rw[k,gU];lia) (bg _));show gE (wpAny_letGo ?_);let x:=Heap.SameBut.update s.heap kS (Obj.mapSeq λ_=>(#[]:Array Value));let J:Inv X (pf++[(a,lObj #[] e1,)]) σ H { s with heap:=s.heap.update kS (Obj.mapSeq λ_=>(#[]:Array Value)) }:=by
   obtain⟨t,z⟩:∃t,(s.heap.update kS (Obj.mapSeq λ_=>(#[]:Array Value))).get? kS=be (lObj #[] t):=(_,get?_update_seq v λ_=>#[]);show (Inv.repin ↑I fk (λc u G q=>(x.2 c G).trans q) z (a4z _ _)).unpinned
  let f:=(x.2 a D).trans L;show gE (jx f rfl ?_);show gE (iW f rfl ?_ (bg _) (by simp;rw[r,gU];lia));rw[M];simp;let p:=ksk_out (b:=kQ) hk B N
  let:=h { s with heap:=s.heap.update kS (Obj.mapSeq λ_=>(#[]:Array Value)) } _ 0 p J.unpinned fa f
  simp only[fN]at this;show gF this
 unfold ksk_end;dsimp only;simp only[cJ,if_false]
 by_cases h2:vs.toArray.size<2
 .rw[if_pos h2,if_pos h2];show gE (gF ?_);rw[StateT.run_pure];show gE (gF ?_);dsimp only;show g _ (du.refl _) ?_ rfl;ext i j S F;let C:=F;rw[m]at C;rw[bt]at h2
  let:i=j:=by lia
  subst this;show cg _
 .rw[if_neg h2,if_neg h2];rw[bt]at h2;rw[ksk_kind hk (by rw[k];lia)];show gE (gF ?_);show gE (gX (Tim.t_sortRuns
   (Q:=λ_ y=>(arrOf y).Perm (keys.zip vs.toArray)/\ic y=gV/\Tim.Srt Tim.kN (arrOf y).toList) (Tim.lt_ints (ksk_intKeys hk)) (du.refl _,rfl,rfl) rfl λy l o=>(l.pm,l.fl,o)) ?_ λ_ _ e=>e)
  ext⟨⟨⟩,y⟩ s' ⟨rfl,l,o,q3⟩;dsimp only;show g y l (Tim.srt_to q3 rfl) o
def b1X{Θ:Hp->Prop}(hΘ:Θ H)(I:Inv X (pf++[(a,lObj #[] e1,),(kS,lObj #[] 0,)]) σ H s)(fa:FpOk X pf H a)(fk:FpOk X (pf++[(a,lObj #[] e1,)]) H kS)(hlen:kz.length=vs.length)(hz:vs.length<=100000)
  (turn:∀(i:Nat)(v:Value)(k:Int),vs[i]?=be v->kz[i]?=be k->∀(H1:Hp)(s':Shared)(pl:List (Addr×Obj)),Θ H1->Inv X (pf++pl) σ H1 s'->wpAny (model X.prog X.w) X.A.in1.in1 (call (.ref f) [v]) (EP X (pf++pl) σ λy H'=>y=.int k/\Θ H') (λ_ _=>False) s')
  (h:∀(H1:Hp)(s':Shared)(out:List Value)(n:Nat),Θ H1->KskOut kQ kz vs out->Inv X pf σ H1 s'->FpOk X pf H1 a->s'.heap.get? a=be (lObj #[] e1)->P (.done (.ret .none)) { s' with heap:=s'.heap.update a (Obj.mapSeq λ_=>out.toArray) }) :
  wpAny (model X.prog X.w) X.A.in1.in1 (ksk_rest a (.ref f) kQ vs.toArray e1 (.ref kS)) P E s:=by
 show gE (iB ?_)
 first
  |rw[List.forIn_toArray]
  | (rw[<- d7];simp)
  |rw[<- d7]
 show gE (ksk_fold (λi g=>∃m b e,Θ m/\Inv X (pf++[_,(kS,lObj b e,)]) σ m g/\hV b.toList (kz.take i)) vs 0 s (H,#[],0,hΘ,I,↑hV.nil) ?step ?done)
 case step=>
  ext j x g D ⟨m,b,e,θ1,J,o⟩;simp only[cI]at o ⊢;let V:=(aM.mp D).1;obtain⟨k,r⟩:∃k,kz[j]?=be k:=(_,aP (by lia));let U:b.size<=vs.length:=by
   let T:=o.length;rw[bf,aY]at T
   lia
  show gE (iN (gX (turn j x k D r m g _ θ1 J) (λv l L=>?_) λ_ _ N=>N.elim));let(y,H',J2,G,rfl,θ2):=L;let(d,rfl):=G;let p:=(J2.pin (kS,lObj b e,) (by simp)).1;let Q:=Heap.SameBut.update l.heap kS (Obj.mapSeq (·.push (.int k d)));obtain⟨t,B⟩:∃t,(l.heap.update kS (Obj.mapSeq (·.push (.int k d)))).get? kS=be _:=(_,get?_update_seq p (·.push (.int k d)));let F:kz.take (j+1)=kz.take j++[k]:=by rw[cf,r];simp
  let R:(b.push (Value.int k d)).toList=b.toList++[Value.int k d]:=by simp
  show gE (iW p rfl ?_ (by rw[gU];lia) (aU (dH (Array.size_push ..)) (by rw[gU];lia)));show gF (rfl,H',b.push (.int k d),t,θ2,?_,by rw[R,F];show ksk_snoc o)
  let:=Inv.repin (t':=l.toks) ↑J2 (fk.re (J2.pin (kS,lObj b e,) (by simp)).2.1) (λc u M q=>(Q.2 c M).trans q) B (a4z _ _)
  o_head this
 case done=>
  ext g ⟨m,b,e,θ1,J,o⟩;let C:hV b.toList kz:=by grind
  let p:=(J.pin (kS,lObj b e,) (by simp)).1;show gE (km p rfl ?_);show b4Z J (fa.re (J.pin (a,lObj #[] e1,) (by simp)).2.1) (fk.re (J.pin (kS,lObj b e,) (by simp)).2.1) C hlen hz λg z n=>h m g z n θ1
end
def perm_lift{α β:Type}{g:α->β}:∀{l:List β}{m:List β},l.Perm m->∀{T:List α},m=T.map g->∃T':List α,T'.Perm T/\l=T'.map g:=by
 ext l m h
 induction h with
 |nil=>ext T e;show(T,.refl _,e)
 |cons x h ih=>
  ext T e;cases T with
  |nil=>cases e
  |cons a T=>
   injection e with e1 e2
   let(T',p,q):=ih e2;show(a::T',p.cons a,by rw[aR,<- q,e1])
 |swap x y l=>
  ext T e
  match T,e with
  |a::b::T,e=>
   injection e with e1 e2
   injection e2 with e2 e3
   show(b::a::T,.swap a b T,by rw[aR,aR,<- e1,<- e2,<- e3])
 |trans h1 h2 ih1 ih2=>
  ext T e;let(T2,d,c):=ih2 e;let(T1,i,f):=ih1 c;show(T1,i.trans d,f)
def SOut{α:Type}(kz:List Int)(xs os:List α):Prop:=∃ps:List (Int×α),ps.Perm (kz.zip xs)/\os=ps.map (·.2)/\ps.Pairwise λp q=>p.1<=q.1
theorem a4A{α β:Type}:∀{kz:List Int}{xs:List α}{us:List β},xs.length=us.length->kz.zip us=(kz.zip (xs.zip us)).map λt=>(t.1,t.2.2,)
 |[],_,_,_=>rfl
 |_::_,[],[],_=>rfl
 |_::kz,_::xs,_::us,h=>by simp[a4A ↑h]
theorem a4B{α β:Type}:∀{kz:List Int}{xs:List α}{us:List β},xs.length=us.length->kz.zip xs=(kz.zip (xs.zip us)).map λt=>(t.1,t.2.1,)
 |[],_,_,_=>rfl
 |_::_,[],[],_=>rfl
 |_::kz,_::xs,_::us,h=>by simp[a4B ↑h]
theorem a67:∀{T:List (Int×V×Value)},(∀t∈T,RelV t.2.1 t.2.2)->Vals (T.map λt=>t.2.1) (T.map λt=>t.2.2)
 |[],_=>.nil
 |t::T,h=>.cons (h t (.head _)) (a67 λu a=>h u (.tail _ a))
theorem a68:∀{xs:List V}{us:List Value},Vals xs us->∀p∈xs.zip us,RelV p.1 p.2
 |_,_,.nil,p,h=>by simp at h
 |_,_,.cons r t,p,h=>by
  let rfl||h:=aL.mp h
  .cbv
  .show a68 t p h
def b40(rv:Vals xs us)(k:KskOut kQ kz us out):∃os,SOut kz xs os/\Vals os out:=by
 let(j,i,g,c):=k;let(T,e,d):=perm_lift i (a4A rv.length);show(T.map λt=>t.2.1,(T.map λt=>(t.1,t.2.1,),?_,by rw[bQ];rfl,?_),?_)
 .rw[a4B rv.length];show e.map _
 .rw[d]at c;rw[ci]at c ⊢;show c.imp λ{a b} h=>↑h
 .rw[g,d,bQ];show a67 λt f=>a68 rv t.2 (cP (e.mem_iff.mp f)).2
section
variable{pf:List (Addr×Obj)}{σ:St}{l f:Addr}{xs:List V}{kz:List Int}{Q:Value->Shared->Prop}
def a76{Θ:Hp->Prop}(hΘ:Θ H)(I:Inv X pf σ H s)(hl:SqL X.K H l xs)(hlen:kz.length=xs.length)(hz:xs.length<=100000)
  (turn:∀(i:Nat)(x:V)(v:Value)(k:Int),xs[i]?=be x->RelV x v->kz[i]?=be k->∀(H1:Hp)(s':Shared)(pl:List (Addr×Obj)),Θ H1->Inv X (pf++pl) σ H1 s'->wpAny (model X.prog X.w) X.A.in1.in1 (call (.ref f) [v]) (EP X (pf++pl) σ λy H'=>y=.int k/\Θ H') (λ_ _=>False) s')
  (h:∀(H1:Hp)(s':Shared)(t:Addr)(os:List V),Θ H1->Inv X pf σ (upd H1 t (.lst os)) s'->H1 t=gV->SOut kz xs os->Q (.ref t) s'):wpAny (model X.prog X.w) X.A (call (.builtin "sorted") [.ref l] [(Str.ofString "key",.ref f,)]) Q E s:=by
 let(its,rv,pl,_):=I.list hl;let hle:its.length=xs.length:=rv.length.symm;show call_function_entry_kw kD kE kF (ksk_s1 _ _) ?_;unfold gN.«sorted»;show gE (m:=checkCount "sorted" 1 1 _) (gF ?_);show gE (collect_list pl.isList ?_ (by rw[gU];lia));show gE (jy ?_ (by rw[gU];lia));let hsz:((s.heap.push (seqObj "list" #[] 0)).update s.heap.objs.size (Obj.mapSeq (·++its.toArray))).objs.size=s.heap.objs.size+1:=by
  rw[Heap.size_update,jP]
 let k1:∀b o,s.heap.get? b=be o->((s.heap.push (seqObj "list" #[] 0)).update s.heap.objs.size (Obj.mapSeq (·++its.toArray))).get? b=be o:=λb o e=>by
  let hlt:=Heap.lt_size e;rw[Heap.get?_update_ne _ _ _ _ (aS hlt)];show Heap.get?_push_of_some _ e
 generalize (s.heap.push (seqObj "list" #[] 0)).update s.heap.objs.size (Obj.mapSeq (·++its.toArray))=g at k1 hsz ⊢;let ho:(g.push (seqObj "list" its.toArray 0)).get? g.objs.size=be (seqObj "list" its.toArray 0):=Heap.get?_push_size _ rfl;show gE (g6 (wpAny_call_entry_kw kG (_,ho,rfl) kH ?body (ksk_l1 _ _)))
 change wpAny (model X.prog X.w) X.A.in1.in1 (gN.«list.sort» ([.ref g.objs.size],[(Str.ofString "key",.ref f,)])) _ _ _
 rw[ksk_t1];unfold ksk_tree;show gE (km ho rfl ?_);show gE (iW ho rfl ?_ (by rw[bt,gU];lia) (bg _));obtain⟨e1,ho1⟩:∃e1,((g.push (seqObj "list" its.toArray 0)).update g.objs.size (Obj.mapSeq λ_=>(#[]:Array Value))).get? g.objs.size=be (seqObj "list" #[] e1):=(_,get?_update_seq ho λ_=>#[]);show gE (jx ho1 rfl ?_);let k2:∀b o,s.heap.get? b=be o->((g.push (seqObj "list" its.toArray 0)).update g.objs.size (Obj.mapSeq λ_=>(#[]:Array Value))).get? b=be o:=λb o e=>by
  let hlt:=Heap.lt_size (k1 b o e);rw[Heap.get?_update_ne _ _ _ _ (aS hlt)];show Heap.get?_push_of_some _ (k1 b o e)
 let hs2:((g.push (seqObj "list" its.toArray 0)).update g.objs.size (Obj.mapSeq λ_=>(#[]:Array Value))).objs.size=g.objs.size+1:=by rw[Heap.size_update,jP]
 generalize (g.push (seqObj "list" its.toArray 0)).update g.objs.size (Obj.mapSeq λ_=>(#[]:Array Value))=g2 at ho1 k2 hs2 ⊢;show gE (jh ?_ (by change its.length<=_;rw[gU];lia));show gE (jy ?_ (bg _));show g6 ?_;let hn:∀b,@LE.le Nat _ s.heap.objs.size b->FpOk X pf H b:=λb hb=>I.fpOk hb (I.hok.fresh hb);let hga:s.heap.objs.size<=g.objs.size:=by rw[hsz];show cF _
 let fa:FpOk X pf H g.objs.size:=hn _ hga;let hkS:(g2.push (seqObj "tuple" its.toArray 0)).objs.size=g.objs.size+2:=by rw[jP,hs2]
 let fk0:FpOk X pf H (g2.push (seqObj "tuple" its.toArray 0)).objs.size:=hn _ (by rw[hkS];show aU hga (fX _ _));let hne:g.objs.size≠(g2.push (seqObj "tuple" its.toArray 0)).objs.size:=by rw[hkS];show aS (Nat.lt_add_of_pos_right (by decide))
 let fk:FpOk X (pf++[(g.objs.size,lObj #[] e1,)]) H (g2.push (seqObj "tuple" its.toArray 0)).objs.size:=by
  let(f0,f1,f2,f3,f4,f5):=fk0;show(f0,f1,f2,f3,f4,λp hp=>?_);rw[<- bv]at hp;let hp||hp:=aJ.mp hp
  .show f5 p hp
  .rw[aK.mp hp];show hne
 let I3:Inv X (pf++[(g.objs.size,lObj #[] e1,),((g2.push (seqObj "tuple" its.toArray 0)).objs.size,lObj #[] 0,)]) σ H { s with heap:=(g2.push (seqObj "tuple" its.toArray 0)).push (seqObj "list" #[] 0) }:=by
  let J:Inv X pf σ H { s with heap:=(g2.push (seqObj "tuple" its.toArray 0)).push (seqObj "list" #[] 0) }:=I.kept (t':=s.toks) λb o e=>Heap.get?_push_of_some _ (Heap.get?_push_of_some _ (k2 b o e));show J.pins_of λp hp=>?_;let hp||hp:=aJ.mp hp
  .show J.pin p (bz _ hp)
  .let rfl||hp:=aL.mp hp
   .show(Heap.get?_push_of_some _ (Heap.get?_push_of_some _ ho1),fa.1,fa.2.1,fa.2.2.1,a4z _ _)
   .rw[aK.mp hp];show(Heap.get?_push_size _ rfl,fk0.1,fk0.2.1,fk0.2.2.1,a4z _ _)
 show b1X (vs:=its) hΘ I3 fa fk (by rw[hlen,hle]) (by lia) (λi v k hv hk H1 s' pl' θ J=>?_) λH1 s' out n θ ko J fa' ga=>(_,rfl,?_)
 .let(x,hx,rx):=rv.tog hv;show turn i x v k hx rx hk H1 s' pl' θ J
 .let(os,so,ro):=b40 rv ko;show gF (_,rfl,h H1 _ _ os θ ?_ fa'.1 so);let s1:=Heap.SameBut.update s'.heap g.objs.size (Obj.mapSeq λ_=>out.toArray);obtain⟨c2,hc2⟩:∃c2,(s'.heap.update g.objs.size (Obj.mapSeq λ_=>out.toArray)).get? g.objs.size=be (seqObj "list" out.toArray c2):=(_,get?_update_seq ga λ_=>out.toArray);let hol:os.length<=sizeLine:=by
   let(ps,p1,p2,_):=so;rw[p2,aH,p1.length_eq,List.length_zip,gU]
   lia
  show J.adopt (t':=s'.toks) fa' (λc u hc q=>(s1.2 c hc).trans q) (hol,out,c2,ro,hc2) (_,hc2)
end
def b72(P:Addr)(H H':Hp):Prop:=∀b u,H b=be u->b≠P->H' b=be u
def b73(ha:PE X a ta)(he:gJ [a] X.env=(kQ,eval a X.env,)::gJ [] X.env:=by rfl):PA X [a] (fun σ H Q=>ta σ H λv H1=>Q [v] H1):=by
 ext c b s σ H Q I h;show a4b ha a6G he c b s σ H Q I h
structure LamAt (X:Cx) (params:Arguments) (body:Expr) (scope:Scope) (P:Addr) (q x:Str) (N:List Str):Prop where
 sc:FnScope N [x] scope
 qn:q=X.env.qual++"<lambda>"
 df:kL params X.env=([],[],)
 cl:jt scope X.env=pure []
 cd:∃c,X.env.code=.ref c/\PySem.W.codeHdIn X.K c P=kP
 gP:gZ≠P
 bi:X.base.BuiltinsAt X.mg P
 bd:∀(pm ctv:Value)(c':Addr)(us:List Value),us.length=1->i8 (PySem.W.kla_fn "<lambda>" q params body scope [] pm (.ref c') ctv) (us,[])=pure ([x].zip us)
def b74(K:Fg)(P:Addr)(lp:Pos)(q:Str)(N:List Str)(t:TE)(Q:VK):VK:=λv H1=>∃p xs kz,∃Θ:Hp->Hp->Prop,v=.ref p/\SqL K H1 p xs/\xs.length<=100000/\Tab H1 P lp q/\kz.length=xs.length /\
 (∀H2,b72 P H1 H2->Tab H2 P lp q->Θ H2 H2)/\(∀H2 H',Θ H2 H'->∀b o u,H2 b=be (.frz o u)->H' b=be (.frz o u)) /\
 (∀(i:Nat) x k,xs[i]?=be x->kz[i]?=be k->∀H2 H',Θ H2 H'->t (start N [x]) H' λy H3=>y=.int k/\Θ H2 H3) /\
 ∀H2 H' tA os,Θ H2 H'->H' tA=gV->SOut kz xs os->Q (.ref tA) (upd H' tA (.lst os))
def b75(K:Fg)(P:Addr)(lp:Pos)(q:Str)(N:List Str)(ta t:TE):TE:=fun σ H Q=>ta σ H (b74 K P lp q N t Q)
def one1(Q:VK):List V->Hp->Prop:=λvs H=>match vs with |[v]=>Q v H |_=>False
def b41(h:one1 Q vs H):∃v,vs=[v]/\Q v H:=by
 match vs,h with
 |[v],h=>show(v,rfl,h)
def b1Y(hg:Gl X "sorted")(hm:X.mg "sorted"=gV)(hr:Room (k+3) X.A)(L:LamAt X params body scope kR q x N)(ha:PE X a ta)
  (ht:∀(f c':Addr)(A:Around)(outer:List Env)(s:Shared)(H:Hp),Room k (A.deeper (envOfC q scope s.heap.objs.size f (.ref c')))->PE (cxOf CX0 X.prog X.w X.K X.mg X.base N q scope f (.ref c') A outer s H E0).nox body t)
  (he:gJ [a] X.env=(kQ,eval a X.env,)::gJ [] X.env:=by rfl) :
  PE X (.Call (.Name "sorted" pN) [a] [(be "key",.Lambda params body scope lpos,kp)] pos) (b75 X.K kR lpos q N ta t):=by
 ext B s σ H Q I h;show ja (a25 I hg hm (show ib "sorted"=be (.builtin "sorted") by decide +kernel) ?_);show callWith_kw (thn (b73 ha he pos B s σ H (one1 (b74 X.K kR lpos q N t Q)) I h) λus s1 (vs,H1,W,r,q0)=>?_) (by rw[he];rfl) (by rw[he];rfl);let(v,rfl,q1):=b41 q0;let(u,rfl,ru):=a1K r;let(p,xs,kz,Θ,rfl,b,Y,y,C,θ0,θf,hk,hQ):=q1;cases ru;let(c,E,M):=L.cd;show kws_cons (b1W W y L.qn L.df L.cl E M L.gP L.bi λf d g pm S s2 oc I2 R T D=>?_);show kws_nil ?_;let G:SqL X.K g p xs:=by
  let(b||(o,b))||b:=b
  .show .inl (.inl (D _ _ b λz=>by let(ps,e,_):=y;rw[z,e]at b;cases b))
  .show .inl (.inr (o,D _ _ b λz=>by let(ps,e,_):=y;rw[z,e]at b;cases b))
  .show .inr b
 show a76 (θ0 g D T) I2 G C Y (λi x' v k' hx rx F j m pl θ J=>?_) λj m U os θ J hn so=>(.ref U,_,J.unpinned,rfl,hQ g j U os θ hn so);let V:=(J.hok d _ (θf _ _ θ _ _ _ R)).2.1;let n:=Room.in1 (Room.in1 hr);show i9 (iz (b4Y L.sc (L.bd pm S d) n J.env0.in1.in1 (.cons rx .nil) rfl (J.pin (f,_,) (by simp)).1 V (ht f d X.A.in1.in1 X.stack m j (n.deeper _)) (hk i x' k' hx F g j θ)) λr s'' l=>?_);cases r with
 |error e=>show l.elim
 |ok fl=>
  cases fl with
  |ret u=>show J.after l
  |next=>show l.elim
  |brk=>show l.elim
  |cont=>show l.elim
def a9X(P:Addr)(lp:Pos)(q:Str)(N:List Str)(te t:E3):E3:=fun σ G R=>te σ G λx G1=>∃p ws kz,x=.ref p/\G1 p=be (.lst ws)/\ws.length<=100000/\G1 P=be (.tab lp q)/\kz.length=ws.length /\
 (∀(i:Nat) w k,ws[i]?=be w->kz[i]?=be k->t (a0Z N [w]) G1 λy G2=>y=.int k/\G2=G1)/\∀tA os,G1 tA=gV->SOut kz ws os->R (.ref tA) (put G1 tA (.lst os))
theorem a69{K:Fg}:∀{T:List (Int×Z×V)},(∀t∈T,Rep K H t.2.1 t.2.2)->Reps K H (T.map λt=>t.2.1) (T.map λt=>t.2.2)
 |[],_=>.nil
 |t::T,h=>.cons (h t (.head _)) (a69 λu a=>h u (.tail _ a))
theorem a7a{K:Fg}:∀{ws:List Z}{vs:List V},Reps K H ws vs->∀p∈ws.zip vs,Rep K H p.1 p.2
 |[],vs,_,p,h=>by simp at h
 |w::ws,vs,r,p,h=>by
  let(v,c,rfl,a,b):=r;let rfl||h:=aL.mp h
  .cbv
  .show a7a b p h
def b1Z{K:Fg}{vs os:List V}(rs:Reps K H ws vs)(so:SOut kz vs os):∃zs,SOut kz ws zs/\Reps K H zs os:=by
 let(g,d,f,a):=so;let(T,c,b):=perm_lift d (a4A rs.length);show(T.map λt=>t.2.1,(T.map λt=>(t.1,t.2.1,),?_,by rw[bQ];rfl,?_),?_)
 .rw[a4B rs.length];show c.map _
 .rw[b]at a;rw[ci]at a ⊢;show a
 .rw[f,b,bQ];show a69 λt e=>a7a rs t.2 (cP (c.mem_iff.mp e)).2
def b42{K:Fg}(hP:H kR=be (.tbl ps))(k:b72 kR H H2):TK K H H2:=
 (λb a e=>k _ _ e λz=>(by simp_all),λb a e=>by
  let(o,e)||e:=e
  .show .inl (o,k _ _ e λz=>by rw[z,hP]at e;cases e)
  .show .inr e,λb o u e=>k _ _ e λz=>by rw[z,hP]at e;cases e)
def b43(hg:Gl X "sorted")(hm:X.mg "sorted"=gV)(hr:Room (k+3) X.A)(L:LamAt X params body scope kR q x N)(ha:QE X a te)
  (ht:∀(f c':Addr)(A:Around)(outer:List Env)(s:Shared)(H:Hp),Room k (A.deeper (envOfC q scope s.heap.objs.size f (.ref c')))->QE (cxOf CX0 X.prog X.w X.K X.mg X.base N q scope f (.ref c') A outer s H E0).nox body t)
  (he:gJ [a] X.env=(kQ,eval a X.env,)::gJ [] X.env:=by rfl) :
  QE X (.Call (.Name "sorted" pN) [a] [(be "key",.Lambda params body scope lpos,kp)] pos) (a9X kR lpos q N te t):=
 ⟨a0P (b1Y (t:=low X.K t) hg hm hr L ha.p (λf c' A n s H r=>(ht f c' A n s H r).p) he) fun τ H Q hx=>hx.un fun σ G R hs hg h up=>(σ,G,_,hs,hg,h,λw M v S hw D c t1=>by
  let(p,ws,kz,rfl,ew,hz,T,hl,hk,hR):=hw;let(vs,ev,l):=c p _ ew;let(ps,I,hO):=(c kR _ T);show(p,vs,kz,λj d=>RH X.K M d/\TK X.K S d/\∀b o u,j b=be _->d b=be _,D,SqL.of ev,by rw[<- l.length];show hz,(ps,I,hO),by rw[hl,l.length],λj Y T2=>?_,λj d θ=>θ.2.2,λi x' k' E F j d θ=>?_,λj d tA os θ m so=>?_)
  .let W:=b42 (K:=X.K) I Y;show(λb o e=>?_,W,λ_ _ _ z=>z)
   by_cases hb:b=kR
   .subst hb;rw[T]at e;cases e;show T2
   .let(u,z):=(c b o e).some;show (c b o e).stay W ((Y _ _ z hb).trans z.symm)
  .let(U,J,B):=l.tog E;show(a0Z N [U],M,_,.start (.cons (B.mono θ.2.1) .nil),θ.1,hk i U k' J F,λz G' v' H3 (e1,e2) r g V=>by
    subst e1 e2;show(r,g,θ.2.1.trans V,λb o u q=>V.frd _ _ _ (θ.2.2 _ _ _ q)))
  .let(zs,C,rz):=b1Z (l.mono θ.2.1) so;show up _ _ _ _ (hR tA zs (θ.1.out m) C) (by rw[a0q]) (θ.1.set (.new m) (a02 rz (.new m))) (t1.trans (θ.2.1.trans (.new m))))⟩
def b44 (h:te σ G λx G1=>∃p ws kz,x=.ref p/\G1 p=be (.lst ws)/\ws.length<=100000/\G1 kR=be (.tab lp q)/\kz.length=ws.length /\
 (∀(i:Nat) w k,ws[i]?=be w->kz[i]?=be k->t (a0Z N [w]) G1 λy G2=>y=.int k/\G2=G1)/\∀tA os,G1 tA=gV->SOut kz ws os->R (.ref tA) (put G1 tA (.lst os))):a9X kR lp q N te t σ G R:=h
def b45:∀{kvs:List (Key×V)}{vs:List (Key×Value)}{i:Nat}{p:Key×V},KV kvs vs->kvs[i]?=be p->∃q,vs[i]?=be q/\p.1=q.1/\RelV p.2 q.2:=by
 ext a
 induction a with
 |nil=>ext b i p h e;simp at e
 |cons p0 a ih=>
  ext b i p h e;cases h with
  |cons h1 h2=>
   cases i with
   |zero=>cases e;show(_,rfl,h1)
   |succ i=>show ih (i:=i) h2 ↑e
def a6g{us:List (Key×V)}{kvs:List (Key×Z)}{K:Fg}(hn:us.map (·.1)=kvs.map (·.1))(rr:Reps K H (kvs.map (·.2)) (us.map (·.2))){i:Nat}(e:kvs[i]?=be p):∃u,us[i]?=be u/\u.1=p.1/\Rep K H p.2 u.2:=by
 let(v,a,c):=rr.get (by rw[aO,e];rfl);rw[aO]at a;cases hu:us[i]? with
 |none=>rw[hu]at a;cases a
 |some u=>
  rw[hu]at a;cases a;let b:(us.map (·.1))[i]?=be u.1:=by rw[aO,hu];rfl
  rw[hn,aO,e]at b;show(u,rfl,(be.inj b).symm,c)
namespace Tim
open PySem.W
def RowIn.up(r:RowIn h v x)(k:∀b o,h.get? b=be o->h'.get? b=be o):RowIn h' v x:=by
 let(a,o,c,n,e,d,r):=r;show(a,o,c,n,e,k _ _ d,r)
end Tim
def EqW(P:gM)(w:World)(A:Around)(s:Shared)(v y:Value):Prop:=∀(E:Value->Shared->Prop)(Q:Bool->Shared->Prop),Q kP s->wpAny (model P w) A (eqBool v y) Q E s
def a5p(na:(a==g9)=kQ)(nb:(b==g9)=kQ)(da:s.heap.DictOf (a0j P w) a ka)(db:s.heap.DictOf (a0j P w) b kb)(hl:ka.length=kb.length)
  (hv:∀(i:Nat) k v,ka[i]?=be (k,v,)->∃y,iq kb k=be y/\EqW P w A s v y) (q:Q kP s):wpAny (model P w) A (gN.Dict.samePairs nm a b) Q E s:=by
 let(Y,c,p1,x,x1,m,S,N,z1):=da;let(o2,h,p2,r,X,l,I,B,z2):=db;let V:c.size=ka.length:=by rw[<- N.length,bf]
 let C:h.size=kb.length:=by rw[<- B.length,bf]
 let L:∀k,findBy (a0j P w).is h k=iq kb k:=λk=>by
  rw[<- B.find k];simp[findBy]
 unfold gN.Dict.samePairs gN.Dict.showsAll;simp only[na,nb];show gE (gF (gE (gF (gE (jk x m ?_)))));show gE (jk r l ?_);rw[if_neg (by grind)];show gE (kM x m (gE ?_));rw[Std.Legacy.Range.forIn_eq_forIn_range'];show kJ _ (λg u t=>t=s/\u=_/\∃i,i<=c.size/\g=List.range' i (c.size-i)) _ ?_ ?_ _ _ (rfl,rfl,0,bg _,by simp)
 .ext n g u t ⟨rfl,rfl,i,H,f⟩;let o:i<c.size:=by
   show Nat.lt_of_le_of_ne H λz=>?_;rw[z,Nat.sub_self]at f;cases f
  rw[show c.size-i=(c.size-(i+1))+1 by lia,fY]at f;cases f;show gE (jk x m ?_);rw[bG o];let U:n<ka.length:=by lia
  obtain⟨⟨k,v⟩,D⟩:∃p,ka[n]?=be p:=(_,aP U);let(R,T):=N.get? (by rw[b8];show bG o) D;let(k',F,W):=S c[n] (Array.getElem_mem o);cases (a0j P w).inj _ _ _ F R;let(y,d,G):=hv n k v D
  change wpAny _ _ (h9 [c[n].key,c[n].val] _ >>= _) _ _ _
  rw[W];show gE (g6 (gE (wpAny_dictFind_of R r l I ?_)));rw[<- L k,findBy_of_findIdx?]at d;cases hj:h.findIdx? λe=>(a0j P w).is k e.key with
  |none=>rw[hj]at d;cases d
  |some j=>
   let M:=(Array.findIdx?_eq_some_iff_getElem.mp hj).1;rw[hj]at d;let J:h[j].val=y:=by simpa[bG M]using d
   show gE (jk r l ?_);rw[bG M];rw[<- J,<- T]at G;show g6 (G _ _ ?_);show gE (kM x m ?_);rw[if_neg (by simp)];show gF (rfl,rfl,n+1,o,rfl)
 .ext u t ⟨rfl,rfl,i,H,f⟩;show gF q
def b46{a b:Addr}{ka kb:List (Key×Value)}{Q:Value->Shared->Prop}(na:(a==g9)=kQ)(nb:(b==g9)=kQ)(da:s.heap.DictOf (a0j P w) a ka)(db:s.heap.DictOf (a0j P w) b kb)(hu:A.units<cLine)(hl:ka.length=kb.length)
  (hv:∀(i:Nat) k v,ka[i]?=be (k,v,)->∃y,iq kb k=be y/\EqW P w A.in1 s v y) (q:Q (.bool kQ) s):wpAny (model P w) A (gO .NotEq (.ref a) (.ref b)) Q E s:=by
 show wpAny_richCompare_same_room (op:=.NotEq) da.typeIs db.typeIs PySem.F.slot_dict_ne (ii PySem.F.slot_dict_ne da.typeIs PySem.F.entry_dict_ne ?_ (PySem.F.args_dict_ne_2 _ _)) hu
 change wpAny _ _ (gN.Dict.dictSlotArgs "__ne__" ([.ref a,.ref b],[]) >>= _) _ _ s
 show gE ?_;unfold gN.Dict.dictSlotArgs;show gE (kK da.typeIs (gF ?_));show gE (iY (T:="dict") db.typeIs PySem.F.sub_dict_dict ?_);simp only[fV,cJ,if_false];show gE (gF (gE (gF (gE (a5p na nb da db hl hv ?_)))));show gF (_,rfl,(λx=>nomatch x),q)
def a77:CallR X (.type "dict") (λxs H Q=>∃a kvs,xs=[.ref a]/\Rd H a (.dK kvs)/\∀l,H l=gV->Q (.ref l) (upd H l (.dK kvs))):=by
 ext pins s σ H xs us Q I r h;let(a,kvs,rfl,e,q):=h;let(u,rfl,rx):=a1K r;cases rx;let(hz,hm,vs,rel,hd):=a7M I.hok e;show kt_call_dict hm hd (by rw[<- rel.length];show hz) λh' dd sb=>?_;show(.ref s.heap.objs.size,_,I.laid (a:=s.heap.objs.size) (o:=.dK kvs) (t':=s.toks) (λb o e=>?_) (aI _) (a6J hz ?_ rel dd),rfl,q _ (I.hok.fresh (aI _)))
 .rw[sb.2 b (aS (Heap.lt_size e))];show Heap.get?_push_of_some _ e
 .show (a4j (P:=X.prog) (w:=X.w) (H:=λ_=>gV) s.heap I.big).2.1
def b47:MtR X "dict.pop" (λx vs H Q=>∃a kvs k v,x=.ref a/\vs=[kV k]/\H a=be (.dK kvs)/\valV kvs k=be v/\Q v (upd H a (.dK (a4f kvs k)))):=by
 intro pins s σ H x vs v us Q I rx rv (a,kvs,k,v',ex,ev,e,hv,q);subst ex ev;cases rx;let(u,rfl,ru):=a1K rv;show b9b I e ru hv (.inl rfl) λw' s' I' rw'=>(v',_,I',rw',q)
def DEq1(H:Hp)(x y:V):Prop:=∃d,DV H d x/\DV H d y/\SeqAt.shaped d=kP/\PyData.eqv d d=kP
def a9Y{K:Fg}(hg:RH K G H)(e:G p=be (.dK kvs)\/G p=be (.dF kvs)):∃us,Rd H p (.dK us)/\us.map (·.1)=kvs.map (·.1)/\Reps K H (kvs.map (·.2)) (us.map (·.2)):=by
 let e||e:=e
 .let(a,d,b,c):=hg _ _ e;show(a,.inl d,b,c)
 .let(f,a,d,b,c):=hg _ _ e;show(a,.inr (f,d),b,c)
def b3a:List Z->Hq->K3->Prop:=λxs G R=>match xs with
 |[.ref p]=>∃kvs,(G p=be (.dK kvs)\/G p=be (.dF kvs))/\∀t,G t=gV->R (.ref t) (put G t (.dK kvs))
 |_=>False
def b48:a1X X (.type "dict") b3a:=a1w a77 λxs H Q hx=>hx.un λws G R rs hg h up=>by
 match ws,h with
 |[.ref p],h=>
  let(v,rfl,r):=rs.one;rw[a0q]at r;let(kvs,e,h):=h;let(us,e',hn,rr):=a9Y hg e;show(p,us,by rw[r],e',λt ht=>up _ _ _ _ (h t (hg.out ht)) (by rw[a0q]) (hg.set (o:=.dK kvs) (.new ht) (us,a0f,hn,rr.mono (.new ht))) (.new ht))
def b49{p:Addr}{kvs:List (Key×Z)}{G:Hq}{R:K3}(e:G p=be (.dK kvs)\/G p=be (.dF kvs))(h:∀t,G t=gV->R (.ref t) (put G t (.dK kvs))):b3a [.ref p] G R:=(kvs,e,h)
noncomputable def a3l(kvs:List (Key×Z))(k:Key):List (Key×Z):=kvs.filter λkv=>decide (kv.1≠k)
def b76:Z->List Z->Hq->K3->Prop:=λx xs G R=>match x,xs with
 |.ref p,[y]=>∃kvs k z,G p=be (.dK kvs)/\keyZ y=be k/\valZ kvs k=be z/\R z (put G p (.dK (a3l kvs k)))
 |_,_=>False
def b10{K:Fg}{H:Hp}{k:Key}:∀{us:List (Key×V)}{kvs:List (Key×Z)},us.map (·.1)=kvs.map (·.1)->Reps K H (kvs.map (·.2)) (us.map (·.2))->(a4f us k).map (·.1)=(a3l kvs k).map (·.1)/\Reps K H ((a3l kvs k).map (·.2)) ((a4f us k).map (·.2)):=by
 ext us
 induction us with
 |nil=>
  ext kvs h _;cases kvs with
  |nil=>show(rfl,.nil)
  |cons _ _=>cases h
 |cons u us ih=>
  ext kvs h r;cases kvs with
  |nil=>cases h
  |cons p kvs=>
   rw[aR,aR]at h r;injection h with h1 h2
   rw[a0T]at r;let(v,r',e,ra,rb):=r;injection e with e1 e2
   subst e1 e2;let(i1,i2):=ih h2 rb;unfold a4f a3l
   by_cases c:u.1=k
   .rw[eM ↑c,eM (by rw[<- h1];o_head c)];show(i1,i2)
   .rw[eN ↑c,eN (by rw[<- h1];o_head c)];show(by rw[aR,aR,h1];show congrArg _ i1,.cons ra i2)
def b77:MtQ X "dict.pop" b76:=a5Z b47 λx xs H Q hx=>hx.un λw ws G R rw' rs hg h up=>by
 match w,ws,h with
 |.ref p,[y],h=>
  rw[a0q]at rw';let(v,rfl,r1):=rs.one;let(kvs,k,z,e,hk,hz,h):=h;let(us,e',hn,rr):=hg _ _ e;let(u',u1,u2):=(a0M hn rr).2 z hz;let tk:TK X.K H (L2.upd H p (.dK (a4f us k))):=.dK e';let(d1,d2):=b10 (k:=k) hn rr;show(p,us,k,u',rw',by rw[a1D hk r1],e',u1,up _ _ _ _ h (u2.mono tk) (hg.set (o:=.dK (a3l kvs k)) tk (_,a0f,d1,d2.mono tk)) tk)
def b78{p:Addr}{kvs:List (Key×Z)}{k:Key}{y z:Z}{G:Hq}{R:K3}(e:G p=be (.dK kvs))(hk:keyZ y=be k)(hz:valZ kvs k=be z)(h:R z (put G p (.dK (a3l kvs k)))):b76 (.ref p) [y] G R:=(kvs,k,z,e,hk,hz,h)
def LEq(G:Hq)(x y:Z):Prop:=∃p q ws,x=.ref p/\y=.ref q/\G p=be (.lst ws)/\G q=be (.lst ws)/\ws.all (flat 8)=kP
abbrev NsG(K:Fg)(x:Str)(v:Option Value):Prop:=PySem.W.nsIn K gZ x=be v
def Br(K:Fg)(mg:Str->Option Value):Prop:=∀x v,NsG K x v->mg x=v
def c0j{K:Fg}(X:K.In h)(G:h.Ns gZ mg):Br K mg:=λ_ v e=>match v,e with
 |some _,e=>PySem.W.mg_of X G e
 |none,e=>PySem.W.mg_none_of X G e
def FX(K:Fg)(x:Str)(st:Stmt):Prop:=∃f d,NsG K x (be (.ref f))/\Fun K x x st f d
def MX(K:Fg)(C:Addr)(m q:Str)(st:Stmt):Prop:=∃f d,Meth K C m f/\Fun K m q st f d
def AllF(K:Fg)(tp:Nat->Stmt)(l:List (Str×Nat)):Prop:=∀(i:Nat)(r:Str×Nat),l[i]?=be r->FX K r.1 (tp r.2)
def AllM(K:Fg)(tp:Nat->Stmt)(C:Addr)(l:List (Str×Str×Nat×Nat)):Prop:=∀(i:Nat)(r:Str×Str×Nat×Nat),l[i]?=be r->MX K C r.1 r.2.1 (a4e (tp r.2.2.1) r.2.2.2)
def AllB(K:Fg)(l:List Str):Prop:=∀(i:Nat) x,l[i]?=be x->NsG K x gV
def AllN(K:Fg)(C:Addr)(l:List Str):Prop:=∀(i:Nat) x,l[i]?=be x->NoAttr K C x
section
variable{K:Fg}{tp:Nat->Stmt}{x q:Str}{n j:Nat}{f C:Addr}{oc:Value}{od an:Option Addr}{osl:Array (Option Value)}{kV doc pm cdv ct:Value}
def af0:AllF K tp []:=λ_ _ h=>nomatch h
def af1(a:PySem.W.nsIn K gZ x=be (be (.ref f)))(e:K.lookup f=be (oc,od,.func (PySem.W.fnOf x x (a1L (tp n)) (a0K (tp n)) (a0h (tp n)) .none kV doc pm an cdv ct),osl))
  (c:PySem.W.codeIn K cdv x=kP) (k:PySem.W.keepIn K (.ref f)=kP) (t:AllF K tp l):AllF K tp ((x,n,)::l):=λi r h=>by
 cases i with
 |zero=>cases h;show(f,_,a,b2N e c k)
 |succ i=>show t i r h
def ab0:AllB K []:=λ_ _ h=>nomatch h
def ab1(a:PySem.W.nsIn K gZ x=be gV)(t:AllB K l):AllB K (x::l):=λi y h=>by
 cases i with
 |zero=>cases h;show a
 |succ i=>show t i y h
def an0:AllN K C []:=λ_ _ h=>nomatch h
def an1(a:PySem.W.findIn K (.ref C) x=be gV)(t:AllN K C l):AllN K C (x::l):=λi y h=>by
 cases i with
 |zero=>cases h;show a
 |succ i=>show t i y h
def am0:AllM K tp C []:=λ_ _ h=>nomatch h
def am1(a:PySem.W.findIn K (.ref C) m=be (be (.ref f)))(g:PySem.W.isFn K (.ref f)=kP)
  (e:K.lookup f=be (oc,od,.func (PySem.W.fnOf m q (a1L (a4e (tp n) j)) (a0K (a4e (tp n) j)) (a0h (a4e (tp n) j)) .none kV doc pm an cdv ct),osl))
  (c:PySem.W.codeIn K cdv q=kP) (k:PySem.W.keepIn K (.ref f)=kP) (t:AllM K tp C l):AllM K tp C ((m,q,n,j,)::l):=λi r h=>by
 cases i with
 |zero=>cases h;show(f,_,(a,g,k),b2N e c k)
 |succ i=>show t i r h
end
section
variable{K:Fg}{mg:Str->Option Value}{base:Heap}{x q:Str}{st:Stmt}{f C:Addr}{d:hZ}{N:List Str}{k n:Nat}
def Fd(P:gM)(w:World)(K:Fg)(mg:Str->Option Value)(base:Heap)(CX:CXT)(k:Nat)(f:Addr)(s:Sp):Prop:=∃d ps,FnOk P w K mg base CX k f d ps s/\Binds K d ps []
structure Cal (P:gM) (w:World) (K:Fg) (mg:Str->Option Value) (base:Heap) (CX:CXT) (k:Nat) (x:Str) (s:Sp):Prop where
 ex:∃f,Fd P w K mg base CX k f s/\mg x=be (.ref f)/\PySem.W.keepIn K (.ref f)=kP
def Mal(P:gM)(w:World)(K:Fg)(mg:Str->Option Value)(base:Heap)(CX:CXT)(k:Nat)(C:Addr)(x:Str)(s:Sp):Prop:=∃f,Fd P w K mg base CX k f s/\Meth K C x f
abbrev Bd0(P:gM)(w:World)(K:Fg)(mg:Str->Option Value)(base:Heap)(N:List Str)(q:Str)(st:Stmt)(k:Nat)(sp:P3):Prop:=∀(f:Addr)(cdv:Value)(A:Around)(outer:List Env)(s:Shared)(H:Hp)(E:XK)(ws:List Z)(G:Hq)(R:K3),Room k (A.deeper (envOfC q (a0h st) s.heap.objs.size f cdv))->N.Nodup->sp ws G R ->
 ∃t,QSs (cxOf CX0 P w K mg base N q (a0h st) f cdv A outer s H E).nox (a0K st) t/\t (λ_ G'=>R .non G') R (λ_ _=>False) (λ_ _=>False) (a0Z N ws) G
abbrev BdX(P:gM)(w:World)(K:Fg)(mg:Str->Option Value)(base:Heap)(N:List Str)(q:Str)(st:Stmt)(k:Nat)(sp:PX3):Prop:=∀(f:Addr)(cdv:Value)(A:Around)(outer:List Env)(s:Shared)(H:Hp)(E:XK)(ws:List Z)(G:Hq)(R:K3)(EE:Addr->Hq->Prop),Room k (A.deeper (envOfC q (a0h st) s.heap.objs.size f cdv))->N.Nodup->sp ws G R EE->UpX K H EE E ->
 ∃t,QSs (cxOf (CXx P w) P w K mg base N q (a0h st) f cdv A outer s H E) (a0K st) t/\t (λ_ G'=>R .non G') R (λ_ _=>False) (λ_ _=>False) (a0Z N ws) G
abbrev Pl(x q:Str)(st:Stmt)(ps:List Str):Prop:=∀(kV doc pm:Value)(an:Option Addr)(cdv ct:Value)(us:List Value),us.length=ps.length->i8 (PySem.W.fnOf x q (a1L st) (a0K st) (a0h st) .none kV doc pm an cdv ct) (us,[])=pure (ps.zip us)
def fnd(F:Fun K x q st f d)(b:Bd0 P w K mg base N q st k sp)(S:FnScope N (N.take n) (a0h st))(len:∀ws G R,sp ws G R->ws.length=(N.take n).length):FnOk P w K mg base CX0 (k+1) f d (N.take n) (lowP K sp):=
 fn3 F S len λc A a s H E e G R g h=>b f c A a s H E e G R g S.nd h
def fnc(n:Nat)(B:Br K mg)(F:FX K x st)(b:Bd0 P w K mg base N x st k sp)(len:∀ws G R,sp ws G R->ws.length=(N.take n).length:=by ext ws G R h;repeat' first | (let(rfl,_):=h;rfl) | (cases h<;>rename_i h))(S:FnScope N (N.take n) (a0h st):=by show(rfl,rfl,rfl,by decide +kernel,rfl,by decide +kernel,by decide +kernel))(pl:Pl x x st (N.take n):=by ext _ _ _ _ _ _;(repeat show lnS λ_=>?_);show ln0 rfl):Cal P w K mg base CX0 (k+1) x (lowP K sp):=by
 let(f,d,e,F):=F;show⟨(f,(d,_,fnd F b S len,F.binds pl),B _ _ e,F.kp)⟩
def fnm(n:Nat)(F:MX K C x q st)(b:Bd0 P w K mg base N q st k sp)(len:∀ws G R,sp ws G R->ws.length=(N.take n).length:=by ext ws G R h;repeat' first | (let(rfl,_):=h;rfl) | (cases h<;>rename_i h))(S:FnScope N (N.take n) (a0h st):=by show(rfl,rfl,rfl,by decide +kernel,rfl,by decide +kernel,by decide +kernel))(pl:Pl x q st (N.take n):=by ext _ _ _ _ _ _;(repeat show lnS λ_=>?_);show ln0 rfl):Mal P w K mg base CX0 (k+1) C x (lowP K sp):=by
 let(f,d,e,F):=F;show(f,(d,_,fnd F b S len,F.binds pl),e)
def fndX(F:Fun K x q st f d)(S:FnScope N (N.take n) (a0h st))(len:∀ws G R EE,sp ws G R EE->ws.length=(N.take n).length)(b:BdX P w K mg base N q st k sp):FnOk P w K mg base (CXx P w) (k+1) f d (N.take n) (a4x K sp):=
 fn3x F S len λc A a s H E e G R g i h j=>b f c A a s H E e G R g i S.nd h j
def fncX{sp:PX3}(n:Nat)(B:Br K mg)(F:FX K x st)(b:BdX P w K mg base N x st k sp)(len:∀ws G R EE,sp ws G R EE->ws.length=(N.take n).length:=by ext ws G R EE h;repeat' first | (let(rfl,_):=h;rfl) | (cases h<;>rename_i h))(S:FnScope N (N.take n) (a0h st):=by show(rfl,rfl,rfl,by decide +kernel,rfl,by decide +kernel,by decide +kernel))(pl:Pl x x st (N.take n):=by ext _ _ _ _ _ _;(repeat show lnS λ_=>?_);show ln0 rfl):Cal P w K mg base (CXx P w) (k+1) x (a4x K sp):=by
 let(f,d,e,F):=F;show⟨(f,(d,_,fndX F S len b,F.binds pl),B _ _ e,F.kp)⟩
end
noncomputable def nst:Expr->Bool
 |.Starred _ _=>kQ
 |_=>kP
def se_(h:nst e=kP):gJ (e::es) env=(kQ,eval e env,)::gJ es env:=by cases e<;>first |rfl |cases h
def hp_:∀{es:List Expr},es.all nst=kP->(backTo pos (gJ es env)).any (·.1)=kQ:=by ext z0;induction z0 with
 |nil=>ext _;show b2S
 |cons e es I0=>
  ext h;rw[bu,bO]at h;show b3Y (se_ h.1) (I0 h.2)
def s1_(h:(e::es).all nst=kP):gJ (e::es) env=(kQ,eval e env,)::gJ es env:=se_ (by simp_all)
def h1_(h:(e::es).all nst=kP):(backTo pos (gJ es env)).any (·.1)=kQ:=hp_ (by rw[bu,bO]at h;show h.2)
section
variable{e o:Expr}{t:A3}{te:E3}{x:Str}{k j:Nat}{C:Addr}{p:Pos}{sp:P3}{sq:PX3}{E:XK}{EE:Addr->Hq->Prop}{pl:Sem Bool}
def q_c(c:Cal X.prog X.w X.K X.mg X.base CX0 k x (lowP X.K sp))(hr:Room j X.A)(ha:QA X (e::es) t)(hn:(e::es).all nst=kP:=by rfl)(hk:k<=j:=by decide)(hg:Gl X x:=by rfl)
  (hdb:(x==("__debug__":Str))=kQ:=by decide):QE X (.Call (.Name x p) (e::es) [] pos) (b34 sp t):=by
 let(f,(d,h,F,b),g,a):=c.ex;show b6U F (hr.mono hk) hg g a b ha hdb (s1_ hn) (h1_ hn)
def q_cX(hp:a1s (CXx X.prog X.w) X E)(hU:UpN X.K EE E)(c:Cal X.prog X.w X.K X.mg X.base (CXx X.prog X.w) k x (a4x X.K sq))(hr:Room j X.A)(ha:QA X (e::es) t)(hn:(e::es).all nst=kP:=by rfl)(hk:k<=j:=by decide)(hg:Gl X x:=by rfl)
  (hdb:(x==("__debug__":Str))=kQ:=by decide):QE X (.Call (.Name x p) (e::es) [] pos) (a9Q sq EE t):=by
 let(f,(d,h,F,b),a,g):=c.ex;show b4L hp hU F (hr.mono hk) hg a g b ha hdb (s1_ hn) (h1_ hn)
def q_m(ho:QE X o to)(c:Cls X.K C)(M:Mal X.prog X.w X.K X.mg X.base CX0 k C m (lowP X.K sp))(hr:Room j X.A)(ha:QA X (e::es) t)(hn:(e::es).all nst=kP:=by rfl)(hk:k<=j:=by decide)
  (ht:eval (.Call (.Attribute o m apos) (e::es) [] pos) X.env=(do
   let ov <- eval o X.env
   iF apos.atName
   let (f,first,) <- h9 [ov] (jr ov m pl)
   j9 pos f first (backTo pos (gJ (e::es) X.env)) (jc pos (jd [] X.env))):=by rfl):QE X (.Call (.Attribute o m apos) (e::es) [] pos) (b1N C m sp to t):=by
 let(f,(d,g,F,a),b):=M;show b7O ho c b F (hr.mono hk) a ha (s1_ hn) (h1_ hn) ht
def c0k(mk:PySem.W.makesIn X.K C=kP/\PySem.W.keepIn X.K (.ref C)=kP)(M:Mal X.prog X.w X.K X.mg X.base CX0 k C "__init__" (lowP X.K sp))(hr:Room j X.A)(hm:X.mg x=be (.ref C))(hk:k+1<=j:=by decide)(hg:Gl X x:=by rfl)
  (hdb:(x==("__debug__":Str))=kQ:=by decide):QE X (.Call (.Name x p) [] [] pos) (b4y C sp uNil):=by
 let(f,(d,b,F,a),h):=M;show b4z (mk.1,h.at_,h.fn,mk.2) F (hr.mono hk) hg hm a hdb
def q_k(ha:QE X e te)(hr:QA X es t)(h:nst e=kP:=by rfl):QA X (e::es) (b30 te t):=b6S ha hr (se_ h)
def q_B{id:String}(hc:a1X X (.builtin id) r)(hm:X.mg x=gV)(ha:QA X (e::es) t)(hv:ib x=be (.builtin id):=by rfl)(hn:(e::es).all nst=kP:=by rfl)(hg:Gl X x:=by rfl)(h1:x≠"__name__":=by decide)(h2:(x==("__debug__":Str))=kQ:=by decide) :
  QE X (.Call (.Name x p) (e::es) [] pos) (uCB r t):=b32 hc hg hm hv ha h1 h2 (s1_ hn) (h1_ hn)
def q_Y{id:String}(hc:a1X X (.type id) r)(hm:X.mg x=gV)(ha:QA X (e::es) t)(hv:ib x=be (.type id):=by rfl)(hn:(e::es).all nst=kP:=by rfl)(hg:Gl X x:=by rfl)(h1:x≠"__name__":=by decide)(h2:(x==("__debug__":Str))=kQ:=by decide) :
  QE X (.Call (.Name x p) (e::es) [] pos) (uCB r t):=b1f hc hg hm hv ha h1 h2 (s1_ hn) (h1_ hn)
structure Nm (X:Cx) (x:Str) (i:Nat):Prop where
 nd:X.N.Nodup
 ix:X.N[i]?=be x
 lc:Loc X.env.scope x
 fn:X.fn x=kP\/X.env.scope.names.lookup x=be .local
def nmI(i:Nat)(nd:X.N.Nodup)(ix:X.N[i]?=be x:=by rfl)(lc:Loc X.env.scope x:=by first |show cB rfl |show bW rfl)(fn:X.fn x=kP\/X.env.scope.names.lookup x=be .local:=by first |show .inl rfl |show .inr rfl |assumption):Nm X x i:=(nd,ix,lc,fn)
def z_st(h:Nm X x i)(he:QE X e te)(hs:ik e (be (.Name x pos')) pos.line X.env=pure kQ:=by rfl):QS X (.Assign [.Name x pos'] e pos) (uAsg te (.nm i)):=b9o h.nd h.ix h.lc he hs h.fn
def z_au(h:Nm X x i)(he:QE X e te)(ho:OpQ X (iG op) r):QS X (.AugAssign (.Name x pos') op e pos) (uAug i te r):=b63 h.nd h.ix h.lc he ho h.fn
def p_nm(h:Nm X x i):QP X (.Name x pos) (.nm i):=a8s h.nd h.ix h.lc h.fn
def QPg(X:Cx)(es:List Expr)(is:List Nat):Prop:=PGs X es (gsOf is)/\(iy es X.env).length=is.length/\(iy es X.env).findIdx? (·.1)=gV
def c0l:QPg X [] []:=(b3z,rfl,rfl)
def b79(h:Nm X x i)(t:QPg X es is):QPg X (.Name x pos::es) (i::is):=(b0J (a8s h.nd h.ix h.lc h.fn) t.1,congrArg Nat.succ t.2.1,by
 change fO _ (_::iy es X.env)=gV
 rw[List.findIdx?_cons,if_neg nofun,t.2.2];rfl)
def p_tp(hc:X.calm=kP)(h:QPg X es is):QP X (.Tuple es c pos) (.tp is):=b53 hc h.1 h.2.1 h.2.2
section
variable{CX:CXT}{K:Fg}{mg:Str->Option Value}{base:Heap}{N:List Str}{q:Str}{so:Scope}{f:Addr}{cd:Value}{outer:List Env}{E:XK}
def cxN:(cxOf CX P w K mg base N q so f cd A outer s H E).nox.N=N:=rfl
def cxS:(cxOf CX P w K mg base N q so f cd A outer s H E).nox.env.scope=so:=rfl
def cxN':(cxOf CX P w K mg base N q so f cd A outer s H E).N=N:=rfl
def cxS':(cxOf CX P w K mg base N q so f cd A outer s H E).env.scope=so:=rfl
end
def cxcN:(cxC X EW N' sc D s H fp).N=N':=rfl
section
variable{Nj:List Str}{so sc:Scope}{wi:I3}{tg iter elt:Expr}{ifs:List Expr}{tt:T3}{i:Nat}
def q_l(N':List Str)(cap:List (Option Nat))(pt:Pt)(hi:QI X tg iter wi:=by ac_rfl)(ht:∀C s H fp,QIfs (cxC X E0 N' sc C s H fp) ifs tt:=by walk_at "r4")(he:∀C s H fp,QE (cxC X E0 N' sc C s H fp) elt te:=by walk_at "r4")(hg:∀C s H fp,N'.Nodup->QP (cxC X E0 N' sc C s H fp) tg pt:=by walk_at "r5")
  (hNN:X.N=Nj:=by first |show cxN |show cxN' |show cxcN) (hso:X.env.scope=so:=by first |show cxS |show cxS' |rfl) (ck:capB Nj so sc N' cap=kP:=by first |decide +kernel |rfl) (hp:(pt.slots.all λj=>decide (cap[j]?=be gV))=kP:=by rfl)
  (nd:N'.Nodup:=by decide +kernel) (hc:X.calm=kP:=by rfl) (hs:∀x,iH iter X.env x=pure x:=by ext _;rfl):QE X (.ListComp elt [(tg,iter,ifs,0)] sc pos) (uLC wi cap pt tt te):=q_lc hc hNN hso ck hp hi (λC s H a=>hg C s H a nd) ht he hs
def z_l(h:Nm X x i)(N':List Str)(cap:List (Option Nat))(pt:Pt)(hi:QI X tg iter wi:=by ac_rfl)(ht:∀C s H fp,QIfs (cxC X E0 N' sc C s H fp) ifs tt:=by walk_at "r4")(he:∀C s H fp,QE (cxC X E0 N' sc C s H fp) elt te:=by walk_at "r4")(hg:∀C s H fp,N'.Nodup->QP (cxC X E0 N' sc C s H fp) tg pt:=by walk_at "r5")
  (hNN:X.N=Nj:=by first |show cxN |show cxN' |show cxcN) (hso:X.env.scope=so:=by first |show cxS |show cxS' |rfl) (ck:capB Nj so sc N' cap=kP:=by first |decide +kernel |rfl) (hp:(pt.slots.all λj=>decide (cap[j]?=be gV))=kP:=by rfl)
  (nd:N'.Nodup:=by decide +kernel) (hl:X.env.scope.names.lookup x=be .local:=by rfl) (hsw:ik (.ListComp elt [(tg,iter,ifs,0)] sc pos) (be (.Name x pos')) spos.line X.env=pure kP:=by rfl) (hc:X.calm=kP:=by rfl) (hs:∀x,iH iter X.env x=pure x:=by ext _;rfl) :
  QS X (.Assign [.Name x pos'] (.ListComp elt [(tg,iter,ifs,0)] sc pos) spos) (uAsg (uLC wi cap pt tt te) (.nm i)):=b4b h.nd h.ix hl hc hNN hso ck hp hi (λC s H a=>hg C s H a nd) ht he hsw hs
end
end
def At(N:List Str)(i:Nat)(x:Str):Prop:=N[i]?=be x
def at_0:At (x::l) 0 x:=rfl
def at_1:At (c0::x::l) 1 x:=rfl
def at_2:At (c0::c1::x::l) 2 x:=rfl
def at_3:At (c0::c1::c2::x::l) 3 x:=rfl
def at_4:At (c0::c1::c2::c3::x::l) 4 x:=rfl
def at_5:At (c0::c1::c2::c3::c4::x::l) 5 x:=rfl
def at_6:At (c0::c1::c2::c3::c4::c5::x::l) 6 x:=rfl
def at_7:At (c0::c1::c2::c3::c4::c5::c6::x::l) 7 x:=rfl
def at_8:At (c0::c1::c2::c3::c4::c5::c6::c7::x::l) 8 x:=rfl
def at_9:At (c0::c1::c2::c3::c4::c5::c6::c7::c8::x::l) 9 x:=rfl
def b8a:At (c0::c1::c2::c3::c4::c5::c6::c7::c8::c9::x::l) 10 x:=rfl
def b8b:At (c0::c1::c2::c3::c4::c5::c6::c7::c8::c9::c10::x::l) 11 x:=rfl
def b8c:At (c0::c1::c2::c3::c4::c5::c6::c7::c8::c9::c10::c11::x::l) 12 x:=rfl
def b8d:At (c0::c1::c2::c3::c4::c5::c6::c7::c8::c9::c10::c11::c12::x::l) 13 x:=rfl
section
variable{x:Str}
def qv(i:Nat)(hN:X.N[i]?=be x:=by rfl)(hv:Vis X.env.scope x:=by first |show cB rfl |show bW (cB rfl) |show bW (bW rfl))(hd:(x==("__debug__":Str))=kQ:=by decide)
  (hcd:(x==("__classdict__":Str))=kQ:=by decide):QE X (.Name x pos) (uVar i):=b6I (a8q hN hv hd hcd)
def qw(h:X.N=N)(a:At N i x)(hv:Vis X.env.scope x:=by first |show cB rfl |show bW (cB rfl) |show bW (bW rfl))(hd:(x==("__debug__":Str))=kQ:=by decide)
  (hcd:(x==("__classdict__":Str))=kQ:=by decide):QE X (.Name x pos) (uVar i):=b6I (a8q (h▸a) hv hd hcd)
def nwI(h:X.N=N)(a:At N i x)(nd:X.N.Nodup)(lc:Loc X.env.scope x:=by first |show cB rfl |show bW rfl)(fn:X.fn x=kP\/X.env.scope.names.lookup x=be .local:=by first |show .inl rfl |show .inr rfl |assumption):Nm X x i:=(nd,by rw[h];show a,lc,fn)
end
def newK(e:put G a o=G')(h:G a=gV):G' a=be o/\Sm G G':=by subst e;show(a0a,Sm.new h)
def b11(P0:Addr)(H:Hp):Prop:=H P0=be (.tbl #[])/\∀b,b≠P0->H b=gV\/∃o xs,H b=be (.frz o (.lst xs))
def a9Z{K:Fg}
  (KX:K.In sj.heap) (hns:sj.heap.Ns gZ mg) (hb:sj.heap.Ns jo mb) (hbb:∀x:Str,x≠"__name__"->mb x=ib x) (hlim:sj.heap.NoLimit) (hg:sj.gens=#[])
  (hT:sj.heap.get? P0=be (PySem.W.tabObj #[])) (hK0:K.lookup P0=gV) (hC:PySem.W.codeHdIn K c0 P0=kP)
  (hB:∃bm ob,mg "__builtins__"=be (.ref bm)/\bm≠jo/\sj.heap.get? bm=be ob/\ob.cls=.type "module"/\ob.dict=be jo/\ob.data=.plain)
  (ha:sj.heap.get? a=be { cls:=.type "list",data:=.seq vs.toArray }) (hi:hV vs ns) (hl:ns.length<=gH) (hr:Room k iV)
  (F:∀base:Heap,K.In base->base.Ns gZ mg->base.BuiltinsAt mg P0->FnOk P w K mg base CX k fa fd [x] sp) (hbind:∀(s:Shared)(u:Value),i7 s fd ([u],[]) [(x,u,)])
  (hsp:∀H:Hp,b11 P0 H->SqL K H a (ns.map V.int)->sp [.ref a] H (λv _=>v=.bl kP) λ_ _ _=>False)
  (hCX:∀H e s',CX [] H sj (λ_ _ _=>False) e s'->False) :
  ig (model P w) iV (.call (.ref fa) ([.ref a],[])) (λr s'=>r=.ok (.ret (.bool kP))/\OldK sj.heap s'.heap/\s'.os=sj.os/\iw s'.gens) sj:=by
 let N:=a8S hi;let M:=hi.length;let Y:a≠P0:=λz=>by rw[z,hT]at ha;cases ha
 let p:∀H:Hp,b11 P0 H->SqL K H a (ns.map V.int)->HOk P w H sj.heap->(∀b,H b≠gV->b=a\/b=P0)->(H a≠gV->K.lookup a=gV) ->
   ig (model P w) iV (.call (.ref fa) ([.ref a],[])) (λr i=>r=.ok (.ret (.bool kP))/\OldK sj.heap i.heap/\i.os=sj.os/\iw i.gens) sj:=by
  ext H y hS B T hK;let j:∀{b:Addr}{o:Obj},sj.heap.get? b=be o->o≠PySem.W.tabObj #[]->o≠{ cls:=.type "list",data:=.seq vs.toArray }->H b=gV:=λ{b o} e n1 n2=>by
   cases q:H b with
   |none=>rfl
   |some u=>
    let z||z:=T b (by rw[q];simp)
    .grind
    .simp_all
  let l:∀{b:Addr}{m:Str->Option Value},sj.heap.Ns b m->(hidT sj.heap H).Ns b m:=λ{b m} (o,es,U,e,d,r)=>(o,es,U,a37 e (j e (λz=>by rw[z]at d;cases d) λz=>by rw[z]at d;cases d),d,r);let A:K.In (hidT sj.heap H):=λb o e=>a37 (KX b o e) (by
   cases q:H b with
   |none=>rfl
   |some u=>
    let z||z:=T b (by rw[q];simp)
    .grind
    .subst z;rw[hK0]at e;cases e)
  let hM:Mod K mg (hidT sj.heap H):=(A,l hns,(mb,l hb,hbb),let (mc,C,f):=hlim;(mc,l C,f));let hBb:(hidT sj.heap H).BuiltinsAt mg P0:=by
   let(S,I,C,f,G,t,h5,R):=hB;let E:=j G (λz=>by rw[z]at t;cases t) λz=>by rw[z]at t;simp at t
   show(S,I,C,f,λz=>?_,λz=>?_,a37 G E,t,h5,R)
   .subst z;let(o,es,U,e,d,_):=hns;rw[G]at e;cases e;rw[R]at d;cases d
   .subst z;rw[y.1]at E;cases E
  let e0:Env0 P w K mg (hidT sj.heap H) iV [] sj H:=(rfl,hM,λb o e=>b3q e,dH (a8p _ _),trivial,λb hb=>absurd (show b∈([]:List Addr) from hb) (by simp),B,.of_eq hg);show iz ((F _ A (l hns) hBb).run iV [] sj H ([.ref a],[]) [.ref a] [.ref a] _ _ hr e0 (hbind sj (.ref a)) (.cons rfl .nil) (hsp H y hS)) λr i h=>?_;cases r with
  |error e=>show (hCX H e i h).elim
  |ok fl=>
   cases fl with
   |next=>show aN h
   |brk=>show aN h
   |cont=>show aN h
   |ret u=>
    let(v,H',os,L,J,n,r',q):=h;let q':=q;subst q';obtain rfl:u=Value.bool kP:=r';let D:∃g,i.heap.get? P0=be (PySem.W.tabObj (#[]++g)):=by
     let(g,e):=J.tbls P0 _ y.1;show(g,n P0 _ e)
    let kp:∀b o,b≠P0->sj.heap.get? b=be o->i.heap.get? b=be o:=λb o hb e=>by
     let z||(I,xs,z):=y.2 b hb
     .show J.keep b o e z (by ext z;show absurd (show b∈([]:List Addr) from z) (by simp)) (by simp)
     .let(Q,_):=B b _ z;let(e2,_):=n b _ (J.frzs b I _ z);rw[e]at Q;cases Q;show e2
    let(g,X):=D;show(rfl,(λb o e=>?_,λb o e=>?_),os,L)
    .by_cases hb:b=P0
     .subst hb;rw[hT]at e;cases e;show .inr (.inl (((PySem.W.codeHd_of_K KX hC).tab hT).isCodeTable,rfl,#[],g,rfl,X))
     .show .inl (kp b o hb e)
    .by_cases hb:b=P0
     .subst hb;show(_,X)
     .show(o,kp b o hb e)
 cases hk:K.lookup a with
 |some o=>
  let e:=KX a o hk;rw[ha]at e;cases e;show p _ (a0f,λb hb=>.inl (a0d hb)) (.inr (_,vs.toArray,_,hk,rfl,rfl,rfl,by rw[bt,M];show hl,↑N)) (λb u z=>?_) (λb z=>?_) λz=>absurd (a0d Y) z
  .by_cases hb:b=P0
   .subst hb;rw[a0f]at z;cases z;show hT
   .rw[a0d hb]at z;cases z
  .by_cases hb:b=P0
   .show .inr hb
   .show absurd (a0d hb) z
 |none=>
  show p (upd (upd (λ_=>gV) a _) P0 (.tbl #[])) (a0f,λb hb=>?_) (.inl (.inr ({ cls:=.type "list",data:=.seq vs.toArray },by rw[a0d Y,a0f]))) (λb u z=>?_) (λb z=>?_) λ_=>hk
  .by_cases f:b=a
   .subst f;show .inr (_,_,by rw[a0d hb,a0f])
   .show .inl (by rw[a0d hb,a0d f])
  .by_cases hb:b=P0
   .subst hb;rw[a0f]at z;cases z;show hT
   .rw[a0d hb]at z
    by_cases f:b=a
    .subst f;rw[a0f]at z;cases z;show(ha,by rw[aH];show hl,vs,_,N,ha)
    .rw[a0d f]at z;cases z
  .by_cases hb:b=P0
   .show .inr hb
   .by_cases f:b=a
    .show .inl f
    .show absurd (by rw[a0d hb,a0d f]) z
def walk_ofT{l:PySem.W.OpenLaw}{K:Params->Fg}{CX:World->CXT}{sp:World->Sp}
  (hn:l.most=be n) (hn2:n<=gH) (hdf:d.params.defaults=[]) (hr:Room k iV)
  (hY:∀(w:World)(h:Heap),YP w h->(K w.params).In h/\h.get? P0=be (PySem.W.tabObj #[])) (hK0:∀w:World,(K w.params).lookup P0=gV)
  (F:∀(w:World)(mg:Str->Option Value)(fa:Addr)(h:Heap),(K w.params).In h->h.Ns gZ mg->mg d.name=be (.ref fa) ->
   ∃(fd:hZ)(c0:Addr),PySem.W.codeHdIn (K w.params) c0 P0=kP/\(∀(s:Shared)(u:Value),i7 s fd ([u],[]) [(x,u,)]) /\
    ∀base:Heap,(K w.params).In base->base.Ns gZ mg->base.BuiltinsAt mg P0->FnOk l.prog w (K w.params) mg base (CX w) k fa fd [x] (sp w))
  (hsp:∀(w:World)(H:Hp)(a:Addr)(ns:List Int),ns.length<=n->b11 P0 H->SqL (K w.params) H a (ns.map V.int)->sp w [.ref a] H (λv _=>v=.bl kP) λ_ _ _=>False)
  (hCX:∀(w:World)(H:Hp)(s:Shared)(e:Value)(s':Shared),CX w [] H s (λ_ _ _=>False) e s'->False) :
  PySem.W.WalkO q loose XP YP l.row.toRowW d [] (λf vs=>PySem.call f vs):=by
 show Att.attach_call hn hdf λw s₀ B C R D o Q X L a N r G Y S hd M m j i c p=>?_;let(KX,I):=hY w _ Y;let(fd,U,z,y,E):=F w C D _ KX G.T.g m;show a9Z KX G.T.g G.T.b G.T.builtins G.T.nolimit p I (hK0 w) z G.T.bmain j i (aU c hn2) hr E y (λH t A=>hsp w H a r c t A) λH e J=>hCX w H B e J
namespace SetW
theorem hole:∀{l:List (Option Nat)},(l.filterMap id).length<l.length->∃j:Nat,l[j]?=be gV
 |none::l,_=>(0,rfl)
 |some k::l,h=>by
  let(j,e):=hole ↑h;show(j+1,↑e)
theorem a4C:∀{l:List (Option Nat)}{j k:Nat},l[j]?=be gV->((l.set j (be k)).filterMap id).Perm (k::l.filterMap id)
 |none::l,0,k,_=>by simp
 |none::l,j+1,k,h=>↑(a4C (by simp_all))
 |some a::l,j+1,k,h=>by
  let q:=a4C (k:=k) ↑h;show (q.cons a).trans (.swap ..)
noncomputable def lp(m:Nat):Nat->Nat×Nat->Nat×Nat
 |0,q=>q
 |n+1,q=>lp m n (gG.leap m q.1 q.2)
set_option tactic.hygienic true in
theorem a90:∀(fuel i p:Nat){j:Nat},gG.layClean.free kR ow fuel i p=be j->ow[j]?=be gV
 |0,i,p,j,h=>by simp[gG.layClean.free]at h
 |fuel+1,i,p,j,h=>by
  unfold gG.layClean.free at h
  split at h
  .next k e=>
   cases h;let q:=eO e;cases c:ow[i+k]? with
   |none=>simp[c]at q
   |some v=>
    simp[c]at q;rw[q]
  .show a90 fuel _ _ h
theorem a91:∀(fuel i p n:Nat),gG.layClean.free kR ow fuel i p=gV->n<fuel->ow[(lp kR n (i,p,)).1]?≠be gV
 |fuel+1,i,p,n,h,hn=>by
  unfold gG.layClean.free at h
  split at h
  .cases h
  .next e=>
   cases n with
   |succ n=>show a91 fuel _ _ n h (by lia)
   |zero=>
    let q:=cX.mp e 0 (ca.mpr (by unfold gG.runEnd;split<;>lia))
    ext z;let z:ow[i]?=be gV:=z;simp[z]at q
theorem b3b(m:Nat):∀(a b:Nat)(q:Nat×Nat),lp m (a+b) q=lp m b (lp m a q)
 |0,b,q=>by rw[cI];rfl
 |a+1,b,q=>by rw[fU];show b3b m a b _
theorem b3c(m:Nat):∀(n i p:Nat),(lp m n (i,p,)).2=p / 32 ^ n
 |0,i,p=>by simp[lp]
 |n+1,i,p=>by
  change (lp m n (gG.leap m i p)).2=_
  unfold gG.leap;rw[b3c,Nat.div_div_eq_div_mul,Nat.pow_succ,Nat.mul_comm 32]
theorem b8e(m:Nat):∀(n i p:Nat),i<=m->(lp m n (i,p,)).1<=m
 |0,i,p,h=>h
 |n+1,i,p,h=>b8e m n _ _ (fZ (dX _ (Nat.succ_pos m)))
noncomputable def rnd(m:Nat):Bool:=(a9 (m+1)).all λi=>(a9 (m+1)).all λj=>(a9 (m+1)).any λn=>(lp m n (i,0,)).1==j
def rnd7:rnd 7=kP:=by decide +kernel
def b8f(h:rnd kW=kP)(hi:kR<=kW)(hj:kU<=kW):∃n,n<=kW/\(lp kW n (kR,0,)).1=kU:=by
 let q:=bU.mp (bU.mp h kR (ca.mpr (by lia))) kU (ca.mpr (by lia));let(n,a,e):=cj.mp q;show(n,by let:=ca.mp a;lia,↑e)
def b5a(h:Int):gG.bits h<2 ^ 64:=by unfold gG.bits;lia
def a92(hr:rnd kR=kP)(hs:ow.size=kR+1){j:Nat}(hj:ow[j]?=be gV)(hi:i<=kR)(hp:p<2 ^ 64):∃j,gG.layClean.free kR ow (gG.turns kR) i p=be j/\ow[j]?=be gV:=by
 cases e:gG.layClean.free kR ow _ i p with
 |some j=>show(j,rfl,a90 _ _ _ e)
 |none=>
  exfalso;let a:j<=kR:=by grind
  let z:(lp kR 13 (i,p,)).2=0:=by rw[b3c];show Nat.div_eq_of_lt (by lia)
  let(n,c,q):=b8f hr (b8e kR 13 i p hi) a;let b:(lp kR (13+n) (i,p,)).1=j:=by rw[b3b,show lp kR 13 (i,p,)=((lp kR 13 (i,p,)).1,0,) from by rw[<- z]];show q
  show a91 _ i p (13+n) e (by unfold gG.turns;lia) (by grind)
structure Own (m k:Nat) (ow:Array (Option Nat)):Prop where
 sz:ow.size=m+1
 pm:(ow.toList.filterMap id).Perm (a9 k)
theorem b3d(hr:rnd kR=kP):∀(hs:List Int)(ow:Array (Option Nat))(k:Nat),Own kR k ow->k+hs.length<=kR+1 ->
  ∃ow',hs.foldl (λacc h=>do
   let (owner,k,) <- acc
   let j <- gG.layClean.free kR owner (gG.turns kR) (gG.bits h % (kR+1)) (gG.bits h)
   pure (owner.setIfInBounds j (be k),k+1,)) (be (ow,k,))=be (ow',k+hs.length,)/\Own kR (k+hs.length) ow'
 |[],ow,k,h,_=>(ow,rfl,h)
 |x::hs,ow,k,h,hl=>by
  let(g,a):=hole (by rw[h.pm.length_eq,dB,bf,h.sz];simp at hl;lia);let(j,e,d):=a92 hr h.sz ↑a (i:=gG.bits x % _) (fZ (dX _ (Nat.succ_pos kR))) (b5a x);let(b,f,c):=b3d hr hs (ow.setIfInBounds j (be k)) _ (by rw[fS];show h.sz,by
   rw[fL];show (a4C (by simp_all)).trans ?_;rw[List.range_succ];show (h.pm.cons k).trans (eD (l₁:=[k]))) (by simp at hl;lia)
  show(b,?_,by rw[aV,eP hs.length,<- cW];show c);rw[fF,aV,eP hs.length,<- cW,<- f];simp[e]
def b12(l:List (Option Nat)):((a9 l.length).filterMap λj=>(l[j]?.getD gV).map (j,·,)).map (·.2)=l.filterMap id:=by
 rw[f6]
 induction l with
 |nil=>rfl
 |cons x l ih=>
  rw[aV,List.range_succ_eq_map,bV,ej,bV];cases x<;>simp at ih ⊢<;>show ih
def laid_ok(hr:rnd kR=kP)(hl:hs.size<=kR) :
  ∃t od,gG.laid kR f mv led pl hs=be (t,od,)/\od.toList.Perm (a9 hs.size)/\t.fits hs.size=kP/\TOk led t:=by
 let(c,e,o):=b3d hr hs.toList (Array.replicate (kR+1) gV) 0 (by simp,by
  rw[Array.toList_replicate,List.range_zero];generalize kR+1=n
  induction n with
  |zero=>show .nil
  |succ n ih=>rw[List.replicate_succ];show ih) (by grind)
 rw[cI,bf]at o;let l:gG.layClean kR hs=be c:=by
  unfold gG.layClean;rw[<- Array.foldl_toList,e]
  rfl
 let g:=b12 c.toList;rw[bf,o.sz]at g;let d:((a9 (kR+1)).filterMap λj=>(c.getD j gV).map (j,·,)).map (·.2)=c.toList.filterMap id:=by simp_all
 let p:((a9 (kR+1)).filterMap λj=>(c.getD j gV).map (j,·,)).length=hs.size:=by
  rw[<- aH,d,o.pm.length_eq,dB]
 show(_,_,by unfold gG.laid;rw[l];rfl,?_,?_,?_,rfl,rfl)
 .rw[List.toList_toArray,d];show o.pm
 .unfold gG.fits gG.fill;simp only[bt,aH,p];o_head hl
 .unfold Up;rw[f6]
  let:(a9 (kR+1)).Pairwise _:=eK
  show List.pairwise_filterMap.mpr (this.imp λ{a b} h x k y i=>?_);simp at k i;let(_,_,rfl):=k;let(_,_,rfl):=i;show h
end SetW
namespace SetW
def b13(h:n<=16):gG.sizeAbove n<=32/\rnd (gG.sizeAbove n-1)=kP/\7<=gG.sizeAbove n-1:=by
 let q:(a9 17).all (λn=>decide (gG.sizeAbove n<=32)&&rnd (gG.sizeAbove n-1)&&decide (7<=gG.sizeAbove n-1))=kP:=by decide +kernel
 let:=bU.mp q n (ca.mpr (by lia))
 simp only[bO,decide_eq_true_eq]at this;show(this.1.1,this.1.2,this.2)
section
variable{a b:Addr}{es eo:Array (Int×Value)}{ep epo:Nat}{t to:gG}{K:Type}[DecidableEq K]{kd:KeyKind prog w K}{ms mo:List K}{k:K}{v:Value}
def b5b{od:Array Nat}(h:od.toList.Perm (a9 es.size)):(od.filterMap (es[·]?)).toList.Perm es.toList:=by
 rw[Array.toList_filterMap];show (h.filterMap _).trans (.of_eq ?_);show filterMap_getElem?_range es
def a7b{od:Array Nat}(hp:od.toList.Perm (a9 es.size))(h:Q (od.filterMap (es[·]?),t,) s) :
  wpAny (model prog w) A (do
   let be (t,order,):=be (t,od,) |iJ "internal:set-table-without-room"
   let es':=order.filterMap (es[·]?)
   if es'.size != es.size then iJ "internal:set-table-lost-an-element"
   pure (es',t,)) Q E s:=by
 let q:((od.filterMap (es[·]?)).size != es.size)=kQ:=by
  rw[<- bf,(b5b hp).length_eq,bf];simp
 dsimp only;rw[q];show gF h
def a93(S:SO kd s.heap a es ep t ms)(hw:wanted<=16)(hn:ms.length<=7)
  (h:∀h' es' ep' t' ms',Heap.SameBut a s.heap h'->SO kd h' a es' ep' t' ms'->ms'.Perm ms->rnd t'.mask=kP->7<=t'.mask->Q () { s with heap:=h' }) :
  wpAny (model prog w) A (setRelay a wanted) Q E s:=by
 let((o,j,H,i),u,d,I,k,x):=id S;let(J,y,B):=b13 hw;let z:=S.len;show gE (ij j i k ?_);dsimp only;rw[if_neg (by rw[gU];lia)];let(p,v,e,g,l,m):=laid_ok (hs:=es.map _) y (by grind);rw[dW]at g l;let G:t.relaid _ wanted=be _:=e;let n:p.mask=gG.sizeAbove wanted-1:=by
  unfold gG.laid at e;cases c:gG.layClean _ _ with
  |none=>rw[c]at e;cases e
  |some q=>rw[c]at e;cases e;rfl
 rw[G];show gE (a7b g ?_);let b:=b5b g;let F:(v.filterMap (es[·]?)).size=es.size:=by rw[<- bf,b.length_eq,bf]
 let(r,C,D):=a0R d (b.map _);dsimp only;show jz j i ?_ (jA (by lia));rw[x.ld]at m;let(_,S1):=SO.stored j H i (u.perm b) C (by lia) (by grind) m;show h _ _ _ _ r (Heap.SameBut.update ..) S1 D (by grind) (by grind)
def b14(S:SO kd s.heap a es ep t ms)(hn:ms.length<=4)(hm:more<=4)
  (h:∀h' es' ep' t' ms',Heap.SameBut a s.heap h'->SO kd h' a es' ep' t' ms'->ms'.Perm ms->(rnd t'.mask=kP/\7<=t'.mask\/t'=t)->Q () { s with heap:=h' }) :
  wpAny (model prog w) A (setRoomFor a more) Q E s:=by
 let((o,m,z,n),x,j,y,b,v):=id S;let r:=S.len;show gE (ij m n b ?_);dsimp only;unfold gG.roomFor
 split
 .next wanted e=>
  split at e
  .cases e
   let:t.place.size=es.size:=by simp only[gG.fits,bO,beq_iff_eq]at b;show b.1
   show a93 S (by lia) (by lia) λg d c k f p i q u l=>h g d c k f p i q (.inl (u,l))
  .cases e
 .show gF (h s.heap es ep t ms (Heap.SameBut.refl ..) S (.refl _) (.inr rfl))
def b15(S:SO kd s.heap b eo epo to mo)(h:∀l d',l.toList.Perm eo.toList->Q l { s with drawn:=d' }):wpAny (model prog w) A (setWalk b) Q E s:=by
 let((o,g,m,i),j,e,k,a,d):=id S;show gE (ij g i a ?_);show iu (λ_=>?_) λc=>?_
 .show gE (jB (gF ?_));show h _ s.drawn (a3f _ _)
 .let c:byT w=kQ:=↑(show ¬ byT w=kP from c)
  show iu (λ_=>?_) λ_=>?_
  .show gE (a4u _ _ _ _ (by simp) λn f p=>gF (h _ f ?_));o_head p
  .let q:(!to.led&&decide (eo.size > 1))=kQ:=by rw[d.ld,c];rfl
   show gE (?_:wpAny _ _ (if (!to.led&&decide (eo.size > 1))=kP then iJ "set:maker-not-led" else pure ()) _ _ _);rw[q];show gF (gF (h _ s.drawn (.refl _)))
def a7c(hel:jQ kd es.toList){Q:Option Bool×Unit->Shared->Prop}(hf:∀e r,e.2.scannable=kP->f e r=pure (.yield (gV,(),)))(h:Q (gV,(),) s):wpAny (model prog w) A (forIn es (gV,(),) f) Q E s:=by
 rw[<- d7];generalize es.toList=l at hel
 induction l with
 |nil=>show gF h
 |cons e l ih=>
  rw[cQ,hf e _ hel.head.2,pure_bind];show ih hel.tail
def a78(So:SO kd s.heap b eo epo to mo)(S:SO kd s.heap a es ep t ms)(h:Q kP s):wpAny (model prog w) A (setsQuiet [b,a]) Q E s:=by
 let((o,u,D,m),j,l,B,d,z):=So;let((C,g,v,i),f,k,n,c,p):=S;unfold setsQuiet;rw[cQ];show gE (gE (gE (iZ u m d (gE (a7c j (λe r q=>?_) (gF ?_))))))
 .let(x,y):=e;cases y<;>first |rfl |cases q
 dsimp only;rw[cQ];show gE (gE (iZ g i c (gE (a7c f (λe r q=>?_) (gF ?_)))))
 .let(x,y):=e;cases y<;>first |rfl |cases q
 show gF (gF h)
def a6h(So:SO kd s.heap b eo epo to mo)(S:SO kd s.heap a es ep t ms)
  (h:∀l h' ep' t' d',l.toList.Perm eo.toList->Heap.SameBut a s.heap h'->SO kd h' a es ep' t' ms->Q l { s with heap:=h',drawn:=d' }):wpAny (model prog w) A (setWalkUnseen b [a] (be a)) Q E s:=by
 let((o,u,B,v),z,r,y,k,m):=id So;let q:wpAny _ A _ Q E s:=b15 So λl x p=>h l s.heap ep t x p (Heap.SameBut.refl ..) S;show gE (ij u v k ?_);show iu (λ_=>q) λ_=>?_;show gE (a78 So S ?_);show iu (λ_=>q) λ_=>?_;show gE (iB ?_);let((C,e,n,g),j,i,f,d,c):=id S;show gE (ij e g d ?_);show iu (λ_=>?_) λ_=>gF (h eo s.heap ep t s.drawn (.refl _) (Heap.SameBut.refl ..) S);show gE (jz e g ?_ (jA f));let(_,S1):=SO.stored (t':={ t with led:=t.led&&to.led,plain:=t.plain&&to.plain }) e n g j i f (by cases t;show d) (c.up,c.dm,by change _=_;rw[c.ld,m.ld,eu]);show gF (h eo _ _ _ s.drawn (.refl _) (Heap.SameBut.update ..) S1)
theorem a7d(hab:b≠a)(he:∀{s':Shared}{Q:Unit->Shared->Prop},SO kd s'.heap b eo epo to mo->Q () s'->wpAny (model prog w) A each Q E s')
 (hf:∀h x r,f (h,x,) r=(do
      let _ <- h9 [x] (jR a x h)
      each
      let q <- setState b
      if (q.2.1 != epo)=kP then do
        iJ "set.changed-during-merge"
        pure (ForInStep.yield PUnit.unit)
      else pure (ForInStep.yield PUnit.unit))) :
    ∀(l:List (Int×Value))(ks:List K)(s:Shared)(ms:List K)(Q:PUnit->Shared->Prop),jQ kd l->KsAre kd (l.map (·.2)) ks->SI kd s.heap a ms->ms.Nodup->ms.length+l.length+1<ip->SO kd s.heap b eo epo to mo ->
      (∀h' ms',Heap.SameBut a s.heap h'->SI kd h' a ms'->ms'.Nodup->(∀x,x∈ms'↔x∈ms\/x∈ks)->ms'.length<=ms.length+l.length->Q ⟨⟩ { s with heap:=h' }) ->
      wpAny (model prog w) A (forIn l PUnit.unit f) Q E s
  |[],_,s,ms,Q,_,.nil,S,nd,_,_,h=>gF (h s.heap ms (Heap.SameBut.refl ..) S nd (λx=>by simp) (aI _))
  | (z,v,)::l,_,s,ms,Q,hel,.cons (k:=k) (ks:=ks) hk ht,S,nd,hb,So,h=>by
    let((W,n,i),m):=hel.head
    let:=kd.inj _ _ _ hk n
    subst this;subst i;rw[cQ,hf];let(Y,ep,t,S'):=S;show gE (gE (g6 (a6b hk m S' (by simp at hb;lia) λR g V u C p=>?_)));let d:=So.at λo e=>u.extBut b o hab e;let(o,T,B,D):=d.at_;show gE (he d (gE (ij T D d.fit ?_)));rw[if_neg (by simp)];show gF ?_;let G:g.Nodup:=by
      show p.nodup_iff.mpr ?_
      split
      . show nd
      . next c=>show b9.mpr (nd,by simp,λx B y H=>by rw[aK.mp H];ext rfl;show c B)
    let U:g.length<=ms.length+1:=by rw[p.length_eq];split<;>simp
    let J:∀x,x∈g↔x∈ms\/x=k:=λx=>by
      rw[p.mem_iff]
      split
      . simp_all
      . simp
    show a7d hab he hf l ks _ g Q hel.tail ht C G (by simp at hb;lia) d λN M j I L F X=>h N M (u.trans j) I L (λx=>by rw[F,J,aL,or_assoc]) (by simp;lia)
def a5q(hab:a≠b)(he:∀{s':Shared}{Q:Unit->Shared->Prop},SO kd s'.heap b eo epo to mo->Q () s'->wpAny (model prog w) A each Q E s')
  (S:SO kd s.heap a es ep t ms) (So:SO kd s.heap b eo epo to mo) (hn:ms.length<=4) (hm:mo.length<=4) (nd:ms.Nodup) (ndo:mo.Nodup) (hz:ms=[]->t.mask=7)
  (h:∀h' es' ep' t' ms' d',Heap.SameBut a s.heap h'->SO kd h' a es' ep' t' ms'->(ms'=[]->t'.mask=7)->ms'.Nodup->(∀x,x∈ms'↔x∈ms\/x∈mo)->ms'.length<=ms.length+mo.length->Q () { s with heap:=h',drawn:=d' }) :
  wpAny (model prog w) A (kO a b each) Q E s:=by
 let((o,ho,hx,hd),G,v,hsc,B,u):=id So;let M:=So.len;unfold kO;rw[if_neg ↑hab];show gE (ij ho hd B ?_);dsimp only;show iu (λc=>?_) λc=>?_
 .let:mo=[]:=by
   rw[f7,M]at c;show cC.mp c
  subst this;show gF (h s.heap es ep t ms s.drawn (Heap.SameBut.refl ..) S hz nd (λx=>by simp) (fX ..))
 let H:mo≠[]:=λz=>c (by rw[f7,M,z];rfl);show gE (b14 S hn (by lia) λT es1 ep1 i C L U p r=>?_);let F:=So.at λo e=>L.extBut b o (Ne.symm hab) e;let((o1,y,hx1,D),hel1,hnum1,hsc1,g,n):=id U;show gE (ij y D g ?_);dsimp only;let fl:i.fill=C.length:=by
  simp only[gG.fits,bO,beq_iff_eq]at g;rw[gG.fill,n.dm,g.1,U.len (s:={ s with heap:=T })];rfl
 let J:∀(k:Array (Int×Value))(m:gG),C=[]->k.toList.Perm eo.toList->m.fits eo.size=kP->TOk (!byT w) m->wpAny (model prog w) A (jS a k m) Q E { s with heap:=T }:=λk m z j f1 k1=>by
  let sz:k.size=eo.size:=by rw[<- bf,j.length_eq,bf]
  let(m2,i2,d):=a0R v (j.map (·.2));show jz y D ?_ (jA (by lia));let(_,N):=SO.stored y hx1 D (G.perm j) i2 (by lia) (by rw[sz];show f1) k1;let mz:ms=[]:=by rw[z]at p;show p.symm.eq_nil
  show h _ _ _ _ m2 s.drawn (L.trans (Heap.SameBut.update ..)) N (λq=>absurd (by rw[q]at d;show d.symm.eq_nil) H) (d.nodup_iff.mpr ndo) (λx=>by rw[d.mem_iff,mz];simp) (by rw[d.length_eq];lia)
 unfold gG.road
 by_cases z:C=[]
 .rw[if_neg (by rw[fl,z];simp)];let X:(i.led&&to.led)=!byT w:=by rw[n.ld,u.ld,eu]
  let mr:=r.elim id λe=>by
   rw[e,hz (by rw[z]at p;show p.symm.eq_nil)];show(rnd7,aI _)
  by_cases c2:(i.mask==to.mask&&to.dummies.isEmpty)=kP
  .rw[if_pos c2];show J eo _ z (.refl _) (by cases to;show B) (u.up,u.dm,X)
  .rw[if_neg c2];let(m,od,e,j,d,V):=laid_ok (hs:=eo.map (·.1)) mr.1 (by rw[dW];lia);rw[dW]at j d;dsimp only;rw[e];show gE (a7b j ?_);show J _ m z (b5b j) d (X▸V)
 .rw[if_pos (by rw[fl];o_head z)];dsimp only;let aa:C.Nodup:=p.nodup_iff.mpr nd;let pl:=p.length_eq;let sb4:4096=scanBound:=rfl;show gE (a6h F U λl h2 ep2 t2 d2 d I N=>?_);let ab:=F.at λo e=>I.extBut b o (Ne.symm hab) e;let(ks,i3,V):=a0R v (d.map (·.2));let ll:l.toList.length=mo.length:=by rw[d.length_eq,bf,M]
  rw[<- d7];show gE (a7d (Ne.symm hab) he (λ_ _ _=>rfl) l.toList ks _ C _ (G.perm d) i3 (_,_,_,N) aa (by lia) ab λh3 m3 Y R n3 e3 l3=>?_);let(W,ep3,t3,R):=R;let mm:∀x,x∈m3↔x∈ms\/x∈mo:=λx=>by rw[e3,p.mem_iff,V.mem_iff]
  show gF (h h3 W ep3 t3 m3 d2 (L.trans (I.trans Y)) R (λq=>?_) n3 mm (by lia));let(x,hx):=f8 mo H
  let:=(mm x).mpr (.inr hx)
  rw[q]at this;cases this
def SO.fresh(g:h.get? a=be (a0o w)):SO kd h a #[] 0 (.fresh 0 0 (!byT w)) []:=((_,g,(rfl,rfl,rfl),rfl),λe b=>by simp at b,.nil,by decide,rfl,(.nil,rfl,rfl))
def b16(So:SO kd s.heap b eo epo to mo)(hm:mo.length<=4)(ndo:mo.Nodup)
  (h:∀h' es' ep' t' ms' d',(∀c o,s.heap.get? c=be o->h'.get? c=be o)->SO kd h' s.heap.objs.size es' ep' t' ms'->(ms'=[]->t'.mask=7)->ms'.Nodup->(∀x,x∈ms'↔x∈mo)->ms'.length<=mo.length->Q (.ref s.heap.objs.size) { s with heap:=h',drawn:=d' }) :
  wpAny (model prog w) A (gN.Frozenset.copyOf b) Q E s:=by
 unfold gN.Frozenset.copyOf gN.Frozenset.baseOf newSet;show gE (gE (iY (b:=kP) So.ty (by rw[jC];kernel_rfl) (gF ?_)));show gE (gE (gE (jB (gF ?_))));show gE (wpAny_alloc (gF ?_));let(o,p,_):=So.at_;let v:=Heap.lt_size p;let n:(s.heap.push _).get? s.heap.objs.size=be (a0o w):=Heap.get?_push_size _ rfl;let g:SO kd (s.heap.push (a0o w)) b eo epo to mo:=So.at λo e=>Heap.get?_push_of_some _ e
 change wpAny _ _ (kO s.heap.objs.size b _ >>= _) _ _ _
 show gE (a5q (bS v) (λ_ q=>gF q) (SO.fresh n) g (by simp) hm .nil ndo (λ_=>rfl) λu a d j f t r k z m i l=>gF ?_);show h u a d j f t (λc o e=>r.extBut c o (aS (Heap.lt_size e)) (Heap.get?_push_of_some _ e)) k z m (λx=>by rw[i];simp) (by simp_all)
def a6i(So:SO kd s.heap b eo epo to mo)(h:Q kP s):wpAny (model prog w) A (gN.Frozenset.isAnySet (.ref b)) Q E s:=by
 show gE (iY (b:=kP) So.ty (by rw[jC];kernel_rfl) ?_);show gF h
def b17:jD table "set.__or__"=be gN.«frozenset.__or__»:=kB (id':="frozenset.__or__") (by kernel_rfl) rfl (by decide +kernel) (by kernel_rfl)
def or_set(hab:a≠b)(S:SO kd s.heap a es ep t ms)(So:SO kd s.heap b eo epo to mo)(hn:ms.length<=4)(hm:mo.length<=4)(nd:ms.Nodup)(ndo:mo.Nodup)
  (h:∀h' ms' d',(∀c o,s.heap.get? c=be o->h'.get? c=be o)->SI kd h' s.heap.objs.size ms'->ms'.Nodup->(∀x,x∈ms'↔x∈ms\/x∈mo)->ms'.length<=ms.length+mo.length->Q (.ref s.heap.objs.size) { s with heap:=h',drawn:=d' }) :
  wpAny (model prog w) A (gY .BitOr (.ref a) (.ref b)) Q E s:=by
 show wpAny_binaryOp_same S.ty So.ty PySem.F.fills_set_or PySem.F.slot_set_or (ii PySem.F.slot_set_or S.ty b17 ?_ (PySem.F.args_set_or_2 _ _));show gE (gF ?_);dsimp only;show gE (gE (a6i S ?_));show a6i So ?_
 change wpAny _ _ (gN.Frozenset.copyOf a >>= _ >>= _) _ _ _
 let(oa,p,_):=S.at_;let(ob,f,N,i):=So.at_;let n:=Heap.lt_size f;show gE (gE (b16 S hn nd λG R U t1 m1 d1 g z C J u l1=>?_));let d:=So.at λo e=>g b o e;rw[if_pos ↑(Ne.symm hab)]
 change wpAny _ _ (h9 [Value.ref s.heap.objs.size] _ >>= _) _ _ _
 show gE (g6 ?_);show gE (a6i d ?_);rw[if_pos rfl]
 change wpAny _ _ (gN.Frozenset.merge _ s.heap.objs.size b) _ _ _
 show gE (jW (g b _ f) i So.fit ?_);show a5q (bS n) (λ{s' Q'} l q=>?_) z d (by lia) hm J ndo C λI T M t2 H y D r W v B Y=>gF (gF (_,rfl,nofun,?_))
 .unfold gN.Frozenset.unchanged;let(V,k,L,j):=l.at_;show gE (jW k j l.fit ?_);rw[if_neg (by simp)];show gF q
 .show h I H y (λc o e=>D.extBut c o (aS (Heap.lt_size e)) (g c o e)) (_,_,_,r) v (λx=>by rw[B,u]) (by lia)
end
section
variable{a d:Addr}{K:Type}[DecidableEq K]{kd:KeyKind prog w K}{es0:Array jI}{epd:Nat}{od:Obj}{ks:List K}{k0:K}
theorem a94(hda:d≠a)(dd:od.data=.dict es0 epd)(hl:es0.size=ks.length)(hb:ks.length+1<ip)
    (he:∀(i:Nat) e,es0[i]?=be e->∃k,ks[i]?=be k/\kd.is k e.key=kP/\e.hash=kd.hash k/\e.key.scannable=kP)
 (hf:∀i r,f i r=(do
      let es <- dictEntries d
      match es[i]? with
      |some e=>do
        let _ <- h9 [e.key] (jR a e.key e.hash)
        let q <- dictEpoch d
        if (q != epd)=kP then do
          iJ kR
          pure (ForInStep.yield PUnit.unit)
        else pure (ForInStep.yield PUnit.unit)
      |none=>do
        iJ m2
        pure (ForInStep.yield PUnit.unit))) :
    ∀(n i:Nat)(s:Shared)(ms:List K)(Q:PUnit->Shared->Prop),i+n=ks.length->s.heap.get? d=be od->SI kd s.heap a ms->Met (λi=>ks.getD i k0) i ms ->
      (∀h' ms',Heap.SameBut a s.heap h'->SI kd h' a ms'->Met (λi=>ks.getD i k0) ks.length ms'->Q ⟨⟩ { s with heap:=h' })->wpAny (model prog w) A (forIn (List.range' i n) PUnit.unit f) Q E s
  |0,i,s,ms,Q,hi,_,S,M,h=>by
    let:=hi
    subst this;show gF (h s.heap ms (Heap.SameBut.refl ..) S M)
  |n+1,i,s,ms,Q,hi,g,S,M,h=>by
    let b:i<es0.size:=by lia
    let(k,x,G,o,D):=he i _ (bG b);rw[fY,cQ,hf];show gE (gE (jk g dd ?_));rw[bG b];let(J,L,t,S'):=S;show gE (g6 ?_);rw[o];show a6b G D S' (by let:=M.2.1;lia) λH F I l v p=>?_;let j:=l.extBut d od hda g;show gE (kM j dd ?_);rw[if_neg (by simp)];let y:ks.getD i k0=k:=by rw[cu,x];rfl
    show gF (a94 hda dd hl hb he hf n _ _ F Q (by lia) j v (M.step (by rw[y];show p)) λC B c z u=>h C B (l.trans c) z u)
set_option maxHeartbeats 3200000 in
def a6j{T:Shared->Prop}
  (hi:wpAny (model prog w) A.in1.in1 (gN.«set.__init__» ([.ref s.heap.objs.size,u],[])) (λfin s2=>fin=.done (.ret .none)/\T s2) E { s with heap:=s.heap.push (a0o w) }) (h:∀s2,T s2->Q (.ref s.heap.objs.size) s2) :
  wpAny (model prog w) A (call (.type "set") [u]) Q E s:=by
 let(mc,mt,mro):=PySem.F.called_set.mro;let md:=PySem.F.called_set.made;let sb:=PySem.F.called_set.sub;show i9 (kt ?_)
 change wpAny _ _ (callAny (.type "set") _) _ _ _
 show gF (Code.quiet_builtin _ (by decide +kernel),iK PySem.F.entry_type_call ?_);rw[Around.under_plain (weight_type_call_type "set" [u] []) rfl];let nt:=PySem.F.called_set.notType;let cc:=PySem.F.called_set.canCreate;let tc:=PySem.F.typeCall_set_1 u
 repeat (any_goals (first |assumption |wp_step))
 show iz (a9y (w:=w) u (E:=E) (Q:=λobj s1=>obj=.ref s.heap.objs.size/\s1={ s with heap:=s.heap.push (a0o w) }) (rfl,rfl)) λr s1 hr=>?_;cases r with
 |error e=>show hr
 |ok fl=>
  cases fl with
  |ret obj=>
   let(rfl,rfl):=hr;let gS:(s.heap.push (a0o w)).get? s.heap.objs.size=be (a0o w):=Heap.get?_push_size _ rfl;let tS:Shared.TypeIs { s with heap:=s.heap.push (a0o w) } (.ref s.heap.objs.size) "set":=(_,gS,rfl);let li:=PySem.F.called_set.init.lookup;let bi:=PySem.F.called_set.init.bind (.ref s.heap.objs.size)
   repeat (any_goals (first |assumption |wp_step))
   show iz (codeAny_call_builtin (R:=wants (λr s2=>r=.none/\T s2) E) PySem.F.called_set.init.plain PySem.F.entry_set_init (check_set_init_1 tS (gX hi (λfin s2 q=>?_) λ_ _ q=>q))) λr2 s2 hr2=>?_
   .let(rfl,q):=q;show(rfl,q)
   .cases r2 with
    |error e=>show hr2
    |ok f2=>
     cases f2 with
     |ret r=>
      let(rfl,q):=hr2
      repeat (any_goals (first |assumption |wp_step))
      show h _ q
     |_=>show hr2.elim
  |_=>show hr.elim
def call_setD(g:s.heap.get? d=be od)(hx:od.ExactDict)(dd:od.data=.dict es0 epd)(hsm:d≠g9)(hl:es0.size=ks.length)(hb:ks.length<=4)
  (he:∀(i:Nat) e,es0[i]?=be e->∃k,ks[i]?=be k/\kd.is k e.key=kP/\e.hash=kd.hash k/\e.key.scannable=kP)
  (h:∀(h':Heap)(ms:List K),SI kd h' s.heap.objs.size ms->Met (λi=>ks.getD i k0) ks.length ms->(∀b o,s.heap.get? b=be o->h'.get? b=be o)->Q (.ref s.heap.objs.size) { s with heap:=h' }) :
  wpAny (model prog w) A (call (.type "set") [.ref d]) Q E s:=by
 let gS:(s.heap.push (a0o w)).get? s.heap.objs.size=be (a0o w):=Heap.get?_push_size _ rfl;let g':(s.heap.push (a0o w)).get? d=be od:=Heap.get?_push_of_some _ g;let ld:=Heap.lt_size g;show a6j (T:=λs2=>∃h' ms,s2={ s with heap:=h' }/\SI kd h' s.heap.objs.size ms/\Met (λi=>ks.getD i k0) ks.length ms/\∀b o,s.heap.get? b=be o->h'.get? b=be o) ?_ λs2 q=>by
  let(h',ms,rfl,S,M,k):=q;show h h' ms S M k
 let(oc,ox,ob,osl):=od;let(x1,x2,x3):=hx;simp only at dd x1 x2 x3;subst dd x1;let s1:=PySem.F.sub_dict_set;let s2:=PySem.F.sub_dict_frozenset;let ne:(Value.type "dict"==Value.type "dict")=kP:=by decide
 let nm:(d==g9)=kQ:=↑hsm
 unfold gN.«set.__init__» noKeywords gN.Frozenset.updateFrom
 wp_walk
 let rf:(gG.fresh 0 0 (!byT w)).roomFor es0.size=gV:=by
  unfold gG.roomFor;show if_neg (by simp[gG.fresh,gG.fill];lia)
 dsimp only;rw[rf];show gF (gE (jk g' rfl ?_));let sb4:4096=scanBound:=rfl;rw[Std.Legacy.Range.forIn_eq_forIn_range'];show gE ?_;show a94 (kd:=kd) (ks:=ks) (k0:=k0) (a:=s.heap.objs.size) (d:=d) (epd:=epd) (kR:=toString "set.__init__"++toString ":changed-during-callback") (m2:="internal:set-from-dict") (aS ld) rfl hl (by lia) he ?_ _ 0 _ [] _ ?_ g' (SI.fresh gS) (.nil,aI _,λx=>by simp) λh' ms sb S M=>?_
 .ext i r;show congrArg _ (funext λes=>?_);cases es[i]?<;>rfl
 .simp[Std.Legacy.Range.size,hl]
 .show gF (gF (rfl,h',ms,rfl,S,M,λb o e=>?_));show sb.extBut b o (aS (Heap.lt_size e)) (Heap.get?_push_of_some _ e)
end
end SetW
theorem b8g:∀{es:List jI}{vs:List (Key×Value)}{ns:List Str},Pairs (a0j P w) es vs->(∀e∈es,∃k,(a0j P w).is k e.key=kP/\e.hash=(a0j P w).hash k)->vs.map (·.1)=ns.map .inr ->
  ∀(i:Nat) e,es[i]?=be e->∃k,ns[i]?=be k/\(PySem.strKind P w).is k e.key=kP/\e.hash=(PySem.strKind P w).hash k/\e.key.scannable=kP
 |_,_,ns,.nil,_,_,i,e,h=>by simp at h
 |_,_,[],.cons ..,_,a,i,e,h=>by cases a
 |e0::es,kv::vs,n::ns,.cons h1 h2 h3,hk,a,i,e,h=>by
  cases i with
  |succ i=>show b8g h3 (λe c=>hk e (.tail _ c)) ↑((bE.inj a).2) i e ↑h
  |zero=>
   cases h;let a:kv.1=.inr n:=(bE.inj a).1;rw[a]at h1;let(k,b,d):=hk e0 (.head _)
   let:=(a0j P w).inj _ _ _ b h1
   subst this;let(_,_,z,_)||(x,t,z,q)||(z,_):=a0n (k:=.inr n) h1
   .cases z
   .cases z;show(n,rfl,by rw[q];show strKind_is ..,d,by rw[q];rfl)
   .cases z
def b5c(X:Cx):List V->Hp->VK->Prop:=λxs H Q=>∃(p:Addr)(kvs:List (Key×V))(ns:List Str),xs=[.ref p]/\(H p=be (.dK kvs)\/∃o,H p=be (.frz o (.dK kvs)))/\kvs.map (·.1)=ns.map .inr/\ns.length<=4 /\
 ∀(t:Addr)(ms:List Str)(o:Obj),H t=gV->ms.Nodup->(∀x,x∈ms↔x∈ns)->ms.length<=ns.length->Q (.ref t) (upd H t (.frz o (setS X t ms)))
def a3m:CallR X (.type "set") (b5c X):=by
 ext f s σ H xs us Q I r h;let(p,a,j,rfl,J,L,B,q):=h;let(u,rfl,N):=a1K r;cases N;obtain⟨_,m,b,G,od,D,ep,g,T,R,ks,t,_⟩:a.length<=gH/\_=kQ/\∃b,KV a b/\s.heap.DictOf (a0j X.prog X.w) p b:=by
  let e||(o,e):=J
  .show I.hok p _ e
  .show (I.hok p _ e).2
 let z:∀{a:List (Key×V)}{b:List _},KV a b->b.map _=a.map (·.1):=λ{a}=>by
  induction a with
  |nil=>ext b h;cases h;rfl
  |cons p a ih=>ext b h;cases h with |cons h1 h2=>rw[aR,aR,ih h2,h1.1]
 let n:=(z G).trans L;let C:D.size=j.length:=by
  let v:=t.length;let A:=congrArg bj n;simp at v A
  lia
 show SetW.call_setD (k0:=Str.ofString "") g T R (by grind) C B (λi e h=>b8g t (λe E=>ks e (by simp_all)) n i e (by simp_all)) λc d S M k=>?_;obtain⟨o,e⟩:∃o,c.get? s.heap.objs.size=be o:=let (_,_,_,S'):=S;let (o,e,_):=S'.at_;(o,e)
 let F:=
  I.laid (t':=s.toks) k (aI _) (show ObjOk X.prog X.w _ c _ (.frz o (setS X s.heap.objs.size d)) from (e,S,(o,e),λ_ _ x y=>x.at y))
 show(.ref s.heap.objs.size,_,F,rfl,q _ d o (I.hok.fresh (aI _)) M.1 (metK M) M.2.1)
def rOrS(X:Cx):R2:=λx y H Q=>∃(p q:Addr)(o o':Obj)(ms mo:List Str),x=.ref p/\y=.ref q/\p≠q/\H p=be (.frz o (setS X p ms))/\H q=be (.frz o' (setS X q mo))/\ms.length<=4/\mo.length<=4/\ms.Nodup/\mo.Nodup /\
 ∀(t:Addr)(ks:List Str),H t=gV->ks.Nodup->(∀x,x∈ks↔x∈ms\/x∈mo)->ks.length<=ms.length+mo.length->Q (.ref t) (upd H t (setS X t ks))
def b8h:OpR X (gY .BitOr) (rOrS X):=by
 ext b s σ H x y v u Q I D G h;let(p,r,o,N,f,E,rfl,rfl,j,F,z,m,i,C,B,q):=h;cases D;cases G;let(L,T,t,S):=(I.hok p _ F).2.1;let(M,J,R,So):=(I.hok r _ z).2.1;show SetW.or_set j S So m i C B λg a d k c n e l=>?_;let A:=
  (I.drew d).laid (t':=s.toks) k (aI _) (show ObjOk X.prog X.w _ g _ (setS X s.heap.objs.size a) from (c,let (_,_,_,S'):=c;let (o,e,_):=S'.at_;(o,e),λ_ _ x y=>x.at y))
 show(.ref s.heap.objs.size,_,A,rfl,q _ a (I.hok.fresh (aI _)) n e l)
section
variable{a b:Expr}{ta tb:A3}{x:Str}{p p2 p3 pos2 pos3 pos4:Pos}
def KeysS(G:Hq)(ws:List Z)(ns:List Str):Prop:=∃(p:Addr)(kvs:List (Key×Z)),ws=[.ref p]/\(G p=be (.dK kvs)\/G p=be (.dF kvs))/\kvs.map (·.1)=ns.map .inr/\ns.length<=4
def uSSU(ta tb:A3):E3:=fun σ G R=>ta σ G λws G1=>∃ns,KeysS G1 ws ns/\tb σ G1 λws' G2=>∃ns',KeysS G2 ws' ns' /\
 ∀(t:Addr)(ks:List Str),G2 t=gV->jj ks=kP->ks.Nodup->(∀x,x∈ks↔x∈ns\/x∈ns')->ks.length<=8->R (.ref t) (put G2 t (.lst (ks.map Z.str)))
def KeysS.low{K:Fg}(h:KeysS G ws ns)(rs:Reps K H ws vs)(hg:RH K G H) :
  ∃(p:Addr)(kvs:List (Key×V)),vs=[.ref p]/\(H p=be (.dK kvs)\/∃o,H p=be (.frz o (.dK kvs)))/\kvs.map (·.1)=ns.map .inr:=by
 let(p,f,rfl,e,d,_):=h;let(v,rfl,r):=rs.one;let e||e:=e
 .let(a,c,b,_):=hg _ _ e;show(p,a,by rw[r],.inl c,by rw[b,d])
 .let(o,a,c,b,_):=hg _ _ e;show(p,a,by rw[r],.inr (o,c),by rw[b,d])
def b8i(hc:X.calm=kP)(hg:Gl X x)(hm:X.mg x=gV)(hv:ib x=be (.builtin "sorted"))(hg2:Gl X y)(hm2:X.mg y=gV)(hv2:ib y=be (.type "set"))(ha:QA X [a] ta)(hb:QA X [b] tb)
  (he:gJ [a] X.env=(kQ,eval a X.env,)::gJ [] X.env) (hpl:(backTo pos2 (gJ [] X.env)).any (·.1)=kQ)
  (he2:gJ [b] X.env=(kQ,eval b X.env,)::gJ [] X.env) (hpl2:(backTo pos3 (gJ [] X.env)).any (·.1)=kQ)
  (hn:x≠"__name__":=by decide) (hdb:(x==("__debug__":Str))=kQ:=by decide) (hn2:y≠"__name__":=by decide) (hdb2:(y==("__debug__":Str))=kQ:=by decide) :
  QE X (.Call (.Name x p) [.BinOp (.Call (.Name y p2) [a] [] pos2) .BitOr (.Call (.Name y p3) [b] [] pos3) pos4] [] pos) (uSSU ta tb):=⟨a0P (a4c (a4y hc) hg hm hv (a4b (b6b b8h (a1V a3m hg2 hm2 hv2 ha.p hn2 hdb2 he hpl) (a1V a3m hg2 hm2 hv2 hb.p hn2 hdb2 he2 hpl2)) a6G rfl) hn hdb rfl rfl) fun τ H Q hx=>hx.un fun σ G R hs hg h up=>
 (σ,G,_,hs,hg,h,λws G1 vs T n rs i S=>by
  let(ns,J,n):=n;let(p,w,rfl,e,hn):=J.low rs i;let(_,_,_,_,_,z1):=J;show(p,w,ns,rfl,e,hn,z1,λt C o A nd me ml=>?_);let t2:TK X.K T (L2.upd T t (.frz o (setS X t C))):=.new A;show(σ,G1,_,hs.mono (S.trans t2),i.hid A,n,λws' G2 vs' H2 m I hg2 L=>?_);let(ns',B,m):=m;let(p',k,rfl,e',N):=B.low I hg2;let(_,_,_,_,_,z2):=B;let r:=L.frd t o _ a0f;show(p',k,ns',rfl,e',N,z2,λq j o' c nd' F ml'=>?_);let D:t≠q:=λz=>by rw[z]at r;rw[r]at c;cases c
  show(t,q,o,o',C,j,rfl,rfl,D,by rw[a0d D];show r,a0f,by lia,by lia,nd,nd',λu M v n3 m3 l3=>(u,M,rfl,a0f,by lia,λu2 g f l so=>?_));let g3:=(hg2.hid c).hid (u:=setS X u M) v;show up _ _ _ _ (m u2 g (g3.out f) so (l.nodup_iff.mpr n3) (λx=>by rw[l.mem_iff,m3,me,F]) (by rw[l.length_eq];lia)) (by rw[a0q]) (g3.set (.new f) (_,a0f,a31 g)) (S.trans (t2.trans (L.trans ((TK.new c).trans ((TK.new v).trans (.new f)))))))⟩
end
def b18(na:(a==g9)=kQ)(nb:(b==g9)=kQ)(da:s.heap.DictOf (a0j P w) a ka)(db:s.heap.DictOf (a0j P w) b kb)(hu:A.units<cLine)(hl:ka.length=kb.length)
  (hv:∀(i:Nat) k v,ka[i]?=be (k,v,)->∃y,iq kb k=be y/\EqW P w A.in1 s v y) (q:Q (.bool kP) s):wpAny (model P w) A (gO .Eq (.ref a) (.ref b)) Q E s:=by
 show wpAny_richCompare_same_room (op:=.Eq) da.typeIs db.typeIs PySem.F.slot_dict_eq (ii PySem.F.slot_dict_eq da.typeIs PySem.F.entry_dict_eq ?_ (PySem.F.args_dict_eq_2 _ _)) hu;show gE ?_;show gE (kK da.typeIs (gF ?_));show gE (iY db.typeIs PySem.F.sub_dict_dict ?_);show gE (gF (gE (gF (gE (a5p na nb da db hl hv ?_)))));show gF (_,rfl,(λx=>nomatch x),q)
def b5d{K:Fg}(hg:RH K G H)(h1:LEq G x kU)(r1:Rep K H x kR)(r2:Rep K H kU v):DEq1 H kR v:=by
 let(p,q,a,rfl,rfl,e,h,f):=h1;subst r1 r2;let(j,b,d):=hg _ _ e;let(i,c,g):=hg _ _ h;show(.list _,?_,?_,a1f f (by simp),?_);show(_,j,rfl,b,a48 8 _ _ f d);show(_,i,rfl,c,a48 8 _ _ f g)
 .simp only[PyData.eqv];show (a9g 8 8 a a f f).mpr rfl
def b19(R:V->V->Prop)(H:Hp)(x y:V):Prop:=∃a b ua ub,x=.ref a/\y=.ref b/\Rd H a (.dK ua)/\Rd H b (.dK ub)/\ua.length=ub.length/\∀(i:Nat) p,ua[i]?=be p->∃y,valV ub p.1=be y/\R p.2 y
section
variable{σ:St}
def a33{a b:Addr}{x y:V}(I:Inv X pins σ H s)(hu:X.A.units+66<cLine)(h:b19 (DEq1 H) H x y):∃a b ka kb,x=.ref a/\y=.ref b/\(a==g9)=kQ/\(b==g9)=kQ/\s.heap.DictOf (a0j X.prog X.w) a ka/\s.heap.DictOf (a0j X.prog X.w) b kb/\ka.length=kb.length /\
  ∀(i:Nat) k v,ka[i]?=be (k,v,)->∃y,iq kb k=be y/\EqW X.prog X.w X.A.in1 s v y:=by
 let(a,b,ua,ub,rfl,rfl,ra,rb,hl,hr):=h;let(_,na,ka,va,da):=a7M I.hok ra;let(_,nb,kb,vb,db):=a7M I.hok rb;show(a,b,ka,kb,rfl,rfl,na,nb,da,db,by rw[a3Z va,a3Z vb,hl],λi k v e=>?_);let li:i<ua.length:=by let:=(aM.mp e).1;rw[a3Z va]at this;show this
 obtain⟨p,hp⟩:∃p,ua[i]?=be p:=(_,aP li);let(p',e1,e2,e3):=b45 va hp;rw[e]at e1;cases e1;let(y,hy,d,d1,d2,d3,d4):=hr i p hp;let q:=vb.val p.1;rw[hy]at q;cases hz:iq kb p.1 with
 |none=>rw[hz]at q;cases q
 |some z=>
  rw[hz]at q;let q:RelV y z:=q;show(z,by rw[<- hz,e2],?_);let(as,q1):=d1.reads I.hok e3;let(bs,q2):=d2.reads I.hok q
  let:=PySem.W.keq_at (A:=X.A) q1 q2 d3 d3 (by change X.A.units+1+64<_;cbv)
  rw[d4]at this;show λE Q h=>this _ _ E Q h
def b5e(hu:X.A.units+66<cLine):OpR X (gO .Eq) (λx y H Q=>b19 (DEq1 H) H x y/\Q (.bl kP) H):=by
 intro pins s σ H x y v u Q I rx ry (h,q);let(a,b,ka,kb,rfl,rfl,na,nb,da,db,hl,hv):=a33 (a:=0) (b:=0) I hu h;cases rx;cases ry;show b18 na nb da db (by cbv) hl hv (.bl kP,H,I,rfl,q)
def b5f(hu:X.A.units+66<cLine):OpR X (gO .NotEq) (λx y H Q=>b19 (DEq1 H) H x y/\Q (.bl kQ) H):=by
 intro pins s σ H x y v u Q I rx ry (h,q);let(a,b,ka,kb,rfl,rfl,na,nb,da,db,hl,hv):=a33 (a:=0) (b:=0) I hu h;cases rx;cases ry;show b46 na nb da db (by cbv) hl hv (.bl kQ,H,I,rfl,q)
end
def b2a(R:Z->Z->Prop)(G:Hq)(x y:Z):Prop:=∃a b ka kb,x=.ref a/\y=.ref b/\(G a=be (.dK ka)\/G a=be (.dF ka))/\(G b=be (.dK kb)\/G b=be (.dF kb))/\ka.length=kb.length/\∀(i:Nat) p,ka[i]?=be p->∃y,valZ kb p.1=be y/\R p.2 y
def a5r{K:Fg}{G:Hq}{H:Hp}(hg:RH K G H){x y:Z}{u v:V}(h:b2a (LEq G) G x y)(ru:Rep K H x u)(rv:Rep K H y v):b19 (DEq1 H) H u v:=by
 let(a,b,ka,kb,rfl,rfl,ea,eb,hl,hr):=h;rw[a0q]at ru rv;let(us,e1,n1,r1):=a9Y hg ea;let(vs,e2,n2,r2):=a9Y hg eb;let l1:us.length=ka.length:=by let:=congrArg bj n1;o_head this
 let l2:vs.length=kb.length:=by let:=congrArg bj n2;o_head this
 show(a,b,us,vs,ru,rv,e1,e2,by lia,λi p hp=>?_);obtain⟨p',hp'⟩:∃p',ka[i]?=be p':=(_,aP (by let:=(aM.mp hp).1;lia));let(p2,a1,a3,a2):=a6g n1 r1 hp';rw[hp]at a1;cases a1;let(y,hy,R):=hr i p' hp';let(z,z1,z2):=(a0M n2 r2).2 y hy;show(z,by rw[a3];show z1,b5d hg R a2 z2)
def c0m:R3:=λx y G R=>b2a (LEq G) G x y/\R (.bl kP) G
def c0n:R3:=λx y G R=>b2a (LEq G) G x y/\R (.bl kQ) G
def b3e{X:Cx}(hu:X.A.units+66<cLine):OpQ X (gO .Eq) c0m:=a29 (b5e hu) λx y H Q hx=>hx.un λa b G R ra rb hg h up=>(a5r hg h.1 ra rb,up _ _ _ _ h.2 (by rw[a0w]) hg (.refl _ _))
def a7e{X:Cx}(hu:X.A.units+66<cLine):OpQ X (gO .NotEq) c0n:=a29 (b5f hu) λx y H Q hx=>hx.un λa b G R ra rb hg h up=>(a5r hg h.1 ra rb,up _ _ _ _ h.2 (by rw[a0w]) hg (.refl _ _))
def c0o(PC:Addr->Prop)(tc:XK->TE)(th:Addr->Addr->TS):TS:=λD σ H=>∃E:XK,tc E σ H (λ_ H1=>D.nx σ H1)/\∀c H',E c gV H'->∃C,c=.ref C/\PC C/\∀e,H' e=gV->th C e D σ H'
section
variable{ce:Expr}{x:Str}{D:Addr}{hpos:Pos}
def b5g{b₀:Stmt}{suite:List Stmt}{tc:XK->TE}{PC:Addr->Prop}{th:Addr->Addr->TS}(hst:X.stack=X.env::X.outer)(hex:X.ex=[])(hfm:X.env.frame=be X.env.locals)(hb:PX X ce tc)(hg:Gl X x)(hm:X.mg x=be (.ref D))(hD:∀C,PC C->PySem.W.exmOne X.K (.ref C) (.ref D)=be kP)
  (hh:∀C e oe,PC C->oe.cls=.ref C->oe.dict=gV->PySem.W.notCls oe=kP->PSs (X.hnd e oe) (b₀::suite) (th C e))
  (hs:ik ce gV pos.line X.env=pure kQ:=by rfl) (hd:(x==("__debug__":Str))=kQ:=by decide) :
  PS X (.Try [.Expr ce pos] [.ExceptHandler (be (.Name x np)) gV (b₀::suite) hpos] [] [] tpos) (c0o PC tc th):=by
 intro pins s σ H D' I (E,hc,hE);show wpAny_Try_except (j3 (wpAny_Expr_any (gX (hb pins s σ H _ E I hc) (λv s1 (y,H1,I1,r1,q1)=>i5 (i5 (σ,H1,I1,q1))) λev s' q=>?_) I.quiet hs));let(H1,s1,I1,e,C,H',rfl,os,bare,un,hok,((T,f,nT,fT),ne,fe),q):=q;let(C0,hC,hPC,hth):=hE _ _ q;cases hC;let I2:Inv X pins σ H' s':=I1.call' (ch:=[]) os un hok bare λ_ z=>nomatch z;let fr:X.A.frames=be (X.env::X.outer):=by rw[<- hst];show I.ok.frames
 let fl:s'.heap.FunFrames X.base (X.env::X.outer):=by rw[<- hst];show I2.stack
 let young:∀b,s1.heap.get? b=gV->H' b=gV->X.s₀.heap.get? b=gV/\H' b=gV/\b≠X.env.locals/\(∀x c,X.env.cells.lookup x=be c->c≠b)/\∀p∈X.pn++pins,p.1≠b:=λb h1 h2=>by
  show(?_,h2,λz=>?_,λx c hx z=>?_,λp hp z=>?_)
  .cases q0:X.s₀.heap.get? b with
   |none=>rfl
   |some o=>
    let(o',e'):=I1.base.there b o q0 (by rw[hex];show dA);rw[h1]at e';cases e'
  .let(m,(o,_,_,e',_),_):=I1.loc;rw[z,e']at h1;cases h1
  .let(v,o,e',_):=I1.cell x c hx;rw[z,h1]at e';cases e'
  .let e':=(I1.pin p hp).1;rw[z,h1]at e';cases e'
 show b2P (base:=X.base) fr fl hfm f λh1 T1 k1 f1 z1=>b01 (s:={ s' with heap:=h1 }) f1 λh2 k2 f2=>?_;let yT:∀b,b=e\/b=T->X.s₀.heap.get? b=gV/\H' b=gV/\b≠X.env.locals/\(∀x c,X.env.cells.lookup x=be c->c≠b)/\∀p∈X.pn++pins,p.1≠b:=λb hb=>by
  let rfl||rfl:=hb
  .show young _ ne fe
  .show young _ nT fT
 let tk:∀b,b=T1->(b=e\/b=T)\/s'.heap.objs.size<=b:=λb hb=>by
  rw[hb];let z||z:=z1
  .show .inl (.inr z)
  .show .inr z
 let k12:=k1.trans (k2 _) tk;let I3:Inv X pins σ H' { s' with heap:=h2 }:=I2.lk0 (by rw[hst];show k12) yT;let mk:∀{h:Heap},FlyT e (.ref C) T1 .none h->Inv X pins σ H' { s' with heap:=h }->∃oe,oe.cls=.ref C/\oe.dict=gV/\PySem.W.notCls oe=kP/\Inv (X.hnd e oe) pins σ H' { s' with heap:=h }:=λ{h} f I=>by
  let(oe,vs,_,_,g1,g2,g3,_):=f;show(oe,g2.1,g2.2,by unfold PySem.W.notCls;rw[g3],I.hnd g1 fe (young e ne fe).2.2.1 (λz=>?_) (λv=>by rw[g3];show λz=>nomatch z));let(_,ob,hob,no):=I.funs.mem z;let hob':h.get? e=be ob:=hob;rw[g1]at hob';cases hob';show no vs g3
 let(oe,c1,c2,c3,J3):=mk f2 I3;show wpAny_handleBy_cons (codeAny_handlers_test (a2j (X:=X.hnd e oe) J3 hg hm ?_ hd)) (by ext q;cases q);let LT:PySem.W.Looks (model X.prog X.w) h2 (typeOf (.ref e)) (.ref C):=by
  let he:=(J3.pin (e,oe,) (.head _)).1;show c1▸(PySem.W.Looks.ld he).andThen .now
 show (PySem.W.exm_one I3.kIn LT (hD C hPC)).at ?_;show codeAny_handlers_suite ?_;show b01 (s:={ s' with heap:=h2 }) f2 λh3 k3 f3=>?_;let I4:Inv X pins σ H' { s' with heap:=h3 }:=I2.lk0 (by rw[hst];show k12.trans (k3 _) tk) yT;let(oe,c1,c2,c3,J4):=mk f3 I4;show gX (hh C e oe hPC c1 c2 c3 pins _ _ H' _ J4 (hth e fe)) (λfl s6 q6=>?_) λ_ _ z=>aN z;cases fl with
 |next=>
  let(σ6,H6,J6,q):=q6;show(_,H6,J6.unhnd I.ok,q)
 |brk=>
  let(σ6,H6,J6,q):=q6;show(_,H6,J6.unhnd I.ok,q)
 |cont=>
  let(σ6,H6,J6,q):=q6;show(_,H6,J6.unhnd I.ok,q)
 |ret u=>
  let(v,σ6,H6,J6,r6,q):=q6;show(v,_,H6,J6.unhnd I.ok,r6,q)
end
section
variable{e:Expr}{x:Str}{p cp hpos:Pos}{t:A3}{k:Nat}{C D:Addr}{sp:PX3}
def b5h(C:Addr)(sp:PX3)(t:A3)(th:X3):X3:=λnx rt bk ct σ G=>t σ G λws G1=>sp ws G1 (λ_ G2=>nx σ G2) λC' G2=>C'=C/\th nx rt bk ct σ G2
def b8j{th:X3}{nx bk ct:S3->Hq->Prop}{rt:K3}{σ:S3}{G:Hq}(h:t σ G λws G1=>sp ws G1 (λ_ G2=>nx σ G2) λC' G2=>C'=C/\th nx rt bk ct σ G2):b5h C sp t th nx rt bk ct σ G:=h
def b8k{b₀:Stmt}{suite:List Stmt}{th:X3}{f:Addr}{fd:hZ}{ps:List Str}(hst:X.stack=X.env::X.outer)(hex:X.ex=[])(hfm:X.env.frame=be X.env.locals)
  (F:FnOk X.prog X.w X.K X.mg X.base (CXx X.prog X.w) k f fd ps (a4x X.K sp)) (hr:Room k X.A) (hgf:Gl X y) (hmf:X.mg y=be (.ref f)) (hk:PySem.W.keepIn X.K (.ref f)=kP) (hb:Binds X.K fd ps []) (ha:QA X.nox (e::es) t)
  (hg:Gl X x) (hm:X.mg x=be (.ref D)) (hD:PySem.W.exmOne X.K (.ref C) (.ref D)=be kP)
  (hh:∀e oe,oe.cls=.ref C->oe.dict=gV->PySem.W.notCls oe=kP->QSs (X.hnd e oe) (b₀::suite) th)
  (he:gJ (e::es) X.env=(kQ,eval e X.env,)::gJ es X.env:=by rfl) (hpl:(backTo cp (gJ es X.env)).any (·.1)=kQ:=by rfl) (hdb:(y==("__debug__":Str))=kQ:=by decide)
  (hs:ik (.Call (.Name y p) (e::es) [] cp) gV pos.line X.env=pure kQ:=by rfl) (hd:(x==("__debug__":Str))=kQ:=by decide) :
  QS X (.Try [.Expr (.Call (.Name y p) (e::es) [] cp) pos] [.ExceptHandler (be (.Name x np)) gV (b₀::suite) hpos] [] [] tpos) (b5h C sp t th):=
 ⟨a1o (b5g (PC:=(·=C)) (th:=λ_ _=>lowS X.K th) (tpos:=tpos) (np:=np) (hpos:=hpos) hst hex hfm (b3T F hr hgf hmf hk hb ha.p hdb he hpl) hg hm (λ_ z=>z▸hD) (λ_ e oe z h1 h2 h3=>(hh e oe (z▸h1) h2 h3).p) hs hd) λD τ H hx=>hx.un fun σ G nx rt bk ct hs hg h u1 u2 u3 u4=>by
  show(λc _ H'=>∃C' G',c=.ref C'/\(C'=C/\th nx rt bk ct σ G')/\RH X.K G' H'/\TK X.K H H',?_,?_)
  .show(σ,G,_,hs,hg,h,λws G1 vs H1 h1 rs hg1 t1=>(ws,G1,_,_,by rw[bh];show rs,hg1,h1,λw G2 v H2 h2 _ hg2 t2=>u1 _ _ _ _ h2 (hs.mono (t1.trans t2)) hg2 (t1.trans t2),λC' G2 H2 h2 r2 t2=>(C',G2,rfl,h2,r2,t1.trans t2)))
  .ext c H' ⟨C',G',rfl,⟨hC',hth⟩,hg',t'⟩;show(C',rfl,hC',λe _=>(σ,G',nx,rt,bk,ct,hs.mono t',hg',hth,?_,u2.mono t',?_,?_))
   .show fun σ2 G2 τ2 H2 h2 hs2 hg2 t2=>u1 _ _ _ _ h2 hs2 hg2 (t'.trans t2)
   .show fun σ2 G2 τ2 H2 h2 hs2 hg2 t2=>u3 _ _ _ _ h2 hs2 hg2 (t'.trans t2)
   .show fun σ2 G2 τ2 H2 h2 hs2 hg2 t2=>u4 _ _ _ _ h2 hs2 hg2 (t'.trans t2)⟩
end
noncomputable def a95(K:Fg)(f P0:Addr):Bool:=match K.lookup f with
 |some (_,_,.func fd,_)=>(match fd.code with
  |.ref c=>PySem.W.codeHdIn K c P0
  |_=>kQ)
 |_=>kQ
section
variable{K:Fg}{mg:Str->Option Value}{base:Heap}{x q:Str}{st:Stmt}{f C P0:Addr}{d:hZ}{N ps:List Str}{k n:Nat}
def a7f(F:Fun K x q st f d)(h:a95 K f P0=kP):∃c,d.code=.ref c/\PySem.W.codeHdIn K c P0=kP:=by
 let(n,l,j,i,o,m,a,k,e,rfl,b,g):=F.ex;unfold a95 at h;rw[b]at h
 match a,h with
 |.ref c,h=>show(c,rfl,h)
def fnL(F:Fun K x q st f d)(hL:a95 K f P0=kP)(S:FnScope N ps (a0h st))(len:∀ws G R,sp ws G R->ws.length=ps.length)
  (b:∀(c:Addr)(A:Around)(outer:List Env)(s:Shared)(H:Hp)(E:XK)(ws:List Z)(G:Hq)(R:K3),PySem.W.codeHdIn K c P0=kP->Room k (A.deeper (envOfC q (a0h st) s.heap.objs.size f (.ref c)))->N.Nodup->sp ws G R ->
   ∃t,QSs (cxOf CX0 P w K mg base N q (a0h st) f (.ref c) A outer s H E).nox (a0K st) t/\t (λ_ G'=>R .non G') R (λ_ _=>False) (λ_ _=>False) (a0Z N ws) G):FnOk P w K mg base CX0 (k+1) f d ps (lowP K sp):=by
 let(c,i,D):=a7f F hL;let(M,T,X,L,V,an,m,ct,I,rfl,B,n):=F.ex;subst i;show b3K B n S (λy H Q E (j,G,R,e,l,h,g)=>by rw[<- e.length];show len _ _ _ h) ?_;ext A a s H y Q E v ⟨j,G,R,e,l,h,g⟩;let(t,u,z):=b c A a s H E j G R D v S.nd h;show(_,PSs.nox u.p,a0Z N j,G,_,R,_,_,.start e,l,z,fun σ' Y τ' U r J o C=>g _ _ _ _ r (by rw[a0x]) o C,g,λ_ _ _ _ h _ _ _=>h.elim,λ_ _ _ _ h _ _ _=>h.elim)
def FXL(K:Fg)(x:Str)(P0:Addr):Prop:=∃f,NsG K x (be (.ref f))/\a95 K f P0=kP
def fncL(n:Nat)(B:Br K mg)(F:FX K x st)(L:FXL K x P0)
  (b:∀(f c:Addr)(A:Around)(outer:List Env)(s:Shared)(H:Hp)(E:XK)(ws:List Z)(G:Hq)(R:K3),PySem.W.codeHdIn K c P0=kP->Room k (A.deeper (envOfC x (a0h st) s.heap.objs.size f (.ref c)))->N.Nodup->sp ws G R ->
   ∃t,QSs (cxOf CX0 P w K mg base N x (a0h st) f (.ref c) A outer s H E).nox (a0K st) t/\t (λ_ G'=>R .non G') R (λ_ _=>False) (λ_ _=>False) (a0Z N ws) G)
  (len:∀ws G R,sp ws G R->ws.length=(N.take n).length) (S:FnScope N (N.take n) (a0h st)) (pl:Pl x x st (N.take n)):Cal P w K mg base CX0 (k+1) x (lowP K sp):=by
 let(f,d,e,F):=F;let(h,g,a):=L;cases (e.symm.trans g);show⟨(f,(d,_,fnL F a S len λc=>b f c,F.binds pl),B _ _ e,F.kp)⟩
end
section
variable{k j:Nat}
def q_sk(hm:X.mg "sorted"=gV)(hr:Room j X.A)(ha:QE X a te)(hc:X.env.code=.ref c)(hd:PySem.W.codeHdIn X.K c P0=kP)(gP:gZ≠P0)(bi:X.base.BuiltinsAt X.mg P0)
  (ht:∀(f c':Addr)(A:Around)(outer:List Env)(s:Shared)(H:Hp),Room k (A.deeper (envOfC q scope s.heap.objs.size f (.ref c')))->N.Nodup->QE (cxOf CX0 X.prog X.w X.K X.mg X.base N q scope f (.ref c') A outer s H E0).nox body tb)
  (sc:FnScope N [y] scope) (qn:q=X.env.qual++"<lambda>") (df:kL params X.env=([],[],)) (cl:jt scope X.env=pure [])
  (bd:∀(pm ctv:Value)(c':Addr)(us:List Value),us.length=1->i8 (PySem.W.kla_fn "<lambda>" q params body scope [] pm (.ref c') ctv) (us,[])=pure ([y].zip us)) (hk:k+3<=j:=by decide) (hg:Gl X "sorted":=by rfl) (hn:nst a=kP:=by rfl) :
  QE X (.Call (.Name "sorted" pN) [a] [(be "key",.Lambda params body scope lpos,kp)] pos) (a9X P0 lpos q N te tb):=
 b43 hg hm (hr.mono hk) (sc,qn,df,cl,(c,hc,hd),gP,bi,bd) ha (λf d A b s H r=>ht f d A b s H r sc.nd) (se_ hn)
end
def a79{K:Fg}(a:Addr)(ns:List Int)(f:Fz K H a (ns.map V.int))(hT:H P0=be (.tbl #[]))(h:sp [.scr a ns] (put (λ_=>gV) P0 (.tab lp q)) λw _=>w=.bl kP):lowP K sp [.ref a] H (λv _=>v=.bl kP) kR:=
 ([.scr a ns],put _ P0 _,λw _=>w=.bl kP,.cons (by rw[a2m];show(rfl,f)) .nil,λb o e=>(by
  by_cases hb:b=P0
  .subst hb;rw[a0a]at e;cases e;show(#[],hT,.inl rfl)
  .rw[put_ne hb]at e;cases e),h,λw G v c e r _ _=>by subst e;rw[a0w]at r;show r)
def Fz.ofT{K:Fg}(hO:b11 P0 H)(h:SqL K H a xs):Fz K H a xs:=by
 let(h||h)||h:=h
 .by_cases hb:a=P0
  .rw[hb,hO.1]at h;cases h
  .let z||(o,ys,z):=hO.2 a hb
   .grind
   .simp_all
 .show .inl h
 .show .inr h
section
variable{CX:CXT}{K:Fg}{mg:Str->Option Value}{base:Heap}{N:List Str}{q:Str}{so:Scope}{f:Addr}{cd:Value}{outer:List Env}{E:XK}
def cxNn:(cxOf CX P w K mg base N q so f cd A outer s H E).nox.nox.N=N:=rfl
def cxNh{e:Addr}{oe:Obj}:((cxOf CX P w K mg base N q so f cd A outer s H E).nox.hnd e oe).N=N:=rfl
end
section
variable{e:Expr}{x:Str}{p cp hpos:Pos}{t:A3}{k j:Nat}{C D:Addr}{sp:PX3}
def z_t0{b₀:Stmt}{suite:List Stmt}{th:X3}(c:Cal X.prog X.w X.K X.mg X.base (CXx X.prog X.w) k y (a4x X.K sp))(hr:Room j X.A)(ha:QA X.nox (e::es) t)(hm:X.mg x=be (.ref D))(hD:PySem.W.exmOne X.K (.ref C) (.ref D)=be kP)
  (hh:∀e oe,oe.cls=.ref C->oe.dict=gV->PySem.W.notCls oe=kP->QSs (X.hnd e oe) (b₀::suite) th) (hn:(e::es).all nst=kP:=by rfl) (hk:k<=j:=by decide) (hst:X.stack=X.env::X.outer:=by rfl) (hex:X.ex=[]:=by rfl) (hfm:X.env.frame=be X.env.locals:=by rfl) (hgf:Gl X y:=by rfl) (hg:Gl X x:=by rfl)
  (hdb:(y==("__debug__":Str))=kQ:=by decide) (hs:ik (.Call (.Name y p) (e::es) [] cp) gV pos.line X.env=pure kQ:=by rfl) (hd:(x==("__debug__":Str))=kQ:=by decide) :
  QS X (.Try [.Expr (.Call (.Name y p) (e::es) [] cp) pos] [.ExceptHandler (be (.Name x np)) gV (b₀::suite) hpos] [] [] tpos) (b5h C sp t th):=by
 let(f,(d,ps,F,hb),hmf,hkp):=c.ex;show b8k hst hex hfm F (hr.mono hk) hgf hmf hkp hb ha hg hm hD hh (s1_ hn) (h1_ hn) hdb hs hd
end
abbrev B3:=(Addr->Hq->Prop)->X3
set_option genInjectivity false in
inductive Ex4 {α0 α1 α2 α3:Type}(p:α0->α1->α2->α3->Prop):Prop
 |mk (a0:α0) (a1:α1) (a2:α2) (a3:α3) (h:p a0 a1 a2 a3):Ex4 p
set_option genInjectivity false in
inductive Ex5 {α0 α1 α2 α3 α4:Type}(p:α0->α1->α2->α3->α4->Prop):Prop
 |mk (a0:α0) (a1:α1) (a2:α2) (a3:α3) (a4:α4) (h:p a0 a1 a2 a3 a4):Ex5 p
set_option genInjectivity false in
inductive Ex6 {α0 α1 α2 α3 α4 α5:Type}(p:α0->α1->α2->α3->α4->α5->Prop):Prop
 |mk (a0:α0) (a1:α1) (a2:α2) (a3:α3) (a4:α4) (a5:α5) (h:p a0 a1 a2 a3 a4 a5):Ex6 p
set_option genInjectivity false in
inductive Ex7 {α0 α1 α2 α3 α4 α5 α6:Type}(p:α0->α1->α2->α3->α4->α5->α6->Prop):Prop
 |mk (a0:α0) (a1:α1) (a2:α2) (a3:α3) (a4:α4) (a5:α5) (a6:α6) (h:p a0 a1 a2 a3 a4 a5 a6):Ex7 p
set_option genInjectivity false in
inductive Ex8 {α0 α1 α2 α3 α4 α5 α6 α7:Type}(p:α0->α1->α2->α3->α4->α5->α6->α7->Prop):Prop
 |mk (a0:α0) (a1:α1) (a2:α2) (a3:α3) (a4:α4) (a5:α5) (a6:α6) (a7:α7) (h:p a0 a1 a2 a3 a4 a5 a6 a7):Ex8 p
set_option genInjectivity false in
inductive Ex9 {α0 α1 α2 α3 α4 α5 α6 α7 α8:Type}(p:α0->α1->α2->α3->α4->α5->α6->α7->α8->Prop):Prop
 |mk (a0:α0) (a1:α1) (a2:α2) (a3:α3) (a4:α4) (a5:α5) (a6:α6) (a7:α7) (a8:α8) (h:p a0 a1 a2 a3 a4 a5 a6 a7 a8):Ex9 p
end L2
namespace Lw
open PySem L2
noncomputable def top(i:Nat):Stmt:=PySem.Challenge.pw_twotimes_k64_whole_there_and_back.main.body.getD i (.Pass (0,0,0,0))
def UnLt(n:Nat):Prop:=n+66<cLine
def b5i{A:Around}{k:Nat}(hr:Room k A):UnLt A.units:=by let:=hr.un;unfold UnLt;cbv
noncomputable def tF:List (Str×Nat):=("is_name",10,)::("is_moment",11,)::("is_stretch",12,)::("earlier_end",13,)::("ahead_of",17,)::("with_alike_joined",22,)::("from_on",18,)::("put_on",15,)::("bounds_of",19,)::("is_over",21,)::("worths_in",20,)::("laid_together",16,)::("check_in_reach",34,)::("check_name",32,)::("table_at",24,)::("unlike_of",28,)::("changes",25,)::("pairs_by_key",29,)::("line_changed",30,)::("changed",26,)::("turned",27,)::("check_stretch",33,)::("check_telling",36,)::("line_behind",37,)::("_law_cell_at",40,)::("_law_stream",41,)::("_law_take",42,)::("_law_name",43,)::("_law_names",44,)::("_law_stretch",45,)::("_law_worth_at",46,)::("_law_bounds",47,)::("_law_line",48,)::("_law_tellings",49,)::("_law_sheet",50,)::("_law_puts",51,)::("_law_tables",52,)::("_law_refused",53,)::("_law_there",54,)::("law",55,)::[]
noncomputable def tB:List Str:=["all","isinstance","str","len","bool","int","min","max","sorted","set","zip","reversed","dict","range"]
noncomputable def a7g:List (Str×Str×Nat×Nat):=("check_knowing","Sheet.check_knowing",38,7,)::("known_line","Sheet.known_line",38,9,)::("line_at","Sheet.line_at",38,5,)::("keys_at","Sheet.keys_at",38,6,)::("__init__","Sheet.__init__",38,0,)::("keep_line","Sheet.keep_line",38,8,)::("tell","Sheet.tell",38,1,)::[]
noncomputable def a7h:List Str:=["last","kept"]
set_option genInjectivity false in
structure Ad where
 c_Sheet:Addr
 x_NoFit:Addr
 tP:Addr
abbrev lamO:O:=.tab (111,55,111,79) "pairs_by_key.<locals>.<lambda>"
structure Txt (K:Fg) (mg:Str->Option Value) (base:Heap) (a:Ad):Prop where
 br:Br K mg
 f:AllF K top tF
 b0:AllB K tB
 gP:gZ≠a.tP
 bi:base.BuiltinsAt mg a.tP
 lam:FXL K "pairs_by_key" a.tP
 mg_Sheet:mg "Sheet"=be (.ref a.c_Sheet)
 cl_Sheet:Cls K a.c_Sheet
 m_Sheet:AllM K top a.c_Sheet a7g
 n_Sheet:AllN K a.c_Sheet a7h
 mk_Sheet:PySem.W.makesIn K a.c_Sheet=kP/\PySem.W.keepIn K (.ref a.c_Sheet)=kP
 x_NoFit:mg "NoFit"=be (.ref a.x_NoFit)
 xi_NoFit:PySem.W.excIn K a.x_NoFit veM "ValueError.__new__"=kP
 xm_NoFit_NoFit:PySem.W.exmOne K (.ref a.x_NoFit) (.ref a.x_NoFit)=be kP
 xk_NoFit:ExK K a.x_NoFit
 c_LONGEST_NAME:∃t,mg "LONGEST_NAME"=be (.int 8 t)
 c_LAST_MOMENT:∃t,mg "LAST_MOMENT"=be (.int 1000000000000 t)
def Txt.b{K:Fg}{mg:Str->Option Value}{base:Heap}{a:Ad}(T:Txt K mg base a)(i:Nat){x:Str}(h:tB[i]?=be x:=by rfl):mg x=gV:=T.br _ _ (T.b0 i x h)
set_option hygiene false in
local macro_rules | `(tactic| walk_at "in")=>`(tactic| (ext f cdv A outer s H E ws G R hr nd h;let hu:=b5i hr))
set_option hygiene false in
local macro_rules | `(tactic| walk_at "inx")=>`(tactic| (ext f cdv A outer s H E ws G R EE hr nd h ux;let hu:=b5i hr))
set_option hygiene false in
local macro_rules | `(tactic| ac_rfl)=>`(tactic| repeat' first
 | ((with_reducible change QE _ _ _);first | ((with_reducible change QE _ (.Name _ _) _);first | show qw (by first | show cxN | show cxcN | show cxN' | show cxNn | show cxNh) (by with_reducible first | show at_0 | show at_1 | show at_2 | show at_3 | show at_4 | show at_5 | show at_6 | show at_7 | show at_8 | show at_9 | show b8a | show b8b | show b8c | show b8d) | show b2Q (a7i rfl T.c_LONGEST_NAME) | show b2Q (a7i rfl T.c_LAST_MOMENT) | show q_ty (a39 (v:=.ty "str") rfl (T.b 2) rfl rfl) | show q_ty (a39 (v:=.ty "bool") rfl (T.b 4) rfl rfl) | show q_ty (a39 (v:=.ty "int") rfl (T.b 5) rfl rfl) | show q_ty (a39 (v:=.ty "dict") rfl (T.b 12) rfl rfl)) | show a84 | show b9f | show b6J | show q_bl | refine' b3Z x_sl ?_ ?_ ?_ | refine' q_ix x_ix ?_ ?_ (λ_ _=>rfl) | apply q_op | ((with_reducible change QE _ (.Call (.Name "len" _) _ _ _) _);refine' q_B b9x (T.b 3) ?_ (hv:=PySem.boot_len)) | ((with_reducible change QE _ (.Call (.Name "min" _) _ _ _) _);refine' q_B (b9z rfl) (T.b 6) ?_) | ((with_reducible change QE _ (.Call (.Name "max" _) _ _ _) _);refine' q_B (b9y rfl) (T.b 7) ?_) | ((with_reducible change QE _ (.Call (.Name "all" _) _ _ _) _);refine' q_B (b7a rfl) (T.b 0) ?_) | ((with_reducible change QE _ (.Call (.Name "isinstance" _) _ _ _) _);refine' q_B b9A (T.b 1) ?_) | refine' q_c (by walk_at "c") hr ?_ | apply b31 | apply b6T | ((with_reducible change QE _ (.Call (.Attribute _ "append" _) _ _ _) _);refine' q_bm PySem.F.plainAttrs_list PySem.F.slot_list_append PySem.F.type_list_append a6O ?_ ?_) | ((with_reducible change QE _ (.Call (.Attribute _ "extend" _) _ _ _) _);refine' q_bm PySem.F.plainAttrs_list PySem.F.slot_list_extend PySem.F.type_list_extend b1m ?_ ?_) | ((with_reducible change QE _ (.Call (.Attribute _ "find" _) _ _ _) _);refine' q_bm PySem.F.plainAttrs_str PySem.F.slot_str_find PySem.F.type_str_find b7I ?_ ?_) | ((with_reducible change QE _ (.Call (.Attribute _ "get" _) _ _ _) _);first | refine' q_bm PySem.F.plainAttrs_dict PySem.F.slot_dict_get PySem.F.type_dict_get (b25 hu) ?_ ?_ | refine' q_bm PySem.F.plainAttrs_dict PySem.F.slot_dict_get PySem.F.type_dict_get (b4G hu) ?_ ?_) | ((with_reducible change QE _ (.Call (.Attribute _ "setdefault" _) _ _ _) _);refine' q_bm PySem.F.plainAttrs_dict PySem.F.slot_dict_setdefault PySem.F.type_dict_setdefault a2J ?_ ?_) | apply b3U | refine' b3V ?_ ?_ ?_ ?_ ?_ | apply b9j | refine' q_un b9w ?_ | apply b6P | apply b2R | apply b9i | apply q_if)
 | ((with_reducible change QA _ _ _);first | show a0J | refine' q_k ?_ ?_)
 | ((with_reducible change OpQ _ _ _);first | ((with_reducible change OpQ _ (gY .Add) _);show b9r) | ((with_reducible change OpQ _ (gO .Eq) _);show (o_eq hu)) | ((with_reducible change OpQ _ (gY .FloorDiv) _);show b65) | ((with_reducible change OpQ _ (gO .Gt) _);show o_gt) | ((with_reducible change OpQ _ (gO .In) _);show (o_in hu)) | ((with_reducible change OpQ _ (gO .Is) _);show o_is) | ((with_reducible change OpQ _ (gO .IsNot) _);show b4e) | ((with_reducible change OpQ _ (gO .Lt) _);show o_lt) | ((with_reducible change OpQ _ (gO .LtE) _);show o_le) | ((with_reducible change OpQ _ (gY .Mod) _);show b9u) | ((with_reducible change OpQ _ (gY .Mult) _);show b9t) | ((with_reducible change OpQ _ (gO .NotEq) _);show (o_ne hu)) | ((with_reducible change OpQ _ (gY .Pow) _);show b9v) | ((with_reducible change OpQ _ (gY .Sub) _);show b9s) | ((with_reducible change OpQ _ (iG .Add) _);show b2W))
 | ((with_reducible change iP _ _=_);first | show a1U _ | with_unfolding_all rfl)
 | ((with_reducible change QT _ _ _);first | apply a3a | refine' b1d ?_ ?_ ?_ ?_ ?_ | refine' QW.qt (e:=.BoolOp _ _ _) ?_ | apply b6N | refine' b9k (a:=.Call _ _ _ _) ?_ | refine' b3X ?_ (λ_=>rfl))
 | ((with_reducible change QW _ _ _);first | apply b6L | apply b9g | apply b6M | apply q_or)
 | ((with_reducible change QO _ _ _);first | show b1e | apply b6R)
 | ((with_reducible change QI _ _ _ _);first | ((with_reducible change QI _ _ (.Call (.Name "range" _) _ _ _) _);first | refine' a7P rfl (T.b 13) ?_) | apply a3b)
 | ((with_reducible change QP _ _ _);first | apply p_nm | refine' p_tp rfl ?_)
 | ((with_reducible change QPg _ _ _);first | show c0l | apply b79)
 | ((with_reducible change Nm _ _ _);show nwI (by first | show cxN | show cxcN | show cxN' | show cxNn | show cxNh) (by with_reducible first | show at_0 | show at_1 | show at_2 | show at_3 | show at_4 | show at_5 | show at_6 | show at_7 | show at_8 | show at_9 | show b8a | show b8b | show b8c | show b8d) nd)
 | ((with_reducible change QS _ _ _);first | apply a1Z | refine' z_st ?_ ?_ | refine' a2F ?_ | apply z_if | refine' b62 ?_ ?_ | refine' a1H g5.never rfl ?_ ?_ ?_ | apply z_au | show b6W | show b36 | show b6X | show b60)
 | ((with_reducible change QSs _ _ _);first | show a1Y | apply a0z | apply a0c)
 | ((with_reducible change QIfs _ _ _);first | show b39 | apply a9c)
 | ((with_reducible change Cal _ _ _ _ _ _ _ _ _);walk_at "c")
 | ((with_reducible change _<=_);decide))
local macro_rules | `(tactic| walk_at "r4")=>`(tactic| (ext _ _ _ _;ac_rfl))
set_option hygiene false in
local macro_rules | `(tactic| walk_at "r5")=>`(tactic| (ext _ _ _ _ nd;ac_rfl))
set_option hygiene false in
local macro_rules | `(tactic| walk_at "c")=>`(tactic| first | show a5E T | show a3H T | show a3q T | show a2Q T | show a4J T | show a1p T | show a5B T | show a6p T | show a3J T | show a5z T | show a3F T | show a2b T | show a04 T | show a3t T | show a4T T | show a3L T | show a5P T | show a2C T | show a6C T | show a2d T | show a2f T | show a1n T | show a8c T | show a97 T | show b5j T | show b5u T | show b2s T | show a8h T | show a6r T | show b0p T | show b5A T | show a6A T | show b2I T | show b5K T | show b0G T | show a8m T | show b2K T)
def a7i(hg:Gl X x)(hm:∃t,X.mg x=be (.int i t))(hd:(x==("__debug__":Str))=kQ:=by decide):PE X (.Name x pos) (tC (.int i)):=by
 let(t,h):=hm;show b3s hg h (t,rfl) hd
def c0p (h:t σ G λws G1=>∃(p:Addr)(ns:List Int),ws=[.ref p]/\G1 p=be (.lst (ns.map Z.int))/\ns.length<=1000 /\
  ∀(t:Addr)(ks:List Int),G1 t=gV->ks.Pairwise (·<·)->(∀x,x∈ks↔x∈ns)->ks.length<=ns.length->R (.ref t) (put G1 t (.lst (ks.map Z.int)))):uSS t σ G R:=h
def a5s(t:Addr):P3:=λws G R=>∃b ns,ws=[.scr b ns]/\ns.length<=63/\G t=be lamO/\∀G',R (.bl kP) G'
def b2b(hl:ns.length<=63):a5s t [.scr b ns] (put (λ_=>gV) t lamO) λw _=>w=.bl kP:=(_,_,rfl,hl,a0a,λ_=>rfl)
def lenK(h:Nat.ble n 1000=kP):n<=sizeLine:=bL (a0e (fw h))
def a06(h:n<=1000):n<=sizeLine:=bL (a0e h)
def a8a(x w:Int):Prop:=w=0\/(w=1/\0<=x/\x<536870909)
abbrev RowO(x w:Int):O:=.lst [.int x,.int w]
def RowAt(G:Hq)(r:Addr):Prop:=∃x w,G r=be (RowO x w)/\a8a x w
structure NxOf (P nx:C3):Prop where
 h:∀σ G,P σ G->nx σ G
def i_sq{t u:X3}{nx:C3}{rt:K3}{bk ct:C3}{σ:S3}{G:Hq}(h:∀n,NxOf (u nx rt bk ct) n->t n rt bk ct σ G):uSeq t u nx rt bk ct σ G:=h _ ⟨λ_ _ h=>h⟩
def i_nx{P n:C3}{σ:S3}{G:Hq}(e:NxOf P n)(h:P σ G):n σ G:=e.h _ _ h
local macro_rules | `(tactic| walk_at "sd")=>`(tactic| first | assumption | (show a06 (by first | decide | cbv | (simp;done) | (simp;cbv))) | (show a0e (by first | decide | cbv | (simp;done) | (simp;cbv))) | decide | cbv)
local macro_rules | `(tactic| walk_at "hp")=>`(tactic| first | assumption | show a0a | (show a0b ?_ (by assumption);walk_at "hp") | (show Sm.get (by assumption) ?_;walk_at "hp"))
local macro_rules | `(tactic| walk_at "go1")=>`(tactic| with_reducible (first
 | show i_sq λ_ _=>?_ | show b9B (by with_unfolding_all rfl) ?_ | apply i_c | apply i_op | apply i_un | apply b7e | apply b4h | apply b9C | apply i_or | apply b9D | apply b7f | apply b9E | apply i_notV | apply i_if
 | apply b9F | apply i_truI | apply i_truB | apply i_sl | apply b1n | apply b7g | apply b9G | apply b7h | apply b9H | apply b9I | apply i_cb | apply c0p | apply i_bm0 | apply i_bm | apply b7i
 | apply b7j | apply b7k | apply b9J | apply i_retN | apply b9K | apply b9L | apply b9M | show b9N (by with_unfolding_all rfl) ?_ | apply i_break | apply i_cont | apply b7t | apply b9W | apply i_iL | apply i_iT | apply i_iS | apply b9X | apply i_iR2 | apply i_wkC | apply b9Y | apply b9Z | apply i_tt
 | apply b7l | apply i_I0 | apply b9O | apply i_CI | apply i_CS | apply b9P | apply i_isB | apply b7n | apply i_eqB | apply b7o | apply b9Q | apply i_inS | apply b7r | apply i_nm | show a0W (by with_unfolding_all rfl) ?_ | apply i_lenT | apply b7s | apply i_mm | apply b9U
 | apply ifT | apply ifF | apply ifNN | apply ifNI | apply ifNS | apply ifNU | apply ifMN | apply ifMI | apply ifMS | apply ifMU | show a0W at0 ?_ | show a0W at1 ?_ | show a0W at2 ?_ | apply b7J | apply b7L | apply i_iR3 | apply b7M | apply b7P | apply b4A | apply b4B | apply b7Q | apply b7R | apply i_disp | apply i_pcons | apply i_pnil | show(_,rfl,?_) | show i_nx (by assumption) ?_))
local macro_rules | `(tactic| walk_at "go")=>`(tactic| repeat walk_at "go1")
local macro_rules | `(tactic| lk)=>`(tactic| walk_at "go")
def a8b:P3:=λws G R=>∃p ns k,ws=[.scr p ns,.int k]/\0<=k/\∀i,R (.int i) G
variable{P:gM}{w:World}{K:Fg}{mg:Str->Option Value}{base:Heap}{a:Ad}
set_option tactic.hygienic true in
def a8c(T:Txt K mg base a):Cal P w K mg base CX0 1 "_law_cell_at" (lowP K a8b):=by
 show fnc 2 (N:=["script","k"]) T.br (T.f 24 _ rfl) ?_;walk_at "in";show(_,(by ac_rfl),?_);let(p,ns,k,rfl,hk,q):=h;lk;show ifD (λc=>?_) λ_=>?_
 .let(j,rfl):=cM hk;let hj:j<ns.length:=by lia
  lk;show b9R (a0E (aP hj)) (q _)
 .lk;show q _
def a96:P3:=λws G R=>∃c w,ws=[.int c,.int w]/\(w=0\/w=1)/\∀r x w',G r=gV->a8a x w'->R (.ref r) (put G r (RowO x w'))
def m9(x:Int):0<=x % 536870909/\x % 536870909<536870909:=(eQ _ (by decide),eR _ (by decide))
set_option tactic.hygienic true in
def a97(T:Txt K mg base a):Cal P w K mg base CX0 1 "_law_stream" (lowP K a96):=by
 show fnc 2 (N:=["cell","way","low"]) T.br (T.f 25 _ rfl) ?_;walk_at "in";show(_,(by ac_rfl),?_);let(c,w,rfl,hw,q):=h;lk;show ifD (λz=>?_) λz=>?_
 .lk;show(lenK rfl,λr hr=>q r _ _ hr (.inl rfl))
 .lk;show i_I (show (0:Int)<536870909 by decide) ?_;lk;let h1:=m9 c;show i_I (.inl (by lia,by lia)) ?_;lk;show i_I (show (0:Int)<536870909 by decide) ?_;lk;let h2:=m9 (c % 536870909*(c % 536870909));show i_I (.inl (by lia,by lia)) ?_;lk;show i_I (show (0:Int)<536870909 by decide) ?_;lk;show(lenK rfl,λr hr=>q r _ _ hr (.inr (rfl,m9 _)))
def a98:P3:=λws G R=>Ex4 λr n x w=>ws=[.ref r,.int n]/\G r=be (RowO x w)/\a8a x w/\0<n/\n<2 ^ 64/\∀f y w,0<=f->f<n->a8a y w->R (.int f) (put G r (RowO y w))
set_option tactic.hygienic true in
def b5j(T:Txt K mg base a):Cal P w K mg base CX0 1 "_law_take" (lowP K a98):=by
 show fnc 2 (N:=["row","many","found"]) T.br (T.f 26 _ rfl) ?_;walk_at "in";show(_,(a0c (z_if (by ac_rfl)
  (a0c (by ac_rfl)
  (a0c (a2H (by ac_rfl) (qv 0) a84 b1j)
  (by ac_rfl)))
  a1Y)
  (a0c (a2H (by ac_rfl) (qv 0) a84 b1j)
  (by ac_rfl))),?_)
 let(r,n,x,w,rfl,hR,hok,h0,h1,q):=h;lk;show a0y hR rfl ?_;lk;show ifD (λc=>?_) λc=>?_
 .lk;show a0y hR rfl ?_;lk;show i_I h0 ?_;lk;show a0y hR rfl ?_;lk;show i_I (h0,h1) ?_;lk;show b1p hR rfl ?_;lk;show q _ _ _ (eQ _ (by lia)) (eR _ h0) (.inl c)
 .let z||(hw1,hx0,hx1):=hok
  .show absurd z c
  lk;show a0y hR rfl ?_;lk;show a0y hR rfl ?_;lk;show i_I (.inl (by lia,by lia)) ?_;lk;show i_I (show (0:Int)<536870909 by decide) ?_;lk;show b1p hR rfl ?_;lk;let h2:=m9 ((x+7919)*(x+104729));show a0y a0a rfl ?_;lk;show i_I (.inl (by lia,by lia)) ?_;lk;show i_I h0 ?_;lk;show q _ _ _ (eQ _ (by lia)) (eR _ h0) (.inr (hw1,h2))
def a1l(hR:RowAt G r)(h0:0<n)(h1:n<2 ^ 64)(q:∀f y w,0<=f->f<n->a8a y w->R (.int f) (put G r (RowO y w))):a98 [.ref r,.int n] G R:=by
 let(x,w,e,k):=hR;show(r,n,x,w,rfl,e,k,h0,h1,q)
def RowAt.new(h:RowAt G r)(n:G p=gV):RowAt (put G p o) r:=by
 let(x,w,e,k):=h;show(x,w,a0b e n,k)
def RowAt.at{G:Hq}{r:Addr}{x w:Int}(k:a8a x w):RowAt (put G r (RowO x w)) r:=(x,w,a0a,k)
structure Rw where
 b:Int
 e:Option Int
 w:List Z
@[reducible] noncomputable def oz:Option Int->Z
 |none=>.non
 |some i=>.int i
noncomputable def Rw.z(r:Rw):Z:=.tup (.int r.b::oz r.e::r.w)
noncomputable def bef(t:Int):Option Int->Bool
 |none=>kP
 |some e=>decide (t<e)
noncomputable def Rw.has(r:Rw)(t:Int):Bool:=decide (r.b<=t)&&bef t r.e
def Rw.good(r:Rw):Prop:=bef r.b r.e=kP
noncomputable def val(l:List Rw)(t:Int):Option (List Z):=(l.find? (·.has t)).map (·.w)
def a0Y:val [] t=gV:=rfl
def a0i:val (r::l) t=if r.has t=kP then be r.w else val l t:=by
 unfold val;rw[bI];cases h:r.has t<;>simp
def a0I:val (l++m) t=(val l t).or (val m t):=by
 unfold val;rw[f9];cases h:l.find? _<;>simp
def Lt(r s:Rw):Prop:=∃e,r.e=be e/\e<=s.b
def Lt2(r s:Rw):Prop:=∃e,r.e=be e/\e<=s.b/\(e=s.b->r.w≠s.w)
def Rise(l:List Rw):Prop:=(∀r∈l,r.good)/\l.Pairwise Lt
def Can(l:List Rw):Prop:=(∀r∈l,r.good)/\l.Pairwise Lt2
def Lt2.lt{r s:Rw}(h:Lt2 r s):Lt r s:=let (e,a,b,_):=h;(e,a,b)
noncomputable def Can.rise(h:Can l):Rise l:=(h.1,h.2.imp Lt2.lt)
def Can.nil:Can []:=(λ_ h=>by simp at h,.nil)
def Rise.nil:Rise []:=Can.nil.rise
def Can.tail(h:Can (r::l)):Can l:=(λs a=>h.1 s (.tail _ a),(aT.mp h.2).2)
def Rise.tail(h:Rise (r::l)):Rise l:=(λs a=>h.1 s (.tail _ a),(aT.mp h.2).2)
def a4D{r:Rw}(h:r.good):r.has r.b=kP:=by
 unfold Rw.has;rw[h];simp
noncomputable def Lt.has(h:Lt r s)(a:r.has t=kP):s.has t=kQ:=by
 let(e,c,d):=h;unfold Rw.has at a ⊢;rw[c]at a;simp only[bef,bO,decide_eq_true_eq]at a
 let:decide (s.b<=t)=kQ:=decide_eq_false (by lia)
 rw[this,gb]
def Lt.b(g:r.good)(h:Lt r s):r.b<s.b:=by
 let(e,a,c):=h
 let:bef r.b r.e=kP:=g
 rw[a]at this;simp only[bef,decide_eq_true_eq]at this
 lia
def a07(h:∀r∈l,r.has t=kQ):val l t=gV:=by simp_all[val]
def a7j{l:List Rw}{t:Int}{w:List Z}(h:val l t=be w):∃r∈l,r.has t=kP/\r.w=w:=by
 induction l with
 |nil=>cases h
 |cons r l ih=>
  rw[a0i]at h
  split at h
  .next e=>cases h;show(r,.head _,e,rfl)
  .let(s,h1,h2):=ih h;show(s,.tail _ h1,h2)
def a34{r:Rw}(h:t<r.b):r.has t=kQ:=by
 unfold Rw.has;rw[decide_eq_false (by lia),gb]
def b8l(h:Can (r::l))(h':Can (s::m))(q:∀t,val (r::l) t=val (s::m) t):¬ r.b<s.b:=λc=>by
 let d:=q r.b;rw[a0i,a4D (h.1 r (.head _)),if_pos rfl,a07]at d
 .grind
 .ext x a;show a34 ?_;let rfl||a:=aL.mp a
  .cbv
  .let:=(((aT.mp h'.2).1 x a).lt).b (h'.1 s (.head _))
   lia
def b5k(h:Can (r::l))(hb:r.b=s.b)(hw:r.w=s.w)(q:∀t,val (r::l) t=val (s::m) t)(he:r.e=be e):bef e s.e=kQ:=by
 cases hc:bef e s.e with
 |false=>rfl
 |true=>
  exfalso;let g:bef r.b r.e=kP:=h.1 r (.head _)
  rw[he]at g;simp only[bef,decide_eq_true_eq]at g;let c:=q e;let i:s.has e=kP:=by unfold Rw.has;rw[hc,decide_eq_true (show s.b<=e by lia)];rfl
  let k:r.has e=kQ:=by unfold Rw.has;rw[he];simp[bef]
  rw[a0i,a0i,i,k,if_pos rfl,if_neg (by simp)]at c;let(x,n,a,d):=a7j c;let(u,f,p,j):=(aT.mp h.2).1 x n;rw[he]at f;cases f;let o:x.b<=e:=by unfold Rw.has at a;simp at a;show a.1
  show j (by lia) (by simp_all)
theorem a1I:∀{l m:List Rw},Can l->Can m->(∀t,val l t=val m t)->l=m
 |[],[],_,_,_=>rfl
 |[],s::m,_,h',q=>by
  let:=q s.b
  rw[a0Y,a0i,a4D (h'.1 s (.head _)),if_pos rfl]at this;cases this
 |r::l,[],h,_,q=>by
  let:=q r.b
  rw[a0Y,a0i,a4D (h.1 r (.head _)),if_pos rfl]at this;cases this
 |r::l,s::m,h,h',q=>by
  let a:r.b=s.b:=by
   let f:=b8l h h' q;let g:=b8l h' h λt=>(q t).symm
   lia
  let c:r.w=s.w:=by
   let f:=q r.b;let g:s.has r.b=kP:=a▸a4D (h'.1 s (.head _));rw[a0i,a0i,a4D (h.1 r (.head _)),g,if_pos rfl,if_pos rfl]at f;show be.inj f
  let i:r.e=s.e:=by
   cases e1:r.e with
   |none=>
    cases e2:s.e with
    |none=>rfl
    |some e=>
     let:=b5k h' a.symm c.symm (λt=>(q t).symm) e2
     rw[e1]at this;cases this
   |some e=>
    let:=b5k h a c q e1
    cases e2:s.e with
    |none=>rw[e2]at this;cases this
    |some e'=>
     let k:=b5k h' a.symm c.symm (λt=>(q t).symm) e2;rw[e1]at k;rw[e2]at this;simp only[bef,decide_eq_false_iff_not]at this k
     congr 1
     lia
  let j:r=s:=by
   let(_,_,_):=r;simp only at a c i;rw[a,c,i]
  subst j
  congr 1
  show a1I h.tail h'.tail λt=>?_;cases ht:r.has t with
  |true=>
   rw[a07 λx d=>((aT.mp h.2).1 x d).lt.has ht,a07 λx d=>((aT.mp h'.2).1 x d).lt.has ht]
  |false=>
   let:=q t
   rw[a0i,a0i,ht,if_neg (by simp),if_neg (by simp)]at this;show this
noncomputable def jn(told:List Rw)(p:Rw):List Rw:=match told.getLast? with
 |some l=>if l.e=be p.b/\l.w=p.w then told.dropLast++[(l.b,p.e,p.w)] else told++[p]
 |none=>told++[p]
noncomputable def join(ps:List Rw):List Rw:=ps.foldl jn []
def a16{α:Type}{l:List α}{x:α}(h:l.getLast?=be x):l=l.dropLast++[x]:=by
 let(a,rfl):=List.getLast?_eq_some_iff.mp h;simp
def c0q(h:Can told)(g:p.good)(hlt:∀r∈told,Lt r p):Can (jn told p)/\(∀t,val (jn told p) t=(val told t).or (val [p] t))/\(∀x,(∀r∈told,Lt r x)->Lt p x->∀r∈jn told p,Lt r x)/\(jn told p).length<=told.length+1/\∀r∈jn told p,r.w=p.w\/∃r'∈told,r.w=r'.w:=by
 unfold jn;cases hl:told.getLast? with
 |none=>
  let:told=[]:=eS.mp hl
  subst this;show((λr a=>by simp at a;rw[a];show g,by simp),λt=>by simp[a0Y],λx _ f r a=>by simp at a;rw[a];show f,by simp,λr a=>by simp at a;rw[a];show .inl rfl)
 |some l=>
  let d:=a16 hl;generalize told.dropLast=init at d;subst d;let i:l∈init++[l]:=by simp
  let k:=bp.mp h.2;dsimp only
  split
  .next hc=>
   let(n,o):=hc;let D:l.b<p.b:=by
    let:bef l.b l.e=kP:=h.1 l i
    rw[n]at this;simpa[bef]using this
   let v:((l.b,p.e,p.w):Rw).good:=by
    change bef l.b p.e=kP
    let:bef p.b p.e=kP:=g
    cases hpe:p.e with
    |none=>rfl
    |some e=>
     rw[hpe]at this;simp only[bef,decide_eq_true_eq]at this ⊢
     lia
   show((λr a=>?_,?_),λt=>?_,λx m f r a=>?_,by simp,λr a=>?_)
   .let a||a:=aJ.mp a
    .show h.1 r (by simp[a])
    .rw[aK.mp a];show v
   .show bp.mpr (k.1,by simp,λr a s d=>?_);rw[aK.mp d];let(e,c,j,A):=k.2.2 r a l (by simp);show(e,c,j,λz=>by rw[<- o];show A z)
   .rw[a0I,a0I];cases val init t with
    |some w=>rfl
    |none=>
     let y:((l.b,p.e,p.w):Rw).has t=(l.has t||p.has t):=by
      unfold Rw.has;rw[n]
      let:bef p.b p.e=kP:=g
      cases hpe:p.e with
      |none=>
       simp only[bef,d8]
       by_cases c1:l.b<=t<;>by_cases c2:t<p.b<;>by_cases c3:p.b<=t<;>simp[c1,c2,c3]<;>lia
      |some e=>
       rw[hpe]at this;simp only[bef,decide_eq_true_eq]at this ⊢
       by_cases c1:l.b<=t<;>by_cases c2:t<p.b<;>by_cases c3:p.b<=t<;>by_cases c4:t<e<;>simp[c1,c2,c3,c4]<;>lia
     simp only[a0i,a0Y,y,o,Option.none_or];cases l.has t<;>cases p.has t<;>simp
   .let a||a:=aJ.mp a
    .show m r (by simp[a])
    .rw[aK.mp a];let(e,c,j):=f;show(e,c,j)
   .let a||a:=aJ.mp a
    .show .inr (r,by simp[a],rfl)
    .rw[aK.mp a];show .inl rfl
  .next hc=>
   show((λr a=>?_,?_),λt=>a0I,λx m f r a=>?_,by simp,λr a=>?_)
   .let a||a:=aJ.mp a
    .show h.1 r a
    .rw[aK.mp a];show g
   .show bp.mpr (h.2,by simp,λr a s d=>?_);rw[aK.mp d];let(e,c,j):=hlt r a;show(e,c,j,λz u=>?_);let hr'||hr':=aJ.mp a
    .let(C,q,B,_):=k.2.2 r hr' l (by simp);rw[c]at q;cases q
     let:=(hlt l i).b (h.1 l i)
     lia
    .simp_all
   .let a||a:=aJ.mp a
    .show m r a
    .rw[aK.mp a];show f
   .let a||a:=aJ.mp a
    .show .inr (r,a,rfl)
    .rw[aK.mp a];show .inl rfl
def b5l:∀(ps told:List Rw),Can told->Rise ps->(∀r∈told,∀p∈ps,Lt r p)->Can (ps.foldl jn told)/\(∀t,val (ps.foldl jn told) t=(val told t).or (val ps t))/\(ps.foldl jn told).length<=told.length+ps.length/\∀r∈ps.foldl jn told,∃r'∈told++ps,r.w=r'.w:=by ext z0;induction z0 with
 |nil=>ext told h _ _;show(h,λt=>by simp[a0Y],by simp,λr f=>(r,↑f,rfl))
 |cons p ps I0=>
  ext told h f hlt;let a:=c0q h (f.1 p (.head _)) λr q=>hlt r q p (.head _);let b:=I0 _ a.1 f.tail λr q x j=>a.2.2.1 x (λg k=>hlt g k x (.tail _ j)) ((aT.mp f.2).1 x j) r q;show(b.1,λt=>?_,?_,λr i=>?_)
  .change val (ps.foldl jn _) t=_
   rw[b.2.1 t,a.2.1 t,show p::ps=[p]++ps from rfl,a0I,Option.or_assoc]
  .grind
  .let(g,c,d):=b.2.2.2 r i;let c||c:=aJ.mp c
   .let e||(r2,e1,e2):=a.2.2.2.2 g c
    .show(p,by simp,d.trans e)
    .grind
   .show(g,by simp[c],d)
def a3n(h:Rise ps):Can (join ps)/\(∀t,val (join ps) t=val ps t)/\(join ps).length<=ps.length/\∀r∈join ps,∃r'∈ps,r.w=r'.w:=by
 let:=b5l ps [] .nil h λr a=>by simp at a
 unfold join;show(this.1,λt=>by rw[this.2.1 t];rfl,↑this.2.2.1,↑this.2.2.2)
noncomputable def emin:Option Int->Option Int->Option Int
 |none,o=>o
 |some e,gV=>be e
 |some e,be o=>be (if o<e then o else e)
noncomputable def a1J(m:Option Int)(r:Rw):Option Rw:=if bef r.b m=kP then be (r.b,emin r.e m,r.w) else gV
noncomputable def ahead(m:Option Int)(l:List Rw):List Rw:=l.filterMap (a1J m)
noncomputable def a4E(m:Int)(r:Rw):Option Rw:=if bef m r.e=kP then be (if m > r.b then m else r.b,r.e,r.w) else gV
noncomputable def fromOn(m:Int)(l:List Rw):List Rw:=l.filterMap (a4E m)
def b3f(h1:∀r r',f r=be r'->r'.has t=(r.has t&&c)/\r'.w=r.w)(h2:∀r,f r=gV->(r.has t&&c)=kQ):∀l:List Rw,val (l.filterMap f) t=if c=kP then val l t else gV:=by ext z0;induction z0 with
 |nil=>simp[a0Y]
 |cons r l I0=>
  let a:=I0;rw[bV];cases hf:f r with
  |none=>
   let:=h2 r hf
   rw[a,a0i];cases c with
   |true=>rw[d8]at this;rw[this];rfl
   |false=>rfl
  |some r'=>
   let(d,b):=h1 r r' hf;rw[a0i,a,d,b,a0i];cases c<;>cases r.has t<;>rfl
def a7k:bef t (emin x y)=(bef t x&&bef t y):=by
 cases x with
 |none=>cases y<;>simp[bef,emin]
 |some a=>
  cases y with
  |none=>simp[bef,emin]
  |some b=>
   simp only[bef,emin];rw[<- Bool.decide_and];apply a0u;rw[eq_iff_iff]
   split<;>cbv
def a5t(m:Option Int)(l:List Rw)(t:Int):val (ahead m l) t=if bef t m=kP then val l t else gV:=by
 show b3f (λr a h=>?_) (λr h=>?_) l
 .unfold a1J at h
  split at h
  .cases h;show(?_,rfl);unfold Rw.has;simp only[a7k,Bool.and_assoc]
  .cases h
 .unfold a1J at h
  split at h
  .cases h
  .next hc=>
   unfold Rw.has;cases m with
   |none=>show absurd rfl hc
   |some m=>
    simp only[bef,decide_eq_true_eq]at hc ⊢
    by_cases c1:r.b<=t
    .rw[decide_eq_false (show ¬ t<m by lia),dg]
    .rw[decide_eq_false c1];rfl
def b2c(m:Int)(l:List Rw)(t:Int):val (fromOn m l) t=if m<=t then val l t else gV:=by
 let:(if m<=t then val l t else gV)=if decide (m<=t)=kP then val l t else gV:=by simp
 rw[this];show b3f (λr a h=>?_) (λr h=>?_) l
 .unfold a4E at h
  split at h
  .cases h;unfold Rw.has
   let:decide ((if m > r.b then m else r.b)<=t)=(decide (r.b<=t)&&decide (m<=t)):=by grind
   rw[this];cases decide (r.b<=t)<;>cases decide (m<=t)<;>simp
  .cases h
 .unfold a4E at h
  split at h
  .cases h
  .next hc=>
   unfold Rw.has;cases he:r.e with
   |none=>rw[he]at hc;show absurd rfl hc
   |some e=>
    rw[he]at hc;simp only[bef]at hc ⊢
    by_cases c1:m<=t
    .grind
    .simp_all
def a17(h:x∈ahead m l):∃r∈l,bef r.b m=kP/\x=(r.b,emin r.e m,r.w):=by
 let(r,d,a):=cn.mp h;unfold a1J at a
 split at a
 .next c=>cases a;show(r,d,c,rfl)
 .cases a
def a20(h:x∈fromOn m l):∃r∈l,bef m r.e=kP/\x=(if m > r.b then m else r.b,r.e,r.w):=by
 let(r,d,a):=cn.mp h;unfold a4E at a
 split at a
 .next c=>cases a;show(r,d,c,rfl)
 .cases a
def b5m(hf:∀r s r' s',R r s->f r=be r'->f s=be s'->R r' s'):∀{l:List Rw},l.Pairwise R->(l.filterMap f).Pairwise R:=by ext z0;induction z0 with
 |nil=>ext _;simp
 |cons r l I0=>
  ext h;let b:=aT.mp h;let c:=I0 b.2;rw[bV];cases e:f r with
  |none=>show c
  |some r'=>
   show aT.mpr (λs i=>?_,c);let(a,d,g):=cn.mp i;show hf r a r' s (b.1 a d) e g
def b5n{x:Int}{m:Option Int}:∃e,emin (be x) m=be e/\e<=x:=by
 cases m with
 |none=>show(x,rfl,cg _)
 |some o=>
  show(_,rfl,?_)
  split<;>lia
def a8d(m:Option Int)(h:Rise l):Rise (ahead m l):=by
 show(λx j=>?_,b5m (λr s t p d a c=>?_) h.2)
 .let(r,k,i,rfl):=a17 j
  change bef r.b _=kP
  rw[a7k,i,d8];show h.1 r k
 .unfold a1J at a c
  split at a
  .split at c
   .cases a;cases c;let(e,g,o):=d;let(f,n,q):=@b5n e m;show(f,by rw[<- n,<- g],by change f<=s.b;lia)
   .grind
  .grind
def a99(m:Int)(h:Rise l):Rise (fromOn m l):=by
 show(λx j=>?_,b5m (λr s n k d a c=>?_) h.2)
 .let(r,f,g,rfl):=a20 j
  split
  .show g
  .show h.1 r f
 .unfold a4E at a c
  split at a
  .split at c
   .cases a;cases c;let(e,i,o):=d;show(e,i,by change e<=(if m > s.b then m else s.b);split<;>cbv)
   .grind
  .grind
def a5u(m:Option Int)(l:List Rw):(ahead m l).length<=l.length:=cq _ _
def b2d(m:Int)(l:List Rw):(fromOn m l).length<=l.length:=cq _ _
def b2e(hbe:b<=e):∀{l:List Rw},Rise l->(ahead (be b) l).length+(fromOn e l).length<=l.length+1:=by ext z0;induction z0 with
 |nil=>ext _;simp[ahead,fromOn]
 |cons r l I0=>
  ext h;let i:=I0 h.tail;let c:(ahead (be b) (r::l)).length=(if bef r.b (be b)=kP then 1 else 0)+(ahead (be b) l).length:=by
   unfold ahead;unfold a1J
   split
   .grind
   .grind
  let a:(fromOn e (r::l)).length=(if bef e r.e=kP then 1 else 0)+(fromOn e l).length:=by
   unfold fromOn;unfold a4E
   split
   .grind
   .grind
  rw[c,a,aV]
  by_cases c1:bef r.b (be b)=kP
  .by_cases c2:bef e r.e=kP
   .let:ahead (be b) l=[]:=by
     unfold ahead;rw[List.filterMap_eq_nil_iff];ext s g;unfold a1J;let(j,f,k):=((aT.mp h.2).1) s g;rw[f]at c2;simp only[bef,decide_eq_true_eq]at c1 c2 ⊢;rw[if_neg (by lia)]
    let:=b2d e l
    simp_all
    lia
   .grind
  .rw[if_neg c1];split<;>lia
noncomputable def a1m(l:List Rw)(b:Int)(e:Option Int)(w:Option (List Z)):List Rw:=
 ahead (be b) l++(match w with |some w=>[(b,e,w)] |none=>[])++(match e with |some e=>fromOn e l |none=>[])
def a5v{l:List Rw}{b:Int}{e:Option Int}{w:Option (List Z)}(h:Rise l)(g:bef b e=kP):Rise (a1m l b e w)/\(∀t,val (a1m l b e w) t=if (decide (b<=t)&&bef t e)=kP then w else val l t)/\(a1m l b e w).length<=l.length+2:=by
 let hA:=a8d (be b) h;let eA:∀r∈ahead (be b) l,∃x,r.e=be x/\x<=b:=λr hr=>by
  let(r0,_,_,rfl):=a17 hr
  change ∃x,emin r0.e (be b)=be x/\x<=b
  cases r0.e with
  |none=>show(b,rfl,cg _)
  |some x=>show(_,rfl,?_);split<;>cbv
 let hM:Rise (match w with |some w=>[((b,e,w):Rw)] |none=>[]):=by
  cases w with
  |none=>show .nil
  |some w=>show(λr hr=>by rw[aK.mp hr];show g,by simp)
 let mM:∀r∈(match w with |some w=>[((b,e,w):Rw)] |none=>[]),r.b=b/\r.e=e:=λr hr=>by
  cases w with
  |none=>simp at hr
  |some w=>rw[aK.mp hr];show(rfl,rfl)
 let vM:∀t,val (match w with |some w=>[((b,e,w):Rw)] |none=>[]) t=if (decide (b<=t)&&bef t e)=kP then w else gV:=λt=>by
  cases w with
  |none=>simp[a0Y]
  |some w=>rw[a0i,a0Y];rfl
 let app:∀{A B:List Rw},Rise A->Rise B->(∀r∈A,∀s∈B,Lt r s)->Rise (A++B):=λha hb hab=>(λr hr=>(aJ.mp hr).elim (ha.1 r) (hb.1 r),bp.mpr (ha.2,hb.2,hab));unfold a1m;cases e with
 |none=>
  dsimp only;rw[bh];show(app hA hM λr hr s hs=>?_,λt=>?_,?_)
  .let(x,a1,a2):=eA r hr;show(x,a1,by rw[(mM s hs).1];show a2)
  .rw[a0I,a5t,vM];simp only[bef,d8,decide_eq_true_eq]
   by_cases c:b<=t
   .rw[if_neg (by cbv),if_pos c,if_pos c];rfl
   .rw[if_pos (by cbv),if_neg c,if_neg c];simp
  .rw[aW]
   let:=a5u (be b) l
   cases w<;>simp<;>cbv
 |some e=>
  let hbe:b<e:=by simpa[bef]using g
  let hF:=a99 e h;let bF:∀s∈fromOn e l,e<=s.b:=λs hs=>by
   let(r0,_,_,rfl):=a20 hs
   change e<=(if e > r0.b then e else r0.b)
   split<;>cbv
  dsimp only;show(app (app hA hM λr hr s hs=>?_) hF λr hr s hs=>?_,λt=>?_,?_)
  .let(x,a1,a2):=eA r hr;show(x,a1,by rw[(mM s hs).1];show a2)
  .let hs':=bF s hs;let hr||hr:=aJ.mp hr
   .let(x,a1,a2):=eA r hr;show(x,a1,by cbv)
   .show(e,(mM r hr).2,hs')
  .rw[a0I,a0I,a5t,vM,b2c];simp only[bef,bO,decide_eq_true_eq]
   by_cases c1:b<=t
   .by_cases c2:t<e
    .rw[if_neg (by cbv),if_pos (c1,c2),if_neg (by cbv),if_pos (c1,c2)];simp
    .rw[if_neg (by cbv),if_neg (by cbv),if_pos (by cbv),if_neg (by cbv)];rfl
   .rw[if_pos (by cbv),if_neg (by cbv),if_neg (by cbv),if_neg (by cbv)];simp
  .rw[aW,aW]
   let:=b2e (b:=b) (e:=e) (by cbv) h
   cases w<;>simp<;>cbv
noncomputable def pcs(f:Int->Option (List Z)):List Int->List Rw
 |[]=>[]
 |b::bs=>(match f b with |some w=>[(b,bs.head?,w)] |none=>[])++pcs f bs
def a4F:∀{bs:List Int}{r:Rw},r∈pcs f bs->r.b∈bs/\f r.b=be r.w:=by ext z0;induction z0 with
 |nil=>ext _ h;simp[pcs]at h
 |cons b bs I0=>
  ext r h;let h||h:=aJ.mp h
  .cases e:f b with
   |none=>rw[e]at h;simp at h
   |some w=>rw[e]at h;rw[aK.mp h];show(.head _,e)
  .let(c,a):=I0 h;show(.tail _ c,a)
def a2s(f:Int->Option (List Z)):∀bs:List Int,(pcs f bs).length<=bs.length:=by ext z0;induction z0 with
 |nil=>simp[pcs]
 |cons b bs I0=>
  let:=I0
  unfold pcs;cases f b<;>simp<;>cbv
def a4G(f:Int->Option (List Z)):∀{bs:List Int},bs.Pairwise (·<·)->Rise (pcs f bs):=by ext z0;induction z0 with
 |nil=>ext _;simp[pcs];show .nil
 |cons b bs I0=>
  ext h;let g:=aT.mp h;let i:=I0 g.2;unfold pcs;cases e:f b with
  |none=>o_head i
  |some w=>
   show(λr a=>?_,bp.mpr (by simp,i.2,λr a s j=>?_))
   .let a||a:=aJ.mp a
    .rw[aK.mp a]
     change bef b bs.head?=kP
     cases bs with
     |nil=>rfl
     |cons c cs=>simpa[bef]using g.1 c (.head _)
    .show i.1 r a
   .rw[aK.mp a];let d:=(a4F j).1;cases bs with
    |nil=>simp at d
    |cons c cs=>
     show(c,rfl,?_);let q||q:=aL.mp d
     .lia
     .let:=(aT.mp g.2).1 _ q
      lia
def b0a:∀{bs:List Int},bs.Pairwise (·<·)->(∀t b,b∈bs->b<=t->(∀c∈bs,c<=t->c<=b)->f t=f b)->∀t,val (pcs f bs) t=if (bs.any λb=>decide (b<=t))=kP then f t else gV:=by ext z0;induction z0 with
 |nil=>ext _ _ t;simp[pcs,a0Y]
 |cons b bs I0=>
  ext h hf t;let j:=aT.mp h;let p:=I0 j.2 (λt c a g o=>hf t c (.tail _ a) g λd k l=>by
   let rfl||k:=aL.mp k
   .let:=j.1 c a;lia
   .show o d k l) t
  unfold pcs;rw[a0I,p,cG]
  by_cases c1:b<=t
  .rw[decide_eq_true c1,Bool.true_or,if_pos rfl];cases c2:bs.any λb=>decide (b<=t) with
   |true=>
    let(c,a,g):=cj.mp c2;let g:c<=t:=↑g
    rw[if_pos rfl]
    let:val (match f b with |some w=>[((b,bs.head?,w):Rw)] |none=>[]) t=gV:=by
     cases f b with
     |none=>rfl
     |some w=>
      rw[a0i,a0Y];cases bs with
      |nil=>simp at a
      |cons d ds=>
       let k:d<=t:=by
        let rfl||a:=aL.mp a
        .show g
        .let:=(aT.mp j.2).1 c a;lia
       let n:((b,(d::ds).head?,w):Rw).has t=kQ:=by
        unfold Rw.has;simp only[gg,bef];rw[decide_eq_false (show ¬ t<d by lia),dg]
       rw[n]
       rfl
    rw[this];rfl
   |false=>
    rw[if_neg (by decide)];let i:∀c∈bs,¬ c<=t:=λc a g=>by grind
    let m:=hf t b (.head _) c1 λc a g=>by
     let rfl||a:=aL.mp a
     .lia
     .show absurd g (i c a)
    rw[m];cases e:f b with
    |none=>rfl
    |some w=>
     rw[a0i,a0Y]
     let:((b,bs.head?,w):Rw).has t=kP:=by
      unfold Rw.has;simp only;rw[decide_eq_true c1];cases bs with
      |nil=>rfl
      |cons d ds=>simp only[gg,bef,bZ,decide_eq_true_eq];let:=i d (.head _);lia
     rw[this];rfl
  .rw[decide_eq_false c1,fv];let i:(bs.any λb=>decide (b<=t))=kQ:=cZ.mpr λc a=>by grind
   rw[i,if_neg (by decide)]
   let:val (match f b with |some w=>[((b,bs.head?,w):Rw)] |none=>[]) t=gV:=by
    cases f b with
    |none=>rfl
    |some w=>
     rw[a0i,a0Y,a34 (by change t<b;lia)]
     rfl
   rw[this];rfl
noncomputable def lastAt(puts:List Rw)(t:Int):Z:=match puts.reverse.find? (·.has t) with
 |some r=>r.w.headD .non
 |none=>.non
noncomputable def optW(z:Z):Option (List Z):=if z=.non then gV else be [z]
def a6k(puts:List Rw)(p:Rw)(t:Int):lastAt (puts++[p]) t=if p.has t=kP then p.w.headD .non else lastAt puts t:=by
 unfold lastAt;rw[cH,de,List.reverse_nil,dw,eF,bI];cases p.has t<;>rfl
def a0V(rows:List Rw)(bs:List Int):Prop:=bs.Pairwise (·<·)/\∀x,x∈bs↔∃r∈rows,x=r.b\/r.e=be x
def a7l{r:Rw}(h:b<=t)(h1:r.b<=t->r.b<=b)(h2:∀e,r.e=be e->e<=t->e<=b):r.has t=r.has b:=by
 unfold Rw.has;let a:decide (r.b<=t)=decide (r.b<=b):=a0u (by grind)
 congr 1
 cases he:r.e with
 |none=>rfl
 |some e=>
  let:=h2 e he
  show a0u (by grind)
def a35:∀{l:List Rw},(∀r∈l,f r=g r)->l.find? f=l.find? g:=by ext z0;induction z0 with
 |nil=>ext _;show rfl
 |cons r l I0=>ext h;rw[bI,bI,h r (.head _),I0 λs a=>h s (.tail _ a)]
def a5w{puts:List Rw}{bs:List Int}(hb:a0V puts bs)(t b:Int)(_:b∈bs)(hbt:b<=t)(hm:∀c∈bs,c<=t->c<=b):lastAt puts t=lastAt puts b:=by
 unfold lastAt;rw[a35 λr d=>?_];let a:r∈puts:=by simp_all
 show a7l hbt (λh=>hm _ ((hb.2 _).mpr (r,a,.inl rfl)) h) λe f h=>hm _ ((hb.2 _).mpr (r,a,.inr f)) h
def a6l(hb:a0V puts bs)(t:Int)(h:(bs.any λb=>decide (b<=t))=kQ):lastAt puts t=.non:=by
 unfold lastAt
 let:puts.reverse.find? (·.has t)=gV:=by
  rw[cX];ext r c;let a:r∈puts:=by simp_all
  let:=cZ.mp h r.b ((hb.2 _).mpr (r,a,.inl rfl))
  rw[a34 (by simp_all)]
  decide
 rw[this]
def b0b(hb:a0V puts bs):Can (join (pcs (λt=>optW (lastAt puts t)) bs))/\(∀t,val (join (pcs (λt=>optW (lastAt puts t)) bs)) t=optW (lastAt puts t))/\(join (pcs (λt=>optW (lastAt puts t)) bs)).length<=bs.length /\
  ∀r∈join (pcs (λt=>optW (lastAt puts t)) bs),∃t,optW (lastAt puts t)=be r.w:=by
 let h:=a3n (a4G (λt=>optW (lastAt puts t)) hb.1);show(h.1,λt=>?_,aU h.2.2.1 (a2s _ _),λr f=>?_)
 .rw[h.2.1 t,b0a hb.1 λt b d a g=>by rw[a5w hb t b d a g]]
  split
  .rfl
  .next c=>rw[a6l hb t ↑c];rfl
 .let(e,d,a):=h.2.2.2 r f;show(e.b,by rw[a];show (a4F d).2)
noncomputable def a5x(l:List Rw)(b:Int)(e:Option Int)(w:Option (List Z)):List Rw:=join (a1m l b e w)
def b2f{l:List Rw}{b:Int}{e:Option Int}{w:Option (List Z)}(h:Rise l)(g:bef b e=kP):Can (a5x l b e w)/\(∀t,val (a5x l b e w) t=if (decide (b<=t)&&bef t e)=kP then w else val l t)/\(a5x l b e w).length<=l.length+2:=by
 let a:=a5v (w:=w) h g;let j:=a3n a.1;show(j.1,λt=>by rw[<- a.2.1 t];show j.2.1 t,aU j.2.2.1 a.2.2)
def okW(w:List Z):Prop:=w≠[]/\w.length<=4/\w.all (flat 4)=kP
def OkR(l:List Rw):Prop:=∀r∈l,okW r.w
def a0r:∀{n m:Nat}{z:Z},n<=m->flat n z=kP->flat m z=kP:=by
 ext n
 induction n with
 |zero=>ext m z _ h;cases z<;>first | (simp[flat]at h;done) | (cases m<;>simp_all[flat])
 |succ n ih=>
  ext m z b h;cases m with
  |zero=>lia
  |succ m=>
   cases z with
   |tup ws=>
    simp only[flat,bU]at h ⊢;show λx a=>ih (by lia) (h x a)
   |_=>first | (simp[flat];done) | (simp[flat]at h;done) | (simp only[flat]at h ⊢;show h)
def a7m{ws:List Z}(hm:n<=m)(h:ws.all (flat n)=kP):ws.all (flat m)=kP:=by
 rw[bU]at h ⊢;show λx a=>a0r hm (h x a)
def b0c:flat n (oz e)=kP:=by
 cases e<;>cases n<;>rfl
def a4H:flat n (.int i)=kP:=by cases n<;>rfl
def b2g:flat n .non=kP:=by cases n<;>rfl
def b2h{r:Rw}(h:okW r.w):flat 5 r.z=kP:=by
 change ((Z.int r.b::oz r.e::r.w).all _)=kP
 rw[bu,bu,a4H,b0c,h.2.2];rfl
def a3o(h:OkR l):(l.map Rw.z).all (flat 8)=kP:=by
 rw[bU];ext x b;let(r,a,rfl):=aX.mp b;show a0r (by simp) (b2h (h r a))
noncomputable def wz:Option (List Z)->Z
 |none=>.non
 |some w=>w.headD .non
def b3g(h:R (.bl (decide (e=be b))) G):zEq id (oz e) (.int b) G R:=by
 cases e with
 |none=>
  show ((b2g,a4H,?_))
  let:decide (Z.non=Z.int b)=decide (gV=be b):=by simp
  show h
 |some e=>
  show b7o ?_
  let:decide (e=b)=decide (be e=be b):=a0u (by simp)
  rw[this];show h
def c0r(h1:flat 8 (.tup xs)=kP)(h2:flat 8 (.tup ys)=kP)(h:R (.bl (f (decide (xs=ys)))) G):zEq f (.tup xs) (.tup ys) G R:=by
 show ((h1,h2,?_));rw[a0u (Z.tup.injEq _ _)];show h
def a2P:P3:=λws G R=>∃x y,ws=[oz x,oz y]/\R (oz (emin x y)) G
set_option tactic.hygienic true in
def a2Q(T:Txt K mg base a):Cal P w K mg base CX0 1 "earlier_end" (lowP K a2P):=by
 show fnc 2 (N:=["end","other"]) T.br (T.f 3 _ rfl) ?_;walk_at "in";show(_,(by ac_rfl),?_);let(x,y,rfl,q):=h;cases x with
 |none=>
  lk;cases y<;>show q
 |some x=>
  cases y with
  |none=>
   lk;show q
  |some y=>
   lk;show q
noncomputable def over(r:Rw)(m:Int):Bool:=match r.e with
 |none=>kQ
 |some e=>decide (e<=m)
def a5y:P3:=λws G R=>∃r m,ws=[Rw.z r,.int m]/\R (.bl (over r m)) G
set_option tactic.hygienic true in
def a5z(T:Txt K mg base a):Cal P w K mg base CX0 1 "is_over" (lowP K a5y):=by
 show fnc 2 (N:=["stretch","moment"]) T.br (T.f 9 _ rfl) ?_;walk_at "in";show(_,(by ac_rfl),?_);let((b,e,w),m,rfl,q):=h;cases e with
 |none=>
  lk;show a0W at1 (by lk;show q)
 |some e=>
  lk;show a0W at1 ?_;lk;show a0W at1 ?_;lk;show q
def a1z{α β:Type}{l:List α}{g:α->Z}{g':β->Z}(f:α->Option β)(hok:∀ys,ok (put G1 D (.lst ys)))(hz:l.length<=1000)
  (turn:∀x,x∈l->∀(ys:List Z)(K1:K3)(K2:Hq->Prop),(∀y,f x=be y->K1 (g' y) (put G1 D (.lst ys)))->(f x=gV->K2 (put G1 D (.lst ys)))->∃σ',a3A pt (g x) (cap3 cap σ)=be σ'/\tt σ' (put G1 D (.lst ys)) λb G4=>if b=kP then te σ' G4 K1 else K2 G4)
  (fin:R (.ref D) (put G1 D (.lst ((l.filterMap f).map g')))):LCB (l.map g) ok cap pt tt te σ R D G1:=by
 show b1g (λi c G=>c=((l.take i).filterMap f).map g'/\G=put G1 D (.lst c)) (by simp,rfl) ?_ ?_ ?_
 .simp_all
 .ext i x c G d ⟨e,rfl⟩;rw[aO]at d;cases hx':l[i]? with
  |none=>rw[hx']at d;cases d
  |some a=>
   rw[hx']at d;cases d;show turn a (aZ hx') c _ _ (λy j=>(a0a,?_,?_,?_)) λh=>(?_,rfl)
   .rw[e,aH];show dM (aU (cq _ _) (by rw[aY];lia)) (a0e (aI 1000))
   .rw[a05 hx',j,e,aQ];rfl
   .rw[a1v]
   .rw[a05 hx',h,e];simp
 .simp_all
def One(l:List Rw):Prop:=∀r∈l,∃x,r.w=[x]
def a4I:P3:=λws G R=>∃p l m,ws=[.ref p,oz m]/\G p=be (.lst (l.map Rw.z))/\One l/\l.length<=1000/\∀t,G t=gV->R (.ref t) (put G t (.lst ((ahead m l).map Rw.z)))
set_option tactic.hygienic true in
def a4J(T:Txt K mg base a):Cal P w K mg base CX0 2 "ahead_of" (lowP K a4I):=by
 show fnc 2 (N:=["line","moment"]) T.br (T.f 4 _ rfl) ?_;walk_at "in";show(_,(a0z (a1Z (q_l ["begin","end","worth","moment"] [gV,gV,gV,be 1] (.tp [0,1,2])))),?_);let(p,l,m,rfl,hp,h1,hz,q):=h;lk;show a1b hp ?_;ext D hD;show a1z (a1J m) (λys=>a0b hp hD) hz ?_ (q D hD);ext r hr ys K1 K2 k1 k2;let(x,hx):=h1 r hr;let(b,e,w):=r;cases hx;show(_,rfl,?_);cases m with
 |none=>
  lk;show(e,gV,rfl,?_);lk;show(lenK rfl,?_);show k1 _ rfl
 |some m=>
  lk;show ifD (λc=>?_) λc=>?_
  .lk;show(e,be m,rfl,?_);lk;show(lenK rfl,?_);show k1 (b,emin e (be m),[x]) ?_;unfold a1J;rw[if_pos (by simpa[bef]using c)]
  .show k2 ?_;unfold a1J;rw[if_neg (by simpa[bef]using c)]
def a5A:P3:=λws G R=>∃p l m,ws=[.ref p,.int m]/\G p=be (.lst (l.map Rw.z))/\One l/\l.length<=1000/\∀t,G t=gV->R (.ref t) (put G t (.lst ((fromOn m l).map Rw.z)))
set_option tactic.hygienic true in
def a5B(T:Txt K mg base a):Cal P w K mg base CX0 1 "from_on" (lowP K a5A):=by
 show fnc 2 (N:=["line","moment"]) T.br (T.f 6 _ rfl) ?_;walk_at "in";show(_,(a0z (a1Z (q_l ["begin","end","worth","moment"] [gV,gV,gV,be 1] (.tp [0,1,2])))),?_);let(p,l,m,rfl,hp,h1,hz,q):=h;lk;show a1b hp ?_;ext D hD;show a1z (a4E m) (λys=>a0b hp hD) hz ?_ (q D hD);ext r hr ys K1 K2 k1 k2;let(x,hx):=h1 r hr;let(b,e,w):=r;cases hx;show(_,rfl,?_);cases e with
 |none=>
  lk;show(lenK rfl,?_);show k1 (if m > b then m else b,gV,[x]) rfl
 |some e=>
  lk;show ifD (λc=>?_) λc=>?_
  .lk;show(lenK rfl,?_);show k1 (if m > b then m else b,be e,[x]) ?_;unfold a4E;rw[if_pos (by simpa[bef]using c)]
  .show k2 ?_;unfold a4E;rw[if_neg (by simpa[bef]using c)]
def a6m(h:0<n):ixN n (-1)=be (n-1):=by grind [ixN]
def a1k{α:Type}{l:List α}{x:α}(h:l.getLast?=be x):atI l (-1)=be x:=by
 let a:l≠[]:=λz=>by subst z;simp at h
 unfold atI;rw[a6m (cK.mpr a)]
 change l[l.length-1]?=be x
 rw[<- eT];show h
def a7n{α:Type}{l:List α}{x y:α}(h:l.getLast?=be x):l.set (l.length-1) y=l.dropLast++[y]:=by
 let a:=a16 h;generalize l.dropLast=i at a;subst a;simp
def sIx2{a b:Z}{w:List Z}:HT.sIx (a::b::w).length 0 (be 2)=2:=by
 let:=HT.sIx_nat (a::b::w).length 0 2
 rw[show ((2:Nat):Int)=2 from rfl]at this;rw[this];simp
def cut2{a b:Z}{w:List Z}:cutZ (a::b::w) (be 2) gV=w:=by
 unfold cutZ;rw[sIx2,HT.sIx_none];simp
def b0d{a b:Z}{w:List Z}:¬ (HT.sIx (a::b::w).length 0 (be 2)=0/\HT.sIx (a::b::w).length (a::b::w).length gV=(a::b::w).length):=by
 rw[sIx2];ext h;show absurd h.1 (by decide)
def okW0(w:List Z):Prop:=w.length<=4/\w.all (flat 4)=kP
def OkR0(l:List Rw):Prop:=∀r∈l,okW0 r.w
def OkR.weak(h:OkR l):OkR0 l:=λr hr=>(h r hr).2
def a0N:P3:=λws G R=>∃p ps,ws=[.ref p]/\G p=be (.lst (ps.map Rw.z))/\OkR0 ps/\ps.length<=1000/\∀t,G t=gV->R (.ref t) (put G t (.lst ((join ps).map Rw.z)))
def b5o{G:Hq}{R:K3}{a b:Z}{w:List Z}(h:R (.tup w) G):zSl (.tup (a::b::w)) (be 2) gV G R:=b4j b0d (by rw[cut2];show h)
def b0e{w:List Z}(h:okW0 w):flat 8 (.tup w)=kP:=a7m (n:=4) (m:=7) (by decide) h.2
set_option tactic.hygienic true in
theorem a7o:∀(ps told:List Rw),OkR0 told->OkR0 ps->OkR0 (ps.foldl jn told)
 |[],_,h,_=>h
 |p::ps,told,h,h'=>by
  show a7o ps _ (λr a=>?_) λr a=>h' r (.tail _ a);unfold jn at a
  split at a
  .next l hl=>
   split at a
   .let a||a:=aJ.mp a
    .show h r (eU _ a)
    .rw[aK.mp a];show h' p (.head _)
   .let a||a:=aJ.mp a
    .show h r a
    .rw[aK.mp a];show h' p (.head _)
  .let a||a:=aJ.mp a
   .show h r a
   .rw[aK.mp a];show h' p (.head _)
def b8m(told:List Rw)(p:Rw):(jn told p).length<=told.length+1:=by
 unfold jn
 split
 .split<;>simp
 .simp
def b2i:∀(ps told:List Rw),(ps.foldl jn told).length<=told.length+ps.length:=by ext z0;induction z0 with
 |nil=>ext told;simp
 |cons p ps I0=>
  ext told;let b:=I0 (jn told p);let a:=b8m told p
  change (ps.foldl jn (jn told p)).length<=_
  rw[aV]
  lia
def b0f{ps:List Rw}(h:ps[i]?=be p):(ps.take (i+1)).foldl jn []=jn ((ps.take i).foldl jn []) p:=by
 rw[cf,h];simp
set_option tactic.hygienic true in
def a1p(T:Txt K mg base a):Cal P w K mg base CX0 1 "with_alike_joined" (lowP K a0N):=by
 show fnc 1 (N:=["pieces","told","piece"]) T.br (T.f 5 _ rfl) ?_;walk_at "in";show(_,(a0c (by ac_rfl)
  (a0c (a1H (pt:=(.nm 2)) g5.never rfl (by ac_rfl) (p_nm (nmI 2 nd))
  (a0z (z_if (by ac_rfl)
  (a0z (a2H (by ac_rfl) (qv 1) (by ac_rfl) b1j))
  (by ac_rfl))))
  (by ac_rfl))),?_)
 let(p,ps,rfl,hp,hok,hz,q):=h;lk;show(lenK rfl,λt ht=>?_);lk;show a1b (a0b hp ht) ?_;show a0H (λi σ G'=>∃v,σ=[be (.ref p),be (.ref t),v]/\G'=put G t (.lst (((ps.take i).foldl jn []).map Rw.z))) (_,rfl,by simp) (by ext i σ G' _ ⟨v,_,e⟩;show by rw[e];show a0b hp ht) ?_ ?_
 .ext i x σ G' hx ⟨v,rfl,rfl⟩;rw[aO]at hx;cases hx':ps[i]? with
  |none=>rw[hx']at hx;cases hx
  |some r=>
   rw[hx']at hx;cases hx;let hr:=hok r (aZ hx');let hot:OkR0 ((ps.take i).foldl jn []):=a7o _ _ (λr hr=>by simp at hr) λr hr=>hok r (bx hr);let hlt:=b2i (ps.take i) [];rw[aY]at hlt;let hi:=(aM.mp hx').1;rw[b0f hx'];generalize (ps.take i).foldl jn []=told at hot hlt ⊢;simp only[List.length_nil]at hlt;show(_,rfl,?_);let app:∀G',G'=put G t (.lst (told.map Rw.z))->jn told r=told++[r]->a2p (.ref t) [r.z] G' (λ_ G1=>∃v,([be (.ref p),be (.ref t),be r.z]:S3)=[be (.ref p),be (.ref t),v]/\G1=put G t (.lst ((jn told r).map Rw.z))):=by
    ext _ rfl e;show a0s a0a (by rw[aH];show a0e (by lia)) (_,rfl,?_);rw[a1v,e,aQ]
    rfl
   lk;show a9m a0a ?_;cases hl:told.getLast? with
   |none=>
    let e0:told=[]:=eS.mp hl;subst e0;show ifF ?_;lk;show a0U a0a ?_;lk;show app _ rfl (by unfold jn;rw[hl])
   |some k=>
    let hne:told≠[]:=λz=>by subst z;simp at hl
    let hlm:(told.map Rw.z).getLast?=be k.z:=by rw[d9,hl];rfl
    let he:(told.map Rw.z).isEmpty=kQ:=by cases told with |nil=>show absurd rfl hne |cons _ _=>rfl
    let hk:=hot k (gh hl);rw[he];show ifT ?_;lk;show a0y a0a (a1k hlm) ?_;lk;show a0W at1 ?_;lk;show a0W at0 ?_;show b3g ?_;lk;show ifD (λc1=>?_) λc1=>?_
    .lk;show a0y a0a (a1k hlm) ?_;lk;show b5o ?_;lk;show b5o ?_;show c0r (b0e hk) (b0e hr) ?_;lk;show ifD (λc2=>?_) λc2=>?_
     .lk;show a0y a0a (a1k hlm) ?_;lk;show a0W at0 ?_;lk;show a0W at1 ?_;lk;show(lenK rfl,?_);lk;show b5o ?_;show b7m (by simp) (a06 (by let:=hr.1;simp;lia)) ?_;lk;show b1p a0a (a6m (by rw[aH];show cK.mpr hne)) ?_;show(_,rfl,?_);rw[a1v,a7n hlm]
      congr 1
      unfold jn;rw[hl];dsimp only;rw[if_pos (c1,c2),aQ,gi]
      rfl
     .lk;show a0U a0a ?_;lk;show app _ rfl (by unfold jn;rw[hl];dsimp only;rw[if_neg λz=>c2 z.2])
    .show ifF ?_;lk;show a0U a0a ?_;lk;show app _ rfl (by unfold jn;rw[hl];dsimp only;rw[if_neg λz=>c1 z.1])
 .ext σ G' ⟨v,rfl,rfl⟩;lk;rw[aH,bK];show q t ht
def b2j(h:over r m=kP):r.has m=kQ:=by
 unfold over at h;unfold Rw.has;cases he:r.e with
 |none=>rw[he]at h;cases h
 |some e=>
  rw[he]at h;simp at h;simp only[bef];rw[decide_eq_false (show ¬ m<e by lia),dg]
def b0g(h:m<=m')(o:over r m=kP):over r m'=kP:=by
 unfold over at o ⊢;cases he:r.e with
 |none=>rw[he]at o;cases o
 |some e=>rw[he]at o;simp at o ⊢;lia
theorem a7p:∀{l:List Rw}{m:Int}{k:Nat},(∀(i:Nat) r,i<k->l[i]?=be r->over r m=kP)->val l m=val (l.drop k) m
 |l,m,0,_=>rfl
 |[],m,k+1,_=>rfl
 |r::l,m,k+1,h=>by
  rw[a0i,b2j (h 0 r (by simp) rfl),if_neg (by simp),List.drop_succ_cons];show a7p λi s a e=>h (i+1) s (by lia) (by grind)
def b2k(h:Rise (r::l))(o:over r m=kQ):val (r::l) m=if r.b<=m then be r.w else gV:=by
 rw[a0i];let d:bef m r.e=kP:=by
  unfold over at o;cases he:r.e with
  |none=>rfl
  |some e=>rw[he]at o;simp at o;simp only[bef,decide_eq_true_eq];cbv
 by_cases c:r.b<=m
 .let:r.has m=kP:=by unfold Rw.has;rw[d,decide_eq_true c];rfl
  rw[this,if_pos rfl,if_pos c]
 .rw[a34 (by lia),if_neg (by simp),if_neg c];show a07 λs a=>a34 ?_
  let:=((aT.mp h.2).1 s a).b (h.1 r (.head _))
  lia
def Rise.drop(h:Rise l)(k:Nat):Rise (l.drop k):=(λr a=>h.1 r (eE a),h.2.sublist (eC _ _))
def drop_get{α:Type}{l:List α}{x:α}(h:l[k]?=be x):l.drop k=x::l.drop (k+1):=by
 let(b,a):=aM.mp h;rw[cT b,a]
def a3E:P3:=λws G R=>Ex4 λ(p q:Addr) (l:List Rw) (ms:List Int)=>ws=[.ref p,.ref q]/\G p=be (.lst (l.map Rw.z))/\G q=be (.lst (ms.map Z.int))/\Rise l/\OkR l/\l.length<=1000/\ms.Pairwise (·<=·)/\ms.length<=1000 /\
 ∀t,G t=gV->R (.ref t) (put G t (.lst (ms.map λm=>wz (val l m))))
def a6n{l:List Rw}{k:Nat}(h:l[k]?=be r):atI (l.map Rw.z) (k:Int)=be r.z:=a0E (by simp_all)
def take_snoc{α:Type}{l:List α}{x:α}(h:l[i]?=be x):l.take (i+1)=l.take i++[x]:=by rw[cf,h];rfl
set_option tactic.hygienic true in
def a3F(T:Txt K mg base a):Cal P w K mg base CX0 2 "worths_in" (lowP K a3E):=by
 show fnc 2 (N:=["line","moments","worths","at","moment"]) T.br (T.f 10 _ rfl) ?_;walk_at "in";show(_,(a0c (by ac_rfl)
  (a0c (by ac_rfl)
  (a0c (a1H (pt:=(.nm 4)) g5.never rfl (by ac_rfl) (p_nm (nmI 4 nd))
  (a46 (a51 g5.never (by ac_rfl)
  (by ac_rfl))
  (by ac_rfl)))
  (by ac_rfl)))),?_)
 let(p,q,l,ms,rfl,hp,hq,hr,hok,hz,hm,hmz,fin):=h;lk;show(lenK rfl,λt ht=>?_);lk;show a1b (a0b hq ht) ?_;show a0H (λi σ G'=>∃(k:Nat)(v:Option Z),k<=l.length/\(∀(j:Nat) r m,j<k->l[j]?=be r->ms[i]?=be m->over r m=kP)/\σ=[be (.ref p),be (.ref q),be (.ref t),be (.int k),v]/\G'=put G t (.lst ((ms.take i).map λm=>wz (val l m)))) (0,_,bg _,λj r m hj=>by lia,rfl,by simp) (by ext i σ G' _ ⟨_,_,_,_,_,e⟩;show by rw[e];show a0b hq ht) ?_ ?_
 .ext i x σ G' hx ⟨k,v,hk,hov,rfl,rfl⟩;rw[aO]at hx;cases hx':ms[i]? with
  |none=>rw[hx']at hx;cases hx
  |some m=>
   rw[hx']at hx;cases hx;show(_,rfl,?_);lk;let hp':put G t (.lst ((ms.take i).map λm=>wz (val l m))) p=be (.lst (l.map Rw.z)):=a0b hp ht;generalize hG:put G t (.lst ((ms.take i).map λm=>wz (val l m)))=G1 at hp' ⊢;show a49 (fun σ' G'=>∃k':Nat,k'<=l.length/\(∀(j:Nat) r,j<k'->l[j]?=be r->over r m=kP)/\(∀r,l[k']?=be r->over r m=kQ)/\σ'=[be (.ref p),be (.ref q),be (.ref t),be (.int k'),be (.int m)]/\G1=G') ?_ ?_
   .show(λn σ' G'=>∃k':Nat,n+k'=l.length/\(∀(j:Nat) r,j<k'->l[j]?=be r->over r m=kP)/\σ'=[be (.ref p),be (.ref q),be (.ref t),be (.int k'),be (.int m)]/\G1=G',(l.length-k,k,by lia,λj r hj e=>hov j r m hj e hx',rfl,rfl),?_);ext n σ' G' ⟨k',hn,ho,rfl,rfl⟩;lk;show a2I hp' ?_;lk;show ifD (λc=>?_) λc=>?_
    .rw[aH]at c;let hlt:k'<l.length:=by lia
     let hg:=aP hlt;lk;show a0y hp' (a6n hg) ?_;lk;show(_,_,rfl,?_);lk;show ifB (λc2=>?_) λc2=>?_
     .lk;show(n-1,by lia,k'+1,by lia,λj r hj e=>?_,rfl,rfl)
      by_cases hjk:j<k'
      .show ho j r hjk e
      .let:j=k':=by lia
       subst this;rw[hg]at e;cases e;show c2
     .show(k',by lia,ho,λr e=>by rw[hg]at e;cases e;show c2,rfl,rfl)
    .rw[aH]at c;show ifF ?_;show(k',by lia,ho,λr e=>by let:=(aM.mp e).1;lia,rfl,rfl)
   .ext σ' G' ⟨k',hk',ho,hn,rfl,rfl⟩;let hv:val l m=val (l.drop k') m:=a7p ho;let nxt:∀w:Z,w=wz (val l m)->a2p (.ref t) [w] G1 (λ_ G2=>∃(k:Nat)(v:Option Z),k<=l.length/\(∀(j:Nat) r m,j<k->l[j]?=be r->ms[i+1]?=be m->over r m=kP)/\([be (.ref p),be (.ref q),be (.ref t),be (.int k'),be (.int m)]:S3)=[be (.ref p),be (.ref q),be (.ref t),be (.int k),v]/\G2=put G t (.lst ((ms.take (i+1)).map λm=>wz (val l m)))):=by
     ext w rfl;subst hG;let hi:=(aM.mp hx').1;show a0s a0a (by rw[aH,aY];show a0e (by lia)) (k',_,hk',λj r m' hj e e'=>b0g ?_ (ho j r hj e),rfl,?_)
     .let(h1,e1):=aM.mp hx';let(h2,e2):=aM.mp e';rw[<- e1,<- e2];show cD.mp hm _ _ h1 h2 (by lia)
     .rw[a1v,take_snoc hx',aQ];rfl
    let ht1:∃ws,G1 t=be (.lst ws):=by rw[<- hG];show(_,a0a)
    let(wt,ht1):=ht1;lk;show a2I hp' ?_;lk;show ifD (λc=>?_) λc=>?_
    .rw[aH]at c;let hlt:k'<l.length:=by lia
     let hg:=aP hlt;let hv2:=b2k (by rw[<- drop_get hg];show hr.drop k') (hn _ hg);rw[<- drop_get hg,<- hv]at hv2;lk;show a0y hp' (a6n hg) ?_;lk;show a0W at0 ?_;lk;show ifD (λc2=>?_) λc2=>?_
     .lk;show a0U ht1 ?_;lk;show a0y hp' (a6n hg) ?_;lk;let hw:=hok _ (b5 hlt);obtain⟨x,xs,ex⟩:∃x xs,(l[k']).w=x::xs:=by
       cases e:(l[k']).w with
       |nil=>show absurd e hw.1
       |cons x xs=>show(x,xs,rfl)
      show a0W (w:=x) (by change atI (_::_::(l[k']).w) 2=be x;rw[ex];show at2) ?_;lk;show nxt x ?_;rw[hv2,if_pos c2,ex];rfl
     .lk;show a0U ht1 ?_;lk;show nxt .non ?_;rw[hv2,if_neg c2];rfl
    .rw[aH]at c;show ifF ?_;lk;show a0U ht1 ?_;lk;show nxt .non ?_;rw[hv,dq (by lia)];rfl
 .ext σ G' ⟨k,v,_,_,rfl,rfl⟩;lk;rw[aH,bK];show fin t ht
def b0h(h:OkR l):OkR (ahead m l):=λx a=>by
 let(r,b,_,rfl):=a17 a;show h r b
def b2l(h:OkR l):OkR (fromOn m l):=λx a=>by
 let(r,b,_,rfl):=a20 a;show h r b
def okV(z:Z):Prop:=flat 4 z=kP
def b5p(h:okV z):okW [z]:=(by simp,by simp,by rw[bu,h];rfl)
def a8e(h:OkR l)(hz:okV z):OkR (a1m l b e (optW z)):=by
 ext r a;let a||a:=aJ.mp a
 .let a||a:=aJ.mp a
  .show b0h h r a
  .unfold optW at a
   split at a
   .next w e=>
          split at e
          .cases e
          .cases e;rw[aK.mp a];show b5p hz
   .simp_all
 .cases e with
  |none=>simp at a
  |some e=>show b2l h r a
def a6o:P3:=λws G R=>Ex5 λp l b e z=>ws=[.ref p,.int b,oz e,z]/\G p=be (.lst (l.map Rw.z))/\Rise l/\OkR l/\One l/\l.length<=900/\bef b e=kP/\okV z /\
 ∀t G',G t=gV->Sm G G'->G' t=be (.lst ((a5x l b e (optW z)).map Rw.z))->R (.ref t) G'
set_option tactic.hygienic true in
def a6p(T:Txt K mg base a):Cal P w K mg base CX0 3 "put_on" (lowP K a6o):=by
 show fnc 4 (N:=["line","begin","end","worth","pieces"]) T.br (T.f 7 _ rfl) ?_;walk_at "in";show(_,(a0c (by ac_rfl)
  (a46 (by ac_rfl)
  (a46 (by ac_rfl)
  (by ac_rfl)))),?_)
 let(p,l,b,e,z,rfl,hp,hr,hok,h1,hz,g,hv,q):=h;let hpc:=(a5v (w:=optW z) hr g).2.2;lk;show(p,l,be b,rfl,hp,h1,by lia,λt ht=>?_);lk;let la:=a5u (be b) l;show a49 (fun σ' G'=>σ'=[be (.ref p),be (.int b),be (oz e),be z,be (.ref t)]/\G'=put G t (.lst ((ahead (be b) l++(match optW z with |some w=>[((b,e,w):Rw)] |none=>[])).map Rw.z))) ?_ ?_
 .lk;show ifN (λc=>?_) λc=>?_
  .lk;show a0U a0a ?_;lk;show(lenK rfl,?_);lk;show a0s a0a (by rw[aH];show a0e (by lia)) (rfl,?_);rw[a1v,optW,if_neg c,aQ];rfl
  .lk;show(rfl,?_);rw[optW,if_pos c];simp
 .ext σ' G' ⟨rfl,rfl⟩;let hp1:∀o,put G t o p=be (.lst (l.map Rw.z)):=λo=>a0b hp ht;let fin:∀G' ,Sm G G'->G' t=be (.lst ((a1m l b e (optW z)).map Rw.z))->a0N [.ref t] G' R:=λG' s ht'=>by
   show(t,_,rfl,ht',(a8e hok hv).weak,by lia,λu hu=>?_);show q u _ (s.free hu) (s.trans (Sm.new hu)) a0a
  show a49 (fun σ' G'=>σ'=[be (.ref p),be (.int b),be (oz e),be z,be (.ref t)]/\Sm G G'/\G' t=be (.lst ((a1m l b e (optW z)).map Rw.z))) ?_ ?_
  .cases e with
   |none=>
    lk;show(rfl,Sm.new ht,?_);unfold a1m;rw[bh];show a0a
   |some e=>
    lk;show a0U a0a ?_;lk;show(p,l,e,rfl,hp1 _,h1,by lia,λu hu=>?_);let hut:t≠u:=λz=>by subst z;rw[a0a]at hu;cases hu
    let hpl:(a1m l b (be e) (optW z)).length=(ahead (be b) l++(match optW z with |some w=>[((b,be e,w):Rw)] |none=>[])).length+(fromOn e l).length:=by
     unfold a1m;show aW
    generalize hA:(ahead (be b) l++(match optW z with |some w=>[((b,be e,w):Rw)] |none=>[]))=A at hu hpl ⊢
    let e1:put (put G t (.lst (A.map Rw.z))) u (.lst ((fromOn e l).map Rw.z)) t=be (.lst (A.map Rw.z)):=by rw[put_ne hut];show a0a
    lk;show a6Q e1 a0a (by rw[aH,aH];show a06 (by lia)) ?_;show(rfl,?_,?_)
    .show ((Sm.new ht).trans (Sm.new hu)).put ht
    .rw[a0a,<- aQ,<- hA]
     rfl
  .ext σ' G' ⟨rfl,s,ht'⟩;lk;show fin G' s ht'
def leS(a b:Str):Prop:=PySem.Spec.ltCps b.cps.toList a.cps.toList=kQ
def b0i{a b:Str}:leS a b↔¬ b.cps.toList<a.cps.toList:=by unfold leS;rw[PyProof.Rows.ltCps_eq];simp
def b0j{a b c:Str}(h:leS a b)(g:leS b c):leS a c:=by
 rw[b0i]at *;show List.le_trans (α:=Nat) h g
def b2m{a b:Str}(h:leS a b)(g:leS b a):a=b:=by
 rw[b0i]at *;let e:a.cps.toList=b.cps.toList:=List.le_antisymm (α:=Nat) h g;cases a;cases b;o_head e
def c0s:∀{l:List Str}{p:Str},PyProof.Rows.risingS p l=kP->(p::l).Pairwise leS:=by ext z0;induction z0 with
 |nil=>ext p _;show eB _ _
 |cons x r I0=>
  ext p h;unfold PyProof.Rows.risingS at h;rw[bO,Bool.not_eq_true']at h;let b:=I0 h.2;show aT.mpr (λy a=>?_,b);let rfl||a:=aL.mp a
  .show h.1
  .show b0j h.1 (eV b a)
theorem c0t:∀{l:List Str},PyProof.Rows.sortedS l=kP->l.Pairwise leS
 |[],_=>cA.nil
 |_::_,h=>c0s h
theorem a5C:∀{xs ys:List Str},xs.Pairwise leS->ys.Pairwise leS->xs.Perm ys->xs=ys
 |[],ys,_,_,h=>(List.nil_perm.mp h).symm
 |x::xs,[],_,_,h=>by let:=h.length_eq;simp at this
 |x::xs,y::ys,h1,h2,h=>by
  let e:x=y:=by
   let c:=h.mem_iff.mp (bM);let b:=h.mem_iff.mpr (bM);let e||c:=aL.mp c
   .cbv
   .let e||b:=aL.mp b
    .simp_all
    .show b2m (eV h1 b) (eV h2 c)
  subst e;rw[a5C (aT.mp h1).2 (aT.mp h2).2 h.cons_inv]
def okS(s:Str):Prop:=s.length<=1000/\PyData.strOk s=kP
def Th(G:Hq):Z->Prop
 |.non=>True
 |.bl _=>True
 |.int _=>True
 |.str s=>okS s
 |.tup _=>True
 |.ref p=>(∃ws,G p=be (.lst ws))\/∃kvs,G p=be (.dK kvs)
 |_=>False
def Th.sm(s:Sm G G')(h:Th G x):Th G' x:=by
 cases x with
 |ref p=>
  let(ws,e)||(ws,e):=h
  .show .inl (ws,s _ _ e)
  .show .inr (ws,s _ _ e)
 |_=>show h
structure Kd (G:Hq) (x:Z) (n:String):Prop where
 ty:tyN G x=be n
 is:n="NoneType"\/n="bool"\/n="int"\/n="str"\/n="tuple"\/n="list"\/n="dict"
def Th.kd(h:Th G x):∃n,Kd G x n:=by
 cases x with
 |non=>show(_,rfl,.inl rfl)
 |bl _=>show(_,rfl,.inr (.inl rfl))
 |int _=>show(_,rfl,.inr (.inr (.inl rfl)))
 |str _=>show(_,rfl,.inr (.inr (.inr (.inl rfl))))
 |tup _=>show(_,rfl,.inr (.inr (.inr (.inr (.inl rfl)))))
 |ref p=>
  let(ws,e)||(ws,e):=h
  .show("list",by simp[tyN,e],.inr (.inr (.inr (.inr (.inr (.inl rfl))))))
  .show("dict",by simp[tyN,e],.inr (.inr (.inr (.inr (.inr (.inr rfl))))))
 |_=>show aN h
def b5q(h:n="NoneType"\/n="bool"\/n="int"\/n="str"\/n="tuple"\/n="list"\/n="dict"):kit0 n "str"=be (decide (n="str")):=by
 let rfl||rfl||rfl||rfl||rfl||rfl||rfl:=h<;>decide +kernel
def b2n(h:n="NoneType"\/n="bool"\/n="int"\/n="str"\/n="tuple"\/n="list"\/n="dict"):kit0 n "bool"=be (decide (n="bool")):=by
 let rfl||rfl||rfl||rfl||rfl||rfl||rfl:=h<;>decide +kernel
def b5r(h:n="NoneType"\/n="bool"\/n="int"\/n="str"\/n="tuple"\/n="list"\/n="dict"):kit0 n "int"=be (decide (n="int")||decide (n="bool")):=by
 let rfl||rfl||rfl||rfl||rfl||rfl||rfl:=h<;>decide +kernel
noncomputable def isS:Z->Bool
 |.str _=>kP
 |_=>kQ
noncomputable def isB:Z->Bool
 |.bl _=>kP
 |_=>kQ
noncomputable def isI:Z->Bool
 |.int _=>kP
 |.bl _=>kP
 |_=>kQ
def c0u(h:Th G x)(q:R (.bl (isS x)) G):zIsT [x,.ty "str"] G R:=by
 let(n,k):=h.kd;show(n,_,k.ty,b5q k.is,?_);let e:decide (n="str")=isS x:=by
  let:=k.ty
  cases x with
  |ref p=>let(ws,e)||(ws,e):=h<;>(simp[tyN,e]at this;subst this;change _=kQ;decide)
  |_=>first | (cases this;change _=kQ;decide;done) | (cases this;change _=kP;decide;done) |show aN h
 rw[e];show q
def b8n(h:Th G x)(q:R (.bl (isB x)) G):zIsT [x,.ty "bool"] G R:=by
 let(n,k):=h.kd;show(n,_,k.ty,b2n k.is,?_);let e:decide (n="bool")=isB x:=by
  let:=k.ty
  cases x with
  |ref p=>let(ws,e)||(ws,e):=h<;>(simp[tyN,e]at this;subst this;change _=kQ;decide)
  |_=>first | (cases this;change _=kQ;decide;done) | (cases this;change _=kP;decide;done) |show aN h
 rw[e];show q
def b8o(h:Th G x)(q:R (.bl (isI x)) G):zIsT [x,.ty "int"] G R:=by
 let(n,k):=h.kd;show(n,_,k.ty,b5r k.is,?_);let e:(decide (n="int")||decide (n="bool"))=isI x:=by
  let:=k.ty
  cases x with
  |ref p=>let(ws,e)||(ws,e):=h<;>(simp[tyN,e]at this;subst this;change _=kQ;decide)
  |_=>first | (cases this;change _=kQ;decide;done) | (cases this;change _=kP;decide;done) |show aN h
 rw[e];show q
noncomputable def okC(c:Nat):Bool:=decide (97<=c)&&decide (c<=122)
noncomputable def a2t:Z->Bool
 |.str s=>decide (1<=s.length)&&decide (s.length<=8)&&s.cps.toList.all okC
 |_=>kQ
noncomputable def momB:Z->Bool
 |.int i=>decide (0<=i)&&decide (i<=1000000000000)
 |_=>kQ
def a4K:momB (.int i)=(decide (0<=i)&&decide (i<=1000000000000)):=rfl
noncomputable def strB(x y:Z):Bool:=momB x&&match y with
 |.non=>kP
 |.int j=>momB (.int j)&&match x with |.int i=>decide (i<j) |_=>kQ
 |_=>kQ
def spB1(f:Z->Bool):P3:=λws G R=>∃x,ws=[x]/\Th G x/\∀G',Sm G G'->R (.bl (f x)) G'
def b8p(h:spB1 f ws G R):ws.length=1:=by let(_,rfl,_):=h;rfl
def spB2(f:Z->Z->Bool):P3:=λws G R=>∃x y,ws=[x,y]/\Th G x/\Th G y/\∀G',Sm G G'->R (.bl (f x y)) G'
def c0v(h:spB2 f ws G R):ws.length=2:=by let(_,_,rfl,_):=h;rfl
abbrev a5D:P3:=spB1 a2t
abbrev a3G:P3:=spB1 momB
abbrev a3p:P3:=spB2 strB
def b0k(a b:Nat):ltS ⟨#[a]⟩ ⟨#[b]⟩=decide (a<b):=by
 by_cases h:a<b
 .rw[decide_eq_true h];show decide_eq_true (gj.mpr (.inl h))
 .rw[decide_eq_false h];show decide_eq_false λq=>?_;let q||q:=gj.mp q
  .simp_all
  .simp_all
def strA:(Str.ofString "a")=⟨#[97]⟩:=by decide +kernel
def strZ:(Str.ofString "z")=⟨#[122]⟩:=by decide +kernel
def b2o(x:Str)(g:Nat->Option Z)(f:Z->Option Z)(h:∀c,f (.str ⟨#[c]⟩)=g c):(a2O x).filterMap f=x.cps.toList.filterMap g:=by
 unfold a2O;rw[ej]
 congr 1
 funext c
 show h c
def b0l(h:x.length<=1000):(a2O x).length<=1000:=by unfold a2O;rw[aH,bf];show h
def b8q(l:List Nat):(l.filterMap λc=>be (Z.bl (okC c)))=(l.map okC).map Z.bl:=by simp
def b5s(l:List Nat):(l.map okC).all id=l.all okC:=by simp
def a21:a2t (.str s)=(decide (1<=s.length)&&decide (s.length<=8)&&s.cps.toList.all okC):=rfl
def a5E(T:Txt K mg base a):Cal P w K mg base CX0 1 "is_name" (lowP K a5D):=by
 show fnc 1 (N:=["thing"]) T.br (T.f 0 _ rfl) ?_ (len:=λws G R h=>(by show b8p h));walk_at "in";show(_,(a0c (by ac_rfl)
  (a0c (by ac_rfl)
  (a0z (a1Z (q_B (b7a rfl) (T.b 0) (q_k (q_l ["sign"] [gV] (.nm 0) (hi:=(b7d (qv 0)))) a0J)))))),?_)
 let(x,rfl,hx,q):=h;lk;show c0u hx ?_;lk;show ifNB (λc=>?_) λc=>?_
 .lk;let e:a2t x=kQ:=by cases x<;>first |rfl |cases c
  let:=q G (Sm.refl G)
  rw[e]at this;show this
 .obtain⟨s,rfl⟩:∃s,x=.str s:=by cases x<;>first |show(_,rfl) |cases c
  let hs:okS s:=hx;lk;show a9o (a06 hs.1) ?_;lk;let no:a2t (.str s)=kQ->R (.bl kQ) G:=λe=>by let:=q G (Sm.refl G);rw[e]at this;show this
  show ifD (λc1=>?_) λc1=>?_
  .lk;show no (by rw[a21,decide_eq_false (show ¬ 1<=s.length by lia)];rfl)
  .lk;show a9o (a06 hs.1) ?_;lk;show ifD (λc2=>?_) λc2=>?_
   .lk;show no (by rw[a21,decide_eq_false (show ¬ s.length<=8 by lia),dg];rfl)
   .lk;ext D hD;show b38 (λx=>match x with |.str z=>be (.bl (!ltS z (Str.ofString "a")&&!ltS (Str.ofString "z") z)) |_=>gV) (λ_=>True.intro) (b0l hs.1) ?_ ?_
    .ext x hm ys K1 K2 k1 k2;unfold a2O at hm;let(c,_,rfl):=aX.mp hm;show(_,rfl,?_);lk;show ifB (λz=>?_) λz=>?_
     .lk;show k1 _ ?_;dsimp only;rw[z];rfl
     .show k1 _ ?_;dsimp only;rw[z];rfl
    .let e:(a2O s).filterMap (λx=>match x with |.str z=>be (.bl (!ltS z (Str.ofString "a")&&!ltS (Str.ofString "z") z)) |_=>gV)=(s.cps.toList.map okC).map Z.bl:=by
      rw[b2o s (λc=>be (.bl (okC c))) _ λc=>?_,b8q];dsimp only;rw[strA,strZ,b0k,b0k];unfold okC
      congr 2
      by_cases h1:c<97<;>by_cases h2:122<c<;>simp[h1,h2]<;>lia
     let e2:a2t (.str s)=s.cps.toList.all okC:=by rw[a21,decide_eq_true (show 1<=s.length by lia),decide_eq_true (show s.length<=8 by lia),bZ,bZ]
     show b9T (by rw[e];show a0a) ?_;rw[b5s,<- e2];show q _ (Sm.new hD)
def a3H(T:Txt K mg base a):Cal P w K mg base CX0 1 "is_moment" (lowP K a3G):=by
 show fnc 1 (N:=["thing"]) T.br (T.f 1 _ rfl) ?_ (len:=λws G R h=>(by show b8p h));walk_at "in";show(_,(by ac_rfl),?_);let(x,rfl,hx,q):=h;let no:momB x=kQ->R (.bl kQ) G:=λe=>by let:=q G (Sm.refl G);rw[e]at this;show this
 lk;show b8n hx ?_;lk;show ifB (λc=>?_) λc=>?_
 .lk;show no (by cases x<;>first |rfl |cases c)
 .lk;show b8o hx ?_;lk;show ifNB (λc2=>?_) λc2=>?_
  .lk;show no (by cases x<;>first |rfl |cases c2)
  .obtain⟨i,rfl⟩:∃i,x=.int i:=by cases x<;>first |show(_,rfl) | (cases c;done) | (cases c2;done)
   lk;show ifD (λz=>?_) λz=>?_
   .lk
    let:=q G (Sm.refl G)
    rw[a4K,decide_eq_true z,bZ]at this;show this
   .show no (by rw[a4K,decide_eq_false z];rfl)
def a3q(T:Txt K mg base a):Cal P w K mg base CX0 2 "is_stretch" (lowP K a3p):=by
 show fnc 2 (N:=["begin","end"]) T.br (T.f 2 _ rfl) ?_ (len:=λws G R h=>(by show c0v h));walk_at "in";show(_,(by ac_rfl),?_);let(x,y,rfl,n,m,q):=h;lk;show(x,rfl,n,λp g=>?_);let l:∀d,Sm G d->strB x y=kQ->R (.bl kQ) d:=λd s e=>by let:=q d s;rw[e]at this;show this
 lk;show ifNB (λc=>?_) λc=>?_
 .lk;show l _ g (by unfold strB;rw[c];rfl)
 .lk;show ifD (λz=>?_) λz=>?_
  .lk
   let:=q _ g
   unfold strB at this;rw[c,z]at this;show this
  .lk;show(y,rfl,m.sm g,λt o=>?_);let k:=g.trans o;lk;show ifB (λb=>?_) λb=>?_
   .obtain⟨i,rfl⟩:∃i,x=.int i:=by cases x<;>first |show(_,rfl) |cases c
    obtain⟨j,rfl⟩:∃j,y=.int j:=by cases y<;>first |show(_,rfl) |cases b
    lk
    let:=q _ k
    unfold strB at this;rw[c]at this;dsimp only at this;rw[b,bZ,bZ]at this;show this
   .show l _ k ?_;unfold strB;rw[c,bZ];cases y<;>first |rfl |show absurd rfl z | (dsimp only;rw[b];rfl)
def isL(c:Nat):Prop:=97<=c/\c<=122
def nmOk(s:Str):Prop:=1<=s.cps.toList.length/\s.cps.toList.length<=8/\∀c∈s.cps.toList,isL c
def a1q(s:Str):s.length=s.cps.toList.length:=by rw[bf];rfl
def b8M:(Str.ofString "abcdefghijklmnopqrstuvwxyz").cps.toList=[97,98,99,100,101,102,103,104,105,106,107,108,109,110,111,112,113,114,115,116,117,118,119,120,121,122]:=by decide +kernel
def b3h(h0:0<=k)(h1:k<26):atI (Str.ofString "abcdefghijklmnopqrstuvwxyz").cps.toList k=be (97+k.toNat):=by
 let(j,rfl):=cM h0;let a:j<26:=by lia
 show a0E ?_
 let:∀j:Fin 26,([97,98,99,100,101,102,103,104,105,106,107,108,109,110,111,112,113,114,115,116,117,118,119,120,121,122])[j.1]?=be (97+j.1):=by decide
 show this (j,a)
def a7q(h:∀c∈s.cps.toList,isL c):PyData.strOk s=kP:=by
 unfold PyData.strOk;rw[Array.all_eq_true_iff_forall_mem];ext c a
 let:=(h c (by simp_all)).2
 show decide_eq_true (by lia)
def a4L(h:nmOk s):flat n (.str s)=kP:=by
 let:=a7q h.2.2
 cases n<;>show this
def a18(a b:Str):(a++b).cps.toList=a.cps.toList++b.cps.toList:=by
 change (a.cps++b.cps).toList=_
 rw[Array.toList_append]
def b5t:P3:=λws G R=>∃r,ws=[.ref r]/\RowAt G r/\∀s G',nmOk s->RowAt G' r->Kq r G G'->R (.str s) G'
set_option tactic.hygienic true in
def b5u(T:Txt K mg base a):Cal P w K mg base CX0 2 "_law_name" (lowP K b5t):=by
 show fnc 1 (N:=["row","letters","name","k"]) T.br (T.f 27 _ rfl) ?_;walk_at "in";show(_,(by ac_rfl),?_);let(r,rfl,hR,q):=h;lk;show a1l hR (by decide) (by decide) λf y w f0 f1 ok=>?_;lk;show(by lia,by lia,?_);let hR1:RowAt (put G r (RowO y w)) r:=RowAt.at ok;show a0H (λi σ G'=>∃(s:Str)(v:Option Z),s.cps.toList.length=i/\(∀c∈s.cps.toList,isL c)/\σ=[be (.ref r),be (.str (Str.ofString "abcdefghijklmnopqrstuvwxyz")),be (.str s),v]/\RowAt G' r/\Kq r G G') (Str.ofString "",_,by decide +kernel,λc h=>absurd h (by rw[show (Str.ofString "").cps.toList=[] by decide +kernel];simp),rfl,hR1,Kq.at) (λ_ _ _ _ _=>True.intro) ?_ ?_
 .ext i x σ G' hx ⟨s,v,hs,hl,rfl,hR',hK⟩;let(hi,rfl):=a2n hx;show(_,rfl,?_);lk;show a1l hR' (by decide) (by decide) λg y2 w2 g0 g1 ok2=>?_;show b4i (lenK rfl) (b3h g0 g1) ?_;show a9n (a06 (by rw[a1q,hs];change i+1<=1000;lia)) ?_;lk;show(_,_,?_,?_,rfl,RowAt.at ok2,hK.trans Kq.at)
  .rw[a18,aW,hs];rfl
  .ext c hc;rw[a18]at hc;let hc||hc:=aJ.mp hc
   .show hl c hc
   .let:c=97+g.toNat:=↑hc
    unfold isL
    lia
 .ext σ G' ⟨s,v,hs,hl,rfl,hR',hK⟩;rw[a1a]at hs;lk;show q s G' (by lia,by lia,hl) hR' hK
noncomputable def nx(L:List Nat)(p i:Nat):List Nat:=L.set p (97+(L.getD p 0-97+i) % 26)
noncomputable def nxS(L:List Nat)(p i:Nat):Str:=⟨(nx L p i).toArray⟩
def b5v(hp:p<L.length)(hl:∀c∈L,isL c):nx L p 0=L:=by
 unfold nx;let e:L.getD p 0=L[p]:=by simp_all
 let:=hl L[p] (b5 hp)
 unfold isL at this;rw[e,dS,Nat.mod_eq_of_lt (by lia),show 97+_=L[p] by lia];show List.set_getElem_self hp
def b3i(hp:p<L.length):(nx L p i)[p]?=be (97+(L.getD p 0-97+i) % 26):=by
 unfold nx;rw[dD hp]
def b8r(hp:p<L.length)(hi:i<26)(hj:j<26)(h:nxS L p i=nxS L p j):i=j:=by
 let a:nx L p i=nx L p j:=by
  unfold nxS at h
  let:=congrArg (λs:Str=>s.cps.toList) h
  o_head this
 let:=congrArg (·[p]?) a
 simp only[b3i hp,be.injEq]at this
 lia
def a5F:(nx L p i).length=L.length:=by unfold nx;rw[fA]
def c0w(hl:∀c∈L,isL c):∀c∈nx L p i,isL c:=by grind [isL,nx]
def b5w(hp:p<L.length):(nx L p i).take p++[97+(L.getD p 0-97+i+1) % 26]++(nx L p i).drop (p+1)=nx L p (i+1):=by
 unfold nx;rw[fH (aI _),fG (by simp),List.set_eq_take_append_cons_drop,if_pos hp];simp[cW]
def b2p(h:isL c):a9E (Str.ofString "abcdefghijklmnopqrstuvwxyz") ⟨#[c]⟩=(c-97:Nat):=by
 let(a,b):=h
 let:∀j:Fin 26,a9E (Str.ofString "abcdefghijklmnopqrstuvwxyz") ⟨#[97+j.1]⟩=(j.1:Int):=by decide +kernel
 let:=this (c-97,by cbv)
 simp only at this;rw[show 97+(c-97)=c by lia]at this;show this
noncomputable def left(ns:List Str)(S:Nat->Str)(i:Nat):Nat:=(ns.filter λn=>(a9 26).any λj=>decide (i<=j)&&decide (n=S j)).length
theorem a5G{α:Type}{P Q:α->Bool}:∀{l:List α}{x:α},(∀y,Q y=kP->P y=kP)->x∈l->P x=kP->Q x=kQ->(l.filter Q).length<(l.filter P).length
 |y::l,x,h,hx,hp,hq=>by
  let b:∀l:List α,(l.filter Q).length<=(l.filter P).length:=by
   ext l
   induction l with
   |nil=>simp
   |cons z l a=>
    rw[bX,bX];cases hz:Q z with
    |true=>rw[h z hz];simp;show a
    |false=>cases P z<;>simp<;>cbv
  rw[bX,bX];let rfl||hx:=aL.mp hx
  .grind
  .let a:=a5G h hx hp hq;cases hz:Q y with
   |true=>rw[h y hz];simp;show a
   |false=>cases P y<;>simp<;>cbv
def b5x(hS:∀i j,i<26->j<26->S i=S j->i=j)(hi:i<26)(h:S i∈ns):left ns S (i+1)<left ns S i:=by
 show a5G (λy c=>?_) h ?_ ?_
 .let(j,b,a):=cj.mp c;simp at a;show cj.mpr (j,b,by simp;show(by lia,a.2))
 .show cj.mpr (i,ca.mpr hi,by simp)
 .rw[cZ];ext j d;simp;ext b a
  let:=hS i j hi (ca.mp d) a
  lia
def b5y{ns:List Str}{S:Nat->Str}:left ns S 0<=ns.length:=dh _ _
def b2q{ns:List Str}:(Z.str s∈ns.map Z.str)=(s∈ns):=by simp
def a8f{ns:List Str}(h:∀s∈ns,nmOk s):(ns.map Z.str).all (flat 8)=kP:=by
 rw[bU];ext x a;let(s,b,rfl):=aX.mp a;show a4L (h s b)
def b2r:P3:=λws G R=>∃r n,ws=[.ref r,.int n]/\RowAt G r/\1<=n/\n<=20/\∀(t:Addr)(ns:List Str)(G':Hq),G t=gV->G' t=be (.lst (ns.map Z.str))->(ns.length:Int)=n->(∀s∈ns,nmOk s)->RowAt G' r->Kq r G G'->R (.ref t) G'
def RowAt.ne(h:RowAt G r)(n:G D=gV):r≠D:=by let(_,_,e,_):=h;show a0g e n
def RowAt.kq(h:RowAt G r)(k:Kq p G G')(n:r≠p):RowAt G' r:=by let(x,w,e,o):=h;show(x,w,k r _ e n,o)
def a0C(l:List Nat):(⟨l.toArray⟩:Str).cps.toList=l:=by simp
def b0m{a b:Str}(h:a.cps.toList=b.cps.toList):a=b:=by
 let⟨⟨x⟩⟩:=a;let⟨⟨y⟩⟩:=b;o_head h
abbrev ABC:Z:=.str (Str.ofString "abcdefghijklmnopqrstuvwxyz")
set_option tactic.hygienic true in
def b2s(T:Txt K mg base a):Cal P w K mg base CX0 3 "_law_names" (lowP K b2r):=by
 show fnc 2 (N:=["row","many","letters","names","name","at","sign"]) T.br (T.f 28 _ rfl) ?_;walk_at "in";show(_,(a0c (by ac_rfl)
  (a0c (by ac_rfl)
  (a46 (a51 g5.never (by ac_rfl)
  (a0c (by ac_rfl)
  (a46 (by ac_rfl)
  (a0c (by ac_rfl)
  (a46 (a51 g5.never (by ac_rfl)
  (by ac_rfl))
  (by ac_rfl))))))
  (by ac_rfl)))),?_)
 let(r,n,rfl,hR,h1,h2,q):=h;lk;show(r,rfl,hR,λs0 G1 hs0 hR1 hK1=>?_);lk;show(lenK rfl,λt ht=>?_);lk;let hne:=hR1.ne ht;let ht0:G t=gV:=by
  cases e:G t with
  |none=>rfl
  |some o=>rw[hK1 t o e (Ne.symm hne)]at ht;cases ht
 show a49 (fun σ' G'=>Ex4 λ(ns:List Str) (v1 v2 v3:Option Z)=>(ns.length:Int)=n/\(∀s∈ns,nmOk s)/\G' t=be (.lst (ns.map Z.str))/\RowAt G' r/\Kq r G G'/\σ'=[be (.ref r),be (.int n),be ABC,be (.ref t),v1,v2,v3]) ?_ ?_
 .show(λm σ' G'=>Ex4 λ(ns:List Str) (v1 v2 v3:Option Z)=>(ns.length:Int)+m=n/\1<=ns.length/\(∀s∈ns,nmOk s)/\G' t=be (.lst (ns.map Z.str))/\RowAt G' r/\Kq r G G'/\σ'=[be (.ref r),be (.int n),be ABC,be (.ref t),v1,v2,v3],(n.toNat-1,[s0],_,_,_,by simp;lia,by simp,λs hs=>by rw[aK.mp hs];show hs0,a0a,hR1.new ht,hK1.trans (Kq.new ht),rfl),?_);ext m σ' G' ⟨ns,v1,v2,v3,hm,hpos,hns,hgt,hR',hK,rfl⟩;lk;show a2I hgt ?_;lk;rw[aH];show ifD (λc=>?_) λc=>?_
  .lk;obtain⟨a,as,ea⟩:∃a as,ns=a::as:=by cases ns with |nil=>simp at hpos |cons a as=>show(a,as,rfl)
   show a0y hgt (w:=.str a) (by rw[ea];show at0) ?_;lk;show a49 (fun σ' G2=>∃(s:Str)(v2 v3:Option Z),nmOk s/\G2 t=be (.lst (ns.map Z.str))/\RowAt G2 r/\Kq r G G2/\σ'=[be (.ref r),be (.int n),be ABC,be (.ref t),be (.str s),v2,v3]) ?_ ?_
   .lk;show a1l hR' (by decide) (by decide) λf y w f0 f1 ok=>?_;let gt2:put G' r (RowO y w) t=be (.lst (ns.map Z.str)):=by rw[put_ne (Ne.symm hne)];show hgt
    lk;show ifD (λ_=>?_) λ_=>?_
    .lk;show(r,rfl,RowAt.at ok,λs G3 hs hR3 hK3=>?_);lk;show(s,_,_,hs,hK3 _ _ gt2 (Ne.symm hne),hR3,(hK.trans Kq.at).trans hK3,rfl)
    .lk;show(a,_,_,hns a (by rw[ea];simp),gt2,RowAt.at ok,hK.trans Kq.at,rfl)
   .ext σ2 G2 ⟨s,u2,u3,hs,hgt2,hR2,hK2,rfl⟩;lk;show a9o (a06 (by rw[a1q];let:=hs.2.1;lia)) ?_;lk;show a1l (n:=(s.length:Int)) hR2 (by rw[a1q];let:=hs.1;lia) (by rw[a1q];let:=hs.2.1;lia) λf y w f0 f1 ok=>?_;let gt3:put G2 r (RowO y w) t=be (.lst (ns.map Z.str)):=by rw[put_ne (Ne.symm hne)];show hgt2
    let hR3:RowAt (put G2 r (RowO y w)) r:=RowAt.at ok;let hK3:Kq r G (put G2 r (RowO y w)):=hK2.trans Kq.at
    generalize put G2 r (RowO y w)=G3 at gt3 hR3 hK3 ⊢;let(p,rfl):=cM f0;let hp:p<s.cps.toList.length:=by rw[a1q]at f1;lia
    lk;show a49 (fun σ' G'=>∃(s:Str)(v3:Option Z),nmOk s/\G'=G3/\σ'=[be (.ref r),be (.int n),be ABC,be (.ref t),be (.str s),be (.int p),v3]) ?_ ?_
    .let hS:∀i j,i<26->j<26->nxS s.cps.toList p i=nxS s.cps.toList p j->i=j:=λi j hi hj h=>b8r hp hi hj h;show(λm σ' G'=>∃(i:Nat)(v3:Option Z),m=left ns (nxS s.cps.toList p) i/\i+m<=ns.length/\G'=G3/\σ'=[be (.ref r),be (.int n),be ABC,be (.ref t),be (.str (nxS s.cps.toList p i)),be (.int p),v3],(_,0,_,rfl,by let:=@b5y ns (nxS s.cps.toList p);lia,rfl,by rw[show nxS s.cps.toList p 0=s from b0m (by unfold nxS;rw[a0C,b5v hp hs.2.2])];rfl),?_);ext m' σ' G' ⟨i,v3,rfl,hle,rfl,rfl⟩;let hnm:nmOk (nxS s.cps.toList p i):=by
      unfold nxS;show(?_,?_,?_)
      .rw[a0C,a5F];show hs.1
      .rw[a0C,a5F];show hs.2.1
      .rw[a0C];show c0w hs.2.2
     lk;show b9V gt3 (a4L hnm) (a8f hns) ?_;lk;show ifD (λc=>?_) λc=>?_
     .rw[b2q]at c;let hi:i<26:=by lia
      let hlt:=b5x hS hi c;let hsz:(nxS s.cps.toList p i).length<=sizeLine:=a06 (by rw[a1q];let:=hnm.2.1;lia);let hcl:(nxS s.cps.toList p i).cps.toList=nx s.cps.toList p i:=a0C _;let hch:isL (97+(s.cps.toList.getD p 0-97+i) % 26):=by unfold isL;lia
      lk;show b4i hsz (a0E (by rw[hcl];show b3i hp)) ?_;lk;show i_I (show (0:Int)<26 by decide) ?_;rw[b2p hch];show b4i (lenK rfl) (b3h (by lia) (by lia)) ?_;let hk:97+((((97+(s.cps.toList.getD p 0-97+i) % 26-97:Nat):Int)+1) % 26).toNat=97+(s.cps.toList.getD p 0-97+i+1) % 26:=by lia
      rw[hk];lk;show b7p hsz ?_;lk;show a9n (a06 ?_) ?_
      .let:=Txt.slice_le (nxS s.cps.toList p i) gV (be (p:Int))
       rw[a1q]at this;let h8:=hnm.2.1
       change (Txt.slice (nxS s.cps.toList p i) gV (be (p:Int))).length+1<=1000
       rw[a1q];rw[a1q]at this
       lia
      lk;show b7p hsz ?_;let e1:Txt.slice (nxS s.cps.toList p i) gV (be (p:Int))=⟨((nx s.cps.toList p i).take p).toArray⟩:=by
       let:=eq_of_beq (PyProof.Rows.slice_closes_to (x:=nxS s.cps.toList p i) (j:=(p:Int)) (by lia,by rw[hcl,a5F];lia))
       rw[this,hcl];simp
      let e2:Txt.slice (nxS s.cps.toList p i) (be ((p:Int)+1)) gV=⟨((nx s.cps.toList p i).drop (p+1)).toArray⟩:=by
       let:=PyProof.Rows.slice_from_eq (x:=nxS s.cps.toList p i) (i:=(p:Int)+1) (b:=((nxS s.cps.toList p i).length:Int)) (by lia) (by rw[a1q,hcl,a5F];lia) rfl
       rw[this,hcl,a1q,hcl];rw[cw (by rw[bH];lia)]
       rfl
      show a9n (a06 ?_) ?_
      .let a1:(Txt.slice (nxS s.cps.toList p i) gV (be (p:Int))).length=p:=by
        rw[e1,a1q,a0C,aY,a5F];lia
       let a2:=Txt.slice_le (nxS s.cps.toList p i) (be ((p:Int)+1)) gV;rw[a1q (nxS s.cps.toList p i)]at a2;let a3:(Txt.slice (nxS s.cps.toList p i) gV (be (p:Int))++(⟨#[97+(s.cps.toList.getD p 0-97+i+1) % 26]⟩:Str)).length=p+1:=by
        rw[a1q,a18,aW,<- a1q,a1];rfl
       rw[a3]
       let:=hnm.2.1
       let:=hs.2.1
       lia
      let e3:Txt.slice (nxS s.cps.toList p i) gV (be (p:Int))++(⟨#[97+(s.cps.toList.getD p 0-97+i+1) % 26]⟩:Str)++Txt.slice (nxS s.cps.toList p i) (be ((p:Int)+1)) gV=nxS s.cps.toList p (i+1):=by
       show b0m ?_;rw[a18,a18,e1,e2,a0C,a0C];unfold nxS;rw[a0C,<- b5w hp]
      rw[e3];lk;show(_,hlt,i+1,_,rfl,by lia,rfl,rfl)
     .show(_,_,hnm,rfl,rfl)
    .ext σ4 G4 ⟨s4,v3,hs4,rfl,rfl⟩;lk;show a0U gt3 ?_;lk;show a0s gt3 (by rw[aH];show a0e (by lia)) ?_;show(m-1,by lia,ns++[s4],_,_,_,by simp;lia,by simp,λs h=>?_,by rw[a0a,aQ];rfl,?_,?_,rfl)
     .let h||h:=aJ.mp h
      .show hns s h
      .rw[aK.mp h];show hs4
     .show hR3.kq Kq.at hne
     .show λb o e nb=>by
       let hb:=hK3 b o e nb;rw[put_ne]
       .show hb
       .ext rfl;rw[ht0]at e;cases e
  .show(ns,_,_,_,by lia,hns,hgt,hR',hK,rfl)
 .ext σ' G' ⟨ns,v1,v2,v3,hm,hns,hgt,hR',hK,rfl⟩;lk;show q t ns G' ht0 hgt hm hns hR' hK
noncomputable def T12:Int:=1000000000000
def stOk(b:Int)(e:Option Int):Prop:=0<=b/\b<=T12/\∀x,e=be x->b<x/\x<=T12
noncomputable def stOk.bef(h:stOk b e):bef b e=kP:=by
 cases e with
 |none=>rfl
 |some x=>simp only[Lw.bef,decide_eq_true_eq];show (h.2.2 x rfl).1
def a8g:P3:=λws G R=>∃r,ws=[.ref r]/\RowAt G r/\∀b e G',stOk b e->RowAt G' r->Kq r G G'->R (.tup [.int b,oz e]) G'
def at6{a b c d e f:Int}{k:Int}(h0:0<=k)(h1:k<6){P:Int->Prop}(pa:P a)(pb:P b)(pc:P c)(pd:P d)(pe:P e)(pf:P f):∃n,atI [Z.int a,.int b,.int c,.int d,.int e,.int f] k=be (.int n)/\P n/\(k=0->n=a)/\(k=1->n=b):=by
 let:k=0\/k=1\/k=2\/k=3\/k=4\/k=5:=by cbv
 let rfl||rfl||rfl||rfl||rfl||rfl:=this
 .show(_,rfl,pa,λ_=>rfl,λh=>absurd h (by decide))
 .show(_,rfl,pb,λh=>absurd h (by decide),λ_=>rfl)
 .show(_,rfl,pc,λh=>absurd h (by decide),λh=>absurd h (by decide))
 .show(_,rfl,pd,λh=>absurd h (by decide),λh=>absurd h (by decide))
 .show(_,rfl,pe,λh=>absurd h (by decide),λh=>absurd h (by decide))
 .show(_,rfl,pf,λh=>absurd h (by decide),λh=>absurd h (by decide))
def b2t:(10:Int) ^ (12:Int).toNat=1000000000000:=by decide
set_option tactic.hygienic true in
def a8h(T:Txt K mg base a):Cal P w K mg base CX0 2 "_law_stretch" (lowP K a8g):=by
 show fnc 1 (N:=["row","kind","begin","end"]) T.br (T.f 29 _ rfl) ?_;walk_at "in";show(_,(a0c (by ac_rfl)
  (a0c (by ac_rfl)
  (a46 (by ac_rfl)
  (by ac_rfl)))),?_)
 let(r,rfl,hR,q):=h;lk;show a1l hR (by decide) (by decide) λkd y w d0 d1 ok=>?_;let hR1:RowAt (put G r (RowO y w)) r:=RowAt.at ok;let hK1:Kq r G (put G r (RowO y w)):=Kq.at
 generalize put G r (RowO y w)=G1 at hR1 hK1 ⊢;lk;show i_I (by decide,by decide,by decide) ?_;rw[b2t];lk;show(lenK rfl,λa ha=>?_);lk;let(n,hn,(hn0,hn1),hn2,hn3):=at6 (a:=1000000000000+1) (b:=12) (c:=20) (d:=20) (e:=20) (f:=20) (P:=λn=>0<n/\n<=1000000000001) d0 d1 (by decide) (by decide) (by decide) (by decide) (by decide) (by decide);show a0y a0a hn ?_;lk;show a1l (n:=n) (hR1.new ha) hn0 (by lia) λf y2 w2 f0 f1 ok2=>?_;let hK2:Kq r G (put (put G1 a (.lst [.int (1000000000000+1),.int 12,.int 20,.int 20,.int 20,.int 20])) r (RowO y2 w2)):=(hK1.trans (Kq.new ha)).trans Kq.at
 let hR2:RowAt (put (put G1 a (.lst [.int (1000000000000+1),.int 12,.int 20,.int 20,.int 20,.int 20])) r (RowO y2 w2)) r:=RowAt.at ok2;generalize put (put G1 a (.lst [.int (1000000000000+1),.int 12,.int 20,.int 20,.int 20,.int 20])) r (RowO y2 w2)=G2 at hR2 hK2 ⊢;lk;show a49 (fun σ' G'=>∃(b:Int),0<=b/\b<=T12/\G'=G2/\σ'=[be (.ref r),be (.int kd),be (.int b),gV]) ?_ ?_
 .lk;show ifD (λc=>?_) λc=>?_
  .lk;show i_I (by decide,by decide,by decide) ?_;rw[b2t];lk
   let:=hn3 c
   show(1000000000000-f,by lia,by unfold T12;lia,rfl,rfl)
  .lk;show(f,f0,by unfold T12;lia,rfl,rfl)
 .ext σ' G' ⟨b,hb0,hb1,rfl,rfl⟩;lk;show a1l hR2 (by decide) (by decide) λkd2 y3 w3 e0 e1 ok3=>?_;let hR3:RowAt (put G' r (RowO y3 w3)) r:=RowAt.at ok3;let hK3:Kq r G (put G' r (RowO y3 w3)):=hK2.trans Kq.at
  generalize put G' r (RowO y3 w3)=G3 at hR3 hK3 ⊢;lk;show i_I (by decide,by decide,by decide) ?_;rw[b2t];lk;show(lenK rfl,λa2 ha2=>?_);lk;let(n2,hm,(hm0,hm1),_,_):=at6 (a:=1000000000000) (b:=1) (c:=4) (d:=12) (e:=30) (f:=30) (P:=λn=>0<n/\n<=1000000000001) e0 e1 (by decide) (by decide) (by decide) (by decide) (by decide) (by decide);show a0y a0a hm ?_;lk;show a1l (n:=n2) (hR3.new ha2) hm0 (by lia) λf2 y4 w4 g0 g1 ok4=>?_;let hK4:=(hK3.trans (Kq.new (o:=.lst [.int 1000000000000,.int 1,.int 4,.int 12,.int 30,.int 30]) ha2)).trans (Kq.at (o:=RowO y4 w4));lk;show i_I (by decide,by decide,by decide) ?_;rw[b2t];lk;show ifD (λc=>?_) λc=>?_
  .lk;show(lenK rfl,?_);show q b gV _ (hb0,hb1,λx h=>nomatch h) (RowAt.at ok4) hK4
  .lk;show ifD (λc2=>?_) λc2=>?_
   .lk;show(lenK rfl,?_);show q b gV _ (hb0,hb1,λx h=>nomatch h) (RowAt.at ok4) hK4
   .lk;show(lenK rfl,?_);show q b (be (b+1+f2)) _ (hb0,hb1,λx h=>?_) (RowAt.at ok4) hK4;cases h;unfold T12
    lia
def a6q:P3:=λws G R=>∃p puts t,ws=[.ref p,.int t]/\G p=be (.lst (puts.map Rw.z))/\One puts/\R (lastAt puts t) G
set_option tactic.hygienic true in
def a6r(T:Txt K mg base a):Cal P w K mg base CX0 1 "_law_worth_at" (lowP K a6q):=by
 show fnc 2 (N:=["puts","moment","begin","end","worth"]) T.br (T.f 30 _ rfl) ?_;walk_at "in";show(_,(a0c (a1H (pt:=(.tp [2,3,4])) g5.never rfl (a3i rfl (T.b 11) (q_k (qv 0) a0J)) (by ac_rfl)
  (by ac_rfl))
  (by ac_rfl)),?_)
 let(p,puts,t,rfl,hp,h1,q):=h;lk;show(p,_,rfl,hp,?_);rw[<- gk];show a0H (λi σ G'=>∃v1 v2 v3:Option Z,(∀(j:Nat) r,j<i->puts.reverse[j]?=be r->r.has t=kQ)/\σ=[be (.ref p),be (.int t),v1,v2,v3]/\G'=G) (_,_,_,λj r hj=>by lia,rfl,rfl) (by ext i σ G' _ ⟨_,_,_,_,_,e⟩;show by rw[e];show hp) ?_ ?_
 .ext i x σ G' hx ⟨v1,v2,v3,hall,rfl,rfl⟩;rw[aO]at hx;cases hx':puts.reverse[i]? with
  |none=>rw[hx']at hx;cases hx
  |some r=>
   rw[hx']at hx;cases hx;let(x,ex):=h1 r (by let:=aZ hx';o_head this);let hfind:r.has t=kP->lastAt puts t=x:=λhh=>by
    unfold lastAt
    let:puts.reverse.find? (·.has t)=be r:=by
     rw[List.find?_eq_some_iff_getElem];let(hi,e):=aM.mp hx';show(hh,i,hi,e,λj hj=>by
      rw[hall j _ hj (aP (by lia))];rfl)
    rw[this]
    change r.w.headD .non=x
    rw[ex];rfl
   let hno:r.has t=kQ->∀(j:Nat) r,j<i+1->puts.reverse[j]?=be r->r.has t=kQ:=λhh j s hj e=>by
    by_cases hji:j<i
    .show hall j s hji e
    .let:j=i:=by lia
     subst this;rw[hx']at e;cases e;show hh
   let(b,e,w):=r;cases ex;show(_,rfl,?_);lk;show ifD (λc=>?_) λc=>?_
   .cases e with
    |none=>
     lk
     let:=hfind (by unfold Rw.has bef;o_head c)
     rw[this]at q;show q
    |some e=>
     lk;show ifD (λc2=>?_) λc2=>?_
     .lk
      let:=hfind (by unfold Rw.has bef;simp[c,c2])
      rw[this]at q;show q
     .lk;show(_,_,_,hno (by unfold Rw.has bef;simp[c2]),rfl,rfl)
   .show ifF ?_;lk;show(_,_,_,hno (by unfold Rw.has;simp[c]),rfl,rfl)
 .ext σ G' ⟨v1,v2,v3,hall,rfl,rfl⟩;lk
  let:lastAt puts t=.non:=by
   unfold lastAt
   let:puts.reverse.find? (·.has t)=gV:=by
    rw[cX];ext r hr;let(j,hj):=bP hr;let hlt:=(aM.mp hj).1;rw[hall j r (by rw[aH];show hlt) hj]
    decide
   rw[this]
  rw[this]at q;show q
def a8i(kvs:List (Key×Z))(ns:List Int):Prop:=kvs.map (·.1)=ns.map λi=>Sum.inl (be i)
def a7r{kvs:List (Key×Z)}{ns:List Int}(h:a8i kvs ns)(hd:ns.Nodup)(x:Int)(v:Z):∃ms,a8i (putZ kvs (.inl (be x)) v) ms/\ms.Nodup/\ms.length<=ns.length+1/\∀y,y∈ms↔y∈ns\/y=x:=by
 unfold putZ;let hany:(kvs.any λkv=>decide (kv.1=Sum.inl (be x)))=decide (x∈ns):=by
  rw[cO];simp only[cj,decide_eq_true_eq]
  constructor
  .ext⟨kv,h1,h2⟩
   let:kv.1∈ns.map (λi=>(Sum.inl (be i):Key)):=by rw[<- h];show bA h1
   let(n,h3,h4):=aX.mp this;rw[h2]at h4;cases h4;show h3
  .ext hx
   let:Sum.inl (be x)∈kvs.map (·.1):=by rw[h];show bA hx
   let(kv,h3,h4):=aX.mp this;show(kv,h3,h4)
 rw[hany]
 by_cases hx:x∈ns
 .rw[decide_eq_true hx,if_pos rfl];show(ns,?_,hd,by lia,λy=>(.inl,λh=>h.elim id λe=>e▸hx));unfold a8i at h ⊢;rw[<- h,bQ];show d6 λkv _=>?_
  change (if kv.1=Sum.inl (be x) then (kv.1,v,) else kv).1=kv.1
  split<;>rfl
 .rw[decide_eq_false hx,if_neg (by decide)];show(ns++[x],?_,?_,by simp,λy=>by simp)
  .unfold a8i;rw[aQ,h,aQ];rfl
  .rw[b9];show(hd,by simp,λa ha b hb=>by rw[aK.mp hb];ext rfl;show hx ha)
def b0n{ms:List Int}(h:ms.Pairwise (·<=·))(hd:ms.Nodup):ms.Pairwise (·<·):=by
 let:=h.and hd
 show this.imp λ(a,b)=>by lia
def a7s(h:a8i kvs ns):kvs.length=ns.length:=by
 let:=congrArg bj h
 o_head this
def b0o:P3:=λws G R=>∃p rows,ws=[.ref p]/\G p=be (.lst (rows.map Rw.z))/\rows.length<=400/\∀(t:Addr)(ms:List Int)(G':Hq),G t=gV->Sm G G'->G' t=be (.lst (ms.map Z.int))->a0V rows ms->ms.length<=2*rows.length->R (.ref t) G'
def a19{α:Type}{l:List α}{i:Nat}{x:α}(h:l[i]?=be x){P:α->Prop}:(∃r∈l.take (i+1),P r)↔(∃r∈l.take i,P r)\/P x:=by
 rw[cf,h]
 constructor
 .ext⟨r,hr,hp⟩;let hr||hr:=aJ.mp hr
  .show .inl (r,hr,hp)
  .let:r=x:=↑hr
   show .inr (this▸hp)
 .ext (⟨r,hr,hp⟩ |hp)
  .show(r,by simp[hr],hp)
  .show(x,by simp,hp)
set_option tactic.hygienic true in
def b0p(T:Txt K mg base a):Cal P w K mg base CX0 1 "_law_bounds" (lowP K b0o):=by
 show fnc 1 (N:=["rows","found","row"]) T.br (T.f 31 _ rfl) ?_;walk_at "in";show(_,(a0c (z_st (nmI 1 nd) a3V)
  (a0c (a1H (pt:=(.nm 2)) g5.never rfl (by ac_rfl) (p_nm (nmI 2 nd))
  (a0c (a2H q_bl (qv 1) (by ac_rfl) (a61 hu))
  (a0z (z_if (by ac_rfl)
  (a0z (a2H q_bl (qv 1) (by ac_rfl) (a61 hu)))
  a1Y))))
  (a0z (a1Z (q_B (b1L rfl) (T.b 8) (q_k (qv 1) a0J)))))),?_)
 let(p,rows,rfl,hp,hz,q):=h;lk;ext d hd;lk;show a1b (a0b hp hd) ?_;show a0H (λi σ G'=>∃(v:Option Z)(kvs:List (Key×Z))(ns:List Int),a8i kvs ns/\ns.Nodup/\ns.length<=2*i/\(∀x,x∈ns↔∃r∈rows.take i,x=r.b\/r.e=be x)/\σ=[be (.ref p),be (.ref d),v]/\G'=put G d (.dK kvs)) (_,[],[],rfl,.nil,by simp,λx=>by simp,rfl,rfl) (by ext i σ G' _ ⟨_,_,_,_,_,_,_,_,e⟩;show by rw[e];show a0b hp hd) ?_ ?_
 .ext i x σ G' hx ⟨v,kvs,ns,hk,hnd,hl,hmem,rfl,rfl⟩;rw[aO]at hx;cases hx':rows[i]? with
  |none=>rw[hx']at hx;cases hx
  |some r=>
   rw[hx']at hx;cases hx;let hi:=(aM.mp hx').1;show(_,rfl,?_);let(b,e,w):=r;lk;show a0W at0 ?_;let(ms,hk1,hd1,hl1,hm1):=a7r hk hnd b (.bl kP);show a62 a0a rfl (by rw[a7s hk];show a0e (by lia)) ?_;rw[a1v];generalize putZ kvs (.inl (be b)) (.bl kP)=kvs1 at hk1 ⊢;cases e with
   |none=>
    lk;show a0W at1 ?_;lk;show(_,kvs1,ms,hk1,hd1,by lia,λx=>?_,rfl,rfl);rw[hm1,hmem,a19 hx'];simp
   |some e=>
    lk;show a0W at1 ?_;lk;show a0W at1 ?_;let(ms2,hk2,hd2,hl2,hm2):=a7r hk1 hd1 e (.bl kP);show a62 a0a rfl (by rw[a7s hk1];show a0e (by lia)) ?_;rw[a1v];show(_,_,ms2,hk2,hd2,by lia,λx=>?_,rfl,rfl);rw[hm2,hm1,hmem,a19 hx'];simp only[be.injEq]
    constructor
    .ext ((h |h) |h)
     .show .inl h
     .show .inr (.inl h)
     .show .inr (.inr h.symm)
    .ext (h |h |h)
     .show .inl (.inl h)
     .show .inl (.inr h)
     .show .inr h.symm
 .ext σ G' ⟨v,kvs,ns,hk,hnd,hl,hmem,rfl,rfl⟩;rw[aH]at hl hmem;rw[bK]at hmem;lk;show a9I a0a hk (by lia) λt ms ht hperm hpw=>?_;show q t ms _ ((Sm.new (o:=.dK kvs) hd).free ht) ((Sm.new (o:=.dK kvs) hd).trans (Sm.new ht)) a0a (b0n hpw (hperm.nodup_iff.mpr hnd),λx=>?_) (by rw[hperm.length_eq];show hl);rw[hperm.mem_iff];show hmem x
def a6s(h1:flat 8 x=kP)(h2:flat 8 y=kP)(h:R (.bl (f (decide (x=y)))) G):zEq f x y G R:=by
 cases x<;>cases y<;>first
  |show(h1,h2,h)
  | (simp at h1;done)
  | (simp[flat]at h2;done)
  | (rw[a0u (Z.int.injEq _ _)]at h;show h)
  | (rw[a0u (Z.str.injEq _ _)]at h;show h)
noncomputable def LT:List Z:=[.ty "list",.ty "tuple"]
def Plain(l:List Rw):Prop:=∀r∈l,∃x,r.w=[x]/\flat 0 x=kP
def Plain.one(h:Plain l):One l:=λr a=>by let(x,e,_):=h r a;show(x,e)
def Plain.okR(h:Plain l):OkR l:=λr a=>by
 let(x,e,f):=h r a;rw[e];show b5p (a0r (by simp) f)
def Plain.nil:Plain []:=λr hr=>by simp at hr
def a1F(h:Plain l)(e:r.w=[x])(f:flat 0 x=kP):Plain (l++[r]):=λs a=>by
 let a||a:=aJ.mp a
 .show h s a
 .rw[aK.mp a];show(x,e,f)
def a0B(h:Plain puts)(t:Int):flat 0 (lastAt puts t)=kP:=by
 unfold lastAt;cases e:puts.reverse.find? _ with
 |none=>rfl
 |some r=>
  let(x,a,f):=h r (by let:=ei e;o_head this)
  change flat 0 (r.w.headD .non)=kP
  rw[a];show f
def a4M(h:Plain puts)(hl:∀r∈l,∃t,optW (lastAt puts t)=be r.w):Plain l:=λr a=>by
 let(t,e):=hl r a;unfold optW at e
 split at e
 .cases e
 .show(_,(be.inj e).symm,a0B h t)
def a6t(z:Z):wz (optW z)=z:=by
 unfold optW
 split
 .next h=>rw[h];rfl
 .rfl
def b8s{ms:List Int}{i:Nat}(hi:i<ms.length):atI (ms.map Z.int++[Z.non]) ((i:Int)+1)=be (oz ms[i+1]?):=by
 show a0E (j:=i+1) ?_
 by_cases c:i+1<ms.length
 .rw[cz (by rw[aH];show c),aO,aP c];rfl
 .let:i+1=ms.length:=by lia
  rw[cy (by rw[aH];lia),aH,this,dY (aI _)];simp
def b5z:P3:=λws G R=>∃p puts,ws=[.ref p]/\G p=be (.lst (puts.map Rw.z))/\Plain puts/\puts.length<=400/\∀(t:Addr)(rows:List Rw)(G':Hq),G t=gV->Sm G G'->G' t=be (.lst (rows.map Rw.z))->Can rows->Plain rows->rows.length<=2*puts.length->(∀m,val rows m=optW (lastAt puts m))->R (.ref t) G'
def b5A(T:Txt K mg base a):Cal P w K mg base CX0 2 "_law_line" (lowP K b5z):=by
 show fnc 1 (N:=["puts","bounds","rows","k","worth","end"]) T.br (T.f 32 _ rfl) ?_ (len:=λws G R h=>(by let(_,_,rfl,_):=h;rfl));walk_at "in";show(_,(a0c (by ac_rfl)
  (a0c (by ac_rfl)
  (a0c (a1H (pt:=(.nm 3)) g5.never rfl (by ac_rfl) (p_nm (nmI 3 nd))
  (a0c (by ac_rfl)
  (a0c (by ac_rfl)
  (a0z (z_if (by ac_rfl)
  (a0z (a2H (by ac_rfl) (qv 2) (by ac_rfl) b1j))
  (by ac_rfl))))))
  (by ac_rfl)))),?_)
 let(p,puts,rfl,hp,hpl,hz,q):=h;lk;show(p,puts,rfl,hp,hz,λu ms G1 hu s1 hu1 hb hl=>?_);lk;show(lenK rfl,λt ht=>?_);lk;show a2I (a0b hu1 ht) ?_;lk;rw[aH];show(by lia,by lia,?_);rw[show (ms.length:Int).toNat=ms.length by lia];let tG:G t=gV:=s1.free ht;show a0H (λi σ G'=>Ex4 λ(told:List Rw) (v1 v2 v3:Option Z)=>(pcs (λt=>optW (lastAt puts t)) (ms.drop i)).foldl jn told=join (pcs (λt=>optW (lastAt puts t)) ms)/\told.length<=i/\Plain told/\Sm G1 G'/\G' t=be (.lst (told.map Rw.z))/\σ=[be (.ref p),be (.ref u),be (.ref t),v1,v2,v3]) ([],_,_,_,rfl,by simp,Plain.nil,Sm.new ht,a0a,rfl) (λ_ _ _ _ _=>True.intro) ?_ ?_
 .ext i x σ G' hx ⟨told,v1,v2,v3,hj,hlen,hpt,s,gt,rfl⟩;let(hi,rfl):=a2n hx;show(_,rfl,?_);rw[eW];let hbi:ms[i]?=be ms[i]:=aP hi;let hdr:ms.drop i=ms[i]::ms.drop (i+1):=cT hi;rw[hdr]at hj;generalize ms[i]=b at hbi hj;let hbm:atI (ms.map Z.int) (i:Int)=be (.int b):=a0E (by rw[aO,hbi];rfl);rw[pcs,gm]at hj;lk;show a0y (s _ _ hu1) hbm ?_;lk;show(p,puts,b,rfl,s _ _ (s1 _ _ hp),hpl.one,?_);lk;show(lenK rfl,λa ha=>?_);lk;show a6P (a0b (s _ _ hu1) ha) a0a (a06 (by rw[aH];change ms.length+1<=1000;lia)) λa2 ha2=>?_;lk;show a0y a0a (b8s hi) ?_;let s2:Sm G1 (put (put G' a (.lst [.non])) a2 (.lst (ms.map Z.int++[Z.non]))):=(s.trans (Sm.new ha)).trans (Sm.new ha2);let gt2:put (put G' a (.lst [.non])) a2 (.lst (ms.map Z.int++[Z.non])) t=be (.lst (told.map Rw.z)):=a0b (a0b gt ha) ha2;generalize put (put G' a (.lst [.non])) a2 (.lst (ms.map Z.int++[Z.non]))=G2 at s2 gt2 ⊢;let gu2:=s2 _ _ hu1;lk;show ifN (λc=>?_) λc=>?_
  .let fb:optW (lastAt puts b)=be [lastAt puts b]:=if_neg c;rw[fb]at hj
   change (pcs (λt=>optW (lastAt puts t)) (ms.drop (i+1))).foldl jn (jn told (b,ms[i+1]?,[lastAt puts b]))=_ at hj
   lk;show(lenK rfl,λa3 ha3=>?_);lk;let s3:Sm G1 (put G2 a3 (.lst [])):=s2.trans (Sm.new ha3);let gt3:put G2 a3 (.lst []) t=be (.lst (told.map Rw.z)):=a0b gt2 ha3;show b1o gt3 a0a (a3o hpt.okR) rfl ?_;generalize put G2 a3 (.lst [])=G3 at s3 gt3 ⊢;let gu3:=s3 _ _ hu1;lk;show ifN (λc2=>?_) λc2=>?_
   .let hne:told≠[]:=λz=>c2 (by rw[z];rfl);obtain⟨k,hl⟩:∃k,told.getLast?=be k:=by
     cases e:told.getLast? with
     |none=>show absurd (eS.mp e) hne
     |some k=>show(k,rfl)
    let hlm:(told.map Rw.z).getLast?=be k.z:=by rw[d9,hl];rfl
    let(x,ex,fx):=hpt k (gh hl);lk;show a0y gt3 (a1k hlm) ?_;lk;show a0W at1 ?_;lk;show a0y gu3 hbm ?_;lk;show b3g ?_;lk;show ifD (λc3=>?_) λc3=>?_
    .lk;show a0y gt3 (a1k hlm) ?_;lk;show a0W (w:=x) (by change atI (_::_::k.w) 2=be x;rw[ex];show at2) ?_;lk;show a6s (a0r (by decide) fx) (a0r (by decide) (a0B hpl b)) ?_;lk;show ifD (λc4=>?_) λc4=>?_
     .let hjn:jn told (b,ms[i+1]?,[lastAt puts b])=told.dropLast++[(k.b,ms[i+1]?,[lastAt puts b])]:=by
       unfold jn;rw[hl];show if_pos (c3,by rw[ex,c4])
      lk;show a0y gt3 (a1k hlm) ?_;lk;show a0W at0 ?_;lk;show(lenK rfl,?_);lk;show b1p gt3 (a6m (by rw[aH];show cK.mpr hne)) ?_;show(told.dropLast++[(k.b,ms[i+1]?,[lastAt puts b])],_,_,_,by rw[<- hjn];show hj,by simp;lia,a1F (λr hr=>hpt r (eU _ hr)) rfl (a0B hpl b),s3.put ht,?_,rfl);rw[a0a,a7n hlm,aQ,gi]
      rfl
     .let hjn:jn told (b,ms[i+1]?,[lastAt puts b])=told++[(b,ms[i+1]?,[lastAt puts b])]:=by
       unfold jn;rw[hl];show if_neg λz=>c4 (by let:=z.2;rw[ex]at this;show (bE.inj this).1)
      lk;show ifN (λ_=>?_) λz=>absurd z c;lk;show a0U gt3 ?_;lk;show a0y gu3 hbm ?_;lk;show(lenK rfl,?_);lk;show a0s gt3 (by rw[aH];show a0e (by lia)) ?_;show(told++[(b,ms[i+1]?,[lastAt puts b])],_,_,_,by rw[<- hjn];show hj,by simp;lia,a1F hpt rfl (a0B hpl b),s3.put ht,by rw[a0a,aQ];rfl,rfl)
    .let hjn:jn told (b,ms[i+1]?,[lastAt puts b])=told++[(b,ms[i+1]?,[lastAt puts b])]:=by
      unfold jn;rw[hl];show if_neg λz=>c3 z.1
     lk;show ifN (λ_=>?_) λz=>absurd z c;lk;show a0U gt3 ?_;lk;show a0y gu3 hbm ?_;lk;show(lenK rfl,?_);lk;show a0s gt3 (by rw[aH];show a0e (by lia)) ?_;show(told++[(b,ms[i+1]?,[lastAt puts b])],_,_,_,by rw[<- hjn];show hj,by simp;lia,a1F hpt rfl (a0B hpl b),s3.put ht,by rw[a0a,aQ];rfl,rfl)
   .let e0:told=[]:=cY.mp c2;let hjn:jn told (b,ms[i+1]?,[lastAt puts b])=told++[(b,ms[i+1]?,[lastAt puts b])]:=by
     subst e0;rfl
    lk;show ifN (λ_=>?_) λz=>absurd z c;lk;show a0U gt3 ?_;lk;show a0y gu3 hbm ?_;lk;show(lenK rfl,?_);lk;show a0s gt3 (by rw[aH];show a0e (by lia)) ?_;show(told++[(b,ms[i+1]?,[lastAt puts b])],_,_,_,by rw[<- hjn];show hj,by simp;lia,a1F hpt rfl (a0B hpl b),s3.put ht,by rw[a0a,aQ];rfl,rfl)
  .let fb:optW (lastAt puts b)=gV:=if_pos c;rw[fb]at hj;lk;show ifN (λz=>absurd c z) λ_=>?_;lk;show(told,_,_,_,hj,by lia,hpt,s2,gt2,rfl)
 .ext σ G' ⟨told,v1,v2,v3,hj,hlen,hpt,s,gt,rfl⟩;rw[a1a,gr]at hj;let ht2:told=join (pcs (λt=>optW (lastAt puts t)) ms):=hj;let lk:=b0b hb;rw[<- ht2]at lk;lk;show q t told G' tG (s1.trans s) gt lk.1 hpt (aU lk.2.2.1 hl) lk.2.1
def Pair1(l:List Rw):Prop:=∀r∈l,∃x,r.w=[x]/\flat 1 x=kP
def Pair1.one(h:Pair1 l):One l:=λr a=>let (x,e,_):=h r a;(x,e)
def Pair1.okR(h:Pair1 l):OkR l:=λr a=>by
 let(x,e,f):=h r a;rw[e];show b5p (a0r (by simp) f)
def a3I:P3:=λws G R=>∃(p:Addr)(rows:List Rw),ws=[.ref p]/\G p=be (.lst (rows.map Rw.z))/\One rows/\rows.length<=400/\∀(t:Addr)(ms:List Int)(G':Hq),G t=gV->Sm G G'->G' t=be (.lst (ms.map Z.int))->a0V rows ms->ms.length<=2*rows.length->R (.ref t) G'
def a3r(h:ms.Pairwise (·<·))(q:∀x,x∈ms↔x∈rows.filterMap (λr=>be r.b)++rows.filterMap (λr=>r.e)):a0V rows ms:=by
 show(h,λx=>?_);rw[q x,aJ,cn,cn]
 constructor
 .ext (⟨r,a,e⟩ |⟨r,a,e⟩)
  .show(r,a,.inl ↑e.symm)
  .show(r,a,.inr e)
 .ext⟨r,a,e |e⟩
  .show .inl (r,a,by rw[e])
  .show .inr (r,a,e)
set_option tactic.hygienic true in
def a3J(T:Txt K mg base a):Cal P w K mg base CX0 1 "bounds_of" (lowP K a3I):=by
 show fnc 1 (N:=["stretches","begins","ends"]) T.br (T.f 8 _ rfl) ?_;walk_at "in";show(_,(a0c (z_l (nmI 1 nd) ["begin","end","worth"] [gV,gV,gV] (.tp [0,1,2]))
  (a0c (z_l (nmI 2 nd) ["begin","end","worth"] [gV,gV,gV] (.tp [0,1,2]))
  (a0z (a1Z (q_ss rfl rfl (T.b 8) rfl rfl (T.b 9) rfl (by ac_rfl) (he:=se_ rfl) (hpl:=hp_ rfl)))))),?_)
 let(p,rows,rfl,hp,h1,hz,q):=h;lk;show a1b hp ?_;ext D hD;show a1z (g':=Z.int) (λr=>be r.b) (λys=>a0b hp hD) (by lia) ?_ ?_
 .ext r hr ys K1 K2 k1 k2;let(x,hx):=h1 r hr;let(b,e,w):=r;cases hx;show(_,rfl,?_);lk;show k1 _ rfl
 let nDp:p≠D:=a0g hp hD;lk;show a1b (a0b hp hD) ?_;ext F hF;show a1z (g':=Z.int) (λr=>r.e) (λys=>a0b (a0b hp hD) hF) (by lia) ?_ ?_
 .ext r hr ys K1 K2 k1 k2;let(x,hx):=h1 r hr;let(b,e,w):=r;cases hx;show(_,rfl,?_);cases e with
  |none=>
   lk;show k2 rfl
  |some e=>
   lk;show k1 _ rfl
 lk;let l1:(rows.filterMap λr=>be r.b).length<=rows.length:=cq _ _;let l2:(rows.filterMap λr=>r.e).length<=rows.length:=cq _ _;show a6P (a0b a0a hF) a0a (a06 (by rw[aH,aH];lia)) λc hc=>?_;lk;show i_ss (ns:=(rows.filterMap λr=>be r.b)++(rows.filterMap λr=>r.e)) (by rw[a0a,aQ]) (by rw[aW];lia) λt ks ht hpw hm hl=>?_;show q t ks _ ((((Sm.new hD).trans (Sm.new hF)).trans (Sm.new hc)).free ht) ((((Sm.new hD).trans (Sm.new hF)).trans (Sm.new hc)).trans (Sm.new ht)) a0a (a3r hpw hm) (by rw[aW]at hl;lia)
def b5B{α:Type}{xs:List α}:cutZ xs (be 1) gV=xs.drop 1:=by
 cases xs with
 |nil=>rfl
 |cons x xs=>
  unfold cutZ;simp[HT.sIx]
def b2u(hne:xss≠[])(h:∀xs∈xss,n<=xs.length)(h2:∃xs∈xss,xs.length=n):(zipZ xss).length=n:=by
 let b:∀i,(∃w,_[i]?=be w)↔i<n:=λi=>by
  constructor
  .ext⟨w,d⟩;let(vs,rfl,e):=(a1E xss hne i w).mp d;let(a,f,hl):=h2
   let:a[i]?∈xss.map (·[i]?):=bA f
   rw[e]at this;let(v,_,k):=aX.mp this
   let:=(aM.mp k.symm).1
   lia
  .ext hi;show(_,(a1E xss hne i _).mpr (xss.map λa=>a.getD i .non,rfl,?_));rw[bQ];show d6 λa f=>?_
   let:=h a f
   rw[Function.comp,cu,aP (by lia)]
   rfl
 let h2:=b n
 by_cases c:(zipZ xss).length<n
 .grind
 .by_cases c2:n<(zipZ xss).length
  .simp_all
  .lia
def zip4{xs ys zs us:List Z}{i:Nat}{w:Z}(h:(zipZ [xs,ys,zs,us])[i]?=be w):Ex4 λa b c d=>w=.tup [a,b,c,d]/\xs[i]?=be a/\ys[i]?=be b/\zs[i]?=be c/\us[i]?=be d:=by
 let(vs,rfl,e):=(a1E [xs,ys,zs,us] (by simp) i w).mp h
 match vs,e with
 |[],e=>simp at e
 |[_],e=>simp at e
 |[_,_],e=>simp at e
 |[_,_,_],e=>simp at e
 |[a,b,c,d],e=>
  simp only[aR,bN,bE.injEq,and_true]at e;show(a,b,c,d,rfl,e.1,e.2.1,e.2.2.1,e.2.2.2)
 |_::_::_::_::_::_,e=>simp at e
noncomputable def laidF(l o:List Rw)(t:Int):Option (List Z):=if wz (val l t)=.non/\wz (val o t)=.non then gV else be [wz (val l t),wz (val o t)]
def a5H(h:Pair1 l)(t:Int):flat 1 (wz (val l t))=kP:=by
 unfold val;cases e:l.find? _ with
 |none=>rfl
 |some r=>
  let(x,a,f):=h r (ei e)
  change flat 1 (r.w.headD .non)=kP
  rw[a];show f
def b2v(hl:Pair1 l)(ho:Pair1 o)(bs:List Int):OkR (pcs (laidF l o) bs):=λr a=>by
 let(_,e):=a4F a;unfold laidF at e
 split at e
 .grind
 .rw[<- be.inj e];show(by simp,by simp,?_);rw[bu,bu,a0r (by decide) (a5H hl r.b),a0r (by decide) (a5H ho r.b)];rfl
def a2a:P3:=λws G R=>Ex4 λ(p q:Addr) (l o:List Rw)=>ws=[.ref p,.ref q]/\G p=be (.lst (l.map Rw.z))/\G q=be (.lst (o.map Rw.z))/\Rise l/\Pair1 l/\Rise o/\Pair1 o/\l.length<=150/\o.length<=150 /\
 ∀(t:Addr)(bs:List Int)(G':Hq),G t=gV->Sm G G'->a0V (l++o) bs->bs.length<=2*(l.length+o.length)->G' t=be (.lst ((join (pcs (laidF l o) bs)).map Rw.z))->R (.ref t) G'
def b5C{bs:List Int}(hi:i<bs.length):((bs.map Z.int).drop 1++[Z.non])[i]?=be (oz bs[i+1]?):=by
 by_cases c:i+1<bs.length
 .rw[cz (by rw[bH,aH];lia),cU,eP 1 i,aO,aP c];rfl
 .let:i+1=bs.length:=by lia
  rw[cy (by rw[bH,aH];lia),bH,aH,this,dY (aI _),show i-_=0 by lia]
  rfl
set_option tactic.hygienic true in
def a2b(T:Txt K mg base a):Cal P w K mg base CX0 3 "laid_together" (lowP K a2a):=by
 show fnc 2 (N:=["line","other","bounds","worths","other_worths","ends","pieces","begin","end","worth","other_worth"]) T.br (T.f 11 _ rfl) ?_;walk_at "in";show(_,(a0c (by ac_rfl)
  (a0c (by ac_rfl)
  (a0c (by ac_rfl)
  (a0c (by ac_rfl)
  (a0c (by ac_rfl)
  (a0c (a1H (pt:=(.tp [7,8,9,10])) g5.never rfl (b4x (n:=4) zok4 (by decide) rfl (T.b 10) (q_k (qv 2) (q_k (qv 5) (q_k (qv 3) (q_k (qv 4) a0J)))) (he:=se_ rfl) (hpl:=hp_ rfl)) (by ac_rfl)
  (by ac_rfl))
  (by ac_rfl))))))),?_)
 let(p,q,l,o,rfl,hp,hq,hl,pl,ho,po,zl,zo,fin):=h;lk;show a6P hp hq (a06 (by rw[aH,aH];lia)) λa ha=>?_;lk;let one:One (l++o):=λr hr=>(aJ.mp hr).elim (pl.one r) (po.one r);show(a,l++o,rfl,by rw[a0a,aQ],one,by rw[aW];lia,λu bs G1 hu s1 gu hb hbl=>?_);let s1:=(Sm.new ha).trans s1;rw[aW]at hbl;let hpw:bs.Pairwise (·<=·):=hb.1.imp λh=>by lia
 lk;show(p,u,l,bs,rfl,s1 _ _ hp,gu,hl,pl.okR,by lia,hpw,by lia,λw hw=>?_);lk;show(q,u,o,bs,rfl,a0b (s1 _ _ hq) hw,a0b gu hw,ho,po.okR,by lia,hpw,by lia,λv hv=>?_);lk;show b7q (a0b (a0b gu hw) hv) λc hc=>?_;rw[b5B];lk;show(lenK rfl,λd hd=>?_);lk;show a6P (a0b a0a hd) a0a (a06 (by rw[bH,aH];change bs.length-1+1<=1000;lia)) λe he=>?_;lk;show(lenK rfl,λt ht=>?_);let s2:Sm G1 (put (put (put (put (put (put G1 w (.lst (bs.map λm=>wz (val l m)))) v (.lst (bs.map λm=>wz (val o m)))) c (.lst ((bs.map Z.int).drop 1))) d (.lst [.non])) e (.lst ((bs.map Z.int).drop 1++[Z.non]))) t (.lst [])):=
  (((((Sm.new hw).trans (Sm.new hv)).trans (Sm.new hc)).trans (Sm.new hd)).trans (Sm.new he)).trans (Sm.new ht)
 let gw:=a0b (a0b (a0b (a0b (a0b (a0a (G:=G1) (a:=w) (o:=.lst (bs.map λm=>wz (val l m)))) hv) hc) hd) he) (o:=.lst []) ht;let gv:=a0b (a0b (a0b (a0b (a0a (G:=put G1 w (.lst (bs.map λm=>wz (val l m)))) (a:=v) (o:=.lst (bs.map λm=>wz (val o m)))) hc) hd) he) (o:=.lst []) ht;let ge:=a0b (a0a (G:=put (put (put (put G1 w (.lst (bs.map λm=>wz (val l m)))) v (.lst (bs.map λm=>wz (val o m)))) c (.lst ((bs.map Z.int).drop 1))) d (.lst [.non])) (a:=e) (o:=.lst ((bs.map Z.int).drop 1++[Z.non]))) (o:=.lst []) ht;let gt:=a0a (G:=put (put (put (put (put G1 w (.lst (bs.map λm=>wz (val l m)))) v (.lst (bs.map λm=>wz (val o m)))) c (.lst ((bs.map Z.int).drop 1))) d (.lst [.non])) e (.lst ((bs.map Z.int).drop 1++[Z.non]))) (a:=t) (o:=.lst []);let nu:=a0g (a0b (a0b (a0b (a0b (a0b gu hw) hv) hc) hd) he) ht;let nw:=a0g (a0b (a0b (a0b (a0b (a0a (G:=G1) (a:=w) (o:=.lst (bs.map λm=>wz (val l m)))) hv) hc) hd) he) ht;let nv:=a0g (a0b (a0b (a0b (a0a (G:=put G1 w (.lst (bs.map λm=>wz (val l m)))) (a:=v) (o:=.lst (bs.map λm=>wz (val o m)))) hc) hd) he) ht;let ne:=a0g (a0a (G:=put (put (put (put G1 w (.lst (bs.map λm=>wz (val l m)))) v (.lst (bs.map λm=>wz (val o m)))) c (.lst ((bs.map Z.int).drop 1))) d (.lst [.non])) (a:=e) (o:=.lst ((bs.map Z.int).drop 1++[Z.non]))) ht;let hGt:G t=gV:=s1.free ((((((Sm.new hw).trans (Sm.new hv)).trans (Sm.new hc)).trans (Sm.new hd)).trans (Sm.new he)).free ht);generalize put (put (put (put (put (put G1 w (.lst (bs.map λm=>wz (val l m)))) v (.lst (bs.map λm=>wz (val o m)))) c (.lst ((bs.map Z.int).drop 1))) d (.lst [.non])) e (.lst ((bs.map Z.int).drop 1++[Z.non]))) t (.lst [])=G2 at s2 gw gv ge gt ⊢;let gu2:=s2 _ _ gu;let hsrc:∀G':Hq,(∀b ob,b≠t->G2 b=be ob->G' b=be ob)->[Z.ref u,Z.ref e,Z.ref w,Z.ref v].map (srcZ G')=[bs.map Z.int,(bs.map Z.int).drop 1++[Z.non],bs.map λm=>wz (val l m),bs.map λm=>wz (val o m)].map be:=λG' k=>by
  let k1:=k u _ nu gu2;let k2:=k e _ ne ge;let k3:=k w _ nw gw;let k4:=k v _ nv gv;simp only[aR,bN,srcZ,k1,k2,k3,k4]
 let hzl:(zipZ [bs.map Z.int,(bs.map Z.int).drop 1++[Z.non],bs.map λm=>wz (val l m),bs.map λm=>wz (val o m)]).length=bs.length:=
  b2u (by simp) (λxs hx=>by
   simp only[aL,dA,or_false]at hx;let rfl||rfl||rfl||rfl:=hx
   .simp
   .simp;lia
   .simp
   .simp) (_,.head _,by simp)
 lk;show([bs.map Z.int,(bs.map Z.int).drop 1++[Z.non],bs.map λm=>wz (val l m),bs.map λm=>wz (val o m)],hsrc G2 λb ob _ h=>h,by simp,rfl,?_);show a0H (λi σ G'=>Ex5 λ(told:List Rw) (v1 v2 v3 v4:Option Z)=>told++pcs (laidF l o) (bs.drop i)=pcs (laidF l o) bs/\told.length<=i/\G' t=be (.lst (told.map Rw.z))/\(∀b ob,b≠t->G2 b=be ob->G' b=be ob)/\σ=[be (.ref p),be (.ref q),be (.ref u),be (.ref w),be (.ref v),be (.ref e),be (.ref t),v1,v2,v3,v4])
  ([],_,_,_,_,rfl,aI _,gt,λb ob _ h=>h,rfl) (by ext i σ G' _ ⟨_,_,_,_,_,_,_,_,k,_⟩;show hsrc G' k) ?_ ?_
 .ext i x σ G' hx ⟨told,v1,v2,v3,v4,hj,hlen,gt',k,rfl⟩;let hi:i<bs.length:=by let:=(aM.mp hx).1;lia
  let(x1,x2,x3,x4,rfl,e1,e2,e3,e4):=zip4 hx;rw[b5C hi]at e2;rw[aO,aP hi]at e1 e3 e4;simp only[cR,be.injEq]at e1 e2 e3 e4;subst e1 e2 e3 e4;let hdr:bs.drop i=bs[i]::bs.drop (i+1):=cT hi;rw[hdr,pcs,gm]at hj;show(_,rfl,?_);let skip:wz (val l bs[i])=.non->wz (val o bs[i])=.non->told++pcs (laidF l o) (bs.drop (i+1))=pcs (laidF l o) bs:=λc1 c2=>by
   let:laidF l o bs[i]=gV:=if_pos (c1,c2)
   rw[this]at hj;show hj
  let some_:¬ (wz (val l bs[i])=.non/\wz (val o bs[i])=.non)->(told++[(bs[i],bs[i+1]?,[wz (val l bs[i]),wz (val o bs[i])])])++pcs (laidF l o) (bs.drop (i+1))=pcs (laidF l o) bs:=λc=>by
   let:laidF l o bs[i]=be [wz (val l bs[i]),wz (val o bs[i])]:=if_neg c
   rw[this]at hj;rw[bv];show hj
  generalize bs[i]=b at skip some_ ⊢;generalize wz (val l b)=y1 at skip some_ ⊢;generalize wz (val o b)=y2 at skip some_ ⊢;generalize bs[i+1]?=en at some_ ⊢;lk;show ifN (λc1=>?_) λc1=>?_
  .lk;show a0U gt' ?_;lk;show(lenK rfl,?_);lk;show a0s gt' (by rw[aH];show a0e (by lia)) (told++[(b,en,[y1,y2])],_,_,_,_,some_ (λz=>c1 z.1),by rw[aW];change told.length+1<=i+1;lia,?_,λc ob nc h=>by rw[put_ne nc];show k c ob nc h,rfl);rw[a0a,aQ];rfl
  .lk;show ifN (λc2=>?_) λc2=>?_
   .lk;show a0U gt' ?_;lk;show(lenK rfl,?_);lk;show a0s gt' (by rw[aH];show a0e (by lia)) (told++[(b,en,[y1,y2])],_,_,_,_,some_ (λz=>c2 z.2),by rw[aW];change told.length+1<=i+1;lia,?_,λc ob nc h=>by rw[put_ne nc];show k c ob nc h,rfl);rw[a0a,aQ];rfl
   .lk;show(told,_,_,_,_,skip c1 c2,by lia,gt',k,rfl)
 .ext σ G' ⟨told,v1,v2,v3,v4,hj,hlen,gt',k,rfl⟩;rw[hzl,gr,pcs,bh]at hj;subst hj;lk;show(t,_,rfl,gt',(b2v pl po bs).weak,aU (a2s _ _) (by lia),λz hz=>?_);let s3:Sm G G':=λb ob h=>k b ob (a0g h hGt) (s2 _ _ (s1 _ _ h));show fin z bs _ (s3.free hz) (s3.trans (Sm.new hz)) hb hbl a0a
def b2w(h:nmOk s):Th G (.str s):=(by rw[a1q];let:=h.2.1;lia,a7q h.2.2)
def nm_b(h:nmOk s):a2t (.str s)=kP:=by
 rw[a21,decide_eq_true (by rw[a1q];show h.1),decide_eq_true (by rw[a1q];show h.2.1)];rw[bZ,bZ,bU];ext c b;let(a,d):=h.2.2 c b;unfold okC;rw[decide_eq_true a,decide_eq_true d];rfl
def st_b(h:stOk b e):strB (.int b) (oz e)=kP:=by
 let(c,g,a):=h;unfold T12 at *;unfold strB;rw[a4K,decide_eq_true c,decide_eq_true g];cases e with
 |none=>rfl
 |some x=>
  let(f,d):=a x rfl
  change (kP&&(momB _&&decide _))=kP
  rw[a4K,decide_eq_true (show 0<=x by lia),decide_eq_true d,decide_eq_true f];rfl
def b0q(h:Plain L)(f:flat 0 z=kP):Plain (a5x L b e (optW z)):=λr a=>by
 let m:Plain (a1m L b e (optW z)):=λr a=>by
  let a||a:=aJ.mp a
  .let a||a:=aJ.mp a
   .let(j,i,_,rfl):=a17 a;show h j i
   .unfold optW at a
    split at a
    .next w e=>
           split at e
           .cases e
           .cases e;rw[aK.mp a];show(z,rfl,f)
    .simp_all
  .cases e with
   |none=>simp at a
   |some e=>
    let(j,i,_,rfl):=a20 a;show h j i
 let l:∀d c,Plain c->Plain d->Plain (d.foldl jn c):=by
  ext d
  induction d with
  |nil=>show λ_ h _=>h
  |cons p d ih=>
   ext c k g;show ih _ (λr a=>?_) λr a=>g r (.tail _ a)
   let:=g p (.head _)
   unfold jn at a
   split at a
   .split at a
    .let a||a:=aJ.mp a
     .show k r (eU _ a)
     .simp_all
    .let a||a:=aJ.mp a
     .show k r a
     .simp_all
   .simp_all
 show l _ [] Plain.nil m r a
structure Tl where
 key:Str
 w:Option Str
 b:Int
 e:Option Int
abbrev sPut:Str:=Str.ofString "put"
abbrev b0r:Str:=Str.ofString "clear"
noncomputable def Tl.z(τ:Tl):Z:=match τ.w with
 |some w=>.tup [.str sPut,.str τ.key,.str w,.int τ.b,oz τ.e]
 |none=>.tup [.str b0r,.str τ.key,.int τ.b,oz τ.e]
noncomputable def Tl.v(τ:Tl):Z:=match τ.w with
 |some w=>.str w
 |none=>.non
structure Tl.Ok (τ:Tl):Prop where
 k:nmOk τ.key
 w:∀s,τ.w=be s->nmOk s
 st:stOk τ.b τ.e
noncomputable def Tl.Ok.v{τ:Tl}(h:τ.Ok):flat 0 τ.v=kP:=by
 unfold Tl.v;cases e:τ.w with
 |none=>rfl
 |some w=>show a4L (h.w w e)
noncomputable def Tl.rw(τ:Tl):Rw:=(τ.b,τ.e,[τ.v])
noncomputable def putsK(T:List Tl)(k:Str):List Rw:=(T.filter fun τ=>decide (τ.key=k)).map Tl.rw
def a2u:putsK (T++[τ]) k=putsK T k++(if τ.key=k then [τ.rw] else []):=by
 unfold putsK
 by_cases c:τ.key=k<;>simp[c]
def OkT(T:List Tl):Prop:=∀τ∈T,τ.Ok
def a2v(h:OkT T):Plain (putsK T k):=λr a=>by
 let(τ,b,rfl):=aX.mp a;show(_,rfl,(h τ (bD.mp b).1).v)
structure IsLine (T:List Tl) (k:Str) (L:List Rw):Prop where
 can:Can L
 pl:Plain L
 len:L.length<=2*T.length
 v:∀t,val L t=optW (lastAt (putsK T k) t)
def IsLine.nil(h:putsK T k=[]):IsLine T k []:=(Can.nil,Plain.nil,by simp,λt=>by rw[h];rfl)
def IsLine.snoc(h:IsLine T τ.key L)(o:τ.Ok):IsLine (T++[τ]) τ.key (a5x L τ.b τ.e (optW τ.v)):=by
 let a:=b2f (w:=optW τ.v) h.can.rise o.st.bef;show(a.1,b0q h.pl o.v,by let:=a.2.2;let:=h.len;simp;lia,λt=>?_);rw[a2u,if_pos rfl,a6k,a.2.1 t,h.v t]
 change _=optW (if (decide (τ.b<=t)&&bef t τ.e)=kP then τ.v else lastAt _ t)
 split<;>rfl
noncomputable def ixF(k:Str):Nat->List Tl->List Int
 |_,[]=>[]
 |n,τ::T=>(if τ.key=k then [(n:Int)+1] else [])++ixF k (n+1) T
noncomputable def ix(T:List Tl)(k:Str):List Int:=ixF k 0 T
def b2x:∀(n:Nat)(T:List Tl),ixF k n (T++[τ])=ixF k n T++(if τ.key=k then [(n+T.length:Int)+1] else []):=by ext z0 y0;induction y0 generalizing z0 with
 |nil=>simp[ixF]
 |cons σ T I0=>
  rw[dz,ixF,I0,ixF,bv]
  congr 2
  split
  .congr 1;rw[aV];lia
  .rfl
def a2w:ix (T++[τ]) k=ix T k++(if τ.key=k then [(T.length:Int)+1] else []):=by
 unfold ix;rw[b2x];simp
def b3j:∀{n:Nat}{T:List Tl}{i:Int},i∈ixF k n T->(n:Int)+1<=i/\i<=n+T.length:=by ext z0 y0;induction y0 generalizing z0 with
 |nil=>ext i h;simp[ixF]at h
 |cons τ T I0=>
  ext i h;rw[aV];let h||h:=aJ.mp h
  .split at h
   .rw[aK.mp h];lia
   .simp_all
  .let:=I0 h;lia
def b8t(h:i∈ix T k):1<=i/\i<=T.length:=by
 let:=b3j h
 o_head this
def b5D:∀(n:Nat)(T:List Tl),(ixF k n T).length<=T.length:=by ext z0 y0;induction y0 generalizing z0 with
 |nil=>simp[ixF]
 |cons τ T I0=>
  let:=I0 (z0+1)
  rw[ixF,aW,aV]
  split<;>simp<;>lia
def b8u(T:List Tl)(k:Str):(ix T k).length<=T.length:=b5D 0 T
def a8j:∀(n:Nat)(T:List Tl),(ixF k n T).Pairwise (·<·):=by ext z0 y0;induction y0 generalizing z0 with
 |nil=>show .nil
 |cons τ T I0=>
  show bp.mpr (by split<;>simp,I0 _,λx a y b=>?_)
  let:=b3j b
  split at a
  .rw[aK.mp a];cbv
  .grind
def b0s(T:List Tl)(k:Str):(ix T k).Pairwise (·<·):=a8j 0 T
theorem a22:∀(n:Nat)(T:List Tl)(s q:Nat),s<=q->(∀i∈ixF k n T,(i:Int)<=n+s\/(n+q:Int)<i)->putsK (T.take q) k=putsK (T.take s) k
 |n,[],s,q,_,_=>by simp
 |n,τ::T,s,0,hs,_=>by grind
 |n,τ::T,0,q+1,hs,h=>by
  let d:¬ τ.key=k:=λe=>by
   let:=h (n+1) (by rw[ixF,if_pos e];simp)
   lia
  let a:=a22 (k:=k) (n+1) T 0 q (by lia) λi b=>by
   let c||c:=h i (by rw[ixF];simp[b])
   lia
   lia
  rw[eX];unfold putsK at a ⊢;rw[bX,if_neg ↑d,a];simp
 |n,τ::T,s+1,q+1,hs,h=>by
  let a:=a22 (k:=k) (n+1) T s q (by lia) λi b=>by
   let c||c:=h i (by rw[ixF];simp[b])
   .left;lia
   lia
  rw[eX,eX];unfold putsK at a ⊢;rw[bX,bX]
  split
  .grind
  .show a
def IsLine.cut{s q:Nat}(h:IsLine (T.take s) k L)(hs:s<=q)(hi:∀i∈ix T k,i<=(s:Int)\/(q:Int)<i):IsLine (T.take q) k L:=by
 let e:=a22 0 T s q hs λi h=>by let:=hi i h;o_head this
 show(h.can,h.pl,by let:=h.len;rw[aY]at this ⊢;lia,λt=>by rw[e];show h.v t)
def a5I{q:Nat}(h:∀i∈ix T k,(q:Int)<i):putsK (T.take q) k=[]:=by
 let:=a22 0 T 0 q (bg _) λi a=>by right;let:=h i a;o_head this
 rw[this];rfl
noncomputable def dif(x y:Z):Option (List Z):=if x=y then gV else be [x,y]
structure Cg where
 k:Str
 r:Rw
noncomputable def Cg.z(c:Cg):Z:=.tup (.str c.k::.int c.r.b::oz c.r.e::c.r.w)
def b3k(hb:bs.Pairwise (·<·))(st:∀t b,b∈bs->b<=t->(∀c∈bs,c<=t->c<=b)->F t=F b)(no:∀t,(bs.any λb=>decide (b<=t))=kQ->F t=gV) :
  Can (join (pcs F bs))/\(∀t,val (join (pcs F bs)) t=F t)/\(join (pcs F bs)).length<=bs.length:=by
 let j:=a3n (a4G F hb);show(j.1,λt=>?_,aU j.2.2.1 (a2s _ _));rw[j.2.1,b0a hb st t]
 split
 .rfl
 .next c=>show (no t ↑c).symm
def a1G{rows l:List Rw}(sub:∀r∈l,r∈rows)(hb:a0V rows bs)(hbt:b<=t)(hm:∀c∈bs,c<=t->c<=b):l.find? (·.has t)=l.find? (·.has b):=
 a35 λr a=>a7l hbt (λh=>hm _ ((hb.2 _).mpr (r,sub r a,.inl rfl)) h) λe d h=>hm e ((hb.2 _).mpr (r,sub r a,.inr d)) h
def a4N(hb:a0V rows bs)(h:(bs.any λb=>decide (b<=t))=kQ)(hr:r∈rows):r.has t=kQ:=by
 show a34 ?_;let q:=cZ.mp h r.b ((hb.2 _).mpr (r,hr,.inl rfl));simp at q;show q
def laid_ok(hb:a0V (l++o) bs):Can (join (pcs (laidF l o) bs))/\(∀t,val (join (pcs (laidF l o) bs)) t=laidF l o t)/\(join (pcs (laidF l o) bs)).length<=bs.length:=by
 show b3k hb.1 (λt b _ c d=>?_) λt h=>?_
 .unfold laidF val;rw[a1G (λr a=>cx _ a) hb c d,a1G (λr a=>bz _ a) hb c d]
 .unfold laidF;rw[a07 λr a=>a4N hb h (cx _ a),a07 λr a=>a4N hb h (bz _ a)]
  rfl
def b8v{P Q:List Rw}{bs:List Int}(hb:a0V (P++Q) bs):Can (join (pcs (λt=>dif (lastAt P t) (lastAt Q t)) bs))/\(∀t,val (join (pcs (λt=>dif (lastAt P t) (lastAt Q t)) bs)) t=dif (lastAt P t) (lastAt Q t))/\(join (pcs (λt=>dif (lastAt P t) (lastAt Q t)) bs)).length<=bs.length:=by
 show b3k hb.1 (λt b _ hbt hm=>?_) λt h=>?_
 .unfold lastAt;rw[a1G (λr hr=>cx _ ↑hr) hb hbt hm,a1G (λr hr=>bz _ ↑hr) hb hbt hm]
 .let e:∀S:List Rw,(∀r∈S,r∈P++Q)->lastAt S t=.non:=λS hS=>by
   unfold lastAt;rw[cX.mpr λr hr=>by rw[a4N hb h (hS r ↑hr)];decide]
  change dif (lastAt P t) (lastAt Q t)=gV
  rw[e P λr hr=>cx _ hr,e Q λr hr=>bz _ hr]
  rfl
theorem a6u:∀{l:List Rw},val (l.map λr=>(r.b,r.e,h r.w)) t=(val l t).map h
 |[]=>rfl
 |r::l=>by
  rw[aR,a0i,a0i,a6u]
  change (if r.has t=kP then _ else _)=_
  split<;>rfl
def a7t{h:List Z->List Z}(g:Rise l):Rise (l.map λr=>(r.b,r.e,h r.w)):=by
 show(λr c=>?_,?_)
 .let(s,a,rfl):=aX.mp c;show g.1 s a
 .rw[ci];show g.2
def a8k(g:Can l):Can (l.filter q):=(λr a=>g.1 r (bD.mp a).1,g.2.sublist cE)
theorem a36:∀{l:List Rw},Rise l->val (l.filter λr=>q r.w) t=(val l t).filter q
 |[],_=>rfl
 |r::l,g=>by
  rw[bX,a0i];let a:=a36 (q:=q) (t:=t) g.tail
  by_cases c:r.has t=kP
  .rw[if_pos c];let n:=a07 λs b=>((aT.mp g.2).1 s b).has c;rw[n]at a
   by_cases d:q r.w=kP
   .rw[if_pos d,a0i,if_pos c];simp[eY,d]
   .rw[if_neg d,a];simp[eY,d]
  .rw[if_neg c]
   split
   .rw[a0i,if_neg c,a]
   .cbv
noncomputable def pr(l:List Rw):List Rw:=l.map λr=>(r.b,r.e,[.tup r.w])
noncomputable def fstZ:Z->Z
 |.tup (x::_)=>x
 |_=>.non
noncomputable def sndZ:Z->Z
 |.tup (_::y::_)=>y
 |_=>.non
noncomputable def hw:List Z->List Z
 |[p,o]=>[if p=.non then fstZ o else fstZ p,if o=.non then sndZ p else sndZ o]
 |w=>w
noncomputable def unW:List Z->Bool
 |[x,y]=>decide (x≠y)
 |_=>kP
noncomputable def unl(l:List Rw):List Rw:=l.filter λr=>unW r.w
noncomputable def pj(l o:List Rw)(bs:List Int):List Rw:=join ((join (pcs (laidF l o) bs)).map λr=>(r.b,r.e,hw r.w))
def b2y(h:val l t=dif x y):wz (val (pr l) t)=if x=y then .non else .tup [x,y]:=by
 unfold pr;rw[a6u (h:=λw=>[.tup w]),h];unfold dif
 split<;>rfl
noncomputable def cgs(ks:List Str)(L:Str->List Rw):List Cg:=ks.flatMap λk=>(L k).map (Cg.mk k)
noncomputable def a0m(A:List Cg)(k:Str):List Rw:=(A.filter λc=>decide (c.k=k)).map (·.r)
abbrev FZ:=Str->Int->Z
def FF(f:FZ):Prop:=∀k t,flat 0 (f k t)=kP
structure CL (f g:FZ) (A:List Cg):Prop where
 ex:∃ks L,A=cgs ks L/\ks.Pairwise leS/\ks.Nodup/\(∀k,k∉ks->L k=[])/\(∀k∈ks,nmOk k)/\∀k,Can (L k)/\∀t,val (L k) t=dif (f k t) (g k t)
def a7u(nd:ks.Nodup)(k:Str):a0m (cgs ks L) k=if k∈ks then L k else []:=by
 unfold a0m cgs
 induction ks with
 |nil=>rfl
 |cons x ks ih=>
  rw[cN,List.filter_append,aQ,ih (bT.mp nd).2]
  by_cases c:x=k
  .subst c;rw[if_neg (bT.mp nd).1,if_pos bM,bh,List.filter_eq_self.mpr λc a=>by let(r,_,rfl):=aX.mp a;simp,bQ];show List.map_id _
  .rw[dC.mpr λd b=>by let(r,_,rfl):=aX.mp b;o_head c];simp[Ne.symm c]
def b0t(ks:List Str)(L:Str->List Rw):cgs ks L=cgs (ks.filter λk=>!(L k).isEmpty) L:=by
 unfold cgs
 induction ks with
 |nil=>rfl
 |cons x ks ih=>
  rw[cN,bX,ih];cases e:L x with
  |nil=>rfl
  |cons r l=>simp[e]
def CL.uniq(a:CL f g A)(b:CL f g B):A=B:=by
 let(j,L,rfl,n,r,l,_,d):=a;let(i,M,rfl,m,p,o,_,c):=b;let e:=funext λk=>a1I (d k).1 (c k).1 λt=>by rw[(d k).2,(c k).2]
 subst e;rw[b0t j,b0t i]
 congr 1
 show a5C (n.sublist cE) (m.sublist cE) ((gx (r.sublist cE) (p.sublist cE)).mpr λk=>?_);rw[bD,bD]
 constructor
 .ext⟨h,q⟩;show(Classical.byContradiction λz=>?_,q);rw[o k z]at q;cases q
 .ext⟨h,q⟩;show(Classical.byContradiction λz=>?_,q);rw[l k z]at q;cases q
def CL.rows(a:CL f g A)(k:Str):Can (a0m A k)/\∀t,val (a0m A k) t=dif (f k t) (g k t):=by
 let(i,L,rfl,h,e,d,_,b):=a;rw[a7u e]
 split
 .show b k
 .next c=>rw[<- d k c];show b k
def a5J{f g:Int->Z}(c:Can l)(h:∀t,val l t=dif (f t) (g t))(hr:r∈l):r.w=[f r.b,g r.b]/\f r.b≠g r.b:=by
 let q:val l r.b=be r.w:=by
  clear h
  induction l with
  |nil=>cases hr
  |cons s l ih=>
   rw[a0i];let rfl||hr:=aL.mp hr
   .rw[if_pos (a4D (c.1 _ (.head _)))]
   .let:=(((aT.mp c.2).1 r hr).lt).b (c.1 s (.head _))
    let z:s.has r.b=kQ:=by
     cases e:s.has r.b with
     |false=>rfl
     |true=>
      let w:=((aT.mp c.2).1 r hr).lt.has e;rw[a4D (c.1 r (.tail _ hr))]at w;cases w
    rw[z,if_neg (by decide)];show ih c.tail hr
 rw[h]at q;unfold dif at q
 split at q
 .grind
 .next n=>show((be.inj q).symm,n)
def W2(r:Rw):Prop:=∃x y,r.w=[x,y]/\flat 0 x=kP/\flat 0 y=kP
def CL.w2(a:CL f g A)(hf:FF f)(hg:FF g)(hc:c∈A):W2 c.r/\nmOk c.k:=by
 let(l,L,rfl,m,n,j,i,b):=a;let(k,d,e):=eZ.mp hc;let(r,h,rfl):=aX.mp e;show((_,_,(a5J (b k).1 (b k).2 h).1,hf _ _,hg _ _),i k d)
def CL.nil(f:FZ):CL f f []:=([],λ_=>[],rfl,.nil,.nil,λ_ _=>rfl,λ_ h=>(nomatch h),λk=>(Can.nil,λt=>by unfold dif;rw[if_pos rfl];rfl))
noncomputable def rev2:List Z->List Z
 |[x,y]=>[y,x]
 |w=>w
noncomputable def turn(A:List Cg):List Cg:=A.map λc=>(c.k,(c.r.b,c.r.e,rev2 c.r.w))
def b5E(x y:Z):(dif x y).map rev2=dif y x:=by
 unfold dif
 by_cases c:x=y
 .rw[if_pos c,if_pos c.symm];rfl
 .rw[if_neg c,if_neg (Ne.symm c)];rfl
noncomputable def CL.turn(a:CL f g A):CL g f (turn A):=by
 let(j,L,rfl,d,o,l,n,c):=a;show(j,λk=>(L k).map λr=>(r.b,r.e,rev2 r.w),?_,d,o,λk p=>by change (L k).map _=[];rw[l k p];rfl,n,λk=>((?_,?_),λt=>by rw[a6u,(c k).2,b5E]))
 .unfold Lw.turn cgs;rw[List.map_flatMap]
  congr 1
  funext k
  rw[bQ,bQ]
  rfl
 .show (a7t (c k).1.rise).1
 .rw[ci];show cA.imp_of_mem (λ{r s} x v h=>?_) (c k).1.2;let(e,y,B,m):=h;show(e,y,B,λz q=>m z ?_);let i:=(a5J (c k).1 (c k).2 x).1;let u:=(a5J (c k).1 (c k).2 v).1;rw[i,u]at q ⊢;simp only[rev2,bE.injEq,and_true]at q ⊢;show q.symm
structure CB (A:List Cg):Prop where
 ks:∃ns:List Str,ns.length<=4/\∀c∈A,c.k∈ns
 ln:∀k,(a0m A k).length<=150
 all:A.length<=600
noncomputable def CB.turn(h:CB A):CB (turn A):=by
 let((i,j,b),g,a):=h;show((i,j,λc e=>?_),λk=>?_,by unfold Lw.turn;rw[aH];show a)
 .let(d,f,rfl):=aX.mp e;show b d f
 .let:=g k
  unfold a0m Lw.turn at *;rw[e9,aH,aH];rw[aH]at this;show this
def CB.nil:CB []:=(([],by simp,λ_ h=>(nomatch h)),λk=>by simp[a0m],by simp)
abbrev a6v:Str:=Str.ofString "last"
abbrev b0u:Str:=Str.ofString "kept"
noncomputable def shF(n:Int)(d:Addr):List (Str×Z):=[(a6v,.int n,),(b0u,.ref d,)]
def c0E:¬ (a6v=b0u):=by decide +kernel
def b5F:putQ b0u (.ref d) [(a6v,.int n,)]=shF n d:=by
 rfl
def b5G:putQ a6v (.int m) (shF n d)=shF m d:=rfl
def a2x:(shF n d).lookup a6v=be (.int n):=rfl
def a6w:(shF n d).lookup b0u=be (.ref d):=rfl
def a4O(h1:(m==a6v)=kQ)(h2:(m==b0u)=kQ):(shF n d).lookup m=gV:=by
 unfold shF;rw[bY,h1,bY,h2];rfl
abbrev enZ(e:Int×Addr):Z:=.tup [.int e.1,.ref e.2]
structure Hist (G:Hq) (S:Addr->Prop) (T:List Tl) (k:Str) (h:Addr) (es:List (Int×Addr)):Prop where
 s:S h
 at_:G h=be (.lst (es.map enZ))
 ix:es.map (·.1)=ix T k
 ne:es≠[]
 ln:∀e∈es,S e.2/\∃L,G e.2=be (.lst (L.map Rw.z))/\IsLine (T.take e.1.toNat) k L
def Rec(G:Hq)(S:Addr->Prop)(T:List Tl)(k:Str)(h:Addr):Prop:=∃es,Hist G S T k h es
def Rec.keepL(H:Rec G S T k h)(q:∀x ws,S x->G x=be (.lst ws)->G' x=be (.lst ws)):Rec G' S T k h:=by
 let(b,H):=H;show(b,H.s,q _ _ H.s H.at_,H.ix,H.ne,λe d=>let (s,L,a,c):=H.ln e d;(s,L,q _ _ s a,c))
structure ShM (a:Ad) (G:Hq) (p:Addr) (S:Addr->Prop) (T:List Tl) (n:Int) (dx d:Addr) (kvs:List (Key×Z)):Prop where
 ob:G p=be (.ins a.c_Sheet dx (shF n d))
 sp:S p
 sd:S d
 dc:G d=be (.dK kvs)
 len:kvs.length<=T.length
 no:∀k,valZ kvs (.inr k)=gV->ix T k=[]
 hs:∀k z,valZ kvs (.inr k)=be z->∃h,z=.ref h/\Rec G S T k h
 inj:∀k k' z,valZ kvs (.inr k)=be z->valZ kvs (.inr k')=be z->k=k'
 al:∀b,S b->∃o,G b=be o
 nd:(kvs.map (·.1)).Nodup
 sk:∀q∈kvs,∃s,q.1=Sum.inr s
def Sheet(a:Ad)(G:Hq)(p:Addr)(S:Addr->Prop)(T:List Tl):Prop:=∃dx d kvs,ShM a G p S T T.length dx d kvs
def KS(S:Addr->Prop)(G G':Hq):Prop:=∀b o,S b->G b=be o->G' b=be o
def KN(S:Addr->Prop)(G G':Hq):Prop:=∀b o,¬ S b->G b=be o->G' b=be o
def Sm.ks(s:Sm G G'):KS S G G':=λb o _ e=>s b o e
def Sm.kn(s:Sm G G'):KN S G G':=λb o _ e=>s b o e
def KN.trans(a:KN S G G1)(b:KN S G1 G2):KN S G G2:=λc o n e=>b c o n (a c o n e)
def ShM.keep{a:Ad}{G G':Hq}{p:Addr}{S:Addr->Prop}{T:List Tl}{n:Int}{dx d:Addr}{kvs:List (Key×Z)}(H:ShM a G p S T n dx d kvs)(q:KS S G G'):ShM a G' p S T n dx d kvs:=
 (q _ _ H.sp H.ob,H.sp,H.sd,q _ _ H.sd H.dc,H.len,H.no,λk z e=>let (h,c,g):=H.hs k z e;(h,c,g.keepL λx ws s e=>q x _ s e),H.inj,(λb hb=>let (o,e):=H.al b hb;(o,q b o hb e)),H.nd,H.sk)
def Sheet.keep{a:Ad}{G G':Hq}{p:Addr}{S:Addr->Prop}{T:List Tl}(H:Sheet a G p S T)(q:KS S G G'):Sheet a G' p S T:=let (dx,d,kvs,h):=H;(dx,d,kvs,h.keep q)
structure ShV (a:Ad) (G:Hq) (p:Addr) (S:Addr->Prop) (T:List Tl) (n:Int) (dx d:Addr) (kvs:List (Key×Z)):Prop where
 ob:G p=be (.ins a.c_Sheet dx (shF n d))
 sp:S p
 sd:S d
 dc:G d=be (.dK kvs)\/G d=be (.dF kvs)
 len:kvs.length<=T.length
 no:∀k,valZ kvs (.inr k)=gV->ix T k=[]
 hs:∀k z,valZ kvs (.inr k)=be z->∃h,z=.ref h/\Rec G S T k h
 al:∀b,S b->∃o,G b=be o
 nd:(kvs.map (·.1)).Nodup
 sk:∀q∈kvs,∃s,q.1=Sum.inr s
noncomputable def ShM.v{a:Ad}{G:Hq}{p:Addr}{S:Addr->Prop}{T:List Tl}{n:Int}{dx d:Addr}{kvs:List (Key×Z)}(H:ShM a G p S T n dx d kvs):ShV a G p S T n dx d kvs:=(H.ob,H.sp,H.sd,.inl H.dc,H.len,H.no,H.hs,H.al,H.nd,H.sk)
def ShV.keep{a:Ad}{G G':Hq}{p:Addr}{S:Addr->Prop}{T:List Tl}{n:Int}{dx d:Addr}{kvs:List (Key×Z)}(H:ShV a G p S T n dx d kvs)(q:KS S G G'):ShV a G' p S T n dx d kvs:=
 (q _ _ H.sp H.ob,H.sp,H.sd,H.dc.imp (q _ _ H.sd) (q _ _ H.sd),H.len,H.no,λk z e=>let (h,c,g):=H.hs k z e;(h,c,g.keepL λx ws s e=>q x _ s e),(λb hb=>let (o,e):=H.al b hb;(o,q b o hb e)),H.nd,H.sk)
def SheetV(a:Ad)(G:Hq)(p:Addr)(S:Addr->Prop)(T:List Tl):Prop:=∃dx d kvs,ShV a G p S T T.length dx d kvs
noncomputable def Sheet.v{a:Ad}{G:Hq}{p:Addr}{S:Addr->Prop}{T:List Tl}(H:Sheet a G p S T):SheetV a G p S T:=let (dx,d,kvs,h):=H;(dx,d,kvs,h.v)
def SheetV.keep{a:Ad}{G G':Hq}{p:Addr}{S:Addr->Prop}{T:List Tl}(H:SheetV a G p S T)(q:KS S G G'):SheetV a G' p S T:=let (dx,d,kvs,h):=H;(dx,d,kvs,h.keep q)
def a3s(a:Ad):P3:=λws G R=>∃x,ws=[x]/\Th G x/\∀G',Sm G G'->if a2t x=kP then R .non G' else False
set_option tactic.hygienic true in
def a3t(T:Txt K mg base a):Cal P w K mg base CX0 2 "check_name" (lowP K (a3s a)):=by
 show fnc 1 (N:=["thing"]) T.br (T.f 13 _ rfl) ?_;walk_at "in";show(_,(a0z (z_if (by ac_rfl)
  (a0z a50)
  a1Y)),?_)
 let(x,rfl,e,q):=h;lk;show(_,rfl,e,λg d=>?_);let b:=q g d;lk;show ifNB (λc=>?_) λc=>?_
 .rw[c]at b
  first |show aN b | (lk;show b)
 .rw[c]at b
  first |show aN b | (lk;show b)
def a2c(a:Ad):P3:=λws G R=>∃x y,ws=[x,y]/\Th G x/\Th G y/\∀G',Sm G G'->if strB x y=kP then R .non G' else False
set_option tactic.hygienic true in
def a2d(T:Txt K mg base a):Cal P w K mg base CX0 3 "check_stretch" (lowP K (a2c a)):=by
 show fnc 2 (N:=["begin","end"]) T.br (T.f 21 _ rfl) ?_;walk_at "in";show(_,(a0z (z_if (by ac_rfl)
  (a0z a50)
  a1Y)),?_)
 let(x,y,rfl,hx,hy,q):=h;lk;show(_,_,rfl,hx,hy,λG' s1=>?_);let q':=q G' s1;lk;show ifNB (λc=>?_) λc=>?_
 .rw[c]at q'
  first |show aN q' | (lk;show q')
 .rw[c]at q'
  first |show aN q' | (lk;show q')
structure Tel (G:Hq) (z:Z) (h:Z) (nm:List Z) (x y:Z):Prop where
 e:z=.tup (h::(nm++[x,y]))
 l:(∃k,nm=[k])\/∃k w,nm=[k,w]
 n:∀z∈nm,Th G z
 x:Th G x
 y:Th G y
def Tel.sm{x y:Z}(T:Tel G z h nm x y)(s:Sm G G'):Tel G' z h nm x y:=(T.e,T.l,λz a=>(T.n z a).sm s,T.x.sm s,T.y.sm s)
def a2e(a:Ad):P3:=λws G R=>Ex5 λ(z h:Z) (nm:List Z) (x y:Z)=>ws=[z]/\Tel G z h nm x y/\∀G',Sm G G'->if nm.all a2t=kP then (if strB x y=kP then R .non G' else False) else False
def c0x:cutZ [h,k,x,y] (be 1) (be (-2))=[k]:=rfl
def c0y{h k w x y:Z}:cutZ [h,k,w,x,y] (be 1) (be (-2))=[k,w]:=rfl
def a5K{l:List Z}(h:x∈l)(c:f x=kQ):l.all f=kQ:=List.all_eq_false.mpr (x,h,by rw[c];decide)
def a7v{l:List Z}(h:(l.take i).all f=kP)(e:l[i]?=be x)(c:f x=kP):(l.take (i+1)).all f=kP:=by
 rw[cf,List.all_append,h,e]
 change (kP&&([x].all f))=kP
 rw[bu,c];rfl
set_option tactic.hygienic true in
def a2f(T:Txt K mg base a):Cal P w K mg base CX0 4 "check_telling" (lowP K (a2e a)):=by
 show fnc 1 (N:=["telling","name"]) T.br (T.f 22 _ rfl) ?_;walk_at "in";show(_,(a0c (a1H (pt:=(.nm 1)) g5.never rfl (b64 (by ac_rfl)) (p_nm (nmI 1 nd))
  (by ac_rfl))
  (by ac_rfl)),?_)
 let(z,h,nm,x,y,rfl,(rfl,hl,hn,hx,hy),q):=h;let(k,rfl)||(k,w,rfl):=hl
 .change uSeq _ _ _ _ _ _ (a0Z _ [.tup [h,k,x,y]]) _
  lk;show b4j (show ¬ (HT.sIx 4 0 (be 1)=0/\HT.sIx 4 4 (be (-2))=4) by decide) ?_;rw[c0x];lk;show a0H (λi σ G'=>∃v:Option Z,Sm G G'/\(([k]:List Z).take i).all a2t=kP/\σ=[be (.tup [h,k,x,y]),v]) (_,Sm.refl _,rfl,rfl) (λ_ _ _ _ _=>True.intro) ?_ ?_
  .ext i u σ G' hu ⟨v,s,ha,rfl⟩;let hm:=aZ hu;show(_,rfl,?_);lk;show(u,rfl,(hn u hm).sm s,λG1 s1=>?_);let q':=q G1 (s.trans s1);show ifB (λc=>?_) λc=>?_
   .lk;show(_,s.trans s1,a7v ha hu c,rfl)
   .rw[a5K hm c]at q';show q'
  .ext σ G' ⟨v,s,ha,rfl⟩;let ha:([k]:List Z).all a2t=kP:=ha;lk;show(x,y,rfl,hx.sm s,hy.sm s,λG1 s1=>?_);let q':=q G1 (s.trans s1);rw[ha]at q';show ifB (λc=>?_) λc=>?_
   .rw[c]at q';lk;show q'
   .rw[c]at q';show q'
 .change uSeq _ _ _ _ _ _ (a0Z _ [.tup [h,k,w,x,y]]) _
  lk;show b4j (show ¬ (HT.sIx 5 0 (be 1)=0/\HT.sIx 5 5 (be (-2))=5) by decide) ?_;rw[c0y];lk;show a0H (λi σ G'=>∃v:Option Z,Sm G G'/\(([k,w]:List Z).take i).all a2t=kP/\σ=[be (.tup [h,k,w,x,y]),v]) (_,Sm.refl _,rfl,rfl) (λ_ _ _ _ _=>True.intro) ?_ ?_
  .ext i u σ G' hu ⟨v,s,ha,rfl⟩;let hm:=aZ hu;show(_,rfl,?_);lk;show(u,rfl,(hn u hm).sm s,λG1 s1=>?_);let q':=q G1 (s.trans s1);show ifB (λc=>?_) λc=>?_
   .lk;show(_,s.trans s1,a7v ha hu c,rfl)
   .rw[a5K hm c]at q';show q'
  .ext σ G' ⟨v,s,ha,rfl⟩;let ha:([k,w]:List Z).all a2t=kP:=ha;lk;show(x,y,rfl,hx.sm s,hy.sm s,λG1 s1=>?_);let q':=q G1 (s.trans s1);rw[ha]at q';show ifB (λc=>?_) λc=>?_
   .rw[c]at q';lk;show q'
   .rw[c]at q';show q'
def a1S(a:Ad):P3:=λws G R=>∃q n:Int,ws=[.int q,.int n]/\if 0<=q/\q<=n then R .non G else False
set_option tactic.hygienic true in
def a04(T:Txt K mg base a):Cal P w K mg base CX0 1 "check_in_reach" (lowP K (a1S a)):=by
 show fnc 2 (N:=["knowing","last"]) T.br (T.f 12 _ rfl) ?_;walk_at "in";show(_,(a0z (z_if (by ac_rfl)
  (a0z a50)
  a1Y)),?_)
 let(q,n,rfl,k):=h;lk;show ifD (λc=>?_) λc=>?_
 .rw[if_neg (by lia)]at k;show k.elim
 .lk;show ifD (λb=>?_) λb=>?_
  .rw[if_neg (by lia)]at k;show k.elim
  .rw[if_pos (by lia)]at k;lk;show k
def a2R:P3:=λws G R=>∃(l:Addr)(L:List Rw)(τ:Tl),ws=[.ref l,τ.z]/\G l=be (.lst (L.map Rw.z))/\Rise L/\Plain L/\L.length<=400/\τ.Ok /\
 ∀t G',G t=gV->Sm G G'->G' t=be (.lst ((a5x L τ.b τ.e (optW τ.v)).map Rw.z))->R (.ref t) G'
def c0z:¬ (b0r=sPut):=by decide +kernel
set_option tactic.hygienic true in
def a1n(T:Txt K mg base a):Cal P w K mg base CX0 4 "line_behind" (lowP K a2R):=by
 show fnc 2 (N:=["line","telling","worth"]) T.br (T.f 23 _ rfl) ?_;walk_at "in";show(_,(by ac_rfl),?_);let(l,L,(key,w,b,e),rfl,hl,hr,hp,hz,ok,q):=h;let hb:=ok.st.bef;let hv:=ok.v;cases w with
 |none=>
  unfold Tl.z;lk;show ifD (λc=>absurd c c0z) λ_=>?_;lk;show(l,L,b,e,.non,rfl,hl,hr,hp.okR,hp.one,by lia,hb,rfl,q)
 |some w=>
  unfold Tl.z;lk;show ifD (λ_=>?_) λc=>absurd rfl c;lk;show(l,L,b,e,.str w,rfl,hl,hr,hp.okR,hp.one,by lia,hb,a0r (by decide) hv,q)
def a2y(a:Ad):P3:=λws G R=>∃p dx,ws=[.ref p]/\G p=be (.ins a.c_Sheet dx [])/\∀d G',G d=gV->(∀b o,G b=be o->b≠p->G' b=be o)->Sheet a G' p (λx=>x=p\/x=d) []->R .non G'
set_option tactic.hygienic true in
def a2z(T:Txt K mg base a):Mal P w K mg base CX0 1 a.c_Sheet "__init__" (lowP K (a2y a)):=by
 show fnm 1 (N:=["self"]) (T.m_Sheet 4 _ rfl) ?_;walk_at "in";show(_,(a0c (b7N T.cl_Sheet (T.n_Sheet 0 _ rfl) (qv 0) a84)
  (a0z (b7N T.cl_Sheet (T.n_Sheet 1 _ rfl) (qv 0) a3V))),?_)
 let(p,i,rfl,l,q):=h;lk;show(p,i,[],rfl,l,by decide,?_);lk;ext d g;let c:p≠d:=a0g a0a g;lk;show(p,i,[(a6v,.int 0,)],rfl,by rw[put_ne c];show a0a,by decide,?_);rw[b5F];lk;let f:G d=gV:=by rw[put_ne (Ne.symm c)]at g;show g
 show q d _ f (λb o e j=>?_) (i,d,[],(a0a,.inl rfl,.inr rfl,?_,by simp,λk _=>rfl,(λk z e=>by cases e),(λk n z e=>by cases e),?_,.nil,λq m=>by simp at m))
 .rw[put_ne j,put_ne (a0g e f),put_ne j];show e
 .rw[put_ne (Ne.symm c)];show a0a
 .ext b (rfl |rfl)
  .show(_,a0a)
  .show(_,by rw[put_ne (Ne.symm c)];show a0a)
def a1r(a:Ad):P3:=λws G R=>Ex4 λ(p:Addr) (S:Addr->Prop) (T:List Tl) (q:Int)=>ws=[.ref p,.int q]/\SheetV a G p S T/\if 0<=q/\q<=T.length then R .non G else False
set_option tactic.hygienic true in
def a0O(T:Txt K mg base a):Mal P w K mg base CX0 2 a.c_Sheet "check_knowing" (lowP K (a1r a)):=by
 show fnm 2 (N:=["self","knowing"]) (T.m_Sheet 0 _ rfl) ?_;walk_at "in";show(_,(a0z (a2F (q_c (a04 T) hr (q_k (qv 1) (q_k (a6e T.cl_Sheet (T.n_Sheet 0 _ rfl) (qv 0)) a0J)) ))),?_);let(p,S,T',q,rfl,(e,d,f,b),k):=h;lk;show(p,e,_,_,rfl,b.ob,a2x,?_);lk;show(q,_,rfl,?_)
 by_cases c:0<=q/\q<=T'.length
 .rw[if_pos c]at k ⊢;lk;show k
 .rw[if_neg c]at k ⊢;show k
def a1T(a:Ad):P3:=λws G R=>Ex9 λ(p:Addr) (S:Addr->Prop) (T:List Tl) (k:Str) (q:Int) (n:Int) (dx d:Addr) (kvs:List (Key×Z))=>ws=[.ref p,.str k,.int q]/\ShV a G p S T n dx d kvs/\0<=q/\q<=T.length/\T.length<=200 /\
 ∀t L G',G t=gV->Sm G G'->G' t=be (.lst (L.map Rw.z))->IsLine (T.take q.toNat) k L->R (.ref t) G'
def b5H(l:List Rw):l.filterMap (λr=>be r)=l:=by simp
def a0F(T:Txt K mg base a):Mal P w K mg base CX0 1 a.c_Sheet "known_line" (lowP K (a1T a)):=by
 show fnm 3 (N:=["self","key","knowing","since","line"]) (T.m_Sheet 1 _ rfl) ?_ (len:=λws G R h=>(by let(_,_,_,_,_,_,_,_,_,rfl,_):=h;rfl));walk_at "in";show(_,(a0c (a1H (pt:=(.tp [3,4])) g5.never rfl (a3i rfl (T.b 11) (q_k (q_bm PySem.F.plainAttrs_dict PySem.F.slot_dict_get PySem.F.type_dict_get (b25 hu) (a6e T.cl_Sheet (T.n_Sheet 1 _ rfl) (qv 0)) (by ac_rfl)) a0J)) (by ac_rfl)
  (a0z (z_if (by ac_rfl)
  (a0z (a1Z (q_l ["begin","end","worth"] [gV,gV,gV] (.tp [0,1,2]))))
  a1Y)))
  (by ac_rfl)),?_)
 let(p,S,T,k,q,n,dx,d,kvs,rfl,sh,h0,h1,hT,fin):=h;let(q,rfl):=cM h0;lk;show(p,dx,_,_,rfl,sh.ob,a6w,?_);show c0c sh.dc ?_;lk;show(lenK rfl,λt0 ht0=>?_);lk;show b4H (sh.dc.imp (λe=>a0b e ht0) λe=>a0b e ht0) rfl ?_;let s0:Sm G (put G t0 (.lst [])):=Sm.new ht0;let none_:(∀i∈ix T k,(q:Int)<i)->∀(v1 v2:Option Z)(G1:Hq),Sm G G1->∀t,G1 t=gV->R (.ref t) (put G1 t (.lst [])):=λhi _ _ G1 s1 t ht=>
  fin t [] _ (s1.free ht) (s1.trans (Sm.new ht)) a0a (by
   let e:((q:Int)).toNat=q:=by lia
   rw[e];show IsLine.nil (a5I hi))
 cases hv:valZ kvs (.inr k) with
 |none=>
  lk;show(t0,[],rfl,a0a,?_);show a0H (λi σ G'=>∃v1 v2:Option Z,σ=[be (.ref p),be (.str k),be (.int q),v1,v2]/\G'=put G t0 (.lst [])) (_,_,rfl,rfl) (λi σ G' _ (_,_,_,e)=>by rw[e];show a0a) ?_ ?_
  .ext i x σ G' hx _;simp at hx
  .ext σ G' ⟨v1,v2,rfl,rfl⟩;lk;show(lenK rfl,λt ht=>?_);show none_ (λi hi=>by rw[sh.no k hv]at hi;simp at hi) v1 v2 _ s0 t ht
 |some z=>
  let(h,rfl,es,H):=sh.hs k z hv;lk;show(h,_,rfl,a0b H.at_ ht0,?_);rw[<- gk];show a0H (λi σ G'=>∃v1 v2:Option Z,(∀(j:Nat) e,j<i->es.reverse[j]?=be e->(q:Int)<e.1)/\σ=[be (.ref p),be (.str k),be (.int q),v1,v2]/\G'=put G t0 (.lst [])) (_,_,λj e hj=>by lia,rfl,rfl) (λi σ G' _ (_,_,_,_,e)=>by rw[e];show a0b H.at_ ht0) ?_ ?_
  .ext i x σ G' hx ⟨v1,v2,hall,rfl,rfl⟩;rw[aO]at hx;cases hx':es.reverse[i]? with
   |none=>rw[hx']at hx;cases hx
   |some e=>
   rw[hx']at hx;cases hx;let(s,l):=e;let hmem:(s,l,)∈es:=by let:=aZ hx';o_head this
   let hix:s∈ix T k:=by rw[<- H.ix];show bA (f:=(·.1)) hmem
   let(hs1,hs2):=b8t hix;let(_,L,gl,il):=H.ln _ hmem;show(_,rfl,?_);lk;show ifD (λc=>?_) λc=>?_
   .lk;show a1b (a0b gl ht0) ?_;ext D hD;let hone:=il.pl.one;let hll:L.length<=1000:=by let:=il.len;rw[aY]at this;lia
    show a1z (g':=Rw.z) (λr=>be r) (λys=>a0b (a0b gl ht0) hD) hll ?_ ?_
    .ext r hr ys K1 K2 k1 k2;let(x,hx):=hone r hr;let(b,e,w):=r;cases hx;show(_,rfl,?_);lk;show(lenK rfl,?_);show k1 (b,e,[x]) rfl
    .rw[b5H];show fin D L _ (s0.free hD) (s0.trans (Sm.new hD)) a0a ?_;let e1:((q:Int)).toNat=q:=by lia
     rw[e1];let il':IsLine (T.take s.toNat) k L:=il;show il'.cut (by lia) λj hj=>?_;rw[<- H.ix]at hj;let(e2,he2,rfl):=aX.mp hj
     by_cases c2:e2.1<=s
     .left;lia
     .right
      let he3:e2∈es.reverse:=↑he2
      let(m,hm):=bP he3
      by_cases hmi:m<i
      .show hall m e2 hmi hm
      .exfalso;let hst:(ix T k).Pairwise (·<·):=b0s T k
       rw[<- H.ix]at hst;let hst2:es.reverse.Pairwise (λx y=>y.1<x.1):=by
        rw[List.pairwise_reverse];show ci.mp hst
       by_cases hmi2:m=i
       .subst hmi2;rw[hx']at hm;cases hm
        lia
       .let(l1,e5):=aM.mp hx';let(l2,e6):=aM.mp hm
        let:=cD.mp hst2 i m l1 l2 (by lia)
        rw[e5,e6]at this;simp only at this
        lia
   .lk;show(_,_,λj e hj he=>?_,rfl,rfl)
    by_cases hji:j<i
    .show hall j e hji he
    .let:j=i:=by lia
     subst this;rw[hx']at he;cases he;simp only
     lia
  .ext σ G' ⟨v1,v2,hall,rfl,rfl⟩;lk;show(lenK rfl,λt ht=>?_);show none_ (λj hj=>?_) v1 v2 _ s0 t ht;rw[<- H.ix]at hj;let(e2,he2,rfl):=aX.mp hj;let he3:e2∈es.reverse:=↑he2
   let(m,hm):=bP he3;show hall m e2 (by rw[aH];show (aM.mp hm).1) hm
def a0D:valZ (putZ kvs k v) j=if j=k then be v else valZ kvs j:=by
 unfold putZ
 split
 .next hc=>
  let m:∀kvs:List (Key×Z),valZ (kvs.map λkv=>if kv.1=k then (kv.1,v,) else kv) j=(valZ kvs j).map λx=>if j=k then v else x:=by
   ext kvs
   induction kvs with
   |nil=>rfl
   |cons p r ih=>
    unfold valZ at ih ⊢;rw[aR,bI,bI];let h:(if p.1=k then (p.1,v,) else p).1=p.1:=by split<;>rfl
    rw[h];cases c:decide (p.1=j) with
    |false=>show ih
    |true=>
     let d:=of_decide_eq_true c;simp
     by_cases ck:p.1=k
     .simp_all
     .simp_all
  rw[m]
  by_cases c:j=k
  .subst c;let(p,f,g):=cj.mp hc
   let:(kvs.find? λkv=>decide (kv.1=j)).isSome=kP:=gz.mpr (p,f,g)
   unfold valZ;cases e:kvs.find? λkv=>decide (kv.1=j) with
   |none=>rw[e]at this;cases this
   |some q=>simp
  .simp_all
 .next hc=>
  unfold valZ;rw[f9]
  by_cases c:j=k
  .subst c
   let:kvs.find? (λkv=>decide (kv.1=j))=gV:=by
    rw[cX];ext p i l;show hc (cj.mpr (p,i,l))
   rw[this];simp
  .rw[if_neg c]
   let:[(k,v,)].find? (λkv=>decide (kv.1=j))=gV:=by simp;show λz=>c z.symm
   rw[this,Option.or_none]
def b2z{kvs:List (Key×Z)}{k:Key}{v:Z}:(putZ kvs k v).length<=kvs.length+1:=by
 unfold putZ
 split<;>simp
def Hist.ne_row{L:List Rw}(H:Hist G S T k h es)(e:G x=be (.lst (L.map Rw.z))):x≠h:=λz=>by
 subst z
 let:=e.symm.trans H.at_
 let b:L.map Rw.z=es.map enZ:=by simp_all
 cases es with
 |nil=>show H.ne rfl
 |cons a es=>
  cases L with
  |nil=>simp at b
  |cons r L=>
   let c:=(bE.inj b).1;simp only[Rw.z,Z.tup.injEq,bE.injEq]at c;let(i,d,g):=r;let f:=c.2.1;cases d<;>cases f
def a5L(h:valZ kvs k=gV):∀q∈kvs,q.1≠k:=λq b e=>by
 unfold valZ at h
 let:(kvs.find? λa=>decide (a.1=k)).isSome=kP:=gz.mpr (q,b,decide_eq_true e)
 cases e2:kvs.find? λa=>decide (a.1=k) with
 |none=>rw[e2]at this;cases this
 |some x=>rw[e2]at h;cases h
def a3u(h:valZ kvs k=gV):putZ kvs k v=kvs++[(k,v,)]:=by
 unfold putZ;rw[if_neg λz=>?_];let(q,a,b):=cj.mp z;show a5L h q a (of_decide_eq_true b)
def b8w(h:valZ kvs k=gV)(nd:(kvs.map (·.1)).Nodup):((putZ kvs k v).map (·.1)).Nodup:=by
 rw[a3u h,aQ,b9];show(nd,by simp,λx a y c=>?_);let(q,b,rfl):=aX.mp a
 let:y=k:=↑c
 rw[this];show a5L h q b
def b8x(sk:∀q∈kvs,∃s,q.1=Sum.inr s):∀q∈putZ kvs (.inr k) v,∃s,q.1=Sum.inr s:=λq a=>by
 unfold putZ at a
 split at a
 .let(d,c,e):=aX.mp a;let(s,b):=sk d c;show(s,?_);rw[<- e]
  split
  .cbv
  .cbv
 .let a||a:=aJ.mp a
  .show sk q a
  .show(k,by rw[aK.mp a])
def a2g(a:Ad):P3:=λws G R=>Ex9 λ(p:Addr) (S:Addr->Prop) (T:List Tl) (τ:Tl) (l:Addr) (L:List Rw) (dx d:Addr) (kvs:List (Key×Z))=>ws=[.ref p,.str τ.key,.ref l]/\ShM a G p S T ((T.length:Int)+1) dx d kvs/\G l=be (.lst (L.map Rw.z))/\¬ S l/\IsLine (T++[τ]) τ.key L/\T.length<=200 /\
 ∀(S':Addr->Prop) G',(∀b,S b->S' b)->(∀b,S' b->S b\/b=l\/G b=gV)->KN S G G'->Sheet a G' p S' (T++[τ])->R .non G'
def a4P(h:s∈ix T k):(T++[τ]).take s.toNat=T.take s.toNat:=by
 let:=b8t h
 rw[dU (by lia)]
def a7w:(T++[τ]).take ((T.length:Int)+1).toNat=T++[τ]:=by
 rw[cw];rw[aW,ft]
 lia
set_option tactic.hygienic true in
def a2h(T:Txt K mg base a):Mal P w K mg base CX0 1 a.c_Sheet "keep_line" (lowP K (a2g a)):=by
 show fnm 3 (N:=["self","key","line"]) (T.m_Sheet 5 _ rfl) ?_;walk_at "in";show(_,(a0z (a2F (q_bm PySem.F.plainAttrs_list PySem.F.slot_list_append PySem.F.type_list_append a6O (q_bm PySem.F.plainAttrs_dict PySem.F.slot_dict_setdefault PySem.F.type_dict_setdefault a2J (a6e T.cl_Sheet (T.n_Sheet 1 _ rfl) (qv 0)) (by ac_rfl)) (q_k (b31 (q_k (a6e T.cl_Sheet (T.n_Sheet 0 _ rfl) (qv 0)) (q_k (qv 2) a0J))) a0J)))),?_);let(p,S,T,τ,l,L,V,d,B,rfl,g,E,nl,il,hT,q):=h;lk;show(p,V,_,_,rfl,g.ob,a6w,?_);show a6f g.dc ?_;lk;show(lenK rfl,λn m=>?_);lk;let Y:p≠d:=λz=>by let e:=g.ob;rw[z,g.dc]at e;cases e
 let U:((T++[τ]).length:Int)=(T.length:Int)+1:=by simp
 show b26 (a0b g.dc m) rfl (a0e (by let:=g.len;lia)) (λz D=>?_) λD=>?_
 .let(h,rfl,es,H):=g.hs _ z D;let hpe:p≠h:=λz=>by let e:=g.ob;rw[z,H.at_]at e;cases e
  let hde:d≠h:=λz=>by let e:=g.dc;rw[z,H.at_]at e;cases e
  let hle:l≠h:=λz=>nl (z▸H.s);show a0U (a0b H.at_ m) ?_;lk;show(p,V,_,_,rfl,a0b g.ob m,a2x,?_);lk;show(lenK rfl,?_);lk;let hel:es.length<=T.length:=by
   let e1:=congrArg bj H.ix;rw[aH]at e1;rw[e1];show b8u T τ.key
  show a0s (a0b H.at_ m) (by rw[aH];show a0e (by lia)) ?_;let i:∀b o,b≠h->G b=be o->put (put G n (.lst [])) h (.lst (es.map enZ++[.tup [.int ((T.length:Int)+1),.ref l]])) b=be o:=λb o C e=>by rw[put_ne C];show a0b e m
  show q (λb=>S b\/b=l) _ (λb j=>.inl j) (λb j=>j.elim .inl λz=>.inr (.inl z)) (λb o C e=>i b o (λz=>C (z▸H.s)) e) (V,d,B,?_);show(by rw[U];show i _ _ hpe g.ob,.inl g.sp,.inl g.sd,i _ _ hde g.dc,by let:=g.len;simp;lia,λk x=>?_,λk z e=>?_,g.inj,(λb j=>?_),g.nd,g.sk)
  .rw[a2w,g.no k x,if_neg]
   .rfl
   .ext rfl;rw[D]at x;cases x
  .by_cases M:k=τ.key
   .subst M;rw[D]at e;cases e;show(h,rfl,es++[((T.length:Int)+1,l,)],.inl H.s,by rw[a0a,aQ];rfl,by rw[aQ,H.ix,a2w,if_pos rfl];rfl,by simp,λe t=>?_);let t||t:=aJ.mp t
    .let(X,L1,v,J):=H.ln e t;show(.inl X,L1,i _ _ (H.ne_row v) v,?_);rw[a4P (k:=τ.key) (by rw[<- H.ix];show bA (f:=(·.1)) t)];show J
    .rw[aK.mp t];show(.inr rfl,L,i _ _ hle E,?_);rw[a7w];show il
   .let(u,A,y,H'):=g.hs k z e;let hh:u≠h:=λw=>M (g.inj k τ.key z e (by rw[D,A,w]));show(u,A,y,.inl H'.s,i _ _ hh H'.at_,by rw[H'.ix,a2w,if_neg (Ne.symm M),bh],H'.ne,λe t=>?_);let(X,L1,v,J):=H'.ln e t;show(.inl X,L1,i _ _ (H.ne_row v) v,?_);rw[a4P (k:=k) (by rw[<- H'.ix];show bA (f:=(·.1)) t)];show J
  .by_cases c:b=h
   .rw[c];show(_,a0a)
   .let j||j:=j
    .let(o,e):=g.al b j;show(o,i b o c e)
    .rw[j]at c ⊢;show(_,i l _ c E)
 .let Q:d≠n:=a0g g.dc m;let hpt:p≠n:=a0g g.ob m;let hlt:l≠n:=a0g E m;let aa:put (put G n (.lst [])) d (.dK (putZ B (.inr τ.key) (.ref n))) n=be (.lst []):=by rw[put_ne (Ne.symm Q)];show a0a
  show a0U aa ?_;lk;show(p,V,_,_,rfl,by rw[put_ne Y];show a0b g.ob m,a2x,?_);lk;show(lenK rfl,?_);lk;show a0s aa (a0e (by decide)) ?_;let i:∀b o,b≠d->G b=be o->put (put (put G n (.lst [])) d (.dK (putZ B (.inr τ.key) (.ref n)))) n (.lst ([]++[.tup [.int ((T.length:Int)+1),.ref l]])) b=be o:=λb o C e=>by
   rw[put_ne (a0g e m),put_ne C];show a0b e m
  let nS:∀u,S u->∀o,G u=be o->u≠n:=λu _ o e=>a0g e m;show q (λb=>S b\/b=l\/b=n) _ (λb j=>.inl j) (λb j=>j.elim .inl λz=>z.elim (λz=>.inr (.inl z)) λz=>.inr (.inr (by rw[z];show m))) (λb o C e=>i b o (λz=>C (z▸g.sd)) e) (V,d,putZ B (.inr τ.key) (.ref n),?_);show(by rw[U];show i _ _ Y g.ob,.inl g.sp,.inl g.sd,by rw[put_ne Q];show a0a,by let h1:=g.len;let h2:=@b2z B (.inr τ.key) (.ref n);simp;lia,λk x=>?_,λk z e=>?_,λk k' z e I=>?_,(λb j=>?_),b8w D g.nd,b8x g.sk)
  .rw[a0D]at x
   split at x
   .cases x
   .next c=>
    rw[a2w,g.no k x,if_neg λz=>c (by rw[z])]
    rfl
  .rw[a0D]at e
   split at e
   .next c=>
    cases e;let M:k=τ.key:=↑c
    subst M;show(n,rfl,[((T.length:Int)+1,l,)],.inr (.inr rfl),by rw[a0a];rfl,by rw[a2w,g.no _ D,if_pos rfl];rfl,by simp,λe t=>?_);rw[aK.mp t];show(.inr (.inl rfl),L,i _ _ (λz=>by let z':l=d:=z;rw[z',g.dc]at E;cases E) E,?_);rw[a7w];show il
   .next c=>
    let(u,A,y,H'):=g.hs k z e;let hd':u≠d:=λw=>by let e:=H'.at_;rw[w,g.dc]at e;cases e
    show(u,A,y,.inl H'.s,i _ _ hd' H'.at_,by rw[H'.ix,a2w,if_neg λz=>c (by rw[z]),bh],H'.ne,λe t=>?_);let(X,L1,v,J):=H'.ln e t;show(.inl X,L1,i _ _ (λw=>by rw[w,g.dc]at v;cases v) v,?_);rw[a4P (k:=k) (by rw[<- H'.ix];show bA (f:=(·.1)) t)];show J
  .rw[a0D]at e I
   split at e
   .next c=>
    split at I
    .next c'=>o_head c.trans c'.symm
    .cases e;let(u,A,y,H'):=g.hs k' _ I;cases A;show absurd rfl (nS _ H'.s _ H'.at_)
   .split at I
    .cases I;let(u,A,y,H'):=g.hs k _ e;cases A;show absurd rfl (nS _ H'.s _ H'.at_)
    .show g.inj k k' z e I
  .by_cases c:b=n
   .rw[c];show(_,a0a)
   .by_cases c2:b=d
    .rw[c2];show(_,by rw[put_ne Q];show a0a)
    .let j||j||j:=j
     .let(o,e):=g.al b j;show(o,i b o c2 e)
     .rw[j]at c2 ⊢;show(_,i l _ c2 E)
     .show absurd j c
def a4Q(a:Ad):P3:=λws G R=>∃(p:Addr)(S:Addr->Prop)(T:List Tl),Sheet a G p S T/\((∃τ:Tl,ws=[.ref p,τ.z]/\τ.Ok/\T.length<=150 /\
 ∀(S':Addr->Prop) G',(∀b,S b->S' b)->(∀b,S' b->S b\/G b=gV)->KN S G G'->Sheet a G' p S' (T++[τ])->R (.int ((T.length:Int)+1)) G')\/False)
def b0v{τ:Tl}:∃ws,τ.z=.tup ws/\atI ws 1=be (.str τ.key):=by
 let(k,w,b,e):=τ;cases w<;>show(_,rfl,at1)
def b8y:Th G (oz e):=by cases e<;>show True.intro
def Tl.Ok.tel{τ:Tl}(ok:τ.Ok):∃(h:Z)(nm:List Z),Tel G τ.z h nm (.int τ.b) (oz τ.e)/\nm.all a2t=kP/\strB (.int τ.b) (oz τ.e)=kP:=by
 let(k,w,b,e):=τ;let d:=ok.k;let a:=ok.w;let f:=st_b ok.st;cases w with
 |none=>show(_,[.str k],(rfl,.inl (_,rfl),λz c=>by rw[aK.mp c];show b2w d,True.intro,b8y),by rw[bu,nm_b d];rfl,f)
 |some w=>
  let a:=a w rfl;show(_,[.str k,.str w],(rfl,.inr (_,_,rfl),λz c=>?_,True.intro,b8y),by rw[bu,nm_b d,bu,nm_b a];rfl,f);simp at c;let rfl||rfl:=c
  .show b2w d
  .show b2w a
set_option tactic.hygienic true in
def a4R(T:Txt K mg base a):Mal P w K mg base CX0 5 a.c_Sheet "tell" (lowP K (a4Q a)):=by
 show fnm 2 (N:=["self","telling","key","line"]) (T.m_Sheet 6 _ rfl) ?_;walk_at "in";show(_,(a0c (by ac_rfl)
  (a0c (by ac_rfl)
  (a0c (z_st (nmI 3 nd) (q_c (a1n T) hr (q_k (q_m (qv 0) T.cl_Sheet (a0F T) hr (q_k (qv 2) (q_k (a6e T.cl_Sheet (T.n_Sheet 0 _ rfl) (qv 0)) a0J)) ) (q_k (qv 1) a0J)) ))
  (a0c (b1M T.cl_Sheet (T.n_Sheet 0 _ rfl) (qv 0) a84 b2W)
  (a0c (a2F (q_m (qv 0) T.cl_Sheet (a2h T) hr (q_k (qv 2) (q_k (qv 3) a0J)) ))
  (a0z (a1Z (a6e T.cl_Sheet (T.n_Sheet 0 _ rfl) (qv 0))))))))),?_)
 let(p,S,T,(dx,d,kvs,sh),(τ,rfl,ok,hT,q)||⟨⟨⟩⟩):=h
 lk;let(th,tn,tel,ta,ts):=ok.tel (G:=G);show(_,_,_,_,_,rfl,tel,λG1 s1=>?_);rw[ta,ts];show ifT (ifT ?_);let sh1:=sh.keep (Sm.ks s1);let(ws,ez,ek):=@b0v τ;lk;rw[ez];show a0W ek ?_;rw[<- ez];lk;show(p,dx,_,rfl,sh1.ob,a4O (by decide +kernel) (by decide +kernel),?_);lk;show(p,dx,_,_,rfl,sh1.ob,a2x,?_);lk;show(p,S,T,τ.key,_,_,dx,d,kvs,rfl,sh1.v,by lia,by lia,by lia,λt L G2 ht s2 gt il=>?_);rw[show ((T.length:Int)).toNat=T.length by lia,bK]at il;let sh2:=sh1.keep (Sm.ks s2);lk;let hll:=il.len;show(t,L,τ,rfl,gt,il.can.rise,il.pl,by lia,ok,λu G3 hu s3 gu=>?_);let sh3:=sh2.keep (Sm.ks s3);let S13:=(s1.trans s2).trans s3;let hu0:G u=gV:=(s1.trans s2).free hu;let nu:¬ S u:=λz=>by let(o,e):=sh.al u z;rw[hu0]at e;cases e
 lk;show(p,dx,_,_,rfl,sh3.ob,a2x,?_);lk;show(dx,_,sh3.ob,by change 2<1000;decide,?_);rw[b5G];let hup:u≠p:=λz=>nu (z▸sh.sp);let sh4:ShM a (put G3 p (.ins a.c_Sheet dx (shF ((T.length:Int)+1) d))) p S T ((T.length:Int)+1) dx d kvs:=by
  let kp:∀x o,x≠p->G3 x=be o->put G3 p (.ins a.c_Sheet dx (shF ((T.length:Int)+1) d)) x=be o:=λx o nb e=>by rw[put_ne nb];show e
  show(a0a,sh3.sp,sh3.sd,kp _ _ (λz=>by let e:=sh3.dc;rw[z,sh3.ob]at e;cases e) sh3.dc,sh3.len,sh3.no,λk z e=>?_,sh3.inj,(λb hb=>?_),sh3.nd,sh3.sk)
  .let(h,ez,H):=sh3.hs k z e;show(h,ez,H.keepL λx ws _ g1=>kp _ _ (λz=>by rw[z,sh3.ob]at g1;cases g1) g1)
  .by_cases c:b=p
   .rw[c];show(_,a0a)
   .let(o,e):=sh3.al b hb;show(o,kp b o c e)
 let gu4:put G3 p (.ins a.c_Sheet dx (shF ((T.length:Int)+1) d)) u=be (.lst ((a5x L τ.b τ.e (optW τ.v)).map Rw.z)):=by rw[put_ne hup];show gu
 let kn4:KN S G (put G3 p (.ins a.c_Sheet dx (shF ((T.length:Int)+1) d))):=λb o nb e=>by rw[put_ne (show b≠p from λz=>nb (by rw[z];show sh.sp))];show S13 _ _ e
 let nn4:∀x,put G3 p (.ins a.c_Sheet dx (shF ((T.length:Int)+1) d)) x=gV->G x=gV:=λx e=>by
  by_cases c:x=p
  .rw[c,a0a]at e;cases e
  .rw[put_ne c]at e;show S13.free e
 generalize put G3 p (.ins a.c_Sheet dx (shF ((T.length:Int)+1) d))=G4 at sh4 gu4 kn4 nn4 ⊢;lk;show(p,dx,_,rfl,sh4.ob,a4O (by decide +kernel) (by decide +kernel),?_);lk;show(p,S,T,τ,u,_,dx,d,kvs,rfl,sh4,gu4,nu,il.snoc ok,by lia,λS' G5 i1 i2 kn5 sh5=>?_);let sh5':=sh5;let(dx5,d5,kvs5,m5):=sh5';lk;show(p,dx5,_,_,rfl,m5.ob,a2x,?_);let e:(((T++[τ]).length:Nat):Int)=(T.length:Int)+1:=by simp
 rw[e];show q S' G5 i1 (λb hb=>?_) (kn4.trans kn5) sh5;let h||h||h:=i2 b hb
 .show .inl h
 .rw[h];show .inr hu0
 .show .inr (nn4 b h)
local macro_rules | `(tactic| walk_at "go1")=>`(tactic| with_reducible (first | show i_intB ?_ | show i_iD ?_))
def ShV.frz{a:Ad}{G:Hq}{p:Addr}{S:Addr->Prop}{T:List Tl}{n:Int}{dx d:Addr}{kvs:List (Key×Z)}(H:ShV a G p S T n dx d kvs):ShV a (put G d (.dF kvs)) p S T n dx d kvs:=by
 let k:∀b o,b≠d->G b=be o->put G d (.dF kvs) b=be o:=λb o l e=>by rw[put_ne l];show e
 let q:∀b f,G b=be (.lst f)->b≠d:=λb f e z=>by
  rw[z]at e;let c||c:=H.dc<;>(rw[c]at e;cases e)
 show(k _ _ (λz=>?_) H.ob,H.sp,H.sd,.inr a0a,H.len,H.no,λi z e=>?_,λb m=>?_,H.nd,H.sk)
 .let e:=H.ob;rw[z]at e;let c||c:=H.dc<;>(rw[c]at e;cases e)
 .let(h,j,r):=H.hs i z e;show(h,j,r.keepL λx f _ g=>k _ _ (q _ _ g) g)
 .by_cases c:b=d
  .rw[c];show(_,a0a)
  .let(o,e):=H.al b m;show(o,k b o c e)
def inR(T:List Tl)(q:Int):Prop:=0<=q/\q<=T.length
def a2S(a:Ad):P3:=λws G R=>Ex5 λ(p:Addr) (S:Addr->Prop) (T:List Tl) (x:Z) (q:Int)=>ws=[.ref p,x,.int q]/\Sheet a G p S T/\(∀G'',Th G'' x)/\T.length<=200 /\
 ((inR T q/\∃k,x=.str k/\nmOk k/\∀t L G',G t=gV->Sm G G'->G' t=be (.lst (L.map Rw.z))->IsLine (T.take q.toNat) k L->R (.ref t) G')\/False)
set_option tactic.hygienic true in
def a2T(T:Txt K mg base a):Mal P w K mg base CX0 3 a.c_Sheet "line_at" (lowP K (a2S a)):=by
 show fnm 3 (N:=["self","key","knowing"]) (T.m_Sheet 2 _ rfl) ?_;walk_at "in";show(_,(a0c (a2F (q_m (qv 0) T.cl_Sheet (a0O T) hr (q_k (qv 2) a0J) ))
  (a0c (by ac_rfl)
  (a0z (a1Z (q_m (qv 0) T.cl_Sheet (a0F T) hr (q_k (qv 1) (q_k (qv 2) a0J)) ))))),?_)
 let(p,S,T',x,q,rfl,j,C,y,h):=h;let i:=j;let(f,d,l,m):=i;lk;show(p,f,_,rfl,m.ob,a4O (by decide +kernel) (by decide +kernel),?_);lk;show(p,S,T',q,rfl,j.v,?_);let(c,k,rfl,A,g)||⟨⟨⟩⟩:=h
 let n:0<=q/\q<=T'.length:=c;rw[if_pos n];lk;show(_,rfl,C _,λD e=>?_);rw[nm_b A];show ifT ?_;let b:=m.keep (Sm.ks e);lk;show(p,f,_,rfl,b.ob,a4O (by decide +kernel) (by decide +kernel),?_);lk;show(p,S,T',k,q,_,f,d,l,rfl,b.v,c.1,c.2,y,λt L z o u B s=>g t L z (e.free o) (e.trans u) B s)
def Rec.ne(H:Rec G S T k h):ix T k≠[]:=λz=>by
 let(a,H):=H
 let:=H.ix
 rw[z]at this;show H.ne (cY.mp this)
def NE(T:List Tl)(k:Str):Prop:=∃L,IsLine T k L/\L≠[]
structure KeysAt (T:List Tl) (ts:List Str):Prop where
 so:PyProof.Rows.sortedS ts=kP
 nd:ts.Nodup
 is:∀s,s∈ts↔NE T s
def IsLine.uniq(h:IsLine T k L)(g:IsLine T k M):L=M:=a1I h.can g.can λt=>by rw[h.v,g.v]
def a6x(h:ix T k=[])(q:Nat):putsK (T.take q) k=[]:=a5I λi a=>by rw[h]at a;simp at a
def Few(T:List Tl):Prop:=T.length<=200/\∃kn:List Str,kn.length<=63/\∀τ∈T,τ.key∈kn
theorem b3l:∀{xs ys:List Str},xs.Nodup->(∀x∈xs,x∈ys)->xs.length<=ys.length
 |[],_,_,_=>bg _
 |x::xs,ys,h,m=>by
  rw[bT]at h;let b:=m x (.head _)
  let:=b3l (ys:=ys.erase x) h.2 λy a=>(List.mem_erase_of_ne (λz=>h.1 (by simp_all))).mpr (m y (.tail _ a))
  rw[List.length_erase_of_mem b]at this
  let:=List.length_pos_of_mem b
  rw[aV];lia
def b8z:∀{T:List Tl}{k:Str}{n:Nat},ixF k n T≠[]->∃τ∈T,τ.key=k:=by ext z0;induction z0 with
 |nil=>ext _ _ h;show absurd rfl h
 |cons τ T I0=>
  ext k n h
  by_cases c:τ.key=k
  .show(τ,.head _,c)
  .unfold ixF at h;rw[if_neg c,dw]at h;let(σ,b,a):=I0 h;show(σ,.tail _ b,a)
def b8A{ks:List Str}(h:kvs.map (·.1)=ks.map Sum.inr)(m:s∈ks):∃z,valZ kvs (.inr s)=be z:=by
 unfold valZ;cases e2:kvs.find? λc=>decide (c.1=Sum.inr s) with
 |some q=>show(_,rfl)
 |none=>
  let a:(Sum.inr s)∈kvs.map (·.1):=h▸bA m;let(q,b,d):=aX.mp a
  let:=cX.mp e2 q b
  simp[d]at this
def a2U(a:Ad):P3:=λws G R=>Ex4 λ(p:Addr) (S:Addr->Prop) (T:List Tl) (q:Int)=>ws=[.ref p,.int q]/\Sheet a G p S T/\Few T /\
 ((inR T q/\∀t ts G',G t=gV->Sm G G'->G' t=be (.lst (ts.map Z.str))->KeysAt (T.take q.toNat) ts->ts.length<=63->R (.ref t) G')\/False)
def b0w:∀{kvs:List (Key×Z)},(∀q∈kvs,∃s,q.1=Sum.inr s)->∃ks:List Str,kvs.map (·.1)=ks.map Sum.inr/\(kvs.map λq=>keyW q.1)=ks.map Z.str:=by ext z0;induction z0 with
 |nil=>ext _;show([],rfl,rfl)
 |cons q kvs I0=>
  ext h;let(s,a):=h q (.head _);let(e,c,d):=I0 λq b=>h q (.tail _ b);show(s::e,by rw[aR,aR,c,a],by rw[aR,aR,d,a];rfl)
def b0x{ks:List Str}(h:kvs.map (·.1)=ks.map Sum.inr)(e:valZ kvs (.inr s)=be z):s∈ks:=by
 unfold valZ at e;cases e2:kvs.find? λg=>decide (g.1=Sum.inr s) with
 |none=>rw[e2]at e;cases e
 |some q=>
  let c:q.1=Sum.inr s:=by let:=eO e2;o_head this
  let:(Sum.inr s:Key)∈ks.map Sum.inr:=by rw[<- h,<- c];show bA (ei e2)
  let(x,b,d):=aX.mp this;cases d;show b
set_option tactic.hygienic true in
def a2V(T:Txt K mg base a):Mal P w K mg base CX0 3 a.c_Sheet "keys_at" (lowP K (a2U a)):=by
 show fnm 2 (N:=["self","knowing"]) (T.m_Sheet 3 _ rfl) ?_;walk_at "in";show(_,(a0c (a2F (q_m (qv 0) T.cl_Sheet (a0O T) hr (q_k (qv 1) a0J) ))
  (a0z (a1Z (c0g (q_B a9S (T.b 8) (q_k (q_l ["key","knowing","self"] [gV,be 1,be 0] (.nm 0) (hi:=(b4O (a6e T.cl_Sheet (T.n_Sheet 1 _ rfl) (qv 0)))) (ht:=λ_ _ _ _=>(a9c (b3X (q_m (qv 2) T.cl_Sheet (a0F T) hr (q_k (qv 0) (q_k (qv 1) a0J)) ) (λ_=>rfl))))) a0J)))))),?_)
 let(p,S,T',q,rfl,sh,hT,h):=h;let sh':=sh;let(dx,d,kvs,sm):=sh';lk;show(p,dx,_,rfl,sm.ob,a4O (by decide +kernel) (by decide +kernel),?_);lk;show(p,S,T',q,rfl,sh.v,?_);let(hq,fin)||⟨⟨⟩⟩:=h
 rw[if_pos (show 0<=q/\q<=T'.length from hq)];lk;show c0h sm.dc ?_;lk;show(p,dx,_,_,rfl,sm.ob,a6w,?_);lk;show c0e (.inl sm.dc) ?_;let smF:=sm.v.frz;let(ks,hk1,hk2):=b0w sm.sk;let hnd:ks.Nodup:=by
  let:=sm.nd
  rw[hk1]at this;show (ci.mp this).imp λh z=>h (by rw[z])
 let(hT2,kn,kn1,kn2):=hT;let hkl:ks.length<=63:=aU (b3l hnd λs hs=>by
  let(z,ez):=b8A hk1 hs;let(h,_,hh):=sm.hs s z ez;let(τ,t1,t2):=b8z (T:=T') (k:=s) (n:=0) (λz=>hh.ne z);rw[<- t2];show kn2 τ t1) kn1
 rw[hk2];ext D hD;show b1g (λi ys G'=>∃ts:List Str,ys=ts.map Z.str/\ts.Nodup/\(∀s,s∈ts↔s∈ks.take i/\NE (T'.take q.toNat) s)/\ts.length<=i/\Sm (put G d (.dF kvs)) G'/\G' D=be (.lst ys)) ([],rfl,.nil,λs=>by simp,aI _,Sm.new hD,a0a) (λ_ _ _ _ _=>True.intro) ?_ ?_
 .ext i x ys G' hx ⟨ts,rfl,hn,hm,hl,s,gD⟩;rw[aO]at hx;cases hx':ks[i]? with
  |none=>rw[hx']at hx;cases hx
  |some k=>
  rw[hx']at hx;cases hx;let hi:=(aM.mp hx').1;let ht1:ks.take (i+1)=ks.take i++[k]:=by rw[cf,hx'];rfl
  let nk:k∉ks.take i:=λz=>by
   let h1:(ks.take (i+1)).Nodup:=hnd.sublist (dL _ _);rw[ht1,b9]at h1;show h1.2.2 k z k (by simp) rfl
  let smA:=smF.keep (Sm.ks s);show(_,rfl,?_);lk;show(p,dx,_,rfl,smA.ob,a4O (by decide +kernel) (by decide +kernel),?_);lk;show(p,S,T',k,q,_,dx,d,kvs,rfl,smA,hq.1,hq.2,by lia,λt L G2 ht s2 gt il=>?_);show a9m gt ?_;cases hL:L with
  |nil=>
   lk;show(ts,rfl,hn,λy=>?_,by lia,s.trans s2,s2 _ _ gD);rw[hm,ht1,aJ,aK]
   constructor
   .show λ(a1,a2)=>(.inl a1,a2)
   .ext⟨a1 |rfl,a2⟩
    .show(a1,a2)
    .let(M,m1,m2):=a2;show absurd (m1.uniq il) (by rw[hL];show m2)
  |cons r L'=>
   lk;show(_,rfl,s2 _ _ gD,by rw[aH];show a0e (by lia),ts++[k],by rw[aQ];rfl,?_,λy=>?_,by rw[aW];simp;lia,(s.trans s2).put hD,a0a)
   .rw[b9];show(hn,by simp,λa1 h1 b1 h2 z=>nk (by rw[<- aK.mp h2,<- z];show ((hm a1).mp h1).1))
   .rw[aJ,hm,ht1,aJ,aK]
    constructor
    .ext (⟨a1,a2⟩ |rfl)
     .show(.inl a1,a2)
     .show(.inr rfl,L,il,by rw[hL];simp)
    .ext⟨a1 |rfl,a2⟩
     .show .inl (a1,a2)
     .show .inr rfl
 .ext ys G' ⟨ts,rfl,hn,hm,hl,s,gD⟩;rw[aH]at hm hl;rw[bK]at hm;lk;show a9T gD (by lia) λt us ht hp hs=>?_;let gd:G' d=be (.dF kvs):=s _ _ a0a;let td:t≠d:=Ne.symm (a0g gd ht);let fr:G t=gV:=by
   let h1:=s.free ht;rw[put_ne td]at h1;show h1
  let sm2:Sm G (put (put G' t (.lst (us.map Z.str))) d (.dK kvs)):=λb o e=>by
   by_cases c:b=d
   .rw[c,a0a,<- sm.dc,<- c];show e
   .rw[put_ne c];show a0b (s _ _ (by rw[put_ne c];show e)) ht
  show(a0b gd ht,fin t us _ fr sm2 (by rw[put_ne td];show a0a) (hs,hp.nodup_iff.mpr hn,λy=>?_) (by rw[hp.length_eq];lia));rw[hp.mem_iff,hm]
  constructor
  .show λz=>z.2
  .ext z;show(?_,z);cases e:valZ kvs (.inr y) with
   |some w=>show b0x hk1 e
   |none=>
    let(L,l1,l2):=z;show absurd (l1.uniq (IsLine.nil (a6x (sm.no y e) _))) l2
def a6y(ok:OkT T)(h:NE T s):nmOk s:=by
 let(L,a,d):=h
 by_cases c:∃τ∈T,τ.key=s
 .let(τ,f,e):=c;rw[<- e];show (ok τ f).k
 .let:putsK T s=[]:=by
   unfold putsK;rw[cY,dC];ext τ b;o_head λz=>c (τ,b,z)
  show absurd (a.uniq (IsLine.nil this)) d
def b5I{a:Ad}{G:Hq}{p:Addr}{S:Addr->Prop}{T:List Tl}(h:Sheet a G p S T):∃dx n d,G p=be (.ins a.c_Sheet dx (shF n d)):=let (_,_,_,m):=h;(_,_,_,m.ob)
structure TabD (G:Hq) (d:Addr) (T:List Tl) (ts:List Str) (kvs:List (Key×Z)):Prop where
 at_:G d=be (.dK kvs)
 ks:kvs.map (·.1)=ts.map (λs=>(Sum.inr s:Key))
 ka:KeysAt T ts
 ln:∀k∈ts,∃l L,valZ kvs (.inr k)=be (.ref l)/\G l=be (.lst (L.map Rw.z))/\IsLine T k L
 no:∀k,k∉ts->valZ kvs (.inr k)=gV
def TabD.keep(h:TabD G d T ts kvs)(s:Sm G G'):TabD G' d T ts kvs:=(s _ _ h.at_,h.ks,h.ka,λk e=>by let(l,L,a,b,c):=h.ln k e;show(l,L,a,s _ _ b,c),h.no)
def b0y(nd:(rows.map (·.1)).Nodup):a2K [] rows=rows:=by
 let c:∀a b,((b++a).map (·.1)).Nodup->a2K b a=b++a:=by
  ext a
  induction a with
  |nil=>ext b _;simp[a2K]
  |cons r a ih=>
   ext b h;let d:valZ b r.1=gV:=by
    cases e:valZ b r.1 with
    |none=>rfl
    |some z=>
     unfold valZ at e;cases e2:b.find? λi=>decide (i.1=r.1) with
     |none=>rw[e2]at e;cases e
     |some q=>
      rw[aQ,b9]at h;let g:q.1=r.1:=by let:=eO e2;o_head this
      show absurd g (h.2.2 q.1 (bA (ei e2)) r.1 (by simp))
   change a2K (putZ b r.1 r.2) a=_
   rw[a3u d,ih _ (by simp_all)];simp
 o_head c rows [] (by simp_all)
def a7x(nd:(kvs.map (·.1)).Nodup)(h:(k,z,)∈kvs):valZ kvs k=be z:=by
 induction kvs with
 |nil=>simp at h
 |cons q kvs ih=>
  rw[aR,bT]at nd;unfold valZ;rw[bI];let rfl||h:=aL.mp h
  .simp
  .let a:¬ q.1=k:=λb=>nd.1 (b▸bA h);rw[decide_eq_false a];show ih nd.2 h
def a4S(a:Ad):P3:=λws G R=>Ex4 λ(p:Addr) (S:Addr->Prop) (T:List Tl) (q:Int)=>ws=[.ref p,.int q]/\Sheet a G p S T/\OkT T/\Few T/\inR T q/\∀d ts kvs G',G d=gV->Sm G G'->TabD G' d (T.take q.toNat) ts kvs->ts.length<=63->R (.ref d) G'
set_option tactic.hygienic true in
def a4T(T:Txt K mg base a):Cal P w K mg base CX0 4 "table_at" (lowP K (a4S a)):=by
 show fnc 2 (N:=["sheet","knowing"]) T.br (T.f 14 _ rfl) ?_;walk_at "in";show(_,(a0z (a1Z (q_Y (b4V rfl) (T.b 12) (q_k (q_l ["key","knowing","sheet"] [gV,be 1,be 0] (.nm 0) (hi:=(a3b (q_m (qv 0) T.cl_Sheet (a2V T) hr (q_k (qv 1) a0J) ))) (he:=λ_ _ _ _=>(b31 (q_k (qv 0) (q_k (q_m (qv 2) T.cl_Sheet (a2T T) hr (q_k (qv 0) (q_k (qv 1) a0J)) ) a0J))))) a0J)))),?_);let(p,S,T',q,rfl,sh,ok,few,hq,fin):=h;let(dx,n,d0,ob):=b5I sh;lk;show(p,dx,_,rfl,ob,a4O (by decide +kernel) (by decide +kernel),?_);lk;show(p,S,T',q,rfl,sh,few,.inl (hq,λt ts G1 ht s1 gt ka hl=>?_));lk;show a1b gt ?_;ext D hD;let nd:(ts.map (λs=>(Sum.inr s:Key))).Nodup:=ci.mpr (ka.nd.imp λh z=>h (by injection z));show b1g (λi ys G'=>∃rows:List (Key×Z),ys=rows.map prZ/\rows.map (·.1)=(ts.take i).map (λs=>(Sum.inr s:Key))/\(∀k∈ts.take i,∃l L,((Sum.inr k:Key),Z.ref l,)∈rows/\l≠D/\G' l=be (.lst (L.map Rw.z))/\IsLine (T'.take q.toNat) k L)/\Sm G1 G'/\G' D=be (.lst ys)) ([],rfl,rfl,(λk h=>by simp at h),Sm.new hD,a0a) (by ext i ys G' _ ⟨_,_,_,_,s,_⟩;show s _ _ gt) ?_ ?_
 .ext i x ys G' hx ⟨rows,rfl,hr,hln,s,gD⟩;rw[aO]at hx;cases hx':ts[i]? with
  |none=>rw[hx']at hx;cases hx
  |some k=>
  rw[hx']at hx;cases hx;let hi:=(aM.mp hx').1;let hk:nmOk k:=a6y (fun τ hτ=>ok τ (bx hτ)) ((ka.is k).mp (aZ hx'));let sh2:=sh.keep (Sm.ks (s1.trans s));let(dx2,n2,d2,ob2):=b5I sh2;let hrl:rows.length<=63:=by let:=congrArg bj hr;rw[aH,aH,aY]at this;lia
  show(_,rfl,?_);lk;show(p,dx2,_,rfl,ob2,a4O (by decide +kernel) (by decide +kernel),?_);lk;show(p,S,T',.str k,q,rfl,sh2,(λ_=>b2w hk),few.1,.inl (hq,k,rfl,hk,λl L G2 hl2 s2 gl il=>?_));let nlD:l≠D:=Ne.symm (a0g gD hl2);lk;show(lenK rfl,s2 _ _ gD,by rw[aH];show a0e (by lia),rows++[(.inr k,.ref l,)],by rw[aQ];rfl,by rw[aQ,hr,take_snoc hx',aQ];rfl,λj hj=>?_,(s.trans s2).put hD,a0a);rw[take_snoc hx']at hj;let hj||hj:=aJ.mp hj
  .let(l',L',m1,m2,m3,m4):=hln j hj;show(l',L',cx _ m1,m2,by rw[put_ne m2];show s2 _ _ m3,m4)
  .rw[aK.mp hj];show(l,L,by simp,nlD,by rw[put_ne nlD];show gl,il)
 .ext ys G2 ⟨rows,rfl,hr,hln,s,gD⟩;rw[aH,bK]at hr hln;let hrl:rows.length=ts.length:=by let:=congrArg bj hr;rw[aH,aH]at this;show this
  let nd2:(rows.map (·.1)).Nodup:=by rw[hr];show nd
  lk;show b4W gD (by lia) λd hd=>?_;rw[b0y nd2];let s2:=s.trans (Sm.new (o:=.dK rows) hd);show fin d ts rows _ (s1.free (s.free hd)) (s1.trans s2) (a0a,hr,ka,λk hk=>?_,λk hk=>?_) hl
  .let(l,L,m1,m2,m3,m4):=hln k hk;show(l,L,a7x nd2 m1,a0b m3 hd,m4)
  .cases e:valZ rows (.inr k) with
   |none=>rfl
   |some z=>show absurd (b0x hr e) hk
local macro_rules | `(tactic| walk_at "go1")=>`(tactic| first | show i_I (show (0:Int)<_ by decide) ?_ | show i_I (by decide,by decide) ?_)
def b3m{α:Type}{xs:List α}{j:Nat}:cutZ xs gV (be (j:Int))=xs.take j:=by
 unfold cutZ;rw[HT.sIx_none,HT.sIx_nat];simp
structure TI (G4 G5:Hq) (t:Addr) (rs:List Addr) (T:List Tl):Prop where
 at_:G5 t=be (.lst (T.map Tl.z))
 kp:∀b o,b≠t->b∉rs->G4 b=be o->G5 b=be o
 row:∀r∈rs,RowAt G5 r
 nt:t∉rs
def TI.draw(h:TI G4 G5 t rs T)(hr:r∈rs)(k:Kq r G5 G6)(R6:RowAt G6 r):TI G4 G6 t rs T:=
 (k _ _ h.at_ λz=>h.nt (z▸hr),λb o g d e=>k _ _ (h.kp b o g d e) λz=>d (z▸hr),λa f=>by
  by_cases c:a=r
  .simp_all
  .show (h.row a f).kq k c,h.nt)
def TI.add(h:TI G4 G5 t rs T):TI G4 (put G5 t (.lst (T.map Tl.z++[τ.z]))) t rs (T++[τ]):=
 (by rw[a0a,aQ];rfl,λb o a d e=>by rw[put_ne a];show h.kp b o a d e,λr c=>(h.row r c).kq Kq.at λz=>h.nt (z▸c),h.nt)
def a6z:P3:=λws G R=>∃(a:Addr)(ns:List Int),ws=[.scr a ns,.int 63]/\ns.length<=63 /\
 ∀(t u:Addr)(T:List Tl)(rs:List Addr)(nms:List Str)(G':Hq),Sm G G'->G' t=be (.lst (T.map Tl.z))->G' u=be (.lst (rs.map Z.ref))->OkT T->T.length<=63->T.length=rs.length->nms.length=4->(∀τ∈T,τ.key∈nms)->(∀r∈rs,RowAt G' r/\r≠t/\r≠u/\G r=gV)->R (.tup [.ref t,.ref u]) G'
def b8B{ns:List Str}(h:∀s∈ns,nmOk s)(h0:0<=k)(h1:k<(ns.length:Int)):∃s,atI (ns.map Z.str) k=be (.str s)/\nmOk s/\s∈ns:=by
 let(j,rfl):=cM h0;let a:j<ns.length:=by lia
 show(ns[j],a0E (by simp_all),h _ (b5 a),b5 a)
def a6A(T:Txt K mg base a):Cal P w K mg base CX0 4 "_law_tellings" (lowP K a6z):=by
 show fnc 2 (N:=["script","many","first","head","keys","worths","rows","tellings","row","kind","key","worth","begin","end"]) T.br (T.f 33 _ rfl) ?_ (len:=λws G R h=>(by let(_,_,rfl,_):=h;rfl));walk_at "in";show(_,(a0c (by ac_rfl)
  (a0c (by ac_rfl)
  (a0c (by ac_rfl)
  (a0c (by ac_rfl)
  (a0c (z_l (nmI 6 nd) ["cell","first"] [gV,be 2] (.nm 0))
  (by ac_rfl)))))),?_)
 let(a,ns,rfl,hl,q):=h;lk;show(a,ns,0,rfl,by decide,λfirst=>?_);lk;let hw:first % 2=0\/first % 2=1:=by lia
 show(_,_,rfl,hw,λhd x w' hhd ok=>?_);lk;show(hd,4,rfl,RowAt.at ok,by decide,by decide,λnm nms G1 hnm gnm hlen hnms hR1 hK1=>?_);let s1:Sm G G1:=λb o h=>hK1 b o (a0b h hhd) (a0g h hhd);lk;show(hd,4,rfl,hR1,by decide,by decide,λwm wms G2 hwm gwm hlen2 hwms hR2 hK2=>?_);let s2:Sm G G2:=λb o h=>hK2 b o (s1 b o h) (a0g h hhd);let gnm2:=hK2 _ _ gnm λz=>by rw[z,a0a]at hnm;cases hnm
 clear hK1 hK2 hR1 hR2 s1 gnm hnm hwm;lk;show b9S λc hc=>?_;generalize ee:put G2 c _=G3;let(gc,s3):=newK ee hc;let lm:(cutZ ns gV (be 63)).length<=63:=by rw[show cutZ ns gV (be 63)=ns.take 63 from b3m (j:=63),aY];lia
 generalize cutZ ns gV (be 63)=M at gc lm;let gnm3:=s3 _ _ gnm2;let gwm3:=s3 _ _ gwm;let s23:=s2.trans s3;clear s2 gnm2 gwm hc ee s3;lk;show a1b gc ?_;ext D hD;show b1g (λi ys G'=>∃rs:List Addr,ys=rs.map Z.ref/\rs.length=i/\G' D=be (.lst ys)/\(∀b o,b≠D->G3 b=be o->G' b=be o)/\∀r∈rs,RowAt G' r/\r≠D/\G3 r=gV) ([],rfl,rfl,a0a,λb o nb e=>by rw[put_ne nb];show e,λr h=>(nomatch h)) ?_ ?_ ?_
 .ext i ys G' _ ⟨rs,_,_,_,k,_⟩;show k _ _ (a0g gc hD) gc
 .ext i x ys G' hx ⟨rs,rfl,hl',gD,k,hr⟩;let hi:=(aM.mp hx).1;rw[aH]at hi;rw[aO]at hx;cases hx':M[i]? with
  |none=>rw[hx']at hx;cases hx
  |some m=>
  rw[hx']at hx;cases hx;show(_,rfl,?_);lk;show(_,_,rfl,hw,λr x' w'' hr' ok'=>?_);let nD:r≠D:=λz=>by rw[z,gD]at hr';cases hr'
  let fr:G3 r=gV:=by
   cases e:G3 r with
   |none=>rfl
   |some o=>rw[k r o nD e]at hr';cases hr'
  show(a0b gD hr',by rw[aH];show a0e (by lia),rs++[r],by simp,by simp;lia,a0a,λb o nb e=>by rw[put_ne nb];show a0b (k b o nb e) hr',λr2 h2=>?_);let h2||h2:=aJ.mp h2
  .let(a1,a2,a3):=hr r2 h2;show((a1.new hr').kq Kq.at a2,a2,a3)
  .rw[aK.mp h2];show((RowAt.at ok').kq Kq.at nD,nD,fr)
 .ext ys G' ⟨rs,rfl,hl',gD,k,hr⟩;rw[aH]at hl';show(_,rfl,?_);lk;show(lenK rfl,λt ht=>?_);generalize ee4:put G' t _=G4;let(gt,s4):=newK ee4 ht;let nD:∀b o,G3 b=be o->b≠D:=λb o e=>a0g e hD;let nr:∀b o,G3 b=be o->b∉rs:=λb o e z=>by rw[(hr b z).2.2]at e;cases e
  let nt:∀b o,G3 b=be o->b≠t:=λb o e z=>by rw[<- z,k b o (nD b o e) e]at ht;cases ht
  let up:∀b o,G3 b=be o->G4 b=be o:=λb o e=>s4 _ _ (k b o (nD b o e) e);let tr:t∉rs:=λz=>by let(_,_,e,_):=(hr t z).1;rw[e]at ht;cases ht
  let tD:t≠D:=λz=>by rw[z,gD]at ht;cases ht
  let Dr:D∉rs:=λz=>(hr D z).2.1 rfl;let I0:TI G4 G4 t rs []:=(gt,λb o _ _ e=>e,λr h=>let (x,w,e,o):=(hr r h).1;(x,w,s4 _ _ e,o),tr);lk;show a1b (s4 _ _ gD) ?_;show a0H (λi σ G5=>Ex7 λ(T:List Tl) (v1 v2 v3 v4 v5 v6:Option Z)=>T.length=i/\OkT T/\(∀τ∈T,τ.key∈nms)/\TI G4 G5 t rs T/\σ=[be (.scr a ns),be (.int 63),be (.int first),be (.ref hd),be (.ref nm),be (.ref wm),be (.ref D),be (.ref t),v1,v2,v3,v4,v5,v6]) ([],_,_,_,_,_,_,rfl,fun τ h=>(nomatch h),fun τ h=>(nomatch h),I0,rfl) (by ext i σ G5 _ ⟨_,_,_,_,_,_,_,_,_,_,I,_⟩;show I.kp _ _ (Ne.symm tD) Dr (s4 _ _ gD)) ?_ ?_
  .ext i x σ G5 hx ⟨T,v1,v2,v3,v4,v5,v6,hT,okT,kT,I,rfl⟩;let hi:=(aM.mp hx).1;rw[aH]at hi;rw[aO]at hx;cases hx':rs[i]? with
   |none=>rw[hx']at hx;cases hx
   |some r=>
   rw[hx']at hx;cases hx;let mr:=aZ hx';show(_,rfl,?_);lk;show a1l (I.row r mr) (by decide) (by decide) λkd y w f0 f1 ok1=>?_
   replace I:=I.draw mr Kq.at (RowAt.at ok1)
   generalize put G5 r _=G6 at I ⊢;lk;show a1l (I.row r mr) (by decide) (by decide) λkk y w g0 g1 ok1=>?_
   replace I:=I.draw mr Kq.at (RowAt.at ok1)
   generalize put G6 r _=G7 at I ⊢;let(key,ek,okk,mk):=b8B hnms g0 (by lia);show a0y (I.kp _ _ (nt _ _ gnm3) (nr _ _ gnm3) (up _ _ gnm3)) ek ?_;lk;show a1l (I.row r mr) (by decide) (by decide) λkw y w j0 j1 ok1=>?_
   replace I:=I.draw mr Kq.at (RowAt.at ok1)
   generalize put G7 r _=G8 at I ⊢;let(wo,ew,okw,_):=b8B hwms j0 (by lia);show a0y (I.kp _ _ (nt _ _ gwm3) (nr _ _ gwm3) (up _ _ gwm3)) ew ?_;lk;show(r,rfl,I.row r mr,λb e G9 hst hR9 hK9=>?_)
   replace I:=I.draw mr hK9 hR9
   show(_,rfl,?_);lk;show ifD (λc=>?_) λc=>?_
   .lk;show a0U I.at_ ?_;lk;show(lenK rfl,?_);lk;show a0s I.at_ (by rw[aH];show a0e (by lia)) (T++[Tl.mk key gV b e],_,_,_,_,_,_,by simp;lia,fun τ h=>?_,fun τ h=>?_,I.add (τ:=(key,gV,b,e)),rfl)
    .let h||h:=aJ.mp h
     .show okT τ h
     .rw[aK.mp h];show(okk,λ_ z=>(nomatch z),hst)
    .let h||h:=aJ.mp h
     .show kT τ h
     .rw[aK.mp h];show mk
   .lk;show a0U I.at_ ?_;lk;show(lenK rfl,?_);lk;show a0s I.at_ (by rw[aH];show a0e (by lia)) (T++[Tl.mk key (be wo) b e],_,_,_,_,_,_,by simp;lia,fun τ h=>?_,fun τ h=>?_,I.add (τ:=(key,be wo,b,e)),rfl)
    .let h||h:=aJ.mp h
     .show okT τ h
     .rw[aK.mp h];show(okk,λs z=>by cases z;show okw,hst)
    .let h||h:=aJ.mp h
     .show kT τ h
     .rw[aK.mp h];show mk
  .ext σ G5 ⟨T,v1,v2,v3,v4,v5,v6,hT,okT,kT,I,rfl⟩;rw[aH]at hT;lk;show(lenK rfl,?_);show q t D T rs nms G5 (λb o e=>I.kp b o (nt _ _ (s23 _ _ e)) (nr _ _ (s23 _ _ e)) (up _ _ (s23 _ _ e))) I.at_ (I.kp _ _ (Ne.symm tD) Dr (s4 _ _ gD)) okT (by lia) (by lia) (by lia) kT λr h=>(I.row r h,λz=>tr (z▸h),(hr r h).2.1,by
    cases e:G r with
    |none=>rfl
    |some o=>let:=(hr r h).2.2;rw[s23 _ _ e]at this;cases this)
def b5J:P3:=λws G R=>Ex4 λ(p:Addr) (T:List Tl) (k:Str) (n:Int)=>ws=[.ref p,.str k,.int n]/\G p=be (.lst (T.map Tl.z))/\OkT T/\nmOk k/\T.length<=63/\0<=n/\∀(t:Addr)(G':Hq),G t=gV->Sm G G'->G' t=be (.lst ((putsK (T.take n.toNat) k).map Rw.z))->R (.ref t) G'
def b5K(T:Txt K mg base a):Cal P w K mg base CX0 1 "_law_puts" (lowP K b5J):=by
 show fnc 3 (N:=["tellings","key","knowing","puts","telling"]) T.br (T.f 35 _ rfl) ?_ (len:=λws G R h=>(by let(_,_,_,_,rfl,_):=h;rfl));walk_at "in";show(_,(by ac_rfl),?_);let(p,T,k,n,rfl,gp,ok,hk,hl,hn,q):=h;lk;show(lenK rfl,λt ht=>?_);generalize ee:put G t _=G1;let(gt,s1):=newK ee ht;lk;show b7q (s1 _ _ gp) λc hc=>?_;generalize ee2:put G1 c _=G2;let(gc,s2):=newK ee2 hc;let ct:cutZ (T.map Tl.z) gV (be n)=(T.take n.toNat).map Tl.z:=by
  let(j,rfl):=cM hn;rw[b3m,fC,Int.toNat_natCast]
 rw[ct]at gc;let okn:OkT (T.take n.toNat):=fun τ h=>ok τ (bx h);let ln:(T.take n.toNat).length<=63:=by rw[aY];lia
 generalize T.take n.toNat=U at gc okn ln q;let gt2:=s2 _ _ gt;let nct:c≠t:=λz=>by rw[z,gt]at hc;cases hc
 lk;show a1b gc ?_;show a0H (λi σ G'=>∃v:Option Z,Kq t G2 G'/\G' t=be (.lst ((putsK (U.take i) k).map Rw.z))/\σ=[be (.ref p),be (.str k),be (.int n),be (.ref t),v]) (_,λ_ _ e _=>e,gt2,rfl) (by ext i σ G' _ ⟨_,k,_⟩;show k _ _ gc nct) ?_ ?_
 .ext i x σ G3 hx ⟨v,kq,gt3,rfl⟩;rw[aO]at hx;cases hx':U[i]? with
  |none=>rw[hx']at hx;cases hx
  |some τ=>
  rw[hx']at hx;cases hx;let oτ:=okn τ (aZ hx');let hi:=(aM.mp hx').1;let lp:(putsK (U.take i) k).length<=63:=by
   unfold putsK;rw[aH];show aU (dh _ _) (by rw[aY];lia)
  let tk:=a2u (T:=U.take i) (τ:=τ) (k:=k);rw[<- take_snoc hx']at tk;rw[tk];generalize putsK (U.take i) k=P0 at gt3 lp;show(_,rfl,?_);let(key,w,b,e):=τ;let app:∀(z:Z)(v:Option Z),key=k->z=Rw.z (Tl.rw (key,w,b,e))->a2p (.ref t) [z] G3 (λ_ G'=>∃v':Option Z,Kq t G2 G'/\G' t=be (.lst ((P0++if (Tl.mk key w b e).key=k then [Tl.rw (key,w,b,e)] else []).map Rw.z))/\([be (.ref p),be (.str k),be (.int n),be (.ref t),v]:S3)=[be (.ref p),be (.str k),be (.int n),be (.ref t),v']):=λz v ek ez=>by
   show a0s gt3 (by rw[aH];show a0e (by lia)) (_,λb o e1 nb=>by rw[put_ne nb];show kq b o e1 nb,?_,rfl);rw[a0a,if_pos ek,aQ,ez]
   rfl
  let non:∀v:Option Z,key≠k->∃v':Option Z,Kq t G2 G3/\G3 t=be (.lst ((P0++if (Tl.mk key w b e).key=k then [Tl.rw (key,w,b,e)] else []).map Rw.z))/\([be (.ref p),be (.str k),be (.int n),be (.ref t),v]:S3)=[be (.ref p),be (.str k),be (.int n),be (.ref t),v']:=λv ek=>(_,kq,by rw[if_neg ek,bh];show gt3,rfl);cases w with
  |none=>
   rw[show Tl.z (key,gV,b,e)=.tup [.str b0r,.str key,.int b,oz e] from rfl];lk;show ifD (λc=>?_) λc=>?_
   .lk;show ifD (λc2=>?_) λc2=>?_
    .show absurd c2 (by decide +kernel)
    .lk;show ifD (λc3=>?_) λc3=>absurd c c3;lk;show a0U gt3 ?_;lk;show(lenK rfl,?_);lk;show app _ _ c rfl
   .show ifF ?_;lk;show ifD (λc3=>absurd c3 c) λc3=>?_;lk;show non _ c
  |some w=>
   rw[show Tl.z (key,be w,b,e)=.tup [.str sPut,.str key,.str w,.int b,oz e] from rfl];lk;show ifD (λc=>?_) λc=>?_
   .lk;show ifD (λ_=>?_) λz=>absurd rfl z;lk;show a0U gt3 ?_;lk;show(lenK rfl,?_);lk;show app _ _ c rfl
   .show ifF ?_;lk;show ifD (λc3=>absurd c3 c) λc3=>?_;lk;show non _ c
 .ext σ G3 ⟨v,kq,gt3,rfl⟩;rw[aH,bK]at gt3;lk;show q t G3 ht (λb o e=>kq b o (s2 _ _ (s1 _ _ e)) (a0g e ht)) gt3
noncomputable def fT(T:List Tl)(n:Int):FZ:=λk t=>lastAt (putsK (T.take n.toNat) k) t
def b2A(h:OkT T):FF (fT T n):=λk t=>a0B (a2v fun τ a=>h τ (bx a)) t
def OkC(A:List Cg):Prop:=∀c∈A,W2 c.r/\nmOk c.k
def OkC.fl1(h:OkC A):(A.map Cg.z).all (flat 1)=kP:=by
 rw[bU];ext x i;let(c,g,rfl):=aX.mp i;let((x,y,e,a,f),d):=h c g
 change ((Z.str c.k::.int c.r.b::oz c.r.e::c.r.w).all _)=kP
 rw[bu,bu,bu,e,bu,bu,a4L d,a4H,b0c,a,f];rfl
def OkC.fl8(h:OkC A):(A.map Cg.z).all (flat 8)=kP:=a7m (n:=1) (by decide) h.fl1
def OkC.add(h:OkC A)(w:W2 c.r)(k:nmOk c.k):OkC (A++[c]):=λd a=>by
 let a||a:=aJ.mp a
 .show h d a
 .rw[aK.mp a];show(w,k)
def a2A{rows S:List Rw}(hb:a0V rows bs)(sub:∀r∈rows,r∈S):bs.length<=2*S.length:=by
 let a:bs.Nodup:=hb.1.imp λh=>by lia
 let q:=a.length_le_of_subset (l₂:=S.flatMap λr=>r.b::r.e.toList) λx c=>by
  let(r,d,e):=(hb.2 x).mp c;show eZ.mpr (r,sub r d,?_);let e||e:=e
  .simp_all
  .rw[e];show .tail _ (.head _)
 show aU q ?_;clear q a sub hb
 induction S with
 |nil=>simp
 |cons r S ih=>
  rw[cN,aW,aV,aV]
  let:r.e.toList.length<=1:=by simp
  lia
def a7y{T:List Tl}(h:i<=j):∀r∈putsK (T.take i) k,r∈putsK (T.take j) k:=λr b=>by
 let(τ,a,rfl):=aX.mp b;let(a,c):=bD.mp a;show aX.mpr (τ,bD.mpr (?_,c),rfl)
 let:=List.take_take (i:=i) (j:=j) (l:=T)
 rw[Nat.min_eq_left h]at this;rw[<- this]at a;show bx a
def a23{T:List Tl}:(putsK (T.take j) k).length<=T.length:=by grind [putsK]
def b2B{T:List Tl}(hb:a0V (putsK (T.take i) k++putsK (T.take j) k) bs)(h:T.length<=63):bs.length<=126:=by
 let c||c:=Nat.le_total i j
 .let:=a2A hb λr a=>(aJ.mp a).elim (a7y c r) id
  let:=a23 (T:=T) (k:=k) (j:=j)
  lia
 .let:=a2A hb λr a=>(aJ.mp a).elim id (a7y c r)
  let:=a23 (T:=T) (k:=k) (j:=i)
  lia
theorem a3v:∀{ks:List Str},(∀k∈ks,L k=M k)->cgs ks L=cgs ks M
 |[],_=>rfl
 |k::ks,h=>by
  let a:=a3v λx b=>h x (.tail _ b);unfold cgs at a ⊢;rw[cN,cN,a,h k (.head _)]
def b2C(h:k∉ks):cgs (ks++[k]) (λx=>if x=k then l else L x)=cgs ks L++l.map (Cg.mk k):=by
 rw[<- a3v λx a=>if_neg λz:x=k=>h (z▸a)];unfold cgs;rw[List.flatMap_append,List.flatMap_singleton]
 change _++(if k=k then l else L k).map _=_
 rw[if_pos rfl]
def setE{α:Type}{tb:α->Prop}(EE:α)(h:∀e,e=EE->tb e):tb EE:=h EE rfl
def a6B:P3:=λws G R=>∃(p:Addr)(A:List Cg),ws=[.ref p]/\G p=be (.lst (A.map Cg.z))/\(∀c∈A,W2 c.r)/\A.length<=1000/\∀t,G t=gV->R (.ref t) (put G t (.lst ((turn A).map Cg.z)))
set_option tactic.hygienic true in
def a6C(T:Txt K mg base a):Cal P w K mg base CX0 1 "turned" (lowP K a6B):=by
 show fnc 1 (N:=["some"]) T.br (T.f 20 _ rfl) ?_;walk_at "in";show(_,(a0z (a1Z (q_l ["key","begin","end","then","now"] [gV,gV,gV,gV,gV] (.tp [0,1,2,3,4])))),?_);let(p,A,rfl,d,j,i,q):=h;lk;show a1b d ?_;ext D g;show a1z (g':=Cg.z) (λc=>be (c.k,(c.r.b,c.r.e,rev2 c.r.w))) (λm=>a0b d g) i ?_ ?_
 .ext c n m u o l s;let(x,y,e,_,_):=j c n;let(k,b,t,w):=c;cases e;show(_,rfl,?_);lk;show(lenK rfl,?_);show l _ rfl
 .lk;rw[show (A.filterMap λc=>be ((c.k,(c.r.b,c.r.e,rev2 c.r.w)):Cg))=turn A from by unfold turn;rw[<- gA];rfl];show q D g
def a3K:P3:=λws G R=>∃(k:Str)(p:Addr)(l:List Rw),ws=[.str k,.ref p]/\G p=be (.lst (l.map Rw.z))/\(∀r∈l,W2 r)/\l.length<=1000/\∀t,G t=gV->R (.ref t) (put G t (.lst (((unl l).map (Cg.mk k)).map Cg.z)))
def a3L(T:Txt K mg base a):Cal P w K mg base CX0 1 "unlike_of" (lowP K a3K):=by
 show fnc 2 (N:=["key","pieces"]) T.br (T.f 15 _ rfl) ?_ (len:=λws G R h=>(by let(_,_,_,rfl,_):=h;rfl));walk_at "in";show(_,(a0z (a1Z (q_l ["begin","end","then","now","key"] [gV,gV,gV,gV,be 0] (.tp [0,1,2,3])))),?_);let(k,p,l,rfl,g,i,s,q):=h;lk;show a1b g ?_;ext D d;show a1z (g':=Cg.z) (λr=>if unW r.w=kP then be (k,r) else gV) (λm=>a0b g d) s ?_ ?_
 .ext r hr m A v j o;let(x,y,e,t,n):=i r hr;let(b,u,w):=r;cases e;show(_,rfl,?_);lk;show a6s (a0r (by decide) t) (a0r (by decide) n) ?_;lk
  by_cases c:x=y
  .rw[decide_eq_true c];show ifF ?_;show o (by simp[unW,c])
  .rw[decide_eq_false c];show ifT ?_;lk;show(lenK rfl,?_);show j (k,(b,u,[x,y])) (by simp[unW,c])
 .rw[show (l.filterMap λr=>if unW r.w=kP then be ((k,r):Cg) else gV)=(unl l).map (Cg.mk k) from by
   unfold unl;rw[<- gA,List.filterMap_filter]
   congr 1]
  show q D d
def Pr2(l:List Rw):Prop:=∀r∈l,∃x y,r.w=[.tup [x,y]]/\flat 0 x=kP/\flat 0 y=kP
def Pr2.p1(h:Pr2 l):Pair1 l:=λr b=>by
 let(x,y,e,a,c):=h r b;show(_,e,by simp[flat,a,c])
def b3n(hb:a0V (l++o) bs)(hr:r∈join (pcs (laidF l o) bs)):∃t,r.w=[wz (val l t),wz (val o t)]/\¬ (wz (val l t)=.non/\wz (val o t)=.non):=by
 let(a,d,f):=(a3n (a4G _ hb.1)).2.2.2 r hr;let(_,e):=a4F d;unfold laidF at e
 split at e
 .grind
 .next c=>show(a.b,f.trans (be.inj e).symm,c)
set_option tactic.hygienic true in
def b2D{α β:Type}{f:α->β}{ps qs:List β}(h:ps.Perm qs):∀A:List α,qs=A.map f->∃B:List α,B.Perm A/\ps=B.map f:=by
 induction h with
 |nil=>show λA e=>([],by rw[cY.mp e.symm],rfl)
 |cons x _ ih=>
  ext A e
  match A,e with
  |a::A,e=>
   injection e with d g
   let(B,c,rfl):=ih A g;show(a::B,c.cons a,by rw[d];rfl)
 |swap x y l=>
  ext A e
  match A,e with
  |[],e=>cases e
  |[_],e=>cases e
  |a::b::A,e=>
   simp at e;let(rfl,rfl,rfl):=e;show(b::a::A,bn.swap a b A,rfl)
 |trans _ _ ih1 ih2=>
  ext A e;let(B,c,d):=ih2 A e;let(C,i,g):=ih1 B d;show(C,i.trans c,g)
def b8C{α β γ:Type}{f:α->β}{g:α->γ}(A:List α):(A.map f).zip (A.map g)=A.map λx=>(f x,g x,):=by grind
def b2E{α:Type}{f:α->Int}{g:α->Z}{A:List α}{os:List Z}(h:SOut (A.map f) (A.map g) os):∃B:List α,B.Perm A/\os=B.map g/\B.Pairwise λx y=>f x<=f y:=by
 let(d,c,rfl,a):=h;let(B,b,rfl):=b2D c A (b8C A);let a:=ci.mp a;show(B,b,by rw[bQ];rfl,a)
theorem a5M:∀{l m:List Rw},(l.Pairwise λx y=>x.b<y.b)->(m.Pairwise λx y=>x.b<=y.b)->m.Perm l->m=l
 |[],m,_,_,h=>h.eq_nil
 |y::l,[],_,_,h=>by let:=h.length_eq;simp at this
 |y::l,x::m,h1,h2,h=>by
  let e:x=y:=by
   let e||m1:=aL.mp (h.mem_iff.mp (bM))
   .lia
   .let e||m2:=aL.mp (h.mem_iff.mpr (bM))
    .simp_all
    .let d:=(aT.mp h1).1 x m1;let c:=(aT.mp h2).1 y m2
     lia
  subst e;rw[a5M (aT.mp h1).2 (aT.mp h2).2 h.cons_inv]
def b0z(h:B.Perm A)(s:B.Pairwise λx y=>x.r.b<=y.r.b)(k:Str)(r:Rise (a0m A k)):a0m B k=a0m A k:=by
 show a5M (cA.imp_of_mem (λ{x y} a _ q=>q.b (r.1 x a)) r.2) ?_ ((h.filter _).map _);unfold a0m;rw[ci];show s.sublist cE
def a2i:a0m (A++[c]) k=a0m A k++if c.k=k then [c.r] else []:=by
 unfold a0m
 by_cases e:c.k=k<;>simp[e]
def b8D:pr (l++m)=pr l++pr m:=aQ
structure PD (B0 G:Hq) (d:Addr) (A:List Cg) (vs:List Str) (kvs:List (Key×Z)):Prop where
 at_:G d=be (.dK kvs)
 ks:kvs.map (·.1)=vs.map λs=>(Sum.inr s:Key)
 nd:vs.Nodup
 ln:∀w∈vs,∃l,valZ kvs (.inr w)=be (.ref l)/\G l=be (.lst ((pr (a0m A w)).map Rw.z))/\B0 l=gV
 no:∀w,w∉vs->valZ kvs (.inr w)=gV
 al:∀w,w∈vs↔∃c∈A,c.k=w
 inj:∀w v l,valZ kvs (.inr w)=be (.ref l)->valZ kvs (.inr v)=be (.ref l)->w=v
 sm:Sm B0 G
 fr:B0 d=gV
def PD.len(H:PD B0 G d A vs kvs):kvs.length=vs.length:=by let:=congrArg bj H.ks;o_head this
def PD.short(H:PD B0 G d A vs kvs):vs.length<=A.length:=by
 let:=H.nd.length_le_of_subset λw b=>by
  let(c,a,e):=(H.al w).mp b;show aX.mpr (c,a,e)
 o_head this
def PD.weak(H:PD B0 G d A vs kvs)(s:Sm B1 B0):PD B1 G d A vs kvs:=
 (H.at_,H.ks,H.nd,λw e=>let (l,a,b,c):=H.ln w e;(l,a,b,s.free c),H.no,H.al,H.inj,s.trans H.sm,s.free H.fr)
def PD.keep(H:PD B0 G d A vs kvs)(s:Sm G G'):PD B0 G' d A vs kvs:=
 (s _ _ H.at_,H.ks,H.nd,λw e=>let (l,a,b,c):=H.ln w e;(l,a,s _ _ b,c),H.no,H.al,H.inj,H.sm.trans s,H.fr)
def b0A{A:List Cg}{c:Cg}{w:Str}:(∃d∈A++[c],d.k=w)↔(∃d∈A,d.k=w)\/c.k=w:=by
 constructor
 .ext⟨d,hd,e⟩;let hd||hd:=aJ.mp hd
  .show .inl (d,hd,e)
  .rw[aK.mp hd]at e;show .inr e
 .ext (⟨d,hd,e⟩ |e)
  .show(d,cx _ hd,e)
  .show(c,bz _ (.head _),e)
def PD.old(H:PD B0 G d A vs kvs)(hw:c.k∈vs)(hl:valZ kvs (.inr c.k)=be (.ref l))(s:Sm G Gx):PD B0 (put Gx l (.lst ((pr (a0m A c.k)).map Rw.z++[Rw.z (c.r.b,c.r.e,[.tup c.r.w])]))) d (A++[c]) vs kvs:=by
 let(q,g,p,i):=H.ln c.k hw;rw[hl]at g;cases g;let f:d≠l:=λz=>by let:=H.at_;rw[z,p]at this;cases this
 show(by rw[put_ne f];show s _ _ H.at_,H.ks,H.nd,λw h=>?_,H.no,λw=>?_,H.inj,λb o e=>?_,H.fr)
 .let(m,a,j,n):=H.ln w h
  by_cases cc:w=c.k
  .subst cc;rw[hl]at a;show(l,hl,?_,i);rw[a0a,a2i,if_pos rfl,b8D,aQ]
   rfl
  .show(m,a,?_,n);rw[put_ne λz=>cc (H.inj w c.k l (by grind) hl),a2i,if_neg (Ne.symm cc),bh];show s _ _ j
 .rw[b0A,<- H.al];show(.inl,λz=>z.elim id λe=>e▸hw)
 .rw[put_ne λz=>by rw[z,i]at e;cases e];show s _ _ (H.sm _ _ e)
def PD.new(H:PD B0 G d A vs kvs)(hw:c.k∉vs)(ht:G t=gV):PD B0 (put (put (put G t (.lst [])) d (.dK (putZ kvs (.inr c.k) (.ref t)))) t (.lst [Rw.z (c.r.b,c.r.e,[.tup c.r.w])])) d (A++[c]) (vs++[c.k]) (putZ kvs (.inr c.k) (.ref t)):=by
 let p:=a0g H.at_ ht;let D:=H.no c.k hw;let u:=H.sm.free ht;let n:∀b o,b≠d->G b=be o->put (put (put G t (.lst [])) d (.dK (putZ kvs (.inr c.k) (.ref t)))) t (.lst [Rw.z (c.r.b,c.r.e,[.tup c.r.w])]) b=be o:=λb o F e=>by
  let j:=a0g e ht;rw[put_ne j,put_ne F,put_ne j];show e
 let j:∀w l,valZ kvs (.inr w)=be (.ref l)->l≠t:=λw l e z=>by
  by_cases cc:w∈vs
  .let(y,m,i,_):=H.ln w cc;rw[e]at m;cases m;rw[z,ht]at i;cases i
  .rw[H.no w cc]at e;cases e
 show(by rw[put_ne p,a0a],by rw[a3u D,aQ,H.ks,aQ];rfl,?_,λw h=>?_,λw h=>?_,λw=>?_,λw v l f g=>?_,λb o e=>?_,H.fr)
 .rw[b9];show(H.nd,by simp,λa B b E z=>hw (by simp_all))
 .by_cases cc:w=c.k
  .subst cc;show(t,by rw[a0D,if_pos rfl],?_,u);let J:a0m A c.k=[]:=by
    unfold a0m;rw[dC.mpr λx I=>↑(λz:x.k=c.k=>hw ((H.al _).mpr (x,I,z)))]
    rfl
   rw[a0a,a2i,if_pos rfl,J]
   rfl
  .let s:w∈vs:=by
    let q||q:=aJ.mp h
    .show q
    .simp_all
   let(y,m,i,C):=H.ln w s;show(y,by rw[a0D,if_neg (λz=>cc (by injection z))];show m,?_,C);rw[n _ _ (λz=>by rw[z,H.at_]at i;cases i) i,a2i,if_neg (Ne.symm cc),bh]
 .rw[aJ,not_or]at h;rw[a0D,if_neg (λz=>h.2 (by simp_all))];show H.no w h.1
 .rw[b0A,<- H.al,aJ,aK];show or_congr Iff.rfl (Eq.symm,Eq.symm)
 .rw[a0D]at f g
  split at f<;>split at g
  .grind
  .injection f with f;injection f with f;show absurd f.symm (j _ _ g)
  .injection g with g;injection g with g;show absurd g.symm (j _ _ f)
  .show H.inj _ _ _ f g
 .show n _ _ (λz=>by rw[z,H.fr]at e;cases e) (H.sm _ _ e)
def a2B(a:Ad):P3:=λws G R=>∃(p:Addr)(A:List Cg),ws=[.ref p]/\G p=be (.lst (A.map Cg.z))/\OkC A/\(∀k,Rise (a0m A k))/\A.length<=600/\G a.tP=be lamO /\
 ∀(d:Addr)(B:List Cg)(vs:List Str)(kvs:List (Key×Z))(G':Hq),PD G G' d B vs kvs->B.Perm A->(∀k,a0m B k=a0m A k)->R (.ref d) G'
def a2C(T:Txt K mg base a):Cal P w K mg base CX0 4 "pairs_by_key" (lowP K (a2B a)):=by
 show fncL 1 (N:=["some","pairs","key","begin","end","then","now"]) T.br (T.f 17 _ rfl) T.lam ?_ (λws G R h=>(by let(_,_,rfl,_):=h;rfl)) (rfl,rfl,rfl,by decide +kernel,rfl,by decide +kernel,by decide +kernel) (by ext kV doc pm an cdv ct us hl;match us,hl with |[_],_=>rfl)
 ext f c A outer s H E ws G R hcd hr nd h;let hu:=b5i hr;show(_,(a0c (z_st (nmI 1 nd) a3V)
  (a0c (a1H (pt:=(.tp [2,3,4,5,6])) g5.never rfl (a3b (q_sk (y:="change") (N:=["change"]) (k:=0) (T.b 8) hr (qv 0) rfl hcd T.gP T.bi (λ_ _ _ _ _ _ hr nd=>(by ac_rfl)) (rfl,rfl,rfl,by decide +kernel,rfl,by decide +kernel,by decide +kernel) rfl rfl rfl (λ_ _ _ us hl=>match us,hl with |[_],_=>rfl))) (by ac_rfl)
  (by ac_rfl))
  (by ac_rfl))),?_)
 let(p,A',rfl,gp,ok,ri,hl,gT,q):=h;lk;ext D hD;show(_,rfl,?_);lk;show b44 ?_;lk;show(p,_,A'.map (·.r.b),rfl,a0b gp hD,by rw[aH];lia,a0b gT hD,by rw[aH,aH],λi w k hw hk=>?_,λt os ht so=>?_)
 .rw[aO]at hw hk;cases hh:A'[i]? with
  |none=>rw[hh]at hw;cases hw
  |some c=>
   rw[hh]at hw hk;cases hw;cases hk;lk;show a0W at1 (rfl,rfl)
 .let(B,pm,rfl,hs):=b2E so;let okB:OkC B:=λc hc=>ok c (pm.mem_iff.mp hc);let lB:B.length<=600:=by rw[pm.length_eq];show hl
  let nDt:D≠t:=a0g a0a ht;let hGt:G t=gV:=(Sm.new hD).free ht;let q:=λvs kvs G' H=>q D B vs kvs G' H pm λk=>b0z pm hs k (ri k);let H0:PD (put G t (.lst (B.map Cg.z))) (put (put G D (.dK [])) t (.lst (B.map Cg.z))) D [] [] []:=by
   show(by rw[put_ne nDt,a0a],rfl,.nil,(λw h=>by simp at h),λ_ _=>rfl,λw=>by simp,(λw v l e=>by cases e),λb o e=>?_,by rw[put_ne nDt];show hD)
   by_cases c:b=t
   .subst c;rw[a0a]at e ⊢;show e
   .rw[put_ne c]at e ⊢;show a0b e hD
  let gB:put G t (.lst (B.map Cg.z)) t=be (.lst (B.map Cg.z)):=a0a;let sB:Sm G (put G t (.lst (B.map Cg.z))):=Sm.new hGt;generalize put G t (.lst (B.map Cg.z))=B0 at H0 gB sB;generalize put (put G D (.dK [])) t (.lst (B.map Cg.z))=G1 at H0 ⊢;lk;show a1b (H0.sm _ _ gB) ?_;show a0H (λi σ G'=>Ex7 λ(vs:List Str) (kvs:List (Key×Z)) (v1 v2 v3 v4 v5:Option Z)=>PD B0 G' D (B.take i) vs kvs/\σ=[be (.ref p),be (.ref D),v1,v2,v3,v4,v5]) (_,_,_,_,_,_,_,H0,rfl) (by ext i σ G' _ ⟨_,_,_,_,_,_,_,H,_⟩;show H.sm _ _ gB) ?_ ?_
  .ext i x σ G2 hx ⟨vs,kvs,v1,v2,v3,v4,v5,H,rfl⟩;rw[aO]at hx;cases hx':B[i]? with
   |none=>rw[hx']at hx;cases hx
   |some c=>
   rw[hx']at hx;cases hx;let hi:=(aM.mp hx').1;let((x,y,e0,fx,fy),hk):=okB c (aZ hx');let tk:=take_snoc hx';let lv:=H.short;let lh:=H.len;rw[aY]at lv;let l3:(B.take i).length<=600:=by rw[aY];lia
   rw[tk];generalize B.take i=A0 at H lv l3;let(k,b,en,w):=c;cases e0;show(_,rfl,?_);lk;show a6f H.at_ ?_;lk;show(lenK rfl,λt0 ht0=>?_);lk;show b26 (a0b H.at_ ht0) rfl (a0e (by lia)) (λz hz=>?_) λhz=>?_
   .let hwv:k∈vs:=by
     by_cases c:k∈vs
     .show c
     .let:=H.no k c;rw[hz]at this;cases this
    let(l',e1,e2,_):=H.ln k hwv;rw[hz]at e1;cases e1;show a0U (a0b e2 ht0) ?_;lk;show(lenK rfl,?_);lk;show(lenK rfl,?_);lk;show a0s (a0b e2 ht0) ?_ (vs,kvs,_,_,_,_,_,H.old (c:=(k,(b,en,[x,y]))) hwv hz (Sm.new ht0),rfl);unfold pr a0m;rw[aH,aH,aH];show a0e (by let:=dh (λc:Cg=>decide (c.k=k)) A0;lia)
   .let hwv:k∉vs:=λc=>by
     let(l',e1,_):=H.ln k c;rw[hz]at e1;cases e1
    let ndt:D≠t0:=a0g H.at_ ht0;let gt0:put (put G2 t0 (.lst [])) D (.dK (putZ kvs (.inr k) (.ref t0))) t0=be (.lst []):=by rw[put_ne (Ne.symm ndt),a0a]
    show a0U gt0 ?_;lk;show(lenK rfl,?_);lk;show(lenK rfl,?_);lk;show a0s gt0 (a0e (by simp)) (vs++[k],putZ kvs (.inr k) (.ref t0),_,_,_,_,_,H.new (c:=(k,(b,en,[x,y]))) hwv ht0,rfl)
  .ext σ G2 ⟨vs,kvs,v1,v2,v3,v4,v5,H,rfl⟩;rw[aH,bK]at H;lk;show q vs kvs G2 (H.weak sB)
def b2F(c:Can l)(hr:r∈l):val l r.b=be r.w:=by
 induction l with
 |nil=>cases hr
 |cons s l ih=>
  rw[a0i];let rfl||hr:=aL.mp hr
  .rw[if_pos (a4D (c.1 _ (.head _)))]
  .let z:s.has r.b=kQ:=by
    cases e:s.has r.b with
    |false=>rfl
    |true=>
     let w:=((aT.mp c.2).1 r hr).lt.has e;rw[a4D (c.1 r (.tail _ hr))]at w;cases w
   rw[z,if_neg (by decide)];show ih c.tail hr
def a7z(h:r∈a0m A k):(k,r)∈A:=by
 let(c,d,rfl):=aX.mp h;let(a,b):=bD.mp d
 let:c.k=k:=↑b
 subst this;show a
noncomputable def CL.okC(a:CL f g A)(hf:FF f)(hg:FF g):OkC A:=λ_ hc=>a.w2 hf hg hc
def b8E(a:CL f g A)(hf:FF f)(hg:FF g)(k:Str):Pr2 (pr (a0m A k)):=λr d=>by
 let(s,b,rfl):=aX.mp d;let((x,y,e,h,c),_):=a.okC hf hg _ (a7z b);show(x,y,by change [Z.tup s.w]=_;rw[e],h,c)
def PD.get(H:PD B0 G d B vs kvs)(hr:∀k,a0m B k=a0m A k)(s:Sm G G')(g0:G' t0=be (.lst []))(k:Str) :
  ∃x,(valZ kvs (.inr k)).getD (.ref t0)=.ref x/\G' x=be (.lst ((pr (a0m A k)).map Rw.z)):=by
 by_cases c:k∈vs
 .let(l,e,f,_):=H.ln k c;show(l,by rw[e];rfl,by rw[<- hr];show s _ _ f)
 .show(t0,by rw[H.no k c];rfl,?_);let a:a0m B k=[]:=by
   unfold a0m;rw[dC.mpr λx b=>↑(λz:x.k=k=>c ((H.al _).mpr (x,b,z)))]
   rfl
  rw[<- hr,a];show g0
structure JL (f h:FZ) (k:Str) (l:List Rw):Prop where
 can:Can l
 v:∀t,val l t=dif (f k t) (h k t)
 len:l.length<=600
theorem b3o:∀{ks:List Str},(∀k∈ks,JL f h k (L k))->(cgs ks L).length<=ks.length*600
 |[],_=>by simp[cgs]
 |k::ks,q=>by
  let b:=b3o λx a=>q x (.tail _ a)
  let:=(q k (.head _)).len
  unfold cgs at b ⊢;rw[cN,aW,aH,aV]
  lia
def b8F(h:n<=9000):n<=sizeLine:=aU h (by decide)
noncomputable def insI(x:Int):List Int->List Int
 |[]=>[x]
 |y::ys=>if x<y then x::y::ys else if x=y then y::ys else y::insI x ys
theorem mem_insI:∀{l:List Int},z∈insI x l↔z=x\/z∈l
 |[]=>by simp[insI]
 |y::ys=>by
  unfold insI
  split
  .simp
  .split
   .simp_all
   .rw[aL,mem_insI,aL,or_left_comm]
theorem b0B:∀{l:List Int},l.Pairwise (·<·)->(insI x l).Pairwise (·<·)
 |[],_=>by simp[insI]
 |y::ys,h=>by
  let(e,f):=aT.mp h;unfold insI
  split
  .next c=>show aT.mpr (λz a=>by let rfl||a:=aL.mp a;show c;let:=e z a;lia,h)
  .split
   .cbv
   .next c d=>show aT.mpr (λz a=>by let rfl||a:=mem_insI.mp a;lia;show e z a,b0B f)
def a5N(rows:List Rw):∃bs,a0V rows bs:=by
 let g:∀c:List Int,∃a:List Int,a.Pairwise _/\∀x,x∈a↔x∈c:=λc=>by
  induction c with
  |nil=>show([],.nil,λ_=>Iff.rfl)
  |cons x c ih=>
   let(a,d,f):=ih;show(insI x a,b0B d,λz=>by rw[mem_insI,f,aL])
 let(a,d,f):=g _;show(a,a3r d f)
def b3p(c:CL (fT T n) (fT T m) C)(h:T.length<=63)(k:Str):(a0m C k).length<=126:=by
 let(b,a):=a5N (putsK _ k++putsK _ k);let d:=b8v a;rw[a1I (c.rows k).1 d.1 λt=>by rw[(c.rows k).2,d.2.1];rfl];show aU d.2.2 (b2B a h)
def a24{T:List Tl}(h:∀τ∈T,τ.key≠k):putsK (T.take i) k=[]:=by
 unfold putsK;rw[dC.mpr fun τ a=>↑(h τ (bx a))]
 rfl
def b8G{nms:List Str}(c:CL (fT T n) (fT T m) C)(h:T.length<=63)(hn:nms.length=4)(hk:∀τ∈T,τ.key∈nms):CB C:=by
 let u:∀k,a0m C k≠[]->k∈nms:=λk q=>Classical.byContradiction λz=>q (by
  show a1I (c.rows k).1 Can.nil λt=>?_;rw[(c.rows k).2];unfold fT;let p:=λi=>a24 (k:=k) (i:=i) fun τ G e=>z (e▸hk τ G);rw[p,p];show if_pos rfl)
 let w:=λk=>aU (b3p c h k) (by decide:126<=150);let v:=c;let(b,L,rfl,H,o,J,_,M):=v;let l:=λk=>a7u (L:=L) o k;let g:∀k∈b,a0m _ k=L k:=λk q=>by rw[l,if_pos q]
 show((nms,by lia,λd D=>?_),w,?_)
 .let(k,j,f):=eZ.mp D;let(r,F,rfl):=aX.mp f;show u k (by rw[g k j];show List.ne_nil_of_mem F)
 .rw[b0t];let I:(b.filter λk=>!(L k).isEmpty).length<=4:=by
   rw[<- hn];show (o.sublist cE).length_le_of_subset λk q=>?_;let(j,f):=bD.mp q;show u k (by simp_all)
  let B:∀a:List Str,(∀k∈a,k∈b)->(cgs a L).length<=a.length*126:=λa s=>by
   induction a with
   |nil=>simp[cgs]
   |cons k a ih=>
    let A:=ih λx y=>s x (.tail _ y);let E:=b3p c h k;rw[g k (s k (.head _))]at E;unfold cgs at A ⊢;rw[cN,aW,aH,aV]
    lia
  let:=B (b.filter λk=>!(L k).isEmpty) λk q=>(bD.mp q).1
  lia
def b2G{f g:Int->Z}(hl:∀t,wz (val l t)=f t)(ho:∀t,wz (val o t)=g t)(hb:a0V (l++o) bs) :
  Can (unl (join (pcs (laidF l o) bs)))/\∀t,val (unl (join (pcs (laidF l o) bs))) t=dif (f t) (g t):=by
 let q:=laid_ok hb;show(a8k q.1,λt=>?_);unfold unl;rw[a36 q.1.rise,q.2.1];unfold laidF dif;rw[hl,ho]
 by_cases a:f t=.non/\g t=.non
 .simp_all
 .rw[if_neg a]
  by_cases c:f t=g t<;>simp[eY,unW]
def b0C(ok:OkT T)(k:Str):∃L,IsLine T k L:=by
 let(f,b):=a5N _;let a:=b0b b;show(_,a.1,a4M (a2v ok) a.2.2.2,?_,a.2.1);let e:=a2A b λr d=>d;let c:=a23 (T:=T) (k:=k) (j:=T.length);rw[bK]at c
 lia
def none_of(ok:OkT T)(ka:KeysAt T ts)(c:k∉ts)(t:Int):optW (lastAt (putsK T k) t)=gV:=by
 let(L,a):=b0C ok k;cases L with
 |nil=>rw[<- a.v];rfl
 |cons r L=>show absurd ((ka.is k).mpr (_,a,by simp)) c
def TabD.get(H:TabD G d T ts kvs)(ok:OkT T)(s:Sm G G')(g0:G' t0=be (.lst []))(k:Str) :
  ∃x L,(valZ kvs (.inr k)).getD (.ref t0)=.ref x/\G' x=be (.lst (L.map Rw.z))/\IsLine T k L:=by
 by_cases c:k∈ts
 .let(l,L,a,b,e):=H.ln k c;show(l,L,by rw[a];rfl,s _ _ b,e)
 .show(t0,[],by rw[H.no k c];rfl,g0,Can.nil,Plain.nil,by simp,λt=>by rw[none_of ok H.ka c];rfl)
def TabD.few{ts nms:List Str}(H:TabD G d T ts kvs)(hn:nms.length=4)(hk:∀τ∈T,τ.key∈nms):ts.length<=4:=by
 rw[<- hn];show H.ka.nd.length_le_of_subset λk q=>Classical.byContradiction λz=>?_;let(L,a,c):=(H.ka.is k).mp q;show c (a.uniq (IsLine.nil ?_))
 let:=a24 (k:=k) (i:=T.length) fun τ b e=>z (e▸hk τ b)
 rwa [bK]at this
def Plain.p1(h:Plain l):Pair1 l:=λr a=>let (x,e,f):=h r a;(x,e,a0r (by simp) f)
def a5O(a:Ad):P3:=λws G R=>Ex6 λ(p:Addr) (S:Addr->Prop) (T:List Tl) (nms:List Str) (n m:Int)=>ws=[.ref p,.int n,.int m]/\Sheet a G p S T/\OkT T/\T.length<=63/\nms.length=4/\(∀τ∈T,τ.key∈nms)/\inR T n/\inR T m /\
 ∀(t:Addr)(C:List Cg)(G':Hq),G t=gV->Sm G G'->G' t=be (.lst (C.map Cg.z))->CL (fT T n) (fT T m) C->R (.ref t) G'
def a5P(T:Txt K mg base a):Cal P w K mg base CX0 5 "changes" (lowP K (a5O a)):=by
 show fnc 3 (N:=["sheet","knowing","later","table","later_table","told","key"]) T.br (T.f 16 _ rfl) ?_ (len:=λws G R h=>(by let(_,_,_,_,_,_,rfl,_):=h;rfl));walk_at "in";show(_,(a0c (by ac_rfl)
  (a0c (by ac_rfl)
  (a0c (by ac_rfl)
  (a0c (a1H (pt:=(.nm 6)) g5.never rfl (a3b (b8i rfl rfl (T.b 8) rfl rfl (T.b 9) rfl (q_k (qv 3) a0J) (q_k (qv 4) a0J) (he:=se_ rfl) (hpl:=hp_ rfl) (he2:=se_ rfl) (hpl2:=hp_ rfl))) (p_nm (nmI 6 nd))
  (by ac_rfl))
  (by ac_rfl))))),?_)
 let(p,S,T',nms,n,m,rfl,sh,ok,hl,hn,hk,r1,r2,fin):=h;let few:Few T':=(by lia,nms,by lia,hk);let ok1:OkT (T'.take n.toNat):=fun τ h=>ok τ (bx h);let ok2:OkT (T'.take m.toNat):=fun τ h=>ok τ (bx h);lk;show(p,S,T',n,rfl,sh,ok,few,r1,λd1 ts1 kv1 G1 hd1 s1 H1 _=>?_);lk;show(p,S,T',m,rfl,sh.keep (Sm.ks s1),ok,few,r2,λd2 ts2 kv2 G2 hd2 s2 H2 _=>?_)
 replace H1:=H1.keep s2
 let l1:=H1.few hn fun τ h=>hk τ (bx h);let l2:=H2.few hn fun τ h=>hk τ (bx h);let sG:=s1.trans s2;lk;show(lenK rfl,λW hW=>?_);generalize ee:put G2 W _=G3;let(gW,s3):=newK ee hW;lk;unfold uSSU;lk;show(ts1,(d1,kv1,rfl,.inl (s3 _ _ H1.at_),H1.ks,l1),?_);lk;show(ts2,(d2,kv2,rfl,.inl (s3 _ _ H2.at_),H2.ks,l2),λt ks ht so nd mem l8=>?_);let ntW:t≠W:=λz=>by rw[z,gW]at ht;cases ht
 generalize ee4:put G3 t _=G4;let(gt,s4):=newK ee4 ht;let kp:∀G',Kq W G4 G'->Sm G2 G':=λG' k b o e=>k _ _ (s4 _ _ (s3 _ _ e)) (a0g e hW);let gW4:=s4 _ _ gW;let okk:∀k∈ks,nmOk k:=λk hk=>by
  let h||h:=(mem k).mp hk
  .show a6y ok1 ((H1.ka.is k).mp h)
  .show a6y ok2 ((H2.ka.is k).mp h)
 lk;show a1b gt ?_;show a0H (λi σ G'=>∃(M:Str->List Rw)(v:Option Z),Kq W G4 G'/\G' W=be (.lst ((cgs (ks.take i) M).map Cg.z))/\(∀k∈ks.take i,JL (fT T' n) (fT T' m) k (M k))/\σ=[be (.ref p),be (.int n),be (.int m),be (.ref d1),be (.ref d2),be (.ref W),v]) (λ_=>[],_,λ_ _ e _=>e,gW4,λk h=>by simp at h,rfl) (by ext i σ G' _ ⟨_,_,k,_⟩;show k _ _ gt ntW) ?_ ?_
 .ext i x σ G5 hx ⟨M,v,kq,gW5,hM,rfl⟩;let hi:=(aM.mp hx).1;rw[aH]at hi;rw[aO]at hx;cases hx':ks[i]? with
  |none=>rw[hx']at hx;cases hx
  |some key=>
  rw[hx']at hx;cases hx;let nkey:key∉ks.take i:=λz=>by
   let(j,hj,e):=dv.mp z;rw[aY]at hj;rw[gC]at e;let(h2,e2):=aM.mp hx';show cD.mp nd j i (by lia) h2 (by lia) (e.trans e2.symm)
  let lD:(cgs (ks.take i) M).length<=4800:=by
   let:=b3o hM
   rw[aY]at this
   lia
  let fin2:=λl=>b2C (L:=M) (l:=l) nkey;rw[<- take_snoc hx']at fin2;generalize cgs (ks.take i) M=D0 at gW5 lD fin2;show(_,rfl,?_);lk;show a0U gW5 ?_;lk;show a6f (kp _ kq _ _ H1.at_) ?_;lk;show(lenK rfl,λt1 ht1=>?_);generalize ee6:put G5 t1 _=G6;let(g1,s6):=newK ee6 ht1;let(x1,L1,e1,gx1,il1):=H1.get ok1 ((kp _ kq).trans s6) g1 key;lk;show a65 (s6 _ _ (kp _ kq _ _ H1.at_)) rfl ?_;rw[e1];lk;show a6f (s6 _ _ (kp _ kq _ _ H2.at_)) ?_;lk;show(lenK rfl,λt2 ht2=>?_);generalize ee7:put G6 t2 _=G7;let(g2,s7):=newK ee7 ht2;let(x2,L2,e2,gx2,il2):=H2.get ok2 (((kp _ kq).trans s6).trans s7) g2 key;lk;show a65 (s7 _ _ (s6 _ _ (kp _ kq _ _ H2.at_))) rfl ?_;rw[e2];lk;let la:=il1.len;let lb:=il2.len;rw[aY]at la lb;show(x1,x2,L1,L2,rfl,s7 _ _ gx1,gx2,il1.can.rise,il1.pl.p1,il2.can.rise,il2.pl.p1,by lia,by lia,λu bs G8 hu s8 hb hbl gu=>?_);let v1:∀t,wz (val L1 t)=fT T' n key t:=λt=>by rw[il1.v,a6t];rfl
  let v2:∀t,wz (val L2 t)=fT T' m key t:=λt=>by rw[il2.v,a6t];rfl
  let uk:=b2G v1 v2 hb;let pl:=(laid_ok hb).2.2;let wk:∀r∈join (pcs (laidF L1 L2) bs),W2 r:=λr hr=>by
   let(t,e,_):=b3n hb hr;rw[v1,v2]at e;show(_,_,e,b2A ok _ _,b2A ok _ _)
  let lu:(unl (join (pcs (laidF L1 L2) bs))).length<=600:=aU (dh _ _) (by lia);lk;show(key,u,_,rfl,gu,wk,by lia,λy hy=>?_);generalize ee9:put G8 y _=G9;let(gy,s9):=newK ee9 hy;let s59:Sm G5 G9:=((s6.trans s7).trans s8).trans s9;generalize unl (join (pcs (laidF L1 L2) bs))=U at gy uk lu;lk;show a6Q (s59 _ _ gW5) gy (by rw[aH,aH,aH];show b8F (by lia)) ?_;show(λx=>if x=key then U else M x,_,λb o e nb=>by rw[put_ne nb];show s59 _ _ (kq _ _ e nb),?_,λk hk=>?_,rfl)
  .rw[a0a,fin2 U,aQ]
  .rw[take_snoc hx']at hk
   change JL _ _ k (if k=key then U else M k)
   by_cases c:k=key
   .rw[if_pos c,c];show(uk.1,uk.2,lu)
   .rw[if_neg c];let hk||hk:=aJ.mp hk
    .show hM k hk
    .show absurd (aK.mp hk) c
 .ext σ G5 ⟨M,v,kq,gW5,hM,rfl⟩;rw[aH,bK]at gW5 hM;lk;show fin W (cgs ks M) G5 (sG.free hW) (sG.trans (kp _ kq)) gW5 (ks,λk=>if k∈ks then M k else [],a3v λk hk=>(if_pos hk).symm,c0t so,nd,λk hk=>if_neg hk,okk,λk=>?_)
  change Can (if k∈ks then M k else [])/\∀t,val (if k∈ks then M k else []) t=_
  by_cases c:k∈ks
  .rw[if_pos c];show((hM k c).can,(hM k c).v)
  .rw[if_neg c];show(Can.nil,λt=>?_);let n1:=none_of ok1 H1.ka (k:=k) (λz=>c ((mem k).mpr (.inl z))) t;let n2:=none_of ok2 H2.ka (k:=k) (λz=>c ((mem k).mpr (.inr z))) t;let z:∀x:Z,optW x=gV->x=.non:=λx h=>by
    unfold optW at h
    split at h
    .assumption
    .cases h
   show (if_pos ((z _ n1).trans (z _ n2).symm)).symm
def b8H{A B:Prop}(h:A):if (!false)=kP then A else B:=h
def c0A{A B:Prop}(h:B):if (!true)=kP then A else B:=h
def b5L(h:t σ G λws G1=>sp ws G1 R EE):a9Q sp EE t σ G R:=h
local macro_rules | `(tactic| walk_at "go1")=>`(tactic| with_reducible first | apply b8H | apply c0A | apply b8j | apply b5L)
theorem a7A:∀{l:List Rw},Rise l->val (l.filterMap λr=>(h r.w).map λw=>((r.b,r.e,w):Rw)) t=(val l t).bind h
 |[],_=>rfl
 |r::l,g=>by
  rw[bV,a0i];let a:=a7A (h:=h) (t:=t) g.tail
  by_cases c:r.has t=kP
  .rw[if_pos c];let n:=a07 λs d=>((aT.mp g.2).1 s d).has c;rw[n]at a;cases e:h r.w with
   |none=>show a.trans e.symm
   |some w=>
    change val (_::_) t=h r.w
    rw[a0i,if_pos (show (Rw.mk r.b r.e w).has t=kP from c),e]
  .rw[if_neg c];cases e:h r.w with
   |none=>show a
   |some w=>
    change val (_::_) t=_
    rw[a0i,if_neg (show ¬ (Rw.mk r.b r.e w).has t=kP from c),a]
def b0D{h:List Z->Option (List Z)}(g:Rise l):Rise (l.filterMap λr=>(h r.w).map λw=>((r.b,r.e,w):Rw)):=by
 let i:∀r c:Rw,(h r.w).map (λw=>((r.b,r.e,w)))=be c->c.b=r.b/\c.e=r.e:=λr c e=>by
  cases q:h r.w with
  |none=>rw[q]at e;cases e
  |some w=>rw[q]at e;cases e;show(rfl,rfl)
 show(λr m=>?_,b5m (λr s c p q d f=>?_) g.2)
 .let(s,k,e):=cn.mp m;let(d,f):=i s r e
  let:=g.1 s k
  unfold Rw.good at *;rw[d,f];show this
 .let(x,a,b):=q;let(o,n):=i _ _ d;let(j,t):=i _ _ f;show(x,by rw[n];show a,by rw[j];show b)
noncomputable def nwW:List Z->Option (List Z)
 |[x,y]=>optW (if y=.non then x else sndZ y)
 |_=>gV
noncomputable def lch(l o:List Rw)(bs:List Int):List Rw:=join ((join (pcs (laidF l o) bs)).filterMap λr=>(nwW r.w).map λw=>(r.b,r.e,w))
def b8I{u f g:Int->Z}{l o:List Rw}{bs:List Int}(hl:∀t,wz (val l t)=u t)(ho:∀t,val o t=dif (f t) (g t))(hb:a0V (l++pr o) bs) :
  Can (lch l (pr o) bs)/\(∀t,val (lch l (pr o) bs) t=optW (if f t=g t then u t else g t))/\(lch l (pr o) bs).length<=bs.length:=by
 let q:=laid_ok hb;let j:=a3n (b0D (h:=nwW) q.1.rise);show(j.1,λt=>?_,aU j.2.2.1 (aU (cq _ _) q.2.2))
 change val (join _) t=_
 rw[j.2.1,a7A q.1.rise,q.2.1];unfold laidF;rw[hl,b2y (ho t)]
 by_cases a:f t=g t
 .rw[if_pos a,if_pos a]
  by_cases b:u t=.non
  .rw[if_pos (b,rfl),b];rfl
  .rw[if_neg λz=>b z.1]
   change nwW [u t,.non]=_
   simp[nwW]
 .simp[a,nwW,sndZ]
def c0B{u x y:Z}{w:List Z}(h:nwW [u,if x=y then .non else .tup [x,y]]=be w):w=[if x=y then u else y]:=by
 by_cases c:x=y
 .subst c;simp[nwW,optW]at h;simp[h.2]
 .simp[nwW,optW,c,sndZ]at h;simp[c,h.2]
def a2D(a:Ad):PX3:=λws G R EE=>Ex7 λ(p q:Addr) (l o:List Rw) (u f g:Int->Z)=>ws=[.ref p,.ref q]/\G p=be (.lst (l.map Rw.z))/\G q=be (.lst ((pr o).map Rw.z))/\Rise l/\Plain l/\Can o/\Pr2 (pr o)/\l.length<=150/\o.length<=150/\(∀t,wz (val l t)=u t)/\(∀t,val o t=dif (f t) (g t))/\(∀t,flat 0 (u t)=kP/\flat 0 (f t)=kP/\flat 0 (g t)=kP) /\
 ((∀t,f t≠g t->u t=f t)->∀(t:Addr)(L:List Rw)(G':Hq),G t=gV->Sm G G'->G' t=be (.lst (L.map Rw.z))->Can L->(∀t,val L t=optW (if f t=g t then u t else g t))->Plain L->R (.ref t) G') /\
 ((∃t,f t≠g t/\u t≠f t)->∀G',Sm G G'->EE a.x_NoFit G')
def a2E(T:Txt K mg base a):Cal P w K mg base (CXx P w) 4 "line_changed" (a4x K (a2D a)):=by
 show fncX 2 (N:=["line","pairs","pieces","begin","end","worth","pair","now"]) T.br (T.f 18 _ rfl) ?_ (len:=λws G R EE h=>(by let(_,_,_,_,_,_,_,rfl,_):=h;rfl));walk_at "inx";show(_,(a0c (by ac_rfl)
  (a0c (a1H (pt:=(.tp [3,4,5,6])) g5.leaving rfl (by ac_rfl) (by ac_rfl)
  (a0c (z_if (by ac_rfl)
  (a0z (b4M Outs.of ux rfl rfl T.x_NoFit T.xi_NoFit b6J (se_ rfl) b2S))
  a1Y)
  (by ac_rfl)))
  (by ac_rfl))),?_)
 let(p,q,l,o,u',f',g',rfl,gp,gq,rl,pl,co,po,zl,zo,vl,vo,ff,fin,bad):=h;lk;show(lenK rfl,λW hW=>?_);generalize ee:put G W _=G1;let(gW,s1):=newK ee hW;lk;show(p,q,l,pr o,rfl,s1 _ _ gp,s1 _ _ gq,rl,pl.p1,a7t (h:=λw=>[.tup w]) co.rise,po.p1,zl,by unfold pr;rw[aH];show zo,λx bs G2 hx s2 hb hbl gu=>?_);let gW2:=s2 _ _ gW;let nuW:x≠W:=λz=>by rw[z,gW]at hx;cases hx
 let lk:=b8I vl vo hb;let LW:=λ(r:Rw) (hr:r∈join (pcs (laidF l (pr o)) bs))=>b3n hb hr;let LL:=(laid_ok hb).2.2;let LV:∀t,f' t≠g' t->val (join (pcs (laidF l (pr o)) bs)) t=be [u' t,.tup [f' t,g' t]]:=λt c=>by
  rw[(laid_ok hb).2.1];unfold laidF;rw[vl,b2y (vo t),if_neg c,if_neg λz=>nomatch z.2]
 let hbl:bs.length<=600:=by
  unfold pr at hbl;rw[aH]at hbl
  lia
 unfold lch at lk;generalize join (pcs (laidF l (pr o)) bs)=J at gu LW LL lk LV;lk;show a1b gu ?_;show a0H (λi σ G'=>Ex5 λ(v1 v2 v3 v4 v5:Option Z)=>Kq W G2 G'/\G' W=be (.lst (((J.take i).filterMap λr=>(nwW r.w).map λw=>((r.b,r.e,w):Rw)).map Rw.z))/\(∀r∈J.take i,∀x y,r.w=[x,y]->y≠.non->fstZ y=x)/\σ=[be (.ref p),be (.ref q),be (.ref W),v1,v2,v3,v4,v5]) (_,_,_,_,_,λ_ _ e _=>e,gW2,λr h=>by simp at h,rfl) (by ext i σ G' _ ⟨_,_,_,_,_,k,_⟩;show k _ _ gu nuW) ?_ ?_
 .ext i x σ G3 hx ⟨v1,v2,v3,v4,v5,kq,gW3,hfit,rfl⟩;let s3:Sm G G3:=λb o e=>kq b o (s2 _ _ (s1 _ _ e)) (a0g e hW);rw[aO]at hx;cases hx':J[i]? with
  |none=>rw[hx']at hx;cases hx
  |some r=>
  rw[hx']at hx;cases hx;let hi:=(aM.mp hx').1;let(t,e,c):=LW r (aZ hx');rw[vl,b2y (vo t)]at e c;let tk:((J.take (i+1)).filterMap λr=>(nwW r.w).map λw=>((r.b,r.e,w):Rw))=((J.take i).filterMap λr=>(nwW r.w).map λw=>((r.b,r.e,w):Rw))++((nwW r.w).map λw=>((r.b,r.e,w):Rw)).toList:=by
   rw[take_snoc hx',fB]
   congr 1
  let lt:((J.take i).filterMap λr=>(nwW r.w).map λw=>((r.b,r.e,w):Rw)).length<=600:=aU (cq _ _) (by rw[aY];lia);let hfit2:(f' t≠g' t->f' t=u' t)->∀s∈J.take (i+1),∀x y,s.w=[x,y]->y≠.non->fstZ y=x:=λhf s hs x y e2 hy=>by
   rw[take_snoc hx']at hs;let hs||hs:=aJ.mp hs
   .show hfit s hs x y e2 hy
   .rw[aK.mp hs,e]at e2;simp only[bE.injEq,and_true]at e2;let(rfl,rfl):=e2
    by_cases eq:f' t=g' t
    .rw[if_pos eq]at hy;show absurd rfl hy
    .rw[if_neg eq];show hf eq
  generalize ((J.take i).filterMap λr=>(nwW r.w).map λw=>((r.b,r.e,w):Rw))=P0 at gW3 tk lt;rw[e]at tk;let(b,en,w):=r;cases e;let fl:=ff t;let app:∀(x:Z)(v1 v2 v3 v4 v5:Option Z),(f' t≠g' t->f' t=u' t)->nwW [u' t,if f' t=g' t then .non else .tup [f' t,g' t]]=be [x]->a2p (.ref W) [.tup [.int b,oz en,x]] G3 (λ_ G'=>Ex5 λ(u1 u2 u3 u4 u5:Option Z)=>Kq W G2 G'/\G' W=be (.lst (((J.take (i+1)).filterMap λr=>(nwW r.w).map λw=>((r.b,r.e,w):Rw)).map Rw.z))/\(∀r∈J.take (i+1),∀x y,r.w=[x,y]->y≠.non->fstZ y=x)/\([be (.ref p),be (.ref q),be (.ref W),v1,v2,v3,v4,v5]:S3)=[be (.ref p),be (.ref q),be (.ref W),u1,u2,u3,u4,u5]):=λx v1 v2 v3 v4 v5 hf ew=>by
   show a0s gW3 (by rw[aH];show a0e (by lia)) (_,_,_,_,_,λb o e1 nb=>by rw[put_ne nb];show kq b o e1 nb,?_,hfit2 hf,rfl);rw[a0a,tk,ew,aQ]
   rfl
  let non:∀(v1 v2 v3 v4 v5:Option Z),(f' t≠g' t->f' t=u' t)->nwW [u' t,if f' t=g' t then .non else .tup [f' t,g' t]]=gV->Ex5 λ(u1 u2 u3 u4 u5:Option Z)=>Kq W G2 G3/\G3 W=be (.lst (((J.take (i+1)).filterMap λr=>(nwW r.w).map λw=>((r.b,r.e,w):Rw)).map Rw.z))/\(∀r∈J.take (i+1),∀x y,r.w=[x,y]->y≠.non->fstZ y=x)/\([be (.ref p),be (.ref q),be (.ref W),v1,v2,v3,v4,v5]:S3)=[be (.ref p),be (.ref q),be (.ref W),u1,u2,u3,u4,u5]:=λv1 v2 v3 v4 v5 hf ew=>
   (_,_,_,_,_,kq,by rw[tk,ew];o_head gW3,hfit2 hf,rfl)
  show(_,rfl,?_)
  by_cases eq:f' t=g' t
  .rw[if_pos eq]at app non c ⊢;let fn:u' t≠.non:=λz=>c (z,rfl);lk;show ifN (λ_=>?_) λz=>absurd z fn;lk;show a0U gW3 ?_;lk;show(lenK rfl,?_);lk;show app (u' t) _ _ _ _ _ (λz=>absurd eq z) (by simp[nwW,optW,fn])
  .rw[if_neg eq]at app non c ⊢;lk;show a6s (a0r (by decide) fl.2.1) (a0r (by decide) fl.1) ?_
   by_cases fu:f' t=u' t
   .rw[decide_eq_true fu];lk;show ifN (λgn=>?_) λgn=>?_
    .lk;show a0U gW3 ?_;lk;show(lenK rfl,?_);lk;show app (g' t) _ _ _ _ _ (λ_=>fu) (by simp[nwW,optW,sndZ,gn])
    .lk;show non _ _ _ _ _ (λ_=>fu) (by simp[nwW,optW,sndZ,gn])
   .rw[decide_eq_false fu];lk;show bad (t,eq,Ne.symm fu) _ s3
 .ext σ G3 ⟨v1,v2,v3,v4,v5,kq,gW3,hfit,rfl⟩;rw[aH,bK]at gW3 hfit;lk;let s3:Sm G G3:=λb o e=>kq b o (s2 _ _ (s1 _ _ e)) (a0g e hW);let fin:=fin λt c=>by
   let(r,hr,_,e):=a7j (LV t c);show (hfit r hr _ _ e (λz=>nomatch z)).symm
  let w1:∀r∈J.filterMap (λr=>(nwW r.w).map λw=>((r.b,r.e,w):Rw)),∃x,r.w=[x]/\flat 0 x=kP:=λr hr=>by
   let(s,hs,e):=cn.mp hr;let(t,e1,c):=LW s hs;rw[vl,b2y (vo t)]at e1;cases q:nwW s.w with
   |none=>rw[q]at e;cases e
   |some w=>
    rw[q]at e;cases e;rw[e1]at q;show(_,c0B q,?_)
    split
    .show (ff t).1
    .show (ff t).2.2
  show(W,_,rfl,gW3,λr hr=>?_,aU (cq _ _) (by lia),λz hz=>fin z _ _ (s3.free hz) (s3.trans (Sm.new hz)) a0a lk.1 lk.2.1 λr hr=>?_)
  .let(x,e,f):=w1 r hr;show(by rw[e];simp,?_);rw[e,bu,a0r (by decide) f];rfl
  .obtain⟨t,e⟩:∃t,optW (if f' t=g' t then u' t else g' t)=be r.w:=(r.b,by rw[<- lk.2.1];show b2F lk.1 hr);let fy:flat 0 (if f' t=g' t then u' t else g' t)=kP:=by
    split
    .show (ff t).1
    .show (ff t).2.2
   generalize (if f' t=g' t then u' t else g' t)=y at e fy;unfold optW at e
   split at e
   .cases e
   .show(_,(be.inj e).symm,fy)
structure TabN (G:Hq) (d:Addr) (f:FZ) (ts:List Str) (kvs:List (Key×Z)):Prop where
 at_:G d=be (.dK kvs)
 ks:kvs.map (·.1)=ts.map (λs=>(Sum.inr s:Key))
 nd:ts.Nodup
 ln:∀k∈ts,∃l L,valZ kvs (.inr k)=be (.ref l)/\G l=be (.lst (L.map Rw.z))/\Can L/\Plain L/\L≠[]/\∀t,val L t=optW (f k t)
 no:∀k,k∉ts->valZ kvs (.inr k)=gV/\∀t,f k t=.non
def TabN.keep{G G':Hq}{d:Addr}{f:FZ}{ts:List Str}{kvs:List (Key×Z)}(H:TabN G d f ts kvs)(s:Sm G G'):TabN G' d f ts kvs:=(s _ _ H.at_,H.ks,H.nd,λk hk=>let (l,L,a,b,c):=H.ln k hk;(l,L,a,s _ _ b,c),H.no)
def a4U{x:Z}(h:optW x=gV):x=.non:=by
 unfold optW at h
 split at h
 .assumption
 .cases h
def TabD.n{G:Hq}{d:Addr}{T:List Tl}{ts:List Str}{kvs:List (Key×Z)}(H:TabD G d T ts kvs)(ok:OkT T):TabN G d (λk t=>lastAt (putsK T k) t) ts kvs:=(H.at_,H.ks,H.ka.nd,λk hk=>by
 let(l,L,a,b,c):=H.ln k hk;let(M,m1,m2):=(H.ka.is k).mp hk;show(l,L,a,b,c.can,c.pl,by rw[<- m1.uniq c];show m2,c.v),λk hk=>(H.no k hk,λt=>a4U (none_of ok H.ka hk t)))
def TabN.get{G G':Hq}{d t0:Addr}{f:FZ}{ts:List Str}{kvs:List (Key×Z)}(H:TabN G d f ts kvs)(s:Sm G G')(g0:G' t0=be (.lst []))(k:Str) :
  ∃x L,(valZ kvs (.inr k)).getD (.ref t0)=.ref x/\G' x=be (.lst (L.map Rw.z))/\Can L/\Plain L/\∀t,val L t=optW (f k t):=by
 by_cases c:k∈ts
 .let(l,L,e1,e2,e3,e4,_,e6):=H.ln k c;show(l,L,by rw[e1];rfl,s _ _ e2,e3,e4,e6)
 .show(t0,[],by rw[(H.no k c).1];rfl,g0,Can.nil,Plain.nil,λt=>by rw[(H.no k c).2];rfl)
def b5M{kvs:List (Key×Z)}{ts:List Str}(ks:kvs.map (·.1)=ts.map (λs=>(Sum.inr s:Key)))(nd:ts.Nodup){i:Nat}{p:Key×Z}(h:kvs[i]?=be p):∃k,k∈ts/\p.1=.inr k/\valZ kvs (.inr k)=be p.2:=by
 let k1:(ts.map (λs=>(Sum.inr s:Key)))[i]?=be p.1:=by rw[<- ks,aO,h];rfl
 rw[aO]at k1;cases e:ts[i]? with
 |none=>rw[e]at k1;cases k1
 |some k=>
  rw[e]at k1;let k1:Sum.inr k=p.1:=be.inj k1;show(k,aZ e,k1.symm,a7x (by rw[ks];show ci.mpr (nd.imp λh z=>h (by injection z))) ?_);rw[k1];show aZ h
def TabN.same{G:Hq}{d e:Addr}{f:FZ}{ts us:List Str}{kv kv2:List (Key×Z)}(H:TabN G d f ts kv)(K:TabN G e f us kv2):b2a (LEq G) G (.ref d) (.ref e):=by
 let sub:∀{d e:Addr}{ts us:List Str}{kv kv2:List (Key×Z)},TabN G d f ts kv->TabN G e f us kv2->∀k,k∈ts->k∈us:=λ{d e ts us kv kv2} H K k h=>Classical.byContradiction λc=>by
  let(l,L,_,_,a3,_,a5,a6):=H.ln k h;show a5 (a1I a3 Can.nil λt=>by rw[a6,(K.no k c).2 t];rfl)
 let el:ts.length=us.length:=((gx H.nd K.nd).mpr λk=>(sub H K k,sub K H k)).length_eq;let l1:=congrArg bj H.ks;let l2:=congrArg bj K.ks;simp at l1 l2;show(d,e,kv,kv2,rfl,rfl,.inl H.at_,.inl K.at_,by lia,λi p hp=>?_);let(k,hk,e1,e2):=b5M H.ks H.nd hp;let(l,L,a1,a2,a3,a4,_,a6):=H.ln k hk;let(l',M,b1,b2,b3,b4,_,b6):=K.ln k (sub H K k hk);rw[e2]at a1
 let:L=M:=a1I a3 b3 λt=>by rw[a6,b6]
 subst this;show(_,by rw[e1];show b1,l,l',_,be.inj a1,rfl,a2,b2,a3o a4.okR)
def LB(u:FZ):Prop:=∀k L,Can L->(∀t,val L t=optW (u k t))->L.length<=150
def a5Q(a:Ad):PX3:=λws G R EE=>Ex8 λ(d q:Addr) (B:List Cg) (ts:List Str) (kvs:List (Key×Z)) (u f g:FZ)=>ws=[.ref d,.ref q]/\TabN G d u ts kvs/\ts.length<=4/\LB u/\G q=be (.lst (B.map Cg.z))/\CL f g B/\CB B/\FF u/\FF f/\FF g/\G a.tP=be lamO /\
 ((u=f/\∀(W:Addr)(us:List Str)(kv:List (Key×Z))(G':Hq),G W=gV->Sm G G'->TabN G' W g us kv->R (.ref W) G')\/(u=g/\B≠[]/\∀G',Sm G G'->EE a.x_NoFit G'))
def a08(T:Txt K mg base a):Cal P w K mg base (CXx P w) 5 "changed" (a4x K (a5Q a)):=by
 show fncX 2 (N:=["tables","some","pairs","told","key","line"]) T.br (T.f 19 _ rfl) ?_ (len:=λws G R EE h=>(by let(_,_,_,_,_,_,_,_,rfl,_):=h;rfl));walk_at "inx";show(_,(a0c (by ac_rfl)
  (a0c (z_st (nmI 3 nd) a3V)
  (a0c (a1H (pt:=(.nm 4)) g5.leaving rfl (a3b (b8i rfl rfl (T.b 8) rfl rfl (T.b 9) rfl (q_k (qv 0) a0J) (q_k (qv 2) a0J) (he:=se_ rfl) (hpl:=hp_ rfl) (he2:=se_ rfl) (hpl2:=hp_ rfl))) (p_nm (nmI 4 nd))
  (a0c (z_st (nmI 5 nd) (q_cX (b05 Outs.of) ux.since (a2E T) hr (by ac_rfl) ))
  (a0z (z_if (b3X (qv 5) (λ_=>rfl))
  (a0z (a2H (qv 5) (qv 3) (qv 4) (a61 hu)))
  a1Y))))
  (by ac_rfl)))),?_)
 let(d,q,B',ts,kvs,u',f',g',rfl,H1,l1,lbu,gq,cb,bb,fu,ff,fg,gT,fin):=h;lk;show(q,B',rfl,gq,cb.okC ff fg,λk=>(cb.rows k).1.rise,bb.all,gT,λd2 P2 vs2 kv2 G1 H2 pm2 r2=>?_)
 replace H1:=H1.keep H2.sm
 let l2:vs2.length<=4:=by
  let(ns,a1,a2):=bb.ks;show aU (H2.nd.length_le_of_subset λw hw=>by let(c,h1,h2):=(H2.al w).mp hw;rw[<- h2];show a2 c (pm2.mem_iff.mp h1)) a1
 lk;ext W hW;show(_,rfl,?_);generalize ee:put G1 W _=G2;let(gW,s2):=newK ee hW;lk;unfold uSSU;lk;show(ts,(d,kvs,rfl,.inl (s2 _ _ H1.at_),H1.ks,l1),?_);lk;show(vs2,(d2,kv2,rfl,.inl (s2 _ _ H2.at_),H2.ks,l2),λt ks ht so nd mem l8=>?_);let ntW:t≠W:=λz=>by rw[z,gW]at ht;cases ht
 generalize ee4:put G2 t _=G4;let(gt,s4):=newK ee4 ht;let kp:∀G',Kq W G4 G'->Sm G1 G':=λG' k b o e=>k _ _ (s4 _ _ (s2 _ _ e)) (a0g e hW);let gW4:=s4 _ _ gW;lk;show a1b gt ?_;show a0H (λi σ G'=>Ex4 λ(us:List Str) (kv:List (Key×Z)) (v1 v2:Option Z)=>Kq W G4 G'/\G' W=be (.dK kv)/\us.Sublist (ks.take i)/\kv.map (·.1)=us.map (λs=>(Sum.inr s:Key))/\(∀k∈us,∃l L,valZ kv (.inr k)=be (.ref l)/\l≠W/\G' l=be (.lst (L.map Rw.z))/\Can L/\Plain L/\L≠[]/\∀t,val L t=optW (g' k t))/\(∀k,k∉us->valZ kv (.inr k)=gV/\(k∈ks.take i->∀t,g' k t=.non))/\(∀k∈ks.take i,∀t,f' k t≠g' k t->u' k t=f' k t)/\σ=[be (.ref d),be (.ref q),be (.ref d2),be (.ref W),v1,v2])
  ([],[],_,_,λ_ _ e _=>e,gW4,List.nil_sublist _,rfl,(λk h=>by cases h),λk _=>(rfl,λh=>by simp at h),λk h=>by simp at h,rfl) (by ext i σ G' _ ⟨_,_,_,_,k,_⟩;show k _ _ gt ntW) ?_ ?_
 .ext i x σ G5 hx ⟨us,kv,v1,v2,kq,gW5,hus,hks,hln,hno,hft,rfl⟩;let hi:=(aM.mp hx).1;rw[aH]at hi;rw[aO]at hx;cases hx':ks[i]? with
  |none=>rw[hx']at hx;cases hx
  |some key=>
  rw[hx']at hx;cases hx;let nkey:key∉ks.take i:=λz=>by
   let(j,hj,e):=dv.mp z;rw[aY]at hj;rw[gC]at e;let(h2,e2):=aM.mp hx';show cD.mp nd j i (by lia) h2 (by lia) (e.trans e2.symm)
  let nus:key∉us:=λz=>nkey (hus.subset z);let lus:us.length<=8:=by let:=hus.length_le;rw[aY]at this;lia
  let lkv:kv.length<=8:=by let:=congrArg bj hks;simp at this;lia
  show(_,rfl,?_);lk;show a6f (kp _ kq _ _ H1.at_) ?_;lk;show(lenK rfl,λt1 ht1=>?_);generalize ee6:put G5 t1 _=G6;let(g1,s6):=newK ee6 ht1;let(x1,L1,e1,gx1,cL1,pL1,vL1):=H1.get ((kp _ kq).trans s6) g1 key;lk;show a65 (s6 _ _ (kp _ kq _ _ H1.at_)) rfl ?_;rw[e1];lk;show a6f (s6 _ _ (kp _ kq _ _ H2.at_)) ?_;lk;show(lenK rfl,λt2 ht2=>?_);generalize ee7:put G6 t2 _=G7;let(g2,s7):=newK ee7 ht2;let(x2,e2,gx2):=H2.get r2 (((kp _ kq).trans s6).trans s7) g2 key;lk;show a65 (s7 _ _ (s6 _ _ (kp _ kq _ _ H2.at_))) rfl ?_;rw[e2];lk;let lb:=bb.ln key;let rb:=cb.rows key;let va:∀t,wz (val L1 t)=u' key t:=λt=>by rw[vL1,a6t]
  show(x1,x2,L1,a0m B' key,u' key,f' key,g' key,rfl,s7 _ _ gx1,gx2,cL1.rise,pL1,rb.1,b8E cb ff fg key,lbu key L1 cL1 vL1,lb,va,rb.2,λt=>(fu _ _,ff _ _,fg _ _),λhfit y L G8 hy s8 gy cL vL pL=>?_,λhb G8 s8=>?_)
  .let vL:∀t,val L t=optW (g' key t):=λt=>by
    rw[vL]
    split
    .next z=>
     let(rfl,_)||(rfl,_):=fin
     .rw[z]
     .rfl
    .rfl
   let hft2:∀k∈ks.take (i+1),∀t,f' k t≠g' k t->u' k t=f' k t:=λk hk t c=>by
    rw[take_snoc hx']at hk;let hk||hk:=aJ.mp hk
    .show hft k hk t c
    .rw[aK.mp hk]at c ⊢;show hfit t c
   let s58:Sm G5 G8:=(s6.trans s7).trans s8;let nyW:y≠W:=λz=>by rw[z,s7 _ _ (s6 _ _ gW5)]at hy;cases hy
   let kq8:Kq W G4 G8:=λb o e nb=>s58 _ _ (kq _ _ e nb);lk;show a9m gy ?_;cases hL:L with
   |nil=>
    lk;show(us,kv,_,_,kq8,s58 _ _ gW5,by rw[take_snoc hx'];show hus.trans (List.sublist_append_left _ _),hks,λk hk=>?_,λk hk=>?_,hft2,rfl)
    .let(l,M,a1,a2,a3,a4):=hln k hk;show(l,M,a1,a2,s58 _ _ a3,a4)
    .show((hno k hk).1,λh t=>?_);rw[take_snoc hx']at h;let h||h:=aJ.mp h
     .show (hno k hk).2 h t
     .rw[aK.mp h]
      let:=vL t
      rw[hL]at this;show a4U this.symm
   |cons r L'=>
    lk
    change if (!false)=kP then _ else _
    show b8H ?_;lk;show a62 (s58 _ _ gW5) rfl (a0e (by lia)) ?_;let hv:=(hno key nus).1;show(us++[key],putZ kv (.inr key) (.ref y),_,_,λb o e nb=>by rw[put_ne nb];show kq8 _ _ e nb,a0a,by rw[take_snoc hx'];show hus.append_right _,by rw[a3u hv,aQ,hks,aQ];rfl,λk hk=>?_,λk hk=>?_,hft2,rfl)
    .by_cases c:k=key
     .subst c;show(y,L,by rw[a0D,if_pos rfl],nyW,by rw[put_ne nyW];show gy,cL,pL,by rw[hL];simp,vL)
     .let hk2:k∈us:=by
       let h||h:=aJ.mp hk
       .show h
       .show absurd (aK.mp h) c
      let(l,M,a1,a2,a3,a4):=hln k hk2;show(l,M,by rw[a0D,if_neg λz=>c (by injection z)];show a1,a2,by rw[put_ne a2];show s58 _ _ a3,a4)
    .rw[aJ,not_or]at hk;let c:k≠key:=λz=>hk.2 (by rw[z];simp);show(by rw[a0D,if_neg λz=>c (by injection z)];show (hno k hk.1).1,λh t=>?_);rw[take_snoc hx']at h;let h||h:=aJ.mp h
     .show (hno k hk.1).2 h t
     .show absurd (aK.mp h) c
  .let(rfl,_)||(rfl,_,bad):=fin
   .let(t,_,z):=hb;show absurd rfl z
   .show bad _ (H2.sm.trans ((kp _ kq).trans ((s6.trans s7).trans s8)))
 .ext σ G5 ⟨us,kv,v1,v2,kq,gW5,hus,hks,hln,hno,hft,rfl⟩;rw[aH,bK]at hus hno hft;lk;let emp:∀k,k∉ks->a0m B' k=[]:=λk c=>by
   cases e:a0m B' k with
   |nil=>rfl
   |cons r l=>show absurd ((mem k).mpr (.inr ((H2.al k).mpr ((k,r),pm2.mem_iff.mpr (a7z (by rw[e];show .head _)),rfl)))) c
  let(rfl,fin)||(rfl,ne,_):=fin
  .show fin W us kv G5 (H2.sm.free hW) (H2.sm.trans (kp _ kq)) (gW5,hks,nd.sublist hus,λk hk=>let (l,L,a1,_,a3,a4):=hln k hk;(l,L,a1,a3,a4),λk hk=>((hno k hk).1,λt=>?_))
   by_cases c:k∈ks
   .show (hno k hk).2 c t
   .let a2:=(cb.rows k).2 t;rw[emp k c]at a2;let b2:u' k t=g' k t:=by
     unfold dif at a2
     split at a2
     .assumption
     .cases a2
    rw[<- b2];show (H1.no k λz=>c ((mem k).mpr (.inl z))).2 t
  .exfalso;let(c,hc):=f8 _ ne
   let hr:c.r∈a0m B' c.k:=aX.mpr (c,bD.mpr (hc,by simp),rfl);let hk:c.k∈ks:=Classical.byContradiction λz=>by rw[emp _ z]at hr;cases hr
   let(_,n):=a5J (cb.rows c.k).1 (cb.rows c.k).2 hr;show n (hft c.k hk c.r.b n).symm
def a3w{kvs:List (Key×Z)}{k j:Key}:valZ (a3l kvs k) j=if j=k then gV else valZ kvs j:=by
 unfold a3l valZ
 induction kvs with
 |nil=>simp
 |cons p r ih=>
  by_cases c:p.1=k
  .rw[eM ↑c,ih,bI]
   by_cases d:j=k
   .rw[if_pos d,if_pos d]
   .rw[if_neg d,if_neg d,decide_eq_false (λz=>d (z.symm.trans c))]
  .rw[eN ↑c,bI,bI];cases h:decide (p.1=j) with
   |false=>show ih
   |true=>
    let:=of_decide_eq_true h
    rw[if_neg λz=>c (this.trans z)]
def b0E{kvs:List (Key×Z)}{ts:List Str}(h:kvs.map (·.1)=ts.map (λs=>(Sum.inr s:Key)))(key:Str)(v:Z)(hv:∀k,k∉ts->valZ kvs (.inr k)=gV):∃us:List Str,(putZ kvs (.inr key) v).map (·.1)=us.map (λs=>(Sum.inr s:Key))/\(ts.Nodup->us.Nodup)/\∀k,k∈us↔k∈ts\/k=key:=by
 by_cases c:key∈ts
 .show(ts,?_,id,λk=>(.inl,λz=>z.elim id λe=>e▸c));unfold putZ;let ha:(kvs.any λkv=>decide (kv.1=Sum.inr key))=kP:=by
   let:(Sum.inr key:Key)∈kvs.map (·.1):=by rw[h];show bA c
   let(p,hp,e):=aX.mp this;show cj.mpr (p,hp,↑e)
  rw[if_pos ha,<- h,bQ];show d6 λp _=>?_
  change (if p.1=Sum.inr key then (p.1,v,) else p).1=p.1
  split<;>rfl
 .show(ts++[key],by rw[a3u (hv key c),aQ,h,aQ];rfl,λnd=>b9.mpr (nd,by simp,λx hx y hy=>by rw[aK.mp hy];ext rfl;show c hx),λk=>by simp)
def TabN.up{G G':Hq}{d:Addr}{u:FZ}{ts:List Str}{kvs:List (Key×Z)}{tb:Addr}{ds:List Addr}(H:TabN G d u ts kvs)(gt:G tb=be (.lst (ds.map Z.ref)))(k:∀b o,b≠tb->G b=be o->G' b=be o):TabN G' d u ts kvs:=
 (k _ _ (λz=>by let:=H.at_;rw[z,gt]at this;cases this) H.at_,H.ks,H.nd,(λx hx=>by
  let(l,L,a,b,c,p,n,v):=H.ln x hx;show(l,L,a,k _ _ (λz=>?_) b,c,p,n,v);rw[z,gt]at b;let b:ds.map Z.ref=L.map Rw.z:=↑b
  cases L with
  |nil=>show n rfl
  |cons r L=>
   cases ds with
   |nil=>cases b
   |cons d ds=>
    rw[aR,aR]at b
    let:=(bE.inj b).1
    cases this),H.no)
def b8J{T:List Tl}{i:Nat}{τ:Tl}(h:T[i]?=be τ){k:Str}(n:k≠τ.key):fT T ((i:Int)+1) k=fT T i k:=by
 funext t
 unfold fT;rw[show ((i:Int)+1).toNat=i+1 by lia,show (i:Int).toNat=i by lia,take_snoc h,a2u,if_neg (Ne.symm n),bh]
def b8K{T:List Tl}{n:Int}(ok:OkT T)(h:T.length<=63):LB (fT T n):=λk L c v=>by
 let(M,m):=b0C (T:=T.take n.toNat) (fun τ hτ=>ok τ (bx hτ)) k;let e:L=M:=a1I c m.can λt=>by rw[v,m.v];rfl
 rw[e]
 let:=m.len
 rw[aY]at this
 lia
def TabN.few{G:Hq}{d:Addr}{T:List Tl}{n:Int}{ts nms:List Str}{kvs:List (Key×Z)}(H:TabN G d (fT T n) ts kvs)(hn:nms.length=4)(hk:∀τ∈T,τ.key∈nms):ts.length<=4:=by
 rw[<- hn];show H.nd.length_le_of_subset λk q=>Classical.byContradiction λz=>?_;let(l,L,_,_,a3,_,a5,a6):=H.ln k q;show a5 (a1I a3 Can.nil λt=>?_);rw[a6];unfold fT;rw[a24 (k:=k) fun τ hτ e=>z (e▸hk τ hτ)]
 rfl
def b0F:P3:=λws G R=>∃(p:Addr)(T:List Tl),ws=[.ref p]/\G p=be (.lst (T.map Tl.z))/\OkT T/\T.length<=63/\∀(tb:Addr)(ds:List Addr)(G':Hq),G tb=gV->Sm G G'->G' tb=be (.lst (ds.map Z.ref))->ds.length=T.length+1->(∀(i:Nat) d,ds[i]?=be d->∃ts kvs,TabN G' d (fT T i) ts kvs)->R (.ref tb) G'
def b0G(T:Txt K mg base a):Cal P w K mg base CX0 3 "_law_tables" (lowP K b0F):=by
 show fnc 1 (N:=["tellings","tables","k","lines","key"]) T.br (T.f 36 _ rfl) ?_ (len:=λws G R h=>(by let(_,_,rfl,_):=h;rfl));walk_at "in";show(_,(a0c (z_st (nmI 1 nd) (b6T (q_k a3V a0J)))
  (a0c (a1H (pt:=(.nm 2)) g5.never rfl (by ac_rfl) (p_nm (nmI 2 nd))
  (a0c (z_st (nmI 3 nd) (q_Y b48 (T.b 12) (by ac_rfl)))
  (a0c (by ac_rfl)
  (a0c (a2H (by ac_rfl) (qv 3) (qv 4) (a61 hu))
  (a46 (z_if (a3a (o_eq hu) (q_ix c0a (qv 3) (qv 4) (λ_ _=>rfl)) (by ac_rfl) (a1U _))
  (a0z (a2F (q_bm PySem.F.plainAttrs_dict PySem.F.slot_dict_pop PySem.F.type_dict_pop b77 (qv 3) (q_k (qv 4) a0J))))
  a1Y)
  (by ac_rfl))))))
  (by ac_rfl))),?_)
 let(p,T',rfl,gp,ok,hl,fin):=h;lk;ext d0 hd0;lk;show(lenK rfl,λtb htb=>?_);let n0:d0≠tb:=a0g a0a htb;generalize ee2:put (put G d0 _) tb _=G2;let g0:G2 d0=be (.dK []):=by rw[<- ee2,put_ne n0,a0a]
 let gtb:G2 tb=be (.lst [.ref d0]):=by rw[<- ee2,a0a]
 let s2:Sm G G2:=by rw[<- ee2];show (Sm.new hd0).trans (Sm.new htb)
 let htb0:G tb=gV:=(Sm.new hd0).free htb;clear ee2 htb;lk;show a2I (s2 _ _ gp) ?_;lk;rw[aH];show(by lia,by lia,?_);rw[show (T'.length:Int).toNat=T'.length by lia];let T0:TabN G2 d0 (fT T' (0:Nat)) [] []:=(g0,rfl,.nil,(λk h=>by cases h),λk _=>(rfl,λt=>rfl));show a0H (λi σ G'=>Ex4 λ(ds:List Addr) (v1 v2 v3:Option Z)=>Sm G G'/\G' tb=be (.lst (ds.map Z.ref))/\ds.length=i+1/\(∀(j:Nat) d,ds[j]?=be d->∃ts kvs,TabN G' d (fT T' j) ts kvs)/\σ=[be (.ref p),be (.ref tb),v1,v2,v3])
  ([d0],_,_,_,s2,gtb,rfl,λj d hj=>by
   cases j with
   |zero=>cases hj;show(_,_,T0)
   |succ j=>simp at hj,rfl) (λ_ _ _ _ _=>True.intro) ?_ ?_
 .ext i x σ G3 hx ⟨ds,v1,v2,v3,s3,gt3,hds,htab,rfl⟩;let(hi,rfl):=a2n hx;show(_,rfl,?_);rw[eW];let eτ:T'[i]?=be T'[i]:=aP hi;generalize T'[i]=τ at eτ;let okτ:=ok τ (aZ eτ);obtain⟨di,hdi⟩:∃di,ds[i]?=be di:=(_,aP (by lia));let(ts,kvs,H):=htab i di hdi;let al:(ds.map Z.ref).getLast?=be (.ref di):=by rw[d9,eT,hds,dr,hdi];rfl
  let lk:kvs.length<=70:=by
   let h1:=congrArg bj H.ks;let h2:=H.nd.length_le_of_subset (l₂:=T'.map Tl.key) λk q=>Classical.byContradiction λz=>by
    let(l,L,_,_,a3,_,a5,a6):=H.ln k q;show a5 (a1I a3 Can.nil λt=>?_);rw[a6];unfold fT;rw[a24 (k:=k) fun τ hτ e=>z (aX.mpr (τ,hτ,e))]
    rfl
   simp at h1 h2
   lia
  lk;show a0y gt3 (a1k al) ?_;lk;show b49 (.inl H.at_) λD hD=>?_;let HD:TabN (put G3 D (.dK kvs)) D (fT T' i) ts kvs:=(a0a,H.ks,H.nd,λk hk=>let (l,L,a,b,c):=H.ln k hk;(l,L,a,a0b b hD,c),H.no);generalize ee4:put G3 D _=G4 at HD;let(_,s4):=newK ee4 hD;clear ee4;lk;show a0y (s4 _ _ (s3 _ _ gp)) (w:=τ.z) (a0E (by rw[aO,eτ];rfl)) ?_;let(ws,ez,ek):=@b0v τ;lk;rw[ez];show a0W ek ?_;lk;show(p,T',τ.key,(i:Int)+1,rfl,s4 _ _ (s3 _ _ gp),ok,okτ.k,hl,by lia,λt1 G5 ht1 s5 gt1=>?_);let plp:Plain (putsK (T'.take ((i:Int)+1).toNat) τ.key):=a2v fun τ h=>ok τ (bx h);let lpp:=a23 (T:=T') (k:=τ.key) (j:=((i:Int)+1).toNat);lk;show(t1,_,rfl,gt1,plp,by lia,λln rows G6 hln s6 gln cr pr1 _ vr=>?_);let nlD:ln≠D:=Ne.symm (a0g (HD.keep s5).at_ hln)
  replace HD:=HD.keep (s5.trans s6)
  let s36:=s4.trans (s5.trans s6);let ntD:tb≠D:=a0g gt3 hD;let gt6:=s36 _ _ gt3;let oth:=λ(k:Str) (n:k≠τ.key)=>b8J eτ n;let(us,ku,nu,mu):=b0E HD.ks τ.key (.ref ln) λk h=>(HD.no k h).1;let vkey:valZ (putZ kvs (.inr τ.key) (.ref ln)) (.inr τ.key)=be (.ref ln):=by rw[a0D,if_pos rfl]
  let vne:∀k,k≠τ.key->valZ (putZ kvs (.inr τ.key) (.ref ln)) (.inr k)=valZ kvs (.inr k):=λk n=>by rw[a0D,if_neg λz=>n (by injection z)]
  let close:∀(Gf:Hq)(us':List Str)(kv':List (Key×Z))(w1 w2 w3:Option Z),(∀b o,b≠tb->b≠D->G6 b=be o->Gf b=be o)->Gf tb=be (.lst ((ds++[D]).map Z.ref))->TabN Gf D (fT T' ((i:Int)+1)) us' kv' ->
    Ex4 λ(ds':List Addr) (v1 v2 v3:Option Z)=>Sm G Gf/\Gf tb=be (.lst (ds'.map Z.ref))/\ds'.length=i+1+1/\(∀(j:Nat) d,ds'[j]?=be d->∃ts kvs,TabN Gf d (fT T' j) ts kvs)/\([be (.ref p),be (.ref tb),w1,w2,w3]:S3)=[be (.ref p),be (.ref tb),v1,v2,v3]:=λGf us' kv' w1 w2 w3 k1 k2 k3=>by
   let k4:∀b o,b≠tb->G3 b=be o->Gf b=be o:=λb o nb e=>k1 b o nb (a0g e hD) (s36 _ _ e);show(ds++[D],_,_,_,λb o e=>k4 b o (a0g e htb0) (s3 _ _ e),k2,by simp;lia,λj d hj=>?_,rfl)
   by_cases c:j<ds.length
   .rw[cz c]at hj;let(ts,kvs,h):=htab j d hj;show(ts,kvs,h.up gt3 k4)
   .let e:j=i+1:=by
     let:=(aM.mp hj).1
     simp at this
     lia
    subst e;rw[cy (by lia),show i+1-ds.length=0 by lia]at hj;cases hj;show(us',kv',k3)
  lk;show a62 HD.at_ rfl (a0e (by lia)) ?_;generalize ee7:put G6 D _=G7;let g7:G7 D=be (.dK (putZ kvs (.inr τ.key) (.ref ln))):=by rw[<- ee7,a0a]
  let k7:∀b o,b≠D->G6 b=be o->G7 b=be o:=λb o nb e=>by rw[<- ee7,put_ne nb];show e
  clear ee7;lk;show a49 (fun σ' G'=>∃us' kv',σ'=[be (.ref p),be (.ref tb),be (.int i),be (.ref D),be (.str τ.key)]/\(∀b o,b≠D->G6 b=be o->G' b=be o)/\TabN G' D (fT T' ((i:Int)+1)) us' kv') ?_ ?_
  .lk;show c0b g7 rfl vkey ?_;lk;show(lenK rfl,λe8 he8=>?_);generalize ee8:put G7 e8 _=G8;let(g8,s8):=newK ee8 he8;lk;show b1o (s8 _ _ (k7 _ _ nlD gln)) g8 (a3o pr1.okR) rfl ?_;lk;show ifD (λc=>?_) λc=>?_
   .let er:rows=[]:=cY.mp c;subst er;let non:∀t,fT T' ((i:Int)+1) τ.key t=.non:=λt=>a4U (vr t).symm;lk;show a6f (s8 _ _ g7) ?_;lk;show b78 (s8 _ _ g7) rfl vkey ?_;let kf:∀b o,b≠D->G6 b=be o->put G8 D (.dK (a3l (putZ kvs (.inr τ.key) (.ref ln)) (.inr τ.key))) b=be o:=λb o n2 e=>by rw[put_ne n2];show s8 _ _ (k7 _ _ n2 e)
    show(us.filter λk=>decide (k≠τ.key),a3l (putZ kvs (.inr τ.key) (.ref ln)) (.inr τ.key),rfl,kf,a0a,?_,(nu HD.nd).sublist cE,λk hk=>?_,λk hk=>?_)
    .unfold a3l
     let:=congrArg (List.filter λx:Key=>decide (x≠.inr τ.key)) ku
     rw[e9,e9]at this;simp only[Function.comp_def]at this;o_head this
    .let(h1,h2):=bD.mp hk;let n:k≠τ.key:=↑h2
     let(l,L,a1,a2,a3):=HD.ln k (((mu k).mp h1).resolve_right n);show(l,L,by rw[a3w,if_neg λz=>n (by injection z),vne k n];show a1,kf _ _ (λz=>by rw[z,HD.at_]at a2;cases a2) a2,by rw[oth k n];show a3)
    .by_cases n:k=τ.key
     .subst n;show(by rw[a3w,if_pos rfl],non)
     .let:k∉ts:=λz=>hk (bD.mpr ((mu k).mpr (.inl z),↑n))
      show(by rw[a3w,if_neg λz=>n (by injection z),vne k n];show (HD.no k this).1,by rw[oth k n];show (HD.no k this).2)
   .let ne:rows≠[]:=λz=>c (by rw[z];rfl);lk;let kf:∀b o,b≠D->G6 b=be o->G8 b=be o:=λb o n2 e=>s8 _ _ (k7 _ _ n2 e);show(us,putZ kvs (.inr τ.key) (.ref ln),rfl,kf,s8 _ _ g7,ku,nu HD.nd,λk hk=>?_,λk hk=>?_)
    .by_cases n:k=τ.key
     .subst n;show(ln,rows,vkey,kf _ _ nlD gln,cr,pr1,ne,vr)
     .let(l,L,a1,a2,a3):=HD.ln k (((mu k).mp hk).resolve_right n);show(l,L,by rw[vne k n];show a1,kf _ _ (λz=>by rw[z,HD.at_]at a2;cases a2) a2,by rw[oth k n];show a3)
    .let n:k≠τ.key:=λz=>hk ((mu k).mpr (.inr z))
     let:k∉ts:=λz=>hk ((mu k).mpr (.inl z))
     show(by rw[vne k n];show (HD.no k this).1,by rw[oth k n];show (HD.no k this).2)
  .ext σ' G9 ⟨us',kv',rfl,k9,HN⟩;let gt9:=k9 _ _ ntD gt6;lk;show a0U gt9 ?_;lk;show a0s gt9 (by rw[aH];show a0e (by lia)) ?_;show close _ us' kv' _ _ _ (λb o n1 n2 e=>by rw[put_ne n1];show k9 _ _ n2 e) (by rw[a0a,aQ];rfl) (HN.up gt9 λb o nb e=>by rw[put_ne nb];show e)
 .ext σ G3 ⟨ds,v1,v2,v3,s3,gt3,hds,htab,rfl⟩;rw[a1a]at hds;lk;show fin tb ds G3 htb0 s3 gt3 hds htab
def b2H(a:Ad):P3:=λws G R=>∃(p:Addr)(T:List Tl),ws=[.ref p]/\G p=be (.lst (T.map Tl.z))/\OkT T/\T.length<=63/\∀(s:Addr)(S:Addr->Prop)(G':Hq),Sm G G'->(∀b,S b->G b=gV)->Sheet a G' s S T->R (.ref s) G'
def b2I(T:Txt K mg base a):Cal P w K mg base CX0 6 "_law_sheet" (lowP K (b2H a)):=by
 show fnc 1 (N:=["tellings","sheet","telling"]) T.br (T.f 34 _ rfl) ?_ (len:=λws G R h=>(by let(_,_,rfl,_):=h;rfl));walk_at "in";show(_,(a0c (z_st (nmI 1 nd) (c0k T.mk_Sheet (a2z T) hr T.mg_Sheet))
  (a0c (a1H (pt:=(.nm 2)) g5.never rfl (by ac_rfl) (p_nm (nmI 2 nd))
  (a0z (a2F (q_m (qv 1) T.cl_Sheet (a4R T) hr (q_k (qv 2) a0J) ))))
  (by ac_rfl))),?_)
 let(p,T',rfl,gp,ok,hl,fin):=h;lk;ext x dx hx;show(x,dx,rfl,a0a,λd G2 hd kp sh=>?_);show(rfl,_,rfl,?_);let s2:Sm G G2:=λb o e=>kp b o (a0b e hx) (a0g e hx);let hd0:G d=gV:=by
  cases e:G d with
  |none=>rfl
  |some o=>rw[a0b e hx]at hd;cases hd
 lk;show a1b (s2 _ _ gp) ?_;show a0H (λi σ G'=>∃(S:Addr->Prop)(v:Option Z),Sm G G'/\(∀b,S b->G b=gV)/\Sheet a G' x S (T'.take i)/\σ=[be (.ref p),be (.ref x),v]) (_,_,s2,(by ext b (rfl |rfl);show hx;show hd0),sh,rfl) (by ext i σ G' _ ⟨_,_,s,_⟩;show s _ _ gp) ?_ ?_
 .ext i z σ G3 hz ⟨S,v,s3,fr,sh3,rfl⟩;rw[aO]at hz;cases hz':T'[i]? with
  |none=>rw[hz']at hz;cases hz
  |some τ=>
  rw[hz']at hz;cases hz;let hi:=(aM.mp hz').1;let(dx3,n3,d3,ob):=b5I sh3;show(_,rfl,?_);lk;show(x,dx3,_,rfl,ob,a4O (by decide +kernel) (by decide +kernel),?_);lk;show(x,S,T'.take i,sh3,.inl (τ,rfl,ok τ (aZ hz'),by rw[aY];lia,λS' G4 i1 i2 kn sh4=>?_));lk;show(S',_,λb o e=>kn b o (λz=>by rw[fr b z]at e;cases e) (s3 _ _ e),λb hb=>(i2 b hb).elim (fr b) s3.free,by rw[take_snoc hz'];show sh4,rfl)
 .ext σ G3 ⟨S,v,s3,fr,sh3,rfl⟩;rw[aH,bK]at sh3;lk;show fin x S G3 s3 fr sh3
def a8l(a:Ad):P3:=λws G R=>Ex7 λ(d q:Addr) (B:List Cg) (ts:List Str) (kvs:List (Key×Z)) (f g:FZ)=>ws=[.ref d,.ref q]/\TabN G d g ts kvs/\ts.length<=4/\LB g/\G q=be (.lst (B.map Cg.z))/\CL f g B/\CB B/\FF f/\FF g/\B≠[]/\G a.tP=be lamO/\∀G',Sm G G'->R (.bl kP) G'
def a8m(T:Txt K mg base a):Cal P w K mg base CX0 6 "_law_refused" (lowP K (a8l a)):=by
 show fnc 2 (N:=["lines","some","refused"]) T.br (T.f 37 _ rfl) ?_ (len:=λws G R h=>(by let(_,_,_,_,_,_,_,rfl,_):=h;rfl));walk_at "in";show(_,(a0c (by ac_rfl)
  (a0c (z_t0 (a08 T) hr (q_k (qv 0) (q_k (qv 1) a0J)) T.x_NoFit T.xm_NoFit_NoFit (λex oe hx1 hx2 hx3=>(by ac_rfl)))
  (by ac_rfl))),?_)
 let(d,q,B',ts,kvs,f',g',rfl,H1,l1,lbg,gq,cb,bb,ff,fg,ne,gT,fin):=h;lk;show(d,q,B',ts,kvs,g',f',g',rfl,H1,l1,lbg,gq,cb,bb,fg,ff,fg,gT,.inr (rfl,ne,λG1 s1=>(rfl,?_)));lk;show fin _ s1
def b2J(a:Ad):P3:=λws G R=>Ex8 λ(s tb:Addr) (S:Addr->Prop) (T:List Tl) (nms:List Str) (ds:List Addr) (n m:Int)=>ws=[.ref s,.ref tb,.int n,.int m]/\Sheet a G s S T/\OkT T/\T.length<=63/\nms.length=4/\(∀τ∈T,τ.key∈nms)/\G tb=be (.lst (ds.map Z.ref))/\ds.length=T.length+1/\(∀(i:Nat) d,ds[i]?=be d->∃ts kvs,TabN G d (fT T i) ts kvs)/\inR T n/\inR T m/\G a.tP=be lamO/\∀G',Sm G G'->R (.bl kP) G'
def b2K(T:Txt K mg base a):Cal P w K mg base CX0 7 "_law_there" (lowP K (b2J a)):=by
 show fnc 4 (N:=["sheet","tables","knowing","later","some"]) T.br (T.f 38 _ rfl) ?_ (len:=λws G R h=>(by let(_,_,_,_,_,_,_,_,rfl,_):=h;rfl));walk_at "in";show(_,(a0c (by ac_rfl)
  (a0c (z_if (a3a (a7e hu) (q_cX a3j up0 (a08 T) hr (by ac_rfl) ) (by ac_rfl) (a1U _))
  (by ac_rfl)
  a1Y)
  (a0c (z_if (a3a (a7e hu) (q_cX a3j up0 (a08 T) hr (by ac_rfl) ) (by ac_rfl) (a1U _))
  (by ac_rfl)
  a1Y)
  (by ac_rfl)))),?_)
 let(s',tb,S,T',nms,ds,n,m,rfl,sh,ok,hl,hn,hk,gtb,hds,htab,rn,rm,gT,fin):=h;let few:Few T':=(by lia,nms,by lia,hk);let okk:∀q:Int,OkT (T'.take q.toNat):=λq τ h=>ok τ (bx h);let F:=λq=>b2A (T:=T') (n:=q) ok;let LL:=λq=>b8K (T:=T') (n:=q) ok hl;let at':∀q:Int,inR T' q->∃d ts kvs,atI (ds.map Z.ref) q=be (.ref d)/\TabN G d (fT T' q) ts kvs:=λq r=>by
  let(j,rfl):=cM r.1;let r2:=r.2;let hj:j<ds.length:=by lia
  let(ts,kvs,H):=htab j _ (aP hj);show(_,ts,kvs,a0E (by rw[aO,aP hj];rfl),H)
 let(dn,tsn,kvn,an,Hn):=at' n rn;let(dm,tsm,kvm,am,Hm):=at' m rm;lk;show(s',S,T',nms,n,m,rfl,sh,ok,hl,hn,hk,rn,rm,λp1 A1 G1 hp1 s1 gp1 c1=>?_);let b1:=b8G c1 hl hn hk;let o1:=c1.okC (F _) (F _);lk;show(s',S,T',n,rfl,sh.keep (Sm.ks s1),ok,few,rn,λd1 ts1 kv1 G2 hd1 s2 H1 _=>?_);let s12:=s1.trans s2;lk;show(d1,p1,A1,ts1,kv1,fT T' n,fT T' n,fT T' m,rfl,H1.n (okk _),H1.few hn fun τ h=>hk τ (bx h),LL _,s2 _ _ gp1,c1,b1,F _,F _,F _,s12 _ _ gT,.inl (rfl,λW us kv G3 hW s3 HN=>?_));let s13:=s12.trans s3;lk;show a0y (s13 _ _ gtb) am ?_;show(HN.same (Hm.keep s13),?_);lk;show(s',S,T',m,rfl,sh.keep (Sm.ks s13),ok,few,rm,λd2 ts2 kv2 G4 hd2 s4 H2 _=>?_);let s14:=s13.trans s4;lk;show(p1,A1,rfl,s4 _ _ (s3 _ _ (s2 _ _ gp1)),λc hc=>(o1 c hc).1,by let:=b1.all;lia,λtu htu=>?_);generalize ee5:put G4 tu _=G5;let(gtu,s5):=newK ee5 htu;let s15:=s14.trans s5;lk;show(d2,tu,turn A1,ts2,kv2,fT T' m,fT T' m,fT T' n,rfl,(H2.n (okk _)).keep s5,H2.few hn fun τ h=>hk τ (bx h),LL _,gtu,c1.turn,b1.turn,F _,F _,F _,s15 _ _ gT,.inl (rfl,λW2 us2 kv3 G6 hW2 s6 HN2=>?_));let s16:=s15.trans s6;lk;show a0y (s16 _ _ gtb) an ?_;show(HN2.same (Hn.keep s16),?_);lk;show(lenK rfl,λe7 he7=>?_);generalize ee7:put G6 e7 _=G7;let(ge7,s7):=newK ee7 he7;let s17:=s16.trans s7;let gp17:G7 p1=be (.lst (A1.map Cg.z)):=s7 _ _ (s6 _ _ (s5 _ _ (s4 _ _ (s3 _ _ (s2 _ _ gp1)))));lk;show b1o gp17 ge7 o1.fl8 rfl ?_
 by_cases c:A1=[]
 .rw[decide_eq_true (show A1.map Cg.z=[] by rw[c];rfl)];lk
  change if kP=kP then _ else _
  show ifT ?_;show fin _ s17
 .rw[decide_eq_false (show ¬ A1.map Cg.z=[] from λz=>c (cY.mp z))];lk
  change if kQ=kP then _ else _
  show ifF ?_;lk;show a0y (s17 _ _ gtb) am ?_;lk;show(dm,p1,A1,tsm,kvm,fT T' n,fT T' m,rfl,Hm.keep s17,Hm.few hn hk,LL _,gp17,c1,b1,F _,F _,c,s17 _ _ gT,λG8 s8=>fin _ (s17.trans s8))
structure RI (G2 G':Hq) (RS:List Addr):Prop where
 kp:∀b o,b∉RS->G2 b=be o->G' b=be o
 row:∀r∈RS,RowAt G' r
def RI.draw(h:RI G2 G' RS)(hr:r∈RS)(k:Kq r G' G'')(R:RowAt G'' r):RI G2 G'' RS:=(λb o n e=>k _ _ (h.kp b o n e) λz=>n (z▸hr),λx a=>by
 by_cases c:x=r
 .simp_all
 .show (h.row x a).kq k c)
noncomputable def RI.put(h:RI G2 G' RS)(n:G2 D=gV)(nD:D∉RS):RI G2 (put G' D o) RS:=(λb u c e=>by rw[put_ne (a0g e n)];show h.kp b u c e,λx a=>(h.row x a).kq Kq.at λz=>nD (z▸a))
def RI.up{G2 G' G'':Hq}{RS:List Addr}(h:RI G2 G' RS)(s:Sm G' G''):RI G2 G'' RS:=(λb o n e=>s _ _ (h.kp b o n e),λx hx=>let (a,b,e,o):=h.row x hx;(a,b,s _ _ e,o))
def TabN.kq{G G':Hq}{d r:Addr}{u:FZ}{ts:List Str}{kvs:List (Key×Z)}(H:TabN G d u ts kvs)(R:RowAt G r)(k:Kq r G G'):TabN G' d u ts kvs:=by
 let(x,w,e,_):=R;show(k _ _ H.at_ λz=>(by let:=H.at_;rw[z,e]at this;cases this),H.ks,H.nd,λy hy=>?_,H.no);let(l,L,a,b,c,p,n,v):=H.ln y hy;show(l,L,a,k _ _ b λz=>?_,c,p,n,v);rw[z,e]at b;let b:[Z.int x,Z.int w]=L.map Rw.z:=↑b
 cases L with
 |nil=>show n rfl
 |cons r L=>
  let:=(bE.inj b).1
  cases this
def TabN.ri{G G':Hq}{d:Addr}{u:FZ}{ts:List Str}{kvs:List (Key×Z)}{RS:List Addr}(H:TabN G d u ts kvs)(I0:RI G G RS)(I:RI G G' RS):TabN G' d u ts kvs:=by
 let nr:∀b o,G b=be o->(∀x w,o≠RowO x w)->b∉RS:=λb o e n z=>by
  let(x,w,e',_):=I0.row b z;rw[e]at e';show n x w (be.inj e')
 show(I.kp _ _ (nr _ _ H.at_ λx w z=>by cases z) H.at_,H.ks,H.nd,λy hy=>?_,H.no);let(l,L,a,b,c,p,n,v):=H.ln y hy;show(l,L,a,I.kp _ _ (nr _ _ b λx w z=>?_) b,c,p,n,v);let z:L.map Rw.z=[Z.int x,Z.int w]:=↑z
 cases L with
 |nil=>show n rfl
 |cons r L=>
  let:=(bE.inj z).1
  cases this
def b8L(T:Txt K mg base a){f:Addr}{d:hZ}(J:Fun K "law" "law" (top 55) f d):FnOk P w K mg base CX0 8 f d ["script"] (lowP K (a5s a.tP)):=by
 show fnd (n:=1) (N:=["script","tellings","rows","sheet","tables","lines","k","some"]) J ?_ (rfl,rfl,rfl,by decide +kernel,rfl,by decide +kernel,by decide +kernel) λws G R h=>by let(_,_,rfl,_):=h;rfl
 walk_at "in";show(_,(a0c (by ac_rfl)
  (a0c (by ac_rfl)
  (a0c (by ac_rfl)
  (a0c (z_st (nmI 5 nd) a3V)
  (a0c (a1H (pt:=(.nm 6)) g5.never rfl (by ac_rfl) (p_nm (nmI 6 nd))
  (a0c (by ac_rfl)
  (a0c (z_if (a3a (o_ne hu) (q_l ["row","tellings","k"] [gV,be 1,be 6] (.nm 0)) (by ac_rfl) (a1U _))
  (by ac_rfl)
  a1Y)
  (a0c (z_st (nmI 5 nd) (q_cX a3j up0 (a08 T) hr (q_k (qv 5) (q_k (qv 7) a0J)) ))
  (a0c (z_if (QW.qt (q_or (a3a (a7e hu) (qv 5) (by ac_rfl) (a1U _)) (b6M (a3a (a7e hu) (by ac_rfl) (by ac_rfl) (a1U _)))))
  (by ac_rfl)
  a1Y)
  (by ac_rfl))))))
  (a0z (a1Z (b2R (b3U (b3e hu) (qv 5) (by ac_rfl) (a1U _)) (b6P (b3U (b3e hu) (by ac_rfl) (by ac_rfl) (a1U _))))))))))),?_)
 let(a',ns,rfl,hl,gT,q):=h;lk;show(a',ns,rfl,hl,λt u T' rs nms G1 s1 gt gu okT lT lrs ln kT hr=>?_);show(_,rfl,?_);let nT:a.tP∉rs:=λz=>by let:=(hr _ z).2.2.2;rw[gT]at this;cases this
 replace gT:=s1 _ _ gT
 lk;show(t,T',rfl,gt,okT,lT,λsh S G2 s2 fr SH=>?_);let rr:∀r∈rs,RowAt G2 r/\r≠t/\r≠u/\¬ S r:=λr h=>by
  let((x,w,e,o),b,c,_):=hr r h;show((x,w,s2 _ _ e,o),b,c,λz=>by rw[fr r z]at e;cases e)
 lk;show(t,T',rfl,s2 _ _ gt,okT,lT,λtb ds G3 htb s3 gtb hds htab=>?_);lk;ext W hW;show(_,rfl,?_);generalize ee4:put G3 W _=G4;let(gW,s4):=newK ee4 hW;let s24:=s3.trans s4
 replace gT:=s24 _ _ (s2 _ _ gT)
 replace gt:=s24 _ _ (s2 _ _ gt)
 replace gu:=s24 _ _ (s2 _ _ gu)
 replace gtb:=s4 _ _ gtb
 replace SH:=SH.keep (Sm.ks s24)
 let htab:∀(i:Nat) d,ds[i]?=be d->∃ts kvs,TabN G4 d (fT T' i) ts kvs:=λi d h=>let (ts,kvs,H):=htab i d h;(ts,kvs,H.keep s4)
 let I0:RI G4 G4 rs:=(λ_ _ _ e=>e,λr h=>let (x,w,e,o):=(rr r h).1;(x,w,s24 _ _ e,o));let nt:t∉rs:=λz=>(rr t z).2.1 rfl;let nu:u∉rs:=λz=>(rr u z).2.2.1 rfl;let ntb:tb∉rs:=λz=>by let(_,_,e,_):=(rr _ z).1;rw[e]at htb;cases htb
 let nS:∀b,S b->b∉rs:=λb hb z=>(rr b z).2.2.2 hb;let W0:TabN G4 W (fT T' (0:Nat)) [] []:=(gW,rfl,.nil,(λk h=>by cases h),λk _=>(rfl,λt=>rfl));clear s24 s3 s4 s2 s1 fr hr rr ee4 hW htb;let few:Few T':=(by lia,nms,by lia,kT);let okk:∀q:Int,OkT (T'.take q.toNat):=λq τ h=>okT τ (bx h);let F:=λq=>b2A (T:=T') (n:=q) okT;let LL:=λq=>b8K (T:=T') (n:=q) okT lT;let at':∀j:Nat,j<=T'.length->∃d ts kvs,ds[j]?=be d/\atI (ds.map Z.ref) (j:Int)=be (.ref d)/\TabN G4 d (fT T' j) ts kvs:=λj h=>by
  let hj:j<ds.length:=by lia
  let(ts,kvs,H):=htab j _ (aP hj);show(_,ts,kvs,aP hj,a0E (by rw[aO,aP hj];rfl),H)
 lk;show a2I gt ?_;lk;rw[aH];show(by lia,by lia,?_);rw[show (T'.length:Int).toNat=T'.length by lia];show a0H (λi σ G'=>Ex5 λ(wa:Addr) (us:List Str) (kv:List (Key×Z)) (v1 v2:Option Z)=>RI G4 G' rs/\TabN G' wa (fT T' i) us kv/\σ=[be (.scr a' ns),be (.ref t),be (.ref u),be (.ref sh),be (.ref tb),be (.ref wa),v1,v2]) (W,[],[],_,_,I0,W0,rfl) (λ_ _ _ _ _=>True.intro) ?_ ?_
 .ext i x σ G5 hx ⟨wa,us,kv,v1,v2,I,HW,rfl⟩;let(hi,rfl):=a2n hx;show(_,rfl,?_);rw[eW];let eτ:T'[i]?=be T'[i]:=aP hi;generalize T'[i]=τ at eτ;let okτ:=okT τ (aZ eτ);obtain⟨r,er⟩:∃r,rs[i]?=be r:=(_,aP (by lia));let mr:=aZ er;let(d0,ts0,kv0,_,a0,H0):=at' i (by lia);let(d1,ts1,kv1,_,a1,H1):=at' (i+1) (by lia);let ri0:inR T' (i:Int):=(by lia,by lia);let ri1:inR T' ((i:Int)+1):=(by lia,by lia);let H1:TabN G4 d1 (fT T' ((i:Int)+1)) ts1 kv1:=H1;let a1:atI (ds.map Z.ref) ((i:Int)+1)=be (.ref d1):=a1;let SH5:=SH.keep (G':=G5) λb o hb e=>I.kp b o (nS b hb) e;lk;show(sh,S,T',nms,(i:Int),(i:Int)+1,rfl,SH5,okT,lT,ln,kT,ri0,ri1,λp1 A1 G6 hp1 s6 gp1 c1=>?_);let b1:=b8G c1 lT ln kT;let o1:=c1.okC (F _) (F _);let key1:∀c∈A1,c.k=τ.key:=λc hc=>Classical.byContradiction λz=>by
   let hr:c.r∈a0m A1 c.k:=aX.mpr (c,bD.mpr (hc,by simp),rfl);let(_,n):=a5J (c1.rows c.k).1 (c1.rows c.k).2 hr;show n (by rw[b8J eτ z])
  replace I:=I.up s6
  replace HW:=HW.keep s6
  replace SH5:=SH5.keep (Sm.ks s6)
  lk;show a1b gp1 ?_;ext D hD;show a1z (g':=Cg.z) (λ_=>gV) (λys=>a0b gp1 hD) (by let:=b1.all;lia) ?_ ?_
  .ext c hc ys K1 K2 k1 k2;show(_,rfl,?_);let gt7:put G6 D (.lst ys) t=be (.lst (T'.map Tl.z)):=a0b (I.kp _ _ nt gt) hD;let(ws,ez,ek):=@b0v τ;lk;show a0W (w:=.str c.k) at0 ?_;lk;show a0y gt7 (w:=τ.z) (a0E (by rw[aO,eτ];rfl)) ?_;lk;rw[ez];show a0W ek ?_;lk;show ifN (λn=>absurd (key1 c hc) n) λ_=>?_;show k2 rfl
  rw[show (A1.filterMap λ_=>(gV:Option Cg))=[] from by induction A1<;>simp_all]
  generalize ee7:put G6 D _=G7;let(gD,s7):=newK ee7 hD
  replace I:=I.up s7
  replace HW:=HW.keep s7
  replace SH5:=SH5.keep (Sm.ks s7)
  replace gp1:=s7 _ _ gp1
  lk;show(lenK rfl,λe8 he8=>?_);generalize ee8:put G7 e8 _=G8;let(g8,s8):=newK ee8 he8
  replace I:=I.up s8
  replace HW:=HW.keep s8
  replace SH5:=SH5.keep (Sm.ks s8)
  replace gp1:=s8 _ _ gp1
  lk;show b1o (s8 _ _ gD) g8 rfl rfl ?_;rw[decide_eq_true (show ([]:List Cg).map Cg.z=[] from rfl)];lk;show(wa,p1,A1,us,kv,fT T' i,fT T' i,fT T' ((i:Int)+1),rfl,HW,HW.few ln kT,LL _,gp1,c1,b1,F _,F _,F _,I.kp _ _ nT gT,.inl (rfl,λwb us2 kv2 G9 hwb s9 HB=>?_))
  replace I:=I.up s9
  replace SH5:=SH5.keep (Sm.ks s9)
  lk;show a0y (I.kp _ _ ntb gtb) a1 ?_;show(HB.same (H1.ri I0 I),?_);lk;show(sh,S,T',(i:Int),rfl,SH5,okT,few,ri0,λd2 ts2 kv3 G10 hd2 s10 H2 _=>?_)
  replace I:=I.up s10
  replace SH5:=SH5.keep (Sm.ks s10)
  replace HB:=HB.keep s10
  lk;show a0y (I.kp _ _ ntb gtb) a0 ?_;show((H2.n (okk _)).same (H0.ri I0 I),?_);lk;show a0y (I.kp _ _ nu gu) (w:=.ref r) (a0E (by rw[aO,er];rfl)) ?_;lk;show a2I (I.kp _ _ ntb gtb) ?_;rw[aH];lk;show a1l (I.row r mr) (by lia) (by lia) λf y w f0 f1 ok1=>?_
  replace HB:=HB.kq (I.row r mr) Kq.at (G':=put G10 r (RowO y w))
  replace SH5:=SH5.keep (G':=put G10 r (RowO y w)) λb o hb e=>by rw[put_ne λz:b=r=>nS b hb (z▸mr)];show e
  replace I:=I.draw mr Kq.at (RowAt.at ok1)
  generalize put G10 r _=G11 at I HB SH5 ⊢;lk;show(sh,tb,S,T',nms,ds,(i:Int),f,rfl,SH5,okT,lT,ln,kT,I.kp _ _ ntb gtb,hds,λj d h=>let (ts,kvs,H):=htab j d h;(ts,kvs,H.ri I0 I),ri0,(f0,by lia),I.kp _ _ nT gT,λG12 s12=>?_);lk;show(wb,us2,kv2,_,_,I.up s12,HB.keep s12,rfl)
 .ext σ G5 ⟨wa,us,kv,v1,v2,I,HW,rfl⟩;rw[a1a]at HW;let SH5:=SH.keep (G':=G5) λb o hb e=>I.kp b o (nS b hb) e;let(d1,ts1,kv1,e1,_,H1):=at' T'.length (aI _);let al:(ds.map Z.ref).getLast?=be (.ref d1):=by rw[d9,eT,hds,dr,e1];rfl
  lk;show a0y (I.kp _ _ ntb gtb) (a1k al) ?_;show(HW.same (H1.ri I0 I),?_);lk;show a2I (I.kp _ _ nt gt) ?_;rw[aH];lk;show(sh,S,T',(T'.length:Int),rfl,SH5,okT,few,(by lia,by lia),λd2 ts2 kv3 G10 hd2 s10 H2 _=>?_)
  replace I:=I.up s10
  lk;show a0y (I.kp _ _ ntb gtb) (a1k al) ?_;show((H2.n (okk _)).same (H1.ri I0 I),?_);show q _
def all_mk{l:PySem.W.OpenLaw}{w:World}{K:Fg}{h:Heap}{mg:Str->Option Value}{fa:Addr}(X:K.In h)(G:h.Ns gZ mg)(hfa:mg "law"=be (.ref fa))
  {ab aa:Addr}
  {ak tP:Addr}
  {ac ad:Tok}
  (al:PySem.W.nsIn K gZ "Sheet"=be (be (.ref ab)))
  (am:PySem.W.nsIn K gZ "NoFit"=be (be (.ref aa)))
  (ae:PySem.W.nsIn K gZ "LONGEST_NAME"=be (be (.int 8 ac)))
  (aj:PySem.W.nsIn K gZ "LAST_MOMENT"=be (be (.int 1000000000000 ad)))
  (ao:PySem.W.plainGet K ab Str.empty=kP)
  (ap:PySem.W.hasDictIn K ab=kP)
  (aq:PySem.W.plainOver K ab=kP)
  (ar:PySem.W.findIn K (.ref ab) "__setattr__"=be (be (.builtin "object.__setattr__")))
  (au:PySem.W.makesIn K ab=kP)
  (av:PySem.W.keepIn K (.ref ab)=kP)
  (aw:PySem.W.excIn K aa veM "ValueError.__new__"=kP)
  (af:PySem.W.subIn K (.ref aa) (.type "BaseException")=be kP)
  (ag:PySem.W.typeIn K (.ref aa)=be (.type "type"))
  (ah:PySem.W.subIn K (.ref aa) (.ref aa)=be kP)
  (ai:PySem.W.hasDictIn K aa=kP)
  (ax:PySem.W.hasDictIn K aa=kP)
  (ay:PySem.W.findIn K (.ref aa) "__getattribute__"=be (be (.builtin "BaseException.__getattribute__")))
  (az:PySem.W.findIn K (.ref aa) "__getattr__"=be gV)
  (aA:PySem.W.findIn K (.ref aa) "__class__"=be (be (.builtin "object.__class__")))
  (aB:PySem.W.specialIn K (.builtin "object.__class__") "__get__"=be (be (.builtin "getset_descriptor.__get__")))
  (aC:PySem.W.takesIn K (.builtin "object.__class__")=be kP)
  (aD:PySem.W.mroIn K aa (.type "object")=be kP)
  (aE:PySem.W.mroIn K aa (.type "BaseException")=be kP)
  (lf:PySem.W.nsIn K gZ "pairs_by_key"=be (be (.ref ak)))
  (ll:a95 K ak tP=kP)
  (gP:gZ≠tP)
  (F:AllF K top tF)
  (B:AllB K tB)
  (aF:AllM K top ab a7g)
  (aG:AllN K ab a7h) :
  ∃(fd:hZ)(c0:Addr),PySem.W.codeHdIn K c0 tP=kP/\(∀(s:Shared)(v:Value),i7 s fd ([v],[]) [("script",v,)])/\∀base:Heap,K.In base->base.Ns gZ mg->base.BuiltinsAt mg tP->FnOk l.prog w K mg base CX0 8 fa fd ["script"] (lowP K (a5s tP)):=by
 let br:=c0j X G;let(f,d,e,J):=F 39 _ rfl;let e:=hfa.symm.trans (br _ _ e);cases e
 letI a:Ad:=(ab,aa,tP)
 let hb:=λP base (bi:base.BuiltinsAt mg tP)=>b8L (P:=P) (w:=w) (base:=base) (a:=a) (br,F,B,gP,bi,(ak,lf,ll),br _ _ al,(ao,ap,aq,ar),aF,aG,(au,av),br _ _ am,aw,b7Y af ag ah ai,b7X ax ay az aA aB aC aD aE,(ac,br _ _ ae),(ad,br _ _ aj)) J;let(fl,dl,el,Jl):=F 17 _ rfl;cases (show be (be (Value.ref fl))=be (be (Value.ref ak)) from el.symm.trans lf);let(c0,_,hc0):=a7f Jl ll;let(oc,od,kV,doc,pm,an,cdv,ct,osl,rfl,lk,hcd):=J.ex;show(_,c0,hc0,λs v=>.of_eq rfl,λbase _ _ bi=>hb l.prog base bi)
def walk{l:PySem.W.OpenLaw}{q:gM}{loose:List Str}{XP:(Str->Option Value)->Heap->Prop}{YP:World->Heap->Prop}{d:DefRec}{K:Params->Fg}{P0:Addr}(hn:l.most=be 63)(hdf:d.params.defaults=[])
  (hY:∀(w:World)(h:Heap),YP w h->(K w.params).In h/\h.get? P0=be (PySem.W.tabObj #[])) (hK0:∀w:World,(K w.params).lookup P0=gV)
  (F:∀(w:World)(mg:Str->Option Value)(fa:Addr)(h:Heap),(K w.params).In h->h.Ns gZ mg->mg d.name=be (.ref fa) ->
   ∃(fd:hZ)(c0:Addr),PySem.W.codeHdIn (K w.params) c0 P0=kP/\(∀(s:Shared)(u:Value),i7 s fd ([u],[]) [("script",u,)])/\∀base:Heap,(K w.params).In base->base.Ns gZ mg->base.BuiltinsAt mg P0->FnOk l.prog w (K w.params) mg base CX0 8 fa fd ["script"] (lowP (K w.params) (a5s P0))) :
  PySem.W.WalkO q loose XP YP l.row.toRowW d [] (λf vs=>PySem.call f vs):=
 L2.walk_ofT (n:=63) (k:=8) (x:="script") (CX:=λ_=>CX0) (sp:=λw=>lowP (K w.params) (a5s P0)) hn (by decide) hdf (rfl,by decide,by decide) hY hK0 F (λ_ _ a ns hl hO hS=>a79 a ns (Fz.ofT hO hS) hO.1 (b2b hl)) λ_ _ _ _ _ z=>z
end Lw
end
open PySem PySem.W PyProof.Rows
set_option maxRecDepth 100000 in
set_option maxHeartbeats 0 in
theorem PySem.Challenge.cw_twotimes_k64_whole_there_and_back_holds : PySem.Challenge.rw_twotimes_k64_whole_there_and_back.Holds := by
 w_on;o_law;k_head;(case hw=>w_witness2)
 k_fill
 refine Lw.walk (l:=PySem.Challenge.rw_twotimes_k64_whole_there_and_back) rfl rfl (fun w h Y=>⟨PySem.W.km_in_of Y,PySem.W.km_tabs_of Y _ (.head _)⟩) (fun w=>by kernel_rfl) ?F
 case F=>
  intro w mg fa h KX G hmg;refine' Lw.all_mk KX G hmg ?aa ?ab ?ac ?ad ?ae ?af ?ag ?ah ?ai ?aj ?ak ?al ?am ?an ?ao ?ap ?aq ?ar ?au ?av ?aw ?ax ?ay ?az ?aA ?aB ?F ?aC ?aD ?aE
  all_goals try k_is
  (case ak=>k_exc)
  all_goals try k_is
  (case aA=>kernel_rfl)
  (case aB=>decide)
  all_goals (repeat first |exact L2.af0 |exact L2.am0 |exact L2.ab0 |exact L2.an0 | (first |refine' L2.af1 ?_ ?_ ?_ ?_ ?_ |refine' L2.am1 ?_ ?_ ?_ ?_ ?_ ?_ |refine' L2.ab1 ?_ ?_ |refine' L2.an1 ?_ ?_)<;>try k_is)
